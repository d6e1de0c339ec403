import PyProof.Rows.All
import Wide.All
import OpenK.AllK
import Wide.FinOn
import Lean
import PyProof.EqAt
import PyProof.EqKinds
import PyProof.TupleCall
import KE.KTryMore
import PyProof.RaisesMany
import PyProof.RulesAs
import PyProof.ExcBaseAll.ValueError
import PyProof.NsDelKeeps
import KE.KIsNot
import PyProof.ExcArgs
import KE.RegKIsAll
import KE.RegKTryMore
import KE.KSortTup
import KE.KDictList
import PyProof.DictRoadsH
import PyProof.FactsAll.NoneType_1
import KE.KLam
import PyProof.SetRoads
import PyProof.CollectWalk
import PyProof.Walks
import PyProof.Rows.SortShell
import KE.KDictSum
import PyProof.Rows.SortWalk
import KE.KSortAsk
import PyProof.TupleOfSeq
import PySem.Challenge.RW_peakroll_k65_locks_refused
set_option Elab.async false
set_option linter.all false
set_option maxRecDepth 100000
/-! THE HAND LAYER, for ints, bools, texts, own classes, LISTS and tuples (index, slices, in, append, pop ..), calls, loops. Paste it whole ahead of your own text; what your proof does not reach may be deleted. -/
namespace L2
open PySem PySem.Spec PyProof.Rows

/-- a key: an int or a str -/
abbrev Key := Sum Int Str
def keyIs : Key → Value → Bool
  | .inl k, v => Value.isInt k v
  | .inr x, v => Value.isStrOf x v
def keyH (w : World) : Key → Int
  | .inl k => hashInt k
  | .inr x => hashStr w x
theorem keyIs_shape : ∀ {k : Key} {v : Value}, keyIs k v = true → (∃ i t, k = Sum.inl i ∧ v = Value.int i t) ∨ (∃ x t, k = Sum.inr x ∧ v = Value.str x t)
  | .inl i, v, h => by
    obtain ⟨t, e⟩ := Value.isInt_shape (k := i) (v := v) h
    exact .inl ⟨i, t, rfl, e⟩
  | .inr x, v, h => by
    obtain ⟨t, e⟩ := Value.isStrOf_shape (x := x) (v := v) h
    exact .inr ⟨x, t, rfl, e⟩
theorem keyIs_int (i : Int) (t : Tok) : keyIs (.inl i) (.int i t) = true := by simp [keyIs, Value.isInt]
theorem keyIs_str (x : Str) (t : Tok) : keyIs (.inr x) (.str x t) = true := by simp [keyIs, Value.isStrOf]
theorem key_ll (a b : Int) : decide ((Sum.inl a : Key) = Sum.inl b) = (a == b) := by
  by_cases e : a = b
  · subst e; simp
  · have h : ¬ (Sum.inl a : Key) = Sum.inl b := fun q => e (Sum.inl.inj q)
    rw [decide_eq_false h]
    exact (beq_eq_false_iff_ne.mpr e).symm
theorem key_rr (a b : Str) : decide ((Sum.inr a : Key) = Sum.inr b) = decide (a = b) := by
  by_cases e : a = b
  · subst e; simp
  · have h : ¬ (Sum.inr a : Key) = Sum.inr b := fun q => e (Sum.inr.inj q)
    rw [decide_eq_false h, decide_eq_false e]
theorem key_lr (a : Int) (b : Str) : decide ((Sum.inl a : Key) = Sum.inr b) = false := decide_eq_false (fun q => nomatch q)
theorem key_rl (a : Str) (b : Int) : decide ((Sum.inr a : Key) = Sum.inl b) = false := decide_eq_false (fun q => nomatch q)

def mixKind (prog : Program) (w : World) : PySem.KeyKind prog w Key where
  is := keyIs
  hash := keyH w
  inj := fun v a b ha hb => by
    rcases keyIs_shape ha with ⟨i, t, rfl, rfl⟩ | ⟨x, t, rfl, rfl⟩
    · rcases keyIs_shape hb with ⟨j, u, rfl, e⟩ | ⟨y, u, rfl, e⟩
      · injection e with e1 _; rw [e1]
      · exact nomatch e
    · rcases keyIs_shape hb with ⟨j, u, rfl, e⟩ | ⟨y, u, rfl, e⟩
      · exact nomatch e
      · injection e with e1 _; rw [e1]
  byValue := fun k v h => by
    rcases keyIs_shape h with ⟨i, t, rfl, rfl⟩ | ⟨x, t, rfl, rfl⟩ <;> rfl
  pyHash := fun hv h => by
    rcases keyIs_shape hv with ⟨i, t, rfl, rfl⟩ | ⟨x, t, rfl, rfl⟩
    · exact wpAny_pyHash_int h
    · exact wpAny_pyHash_str h
  eqBool := fun hu hv h => by
    rcases keyIs_shape hu with ⟨i, t, rfl, rfl⟩ | ⟨x, t, rfl, rfl⟩
    · rcases keyIs_shape hv with ⟨j, u, rfl, rfl⟩ | ⟨y, u, rfl, rfl⟩
      · rw [key_ll] at h; exact wpAny_eqBool_int h
      · rw [key_lr] at h; exact SeqAt.EqAt.int_str i t y u _ _ _ _ h
    · rcases keyIs_shape hv with ⟨j, u, rfl, rfl⟩ | ⟨y, u, rfl, rfl⟩
      · rw [key_rl] at h; exact SeqAt.EqAt.str_int x t j u _ _ _ _ h
      · rw [key_rr] at h; exact wpAny_eqBool_str h
  «strs» := fun k x t v h => by
    rcases keyIs_shape h with ⟨i, u, rfl, e⟩ | ⟨y, u, rfl, e⟩
    · exact nomatch e
    · injection e with e1 _
      subst e1
      cases v <;> rfl

theorem mixKind_int (prog : Program) (w : World) (i : Int) (t : Tok) : (mixKind prog w).is (.inl i) (.int i t) = true := keyIs_int i t
theorem mixKind_str (prog : Program) (w : World) (x : Str) (t : Tok) : (mixKind prog w).is (.inr x) (.str x t) = true := keyIs_str x t
end L2

namespace L2
open PySem PySem.Spec PyProof.Rows

/-- a value, without the heap -/
inductive V where
  | non | bl (b : Bool) | int (i : Int) | str (x : Str) | byt (b : Array UInt8) | flt (b : UInt64) | ref (a : Addr) | ty (n : String)
  deriving DecidableEq

def RelV : V → Value → Prop
  | .non, u => u = Value.none
  | .bl b, u => u = Value.bool b
  | .int i, u => ∃ t, u = Value.int i t
  | .str x, u => ∃ t, u = Value.str x t
  | .byt b, u => ∃ t, u = Value.bytes b t
  | .flt b, u => ∃ t, u = Value.float b t
  | .ref a, u => u = Value.ref a
  | .ty n, u => u = Value.type n

abbrev Vals : List V → List Value → Prop := Paired RelV
theorem Vals.length {xs : List V} {us : List Value} (r : Vals xs us) : xs.length = us.length := Paired.length r
theorem Vals.get : ∀ {xs : List V} {us : List Value} {i : Nat} {x : V}, Vals xs us → xs[i]? = some x → ∃ u, us[i]? = some u ∧ RelV x u
  | _, _, _, _, .nil, e => by simp at e
  | _, _, 0, _, .cons r _, e => by simp at e; subst e; exact ⟨_, rfl, r⟩
  | _, _, i + 1, x, .cons _ t, e => by
    obtain ⟨u, h1, h2⟩ := Vals.get (i := i) (x := x) t (by simpa using e)
    exact ⟨u, by simpa using h1, h2⟩
theorem Vals.set {x : V} {u : Value} (r : RelV x u) : ∀ {xs : List V} {us : List Value} (i : Nat), Vals xs us → Vals (xs.set i x) (us.set i u)
  | _, _, _, .nil => .nil
  | _, _, 0, .cons _ t => .cons r t
  | _, _, i + 1, .cons q t => .cons q (Vals.set r i t)
theorem Vals.append : ∀ {xs ys : List V} {us ws : List Value}, Vals xs us → Vals ys ws → Vals (xs ++ ys) (us ++ ws)
  | _, _, _, _, .nil, s => s
  | _, _, _, _, .cons r t, s => .cons r (Vals.append t s)
theorem Vals.take : ∀ {xs : List V} {us : List Value} (n : Nat), Vals xs us → Vals (xs.take n) (us.take n)
  | _, _, 0, _ => .nil
  | _, _, _ + 1, .nil => .nil
  | _, _, n + 1, .cons r t => .cons r (Vals.take n t)
theorem Vals.drop : ∀ {xs : List V} {us : List Value} (n : Nat), Vals xs us → Vals (xs.drop n) (us.drop n)
  | _, _, 0, r => r
  | _, _, _ + 1, .nil => .nil
  | _, _, n + 1, .cons _ t => Vals.drop n t

def RelO : Option V → Option Value → Prop
  | some v, some u => RelV v u
  | none, none => True
  | _, _ => False
def KV {κ : Type} : List (κ × V) → List (κ × Value) → Prop := Paired fun (p : κ × V) (q : κ × Value) => p.1 = q.1 ∧ RelV p.2 q.2

/-- a key of a dict (00_mix): an int or a text -/
def kV : Key → V
  | .inl i => .int i
  | .inr x => .str x

/-- what stands at a tracked address -/
inductive HO where
  /-- a list -/
  | lst (xs : List V)
  /-- a tuple (never changes) -/
  | tup (xs : List V)
  /-- a dict whose keys are ints and texts; one whose keys are tuples of ints and texts (the empty one is both) -/
  | dK (kvs : List (Key × V)) | dT (kvs : List (List Key × V))
  /-- a set of ints: its members, its size -/
  | set (S : Int → Bool) (n : Nat)
  /-- an instance of the class at C, its dict at dx, its attributes -/
  | ins (C dx : Addr) (fs : List (Str × V))
  /-- the dict of the instance at x -/
  | own (x : Addr)
  /-- the dict of an exception -/
  | xd (fs : List (Str × V))
  /-- a bound method, f of x -/
  | met (f x : Addr)
  /-- a range object lo, lo + 1, .. below hi -/
  | rng (lo hi : Int)
  /-- a thing that is known to the object (the script; a dict while a loop walks it): read, never written while it is so -/
  | frz (o : Obj) (u : HO)
  /-- a code object's table -/
  | tbl (ps : Array Value)
  /-- any other thing, by what is true of its one object (a def of one's own: SetO a S n := HO.ext fun h => ..) -/
  | ext (φ : Heap → Prop)

abbrev Hp := Addr → Option HO
def upd (H : Hp) (a : Addr) (o : HO) : Hp := fun b => if b = a then some o else H b
theorem upd_same {H : Hp} {a : Addr} {o : HO} : upd H a o a = some o := by unfold upd; rw [if_pos rfl]
theorem upd_ne {H : Hp} {a b : Addr} {o : HO} (h : b ≠ a) : upd H a o b = H b := by unfold upd; rw [if_neg h]
/-- two objects of different content stand apart -/
theorem ne_of {H : Hp} {a b : Addr} {o u : HO} (h : H a = some o) (h' : H b = some u) (d : o ≠ u) : a ≠ b := by
  intro e; subst e; rw [h] at h'; exact d (Option.some.inj h')
theorem ne_of_none {H : Hp} {a b : Addr} {o : HO} (h : H a = some o) (h' : H b = none) : a ≠ b := by
  intro e; subst e; rw [h] at h'; cases h'

section
variable (P : Program) (w : World)
def ObjOk (H : Hp) (h : Heap) (a : Addr) : HO → Prop
  | .lst xs => xs.length ≤ sizeLine ∧ ∃ (its : List Value) (n : Nat), Vals xs its ∧ h.get? a = some { cls := .type "list", data := .seq its.toArray n }
  | .tup xs => xs.length ≤ sizeLine ∧ ∃ its : List Value, Vals xs its ∧ IsTup h a its.toArray
  | .dK kvs => kvs.length ≤ sizeLine ∧ (a == sysModules) = false ∧ ∃ vs, KV kvs vs ∧ h.DictOf (mixKind P w) a vs
  | .dT kvs => kvs.length ≤ sizeLine ∧ (a == sysModules) = false ∧ ∃ xs : List (List Key × Addr × Value),
      Paired (fun (p : List Key × V) (q : List Key × Addr × Value) => p.1 = q.1 ∧ H q.2.1 = some (.tup (p.1.map kV)) ∧ RelV p.2 q.2.2) kvs xs ∧
      ∃ o es ep, h.get? a = some o ∧ o.ExactDict ∧ o.data = .dict es ep ∧ es.toList = xs.map (entryOfKey (tupleKind (mixKind P w))) ∧ (xs.map (·.1)).Nodup
  | .set S n => h.SetOf (intKind P w) a S n
  | .ins C dx fs => H dx = some (.own a) ∧ fs.length ≤ 1000 ∧ dx ≠ a ∧ h.get? a = some (PySem.W.instObj C dx) ∧
      ∃ mA, h.Ns1 dx mA ∧ (∀ f, RelO (fs.lookup f) (mA f)) ∧ PySem.Within mA (fs.map (·.1))
  | .own _ => ∃ o, h.get? a = some o
  | .xd fs => ∃ mA, h.Ns1 a mA ∧ ∀ f, RelO (fs.lookup f) (mA f)
  | .rng lo hi => ∃ t u v, h.get? a = some { cls := .type "range", data := .fields #[.int lo t, .int hi u, .int 1 v] }
  | .frz o u => h.get? a = some o ∧ ObjOk H h a u
  | .tbl ps => h.get? a = some { cls := .none, data := .fields ps }
  | .met f x => h.get? a = some (PySem.W.methodObj (.ref f) (.ref x))
  | .ext φ => φ h ∧ (∃ o, h.get? a = some o) ∧ ∀ h1 h2 : Heap, φ h1 → (∀ o, h1.get? a = some o → h2.get? a = some o) → φ h2
/-- the abstract heap is held -/
def HOk (H : Hp) (h : Heap) : Prop := ∀ a o, H a = some o → ObjOk P w H h a o
end

section
variable {P : Program} {w : World} {H H' : Hp} {h h' : Heap} {a : Addr} {o : HO}
theorem ObjOk.lt (x : ObjOk P w H h a o) : a < h.objs.size := by
  cases o with
  | lst xs => obtain ⟨_, _, _, _, e⟩ := x; exact Heap.lt_size e
  | tup xs => obtain ⟨_, _, _, p⟩ := x; exact p.lt
  | dK kvs => obtain ⟨_, _, _, _, o, _, _, e, _⟩ := x; exact Heap.lt_size e
  | dT kvs => obtain ⟨_, _, _, _, o, _, _, e, _⟩ := x; exact Heap.lt_size e
  | set S n => obtain ⟨o, _, _, _, e, _⟩ := x; exact Heap.lt_size e
  | ins C dx fs => obtain ⟨_, _, _, e, _⟩ := x; exact Heap.lt_size e
  | own y => obtain ⟨_, e⟩ := x; exact Heap.lt_size e
  | xd fs => obtain ⟨_, ⟨_, _, _, e, _⟩, _⟩ := x; exact Heap.lt_size e
  | rng lo hi => obtain ⟨_, _, _, e⟩ := x; exact Heap.lt_size e
  | frz ob u => obtain ⟨e, _⟩ := x; exact Heap.lt_size e
  | tbl ps => exact Heap.lt_size (show h.get? a = some _ from x)
  | met f y => exact Heap.lt_size (show h.get? a = some _ from x)
  | ext φ => obtain ⟨_, ⟨_, e⟩, _⟩ := x; exact Heap.lt_size e
theorem Paired.mapP {α β : Type} {F G : α → β → Prop} : ∀ {l₁ : List α} {l₂ : List β}, Paired F l₁ l₂ → (∀ a b, F a b → G a b) → Paired G l₁ l₂
  | _, _, .nil, _ => .nil
  | _, _, .cons r t, f => .cons (f _ _ r) (Paired.mapP t f)
/-- what an object's description leans on: its own object, its own dict, the tuples -/
theorem ObjOk.stay (x : ObjOk P w H h a o) (k : ∀ b u, (b = a ∨ H b = some (.own a)) → h.get? b = some u → h'.get? b = some u)
    (ho : ∀ b, H b = some (.own a) → H' b = some (.own a)) (ht : ∀ b xs, H b = some (.tup xs) → H' b = some (.tup xs)) : ObjOk P w H' h' a o := by
  induction o with
  | lst xs => obtain ⟨z, its, n, r, e⟩ := x; exact ⟨z, its, n, r, k _ _ (.inl rfl) e⟩
  | tup xs => obtain ⟨z, its, r, ob, e, c⟩ := x; exact ⟨z, its, r, ob, k _ _ (.inl rfl) e, c⟩
  | dK kvs => obtain ⟨z, y, vs, r, ob, es, ep, e, c⟩ := x; exact ⟨z, y, vs, r, ob, es, ep, k _ _ (.inl rfl) e, c⟩
  | dT kvs =>
    obtain ⟨z, y, xs, r, ob, es, ep, e, c⟩ := x
    exact ⟨z, y, xs, Paired.mapP r fun p q z => ⟨z.1, ht _ _ z.2.1, z.2.2⟩, ob, es, ep, k _ _ (.inl rfl) e, c⟩
  | set S n => obtain ⟨ob, es, ep, t, e, c⟩ := x; exact ⟨ob, es, ep, t, k _ _ (.inl rfl) e, c⟩
  | ins C dx fs =>
    obtain ⟨d, z, ne, e, mA, ⟨od, es, ep, e2, c⟩, r⟩ := x
    exact ⟨ho _ d, z, ne, k _ _ (.inl rfl) e, mA, ⟨od, es, ep, k _ _ (.inr d) e2, c⟩, r⟩
  | own y => obtain ⟨ob, e⟩ := x; exact ⟨ob, k _ _ (.inl rfl) e⟩
  | xd fs => obtain ⟨mA, ⟨od, es, ep, e, c⟩, r⟩ := x; exact ⟨mA, ⟨od, es, ep, k _ _ (.inl rfl) e, c⟩, r⟩
  | rng lo hi => obtain ⟨t, u, v, e⟩ := x; exact ⟨t, u, v, k _ _ (.inl rfl) e⟩
  | frz ob u ih => obtain ⟨e, q⟩ := x; exact ⟨k _ _ (.inl rfl) e, ih q⟩
  | tbl ps =>
    have e : h.get? a = some { cls := .none, data := .fields ps } := x
    show h'.get? a = some { cls := .none, data := .fields ps }
    exact k a _ (.inl rfl) e
  | met f y =>
    have e : h.get? a = some (PySem.W.methodObj (.ref f) (.ref y)) := x
    show h'.get? a = some (PySem.W.methodObj (.ref f) (.ref y))
    exact k a _ (.inl rfl) e
  | ext φ => obtain ⟨p, ⟨o, e⟩, st⟩ := x; exact ⟨st _ _ p fun o q => k _ _ (.inl rfl) q, ⟨o, k _ _ (.inl rfl) e⟩, st⟩
theorem HOk.lt (x : HOk P w H h) (e : H a = some o) : a < h.objs.size := (x a o e).lt
theorem HOk.fresh (x : HOk P w H h) (e : h.objs.size ≤ a) : H a = none := by
  cases q : H a with
  | none => rfl
  | some u => exact absurd (Nat.lt_of_lt_of_le (x.lt q) e) (Nat.lt_irrefl _)
/-- every object of the heap is kept -/
theorem HOk.kept (x : HOk P w H h) (k : ∀ b u, h.get? b = some u → h'.get? b = some u) : HOk P w H h' := fun a o e =>
  (x a o e).stay (fun b u _ q => k b u q) (fun _ q => q) fun _ _ q => q
/-- a new object is laid and tracked -/
theorem HOk.laid (x : HOk P w H h) (k : ∀ b u, h.get? b = some u → h'.get? b = some u) (hp : h.objs.size ≤ a) (new : ObjOk P w (upd H a o) h' a o) : HOk P w (upd H a o) h' := fun b u e => by
  have hn := x.fresh hp
  by_cases hb : b = a
  · subst hb; rw [upd_same] at e; cases e; exact new
  · rw [upd_ne hb] at e
    exact (x b u e).stay (fun c v _ q => k c v q) (fun c q => by rw [upd_ne (ne_of_none q hn)]; exact q) fun c xs q => by rw [upd_ne (ne_of_none q hn)]; exact q
end

/-- what may be read as u: it is u, or a known u -/
def Rd (H : Hp) (a : Addr) (u : HO) : Prop := H a = some u ∨ ∃ o, H a = some (.frz o u)
theorem Rd.ok {P : Program} {w : World} {H : Hp} {h : Heap} {a : Addr} {u : HO} (r : Rd H a u) (x : HOk P w H h) : ObjOk P w H h a u := by
  rcases r with r | ⟨o, r⟩
  · exact x a u r
  · obtain ⟨_, q⟩ := x a _ r
    exact q
/-- what may be written -/
def Mut : Option HO → Prop
  | some (.lst _) => True
  | some (.dK _) => True
  | some (.dT _) => True
  | some (.set _ _) => True
  | some (.ins _ _ _) => True
  | some (.ext _) => True
  | _ => False
section
variable {P : Program} {w : World} {H : Hp} {h h' : Heap} {x e : Addr} {o' : HO}
/-- the object at e is changed: x itself, or the dict of the instance x -/
theorem HOk.write (ok : HOk P w H h) (mu : Mut (H x)) (he : e = x ∨ H e = some (.own x)) (k : ∀ b u, b ≠ e → h.get? b = some u → h'.get? b = some u) (heo : ∃ u, h'.get? e = some u)
    (new : ObjOk P w (upd H x o') h' x o') : HOk P w (upd H x o') h' := fun b u q => by
  have nown : ∀ c y, H c = some (.own y) → c ≠ x := fun c y r z => by subst z; rw [r] at mu; exact mu
  have ntup : ∀ c xs, H c = some (.tup xs) → c ≠ x := fun c xs r z => by subst z; rw [r] at mu; exact mu
  by_cases hb : b = x
  · subst hb; rw [upd_same] at q; cases q; exact new
  · rw [upd_ne hb] at q
    by_cases hbe : b = e
    · have q' : H b = some (.own x) := by
        rcases he with z | z
        · exact absurd (hbe.trans z) hb
        · rw [hbe]; exact z
      rw [q] at q'; cases q'
      obtain ⟨v, hv⟩ := heo
      exact ⟨v, by rw [hbe]; exact hv⟩
    · refine (ok b u q).stay (fun c v hc r => k c v ?_ r) (fun c r => by rw [upd_ne (nown c b r)]; exact r) fun c xs r => by rw [upd_ne (ntup c xs r)]; exact r
      rcases hc with rfl | hc
      · exact hbe
      · rintro rfl
        rcases he with z | z
        · exact nown c b hc z
        · rw [hc] at z; cases z; exact hb rfl
end

/-! ### kept unless tracked; of the frames at fs (the callers') the slots may change (an exception that passes writes there); of the records at ex (iterators) nothing is said -/
structure Un (fs ex : List Addr) (H H' : Hp) (h h' : Heap) : Prop where
  keep : ∀ b o, h.get? b = some o → H b = none → b ∉ fs → b ∉ ex → h'.get? b = some o
  slot : ∀ b o, h.get? b = some o → H b = none → b ∈ fs → b ∉ ex → ∃ sl, h'.get? b = some { o with slots := sl }
  free : ∀ b o, h.get? b = some o → H b = none → b ∉ ex → H' b = none
  there : ∀ b o, h.get? b = some o → b ∉ ex → ∃ o', h'.get? b = some o'
  tups : ∀ b xs, H b = some (.tup xs) → H' b = some (.tup xs)
  frzs : ∀ b o u, H b = some (.frz o u) → H' b = some (.frz o u)
  tbls : ∀ b ps, H b = some (.tbl ps) → ∃ more, H' b = some (.tbl (ps ++ more))
section
variable {fs fs' ex ex' : List Addr} {H H1 H2 : Hp} {h h1 h2 h' : Heap} {a x e : Addr} {o : HO}
theorem Un.any (u : Un fs ex H H1 h h1) {b : Addr} {ob : Obj} (q : h.get? b = some ob) (n : H b = none) (hx : b ∉ ex) : ∃ sl, h1.get? b = some { ob with slots := sl } := by
  by_cases hb : b ∈ fs
  · exact u.slot b ob q n hb hx
  · exact ⟨ob.slots, u.keep b ob q n hb hx⟩
theorem Un.kept (k : ∀ b u, h.get? b = some u → h'.get? b = some u) : Un fs ex H H h h' :=
  ⟨fun b ob q _ _ _ => k b ob q, fun b ob q _ _ _ => ⟨ob.slots, k b ob q⟩, fun _ _ _ n _ => n, fun b ob q _ => ⟨ob, k b ob q⟩, fun _ _ q => q, fun _ _ _ q => q, fun _ ps q => ⟨#[], by rw [q]; simp⟩⟩
theorem Un.refl : Un fs ex H H h h := Un.kept fun _ _ q => q
theorem Un.laid (k : ∀ b u, h.get? b = some u → h'.get? b = some u) (hp : h.objs.size ≤ a) (hn : H a = none) : Un fs ex H (upd H a o) h h' where
  keep := fun b u q _ _ _ => k b u q
  slot := fun b u q _ _ _ => ⟨u.slots, k b u q⟩
  free := fun b u q n _ => by rw [upd_ne (Nat.ne_of_lt (Nat.lt_of_lt_of_le (Heap.lt_size q) hp))]; exact n
  there := fun b u q _ => ⟨u, k b u q⟩
  tups := fun b xs q => by rw [upd_ne (ne_of_none q hn)]; exact q
  frzs := fun b u xs q => by rw [upd_ne (ne_of_none q hn)]; exact q
  tbls := fun b ps q => ⟨#[], by rw [upd_ne (ne_of_none q hn), q]; simp⟩
theorem Un.write (mu : Mut (H x)) (he : e = x ∨ H e = some (.own x)) (k : ∀ b u, b ≠ e → h.get? b = some u → h'.get? b = some u) (heo : ∃ u, h'.get? e = some u) : Un fs ex H (upd H x o) h h' := by
  have hx : ∀ b, H b = none → b ≠ x := fun b n z => by subst z; rw [n] at mu; exact mu
  have hb : ∀ b, H b = none → b ≠ e := fun b n z => by
    subst z
    rcases he with r | r
    · exact hx b n r
    · rw [n] at r; cases r
  have hm : ∀ b u, H b = some u → ¬ Mut (some u) → b ≠ x := fun b u q nm z => by subst z; rw [q] at mu; exact nm mu
  refine ⟨fun b u q n _ _ => k b u (hb b n) q, fun b u q n _ _ => ⟨u.slots, k b u (hb b n) q⟩, fun b u q n _ => by rw [upd_ne (hx b n)]; exact n, fun b u q _ => ?_,
    fun b xs q => by rw [upd_ne (hm b _ q fun z => z)]; exact q, fun b u xs q => by rw [upd_ne (hm b _ q fun z => z)]; exact q, fun b ps q => ⟨#[], by rw [upd_ne (hm b _ q fun z => z), q]; simp⟩⟩
  by_cases hbe : b = e
  · subst hbe; exact heo
  · exact ⟨u, k b u hbe q⟩
end

/-! ### the heap without what is tracked -/
def trk (h : Heap) (H : Hp) : List Addr := (List.range h.objs.size).filter fun a => (H a).isSome
def hidT (h : Heap) (H : Hp) : Heap := PySem.W.hideAll h (trk h H)
theorem hidT_size (h : Heap) (H : Hp) : (hidT h H).objs.size = h.objs.size := PySem.W.hideAll_size _ _
theorem hidT_get {h : Heap} {H : Hp} {b : Addr} {o : Obj} (e : h.get? b = some o) (n : H b = none) : (hidT h H).get? b = some o :=
  PySem.W.hideAll_get _ e fun hm => by
    have q : (H b).isSome = true := (List.mem_filter.mp hm).2
    rw [n] at q; simp at q
theorem of_hidT {h : Heap} {H : Hp} {b : Addr} {o : Obj} (e : (hidT h H).get? b = some o) : h.get? b = some o ∧ H b = none := by
  have e' : h.get? b = some o := PySem.W.of_hideAll (trk h H) e
  refine ⟨e', ?_⟩
  cases q : H b with
  | none => rfl
  | some x =>
    have hm : b ∈ trk h H := List.mem_filter.mpr ⟨List.mem_range.mpr (Heap.lt_size e'), by simp [q]⟩
    have z : (hidT h H).get? b = none := PySem.W.hideAll_none (trk h H) hm
    rw [z] at e; cases e

/-! ### OpenK's ledger, filled with every new object but one -/
end L2

namespace L2
open PySem PySem.Spec PyProof.Rows

/-- the module's facts, over the base: the heap at the law's entry without what is tracked there -/
structure Mod (K : PySem.W.Frag) (mg : Str → Option Value) (base : Heap) : Prop where
  kin : K.In base
  glob : base.Ns mainGlobals mg
  blt : ∃ mb, base.Ns builtinsNs mb ∧ ∀ x : Str, x ≠ "__name__" → mb x = bootBuiltins x
  nolimit : base.NoLimit

/-- the context: a def's body (or a comprehension's block) running. base: fixed through the whole law; s₀, H₀: the entry; outer: the frames whose slots others may change (a def's callers); stack: all frames that run;
   ex: iterators that were made ahead of the entry and are walked here (a comprehension's); fn: the names whose cells were made at the entry (a def: all; a comprehension's block: its own); calm: not within an except suite; pn: pins that every state bears; xe: what is wanted of an exception that leaves the code -/
structure Cx where
  prog : Program
  w : World
  K : PySem.W.Frag
  mg : Str → Option Value
  base : Heap
  A : Around
  N : List Str
  s₀ : Shared
  H₀ : Hp
  env : Env
  outer : List Env
  stack : List Env
  ex : List Addr
  fn : Str → Bool
  calm : Bool
  pn : List (Addr × Obj)
  xe : Value → Shared → Prop
/-- the callers' frames -/
def frs (l : List Env) : List Addr := l.filterMap (·.frame)
abbrev Cx.fs (X : Cx) : List Addr := frs X.outer

def Vis (sc : Scope) (x : Str) : Prop := sc.names.lookup x = some .local ∨ sc.names.lookup x = some .cell ∨ sc.names.lookup x = some .free
def Loc (sc : Scope) (x : Str) : Prop := sc.names.lookup x = some .local ∨ sc.names.lookup x = some .cell
def Look (env : Env) (h : Heap) (m : Str → Option Value) (x : Str) (u : Value) : Prop :=
  (env.kindOf x = some .local ∧ m x = some u) ∨ ((env.kindOf x = some .cell ∨ env.kindOf x = some .free) ∧ ∃ c, env.cells.lookup x = some c ∧ h.IsCell c (some u))

structure Cx.Ok (X : Cx) : Prop where
  mod : Mod X.K X.mg X.base
  kind : X.env.scope.kind = .function
  glob : X.env.globals = mainGlobals
  blt : X.env.builtins = builtinsNs
  above : X.s₀.heap.objs.size ≤ X.env.locals
  inj : ∀ x y c, X.env.cells.lookup x = some c → X.env.cells.lookup y = some c → x = y
  has : ∀ x, (X.env.kindOf x = some .cell ∨ X.env.kindOf x = some .free) → ∃ c, X.env.cells.lookup x = some c
  cab : ∀ x c, X.fn x = true → X.env.cells.lookup x = some c → X.s₀.heap.objs.size ≤ c
  hd : X.calm = true → X.A.handled = none
  frames : X.A.frames = some X.stack
  stk : X.stack = X.outer ∨ (X.stack = X.env :: X.outer ∧ X.env.frame = some X.env.locals)
  exf : ∀ b ∈ X.ex, b ≠ X.env.locals ∧ ∀ x c, X.env.cells.lookup x = some c → c ≠ b
  bs : ∀ b o, X.base.get? b = some o → X.s₀.heap.get? b = some o ∧ X.H₀ b = none
  bsz : X.base.objs.size ≤ X.s₀.heap.objs.size
  noex : ∀ b o, X.base.get? b = some o → b ∉ X.ex
  exfs : ∀ b ∈ X.ex, b ∉ X.fs
  funs : X.s₀.heap.FunFrames X.base X.outer
  frf : ∀ b ∈ X.fs, X.H₀ b = none

structure Inv (X : Cx) (pins : List (Addr × Obj)) (σ : List (Option V)) (H : Hp) (s : Shared) : Prop where
  ok : X.Ok
  os : s.os = X.s₀.os
  bare : AllBare s.gens
  base : Un X.fs X.ex X.H₀ H X.s₀.heap s.heap
  loc : ∃ m, s.heap.Ns X.env.locals m ∧ ∀ (i : Nat) (x : Str) (v : V), X.N[i]? = some x → σ[i]? = some (some v) → Vis X.env.scope x → ∃ u, RelV v u ∧ Look X.env s.heap m x u
  cell : ∀ x c, X.env.cells.lookup x = some c → ∃ v, s.heap.IsCell c v
  free : H X.env.locals = none
  freeC : ∀ x c, X.env.cells.lookup x = some c → H c = none
  pin : ∀ p ∈ X.pn ++ pins, s.heap.get? p.1 = some p.2 ∧ H p.1 = none ∧ p.1 ≠ X.env.locals ∧ p.1 ∉ X.fs ∧ ∀ v, p.2.data ≠ .cell v
  hok : HOk X.prog X.w H s.heap
  len : σ.length = X.N.length

section
variable {X : Cx} {pins : List (Addr × Obj)} {σ : List (Option V)} {H H' : Hp} {s : Shared} {h' : Heap}

theorem Cx.Ok.nofr (ok : X.Ok) {b : Addr} {o : Obj} (e : X.base.get? b = some o) : b ∉ X.fs := fun hb => by
  have := (ok.funs.mem hb).1
  rw [e] at this; cases this
theorem Inv.bs (I : Inv X pins σ H s) : ∀ b o, X.base.get? b = some o → s.heap.get? b = some o ∧ H b = none := fun b o e =>
  ⟨I.base.keep b o (I.ok.bs b o e).1 (I.ok.bs b o e).2 (I.ok.nofr e) (I.ok.noex b o e), I.base.free b o (I.ok.bs b o e).1 (I.ok.bs b o e).2 (I.ok.noex b o e)⟩
theorem Inv.bk (I : Inv X pins σ H s) : ∀ b o, X.base.get? b = some o → s.heap.get? b = some o := fun b o e => (I.bs b o e).1
theorem Inv.mod (I : Inv X pins σ H s) : Mod X.K X.mg X.base := I.ok.mod
theorem Inv.kIn (I : Inv X pins σ H s) : X.K.In s.heap := I.ok.mod.kin.keeps I.bk
theorem Inv.lt (I : Inv X pins σ H s) : X.env.locals < s.heap.objs.size := let ⟨_, hn, _⟩ := I.loc; hn.lt
theorem Inv.sz (I : Inv X pins σ H s) : X.s₀.heap.objs.size ≤ s.heap.objs.size := Nat.le_trans I.ok.above (Nat.le_of_lt I.lt)
theorem Inv.nofs (I : Inv X pins σ H s) {a : Addr} (h : s.heap.objs.size ≤ a) : a ∉ X.fs := fun hb => by
  obtain ⟨_, o, ho, _⟩ := I.ok.funs.mem hb
  exact absurd (Nat.lt_of_lt_of_le (Heap.lt_size ho) (Nat.le_trans I.sz h)) (Nat.lt_irrefl _)
theorem Inv.cne (I : Inv X pins σ H s) : ∀ x c, X.env.cells.lookup x = some c → c ≠ X.env.locals := fun x c e z => by
  obtain ⟨v, o, ho, hd⟩ := I.cell x c e
  obtain ⟨m, ⟨o', es, ep, ho', hd', _⟩, _⟩ := I.loc
  rw [z, ho'] at ho; cases ho; rw [hd'] at hd; cases hd
theorem Inv.funs (I : Inv X pins σ H s) : s.heap.FunFrames X.base X.outer := by
  have all : ∀ (l : List Env), (∀ b ∈ frs l, b ∈ X.fs) → X.s₀.heap.FunFrames X.base l → s.heap.FunFrames X.base l := by
    intro l
    induction l with
    | nil => intro _ _; trivial
    | cons env r ih =>
      intro hs hl
      obtain ⟨hk, ⟨L, o, hf, hn, ho, hd⟩, hr⟩ := hl
      have hL : L ∈ X.fs := hs L (by unfold frs; rw [List.filterMap_cons, hf]; exact List.mem_cons_self)
      obtain ⟨sl, e⟩ := I.base.slot L o ho (I.ok.frf L hL) hL fun z => I.ok.exfs L z hL
      exact ⟨hk, ⟨L, _, hf, hn, e, hd⟩, ih (fun b hb => hs b (by unfold frs; rw [List.filterMap_cons, hf]; exact List.mem_cons_of_mem _ hb)) hr⟩
  exact all X.outer (fun _ hb => hb) I.ok.funs

/-- the frames that run, for a call -/
theorem Inv.stack (I : Inv X pins σ H s) : s.heap.FunFrames X.base X.stack := by
  rcases I.ok.stk with e | ⟨e, hf⟩
  · rw [e]; exact I.funs
  · rw [e]
    obtain ⟨m, hn, _⟩ := I.loc
    refine .cons (by rw [I.ok.kind]; decide) hf hn ?_ I.funs
    exact Heap.get?_none_of_le (Nat.le_trans I.ok.bsz I.ok.above)
theorem Inv.stkSub (I : Inv X pins σ H s) : ∀ b ∈ frs X.stack, b ∈ X.env.locals :: X.fs := fun b hb => by
  rcases I.ok.stk with e | ⟨e, hf⟩
  · rw [e] at hb; exact List.mem_cons_of_mem _ hb
  · rw [e] at hb
    unfold frs at hb
    rw [List.filterMap_cons, hf] at hb
    exact hb
theorem Inv.stkFree (I : Inv X pins σ H s) : ∀ b ∈ frs X.stack, H b = none := fun b hb => by
  rcases List.mem_cons.mp (I.stkSub b hb) with e | hb
  · rw [e]; exact I.free
  · obtain ⟨_, o, ho, _⟩ := I.ok.funs.mem hb
    exact I.base.free b o ho (I.ok.frf b hb) fun z => I.ok.exfs b z hb

/-- THE STEP: the untracked objects but the frame and the records at ch are kept (the callers' frames up to slots), the frame's map is kept, the new abstract heap is held -/
theorem Inv.step {g' : Array GenState} {t' : Nat} {d' : Drawn} {ch : List Addr} (I : Inv X pins σ H s)
    (hch : ∀ b ∈ ch, (b ∈ X.ex ∨ X.s₀.heap.objs.size ≤ b) ∧ b ≠ X.env.locals ∧ (∀ x c, X.env.cells.lookup x = some c → c ≠ b) ∧ ∀ p ∈ X.pn ++ pins, p.1 ≠ b)
    (keep : ∀ b o, b ≠ X.env.locals → b ∉ X.fs → b ∉ ch → s.heap.get? b = some o → H b = none → h'.get? b = some o)
    (slot : ∀ b o, b ≠ X.env.locals → b ∈ X.fs → b ∉ ch → s.heap.get? b = some o → H b = none → ∃ sl, h'.get? b = some { o with slots := sl }) (free : ∀ b o, b ∉ ch → s.heap.get? b = some o → H b = none → H' b = none)
    (there : ∀ b o, b ∉ ch → s.heap.get? b = some o → ∃ o', h'.get? b = some o')
    (tups : ∀ b xs, H b = some (.tup xs) → H' b = some (.tup xs)) (frzs : ∀ b o u, H b = some (.frz o u) → H' b = some (.frz o u)) (tbls : ∀ b ps, H b = some (.tbl ps) → ∃ more, H' b = some (.tbl (ps ++ more)))
    (ns : ∀ m, s.heap.Ns X.env.locals m → h'.Ns X.env.locals m) (hok : HOk X.prog X.w H' h') (hg : AllBare g') :
    Inv X pins σ H' { s with heap := h', gens := g', drawn := d', toks := t' } := by
  have neL : ∀ b o, X.s₀.heap.get? b = some o → b ≠ X.env.locals := fun b o e => Nat.ne_of_lt (Nat.lt_of_lt_of_le (Heap.lt_size e) I.ok.above)
  have neC : ∀ b o, X.s₀.heap.get? b = some o → b ∉ X.ex → b ∉ ch := fun b o e hx hb => by
    rcases (hch b hb).1 with z | z
    · exact hx z
    · exact absurd (Nat.lt_of_lt_of_le (Heap.lt_size e) z) (Nat.lt_irrefl _)
  have cellK : ∀ x c, X.env.cells.lookup x = some c → ∀ v, s.heap.IsCell c v → h'.IsCell c v := fun x c e v ⟨o, ho, hd⟩ => by
    have nch : c ∉ ch := fun z => (hch c z).2.2.1 x c e rfl
    by_cases hc : c ∈ X.fs
    · obtain ⟨sl, q⟩ := slot c o (I.cne x c e) hc nch ho (I.freeC x c e)
      exact ⟨_, q, hd⟩
    · exact ⟨o, keep c o (I.cne x c e) hc nch ho (I.freeC x c e), hd⟩
  refine ⟨I.ok, I.os, hg, ⟨fun b o e n hb hx => ?_, fun b o e n hb hx => ?_, fun b o e n hx => ?_, fun b o e hx => ?_, fun b xs e => tups b xs (I.base.tups b xs e), fun b o xs e => frzs b o xs (I.base.frzs b o xs e), fun b ps e => ?_⟩, ?_, fun x c e => ?_, ?_, fun x c e => ?_, fun p hp => ?_, hok, I.len⟩
  · exact keep b o (neL b o e) hb (neC b o e hx) (I.base.keep b o e n hb hx) (I.base.free b o e n hx)
  · obtain ⟨sl, e1⟩ := I.base.slot b o e n hb hx
    obtain ⟨sl', e2⟩ := slot b _ (neL b o e) hb (neC b o e hx) e1 (I.base.free b o e n hx)
    exact ⟨sl', e2⟩
  · obtain ⟨o', e1⟩ := I.base.there b o e hx
    exact free b o' (neC b o e hx) e1 (I.base.free b o e n hx)
  · obtain ⟨o', e1⟩ := I.base.there b o e hx
    exact there b o' (neC b o e hx) e1
  · obtain ⟨m1, e1⟩ := I.base.tbls b ps e
    obtain ⟨m2, e2⟩ := tbls b _ e1
    exact ⟨m1 ++ m2, by rw [e2, Array.append_assoc]⟩
  · obtain ⟨m, hn, hl⟩ := I.loc
    refine ⟨m, ns m hn, fun i x v e1 e2 e3 => ?_⟩
    obtain ⟨u, r, l⟩ := hl i x v e1 e2 e3
    refine ⟨u, r, ?_⟩
    rcases l with l | ⟨k, c, e, z⟩
    · exact .inl l
    · exact .inr ⟨k, c, e, cellK x c e _ z⟩
  · obtain ⟨v, z⟩ := I.cell x c e
    exact ⟨v, cellK x c e v z⟩
  · obtain ⟨m, ⟨o, _, _, ho, _⟩, _⟩ := I.loc
    exact free _ o (fun z => (hch _ z).2.1 rfl) ho I.free
  · obtain ⟨v, o, ho, hd⟩ := I.cell x c e
    exact free c o (fun z => (hch c z).2.2.1 x c e rfl) ho (I.freeC x c e)
  · obtain ⟨e, n, ne, nf, d⟩ := I.pin p hp
    have nch : p.1 ∉ ch := fun z => (hch p.1 z).2.2.2 p hp rfl
    exact ⟨keep p.1 p.2 ne nf nch e n, free p.1 p.2 nch e n, ne, nf, d⟩
/-- .. where the frame's own object is kept too -/
theorem Inv.un {t' : Nat} (I : Inv X pins σ H s) (u : Un X.fs [] H H' s.heap h') (hok : HOk X.prog X.w H' h') : Inv X pins σ H' { s with heap := h', toks := t' } := by
  obtain ⟨m, ⟨o, es, ep, ho, r⟩, _⟩ := id I.loc
  obtain ⟨sl, hL⟩ := u.any ho I.free (by simp)
  exact I.step (g' := s.gens) (d' := s.drawn) (ch := []) (fun _ z => nomatch z) (fun b o _ hb _ e n => u.keep b o e n hb (by simp)) (fun b o _ hb _ e n => u.slot b o e n hb (by simp)) (fun b o _ e n => u.free b o e n (by simp)) (fun b o _ e => u.there b o e (by simp)) u.tups u.frzs u.tbls (fun m' hm => by
    obtain ⟨o', es', ep', ho', r'⟩ := hm
    rw [ho] at ho'; cases ho'
    exact ⟨_, es', ep', hL, r'⟩) hok I.bare
/-- behind a call (or a comprehension's block): the slots of this frame may have changed too, the records at ch may have turned -/
theorem Inv.call {g' : Array GenState} {t' : Nat} {d' : Drawn} {ch : List Addr} (I : Inv X pins σ H s) (u : Un (frs X.stack) ch H H' s.heap h') (hok : HOk X.prog X.w H' h') (hg : AllBare g')
    (hch : ∀ b ∈ ch, (b ∈ X.ex ∨ X.s₀.heap.objs.size ≤ b) ∧ b ≠ X.env.locals ∧ (∀ x c, X.env.cells.lookup x = some c → c ≠ b) ∧ ∀ p ∈ X.pn ++ pins, p.1 ≠ b) :
    Inv X pins σ H' { s with heap := h', gens := g', drawn := d', toks := t' } := by
  obtain ⟨m, ⟨o, es, ep, ho, r⟩, _⟩ := id I.loc
  obtain ⟨sl, hL⟩ := u.any ho I.free fun z => (hch _ z).2.1 rfl
  exact I.step (ch := ch) hch (fun b o hL hb hc e n => u.keep b o e n (fun z => (List.mem_cons.mp (I.stkSub b z)).elim hL hb) hc) (fun b o _ _ hc e n => u.any e n hc) (fun b o hc e n => u.free b o e n hc) (fun b o hc e => u.there b o e hc) u.tups u.frzs u.tbls (fun m' hm => by
    obtain ⟨o', es', ep', ho', r'⟩ := hm
    rw [ho] at ho'; cases ho'
    exact ⟨_, es', ep', hL, r'⟩) hok hg
/-- an untracked record of ours (an iterator) has turned -/
theorem Inv.turned {t' : Nat} {it : Addr} (I : Inv X pins σ H s) (k : ∀ b o, b ≠ it → s.heap.get? b = some o → h'.get? b = some o) (hn : H it = none) (hL : it ≠ X.env.locals)
    (h1 : it ∈ X.ex ∨ X.s₀.heap.objs.size ≤ it) (h2 : ∀ x c, X.env.cells.lookup x = some c → c ≠ it) (h3 : ∀ p ∈ X.pn ++ pins, p.1 ≠ it) : Inv X pins σ H { s with heap := h', toks := t' } := by
  have nit : ∀ b u, H b = some u → b ≠ it := fun b u e z => by rw [z, hn] at e; cases e
  refine I.step (g' := s.gens) (d' := s.drawn) (ch := [it]) (fun b hb => ?_) (fun b o _ _ hc e _ => k b o (fun z => hc (by simp [z])) e) (fun b o _ _ hc e _ => ⟨o.slots, k b o (fun z => hc (by simp [z])) e⟩) (fun _ _ _ _ n => n)
    (fun b o hc e => ⟨o, k b o (fun z => hc (by simp [z])) e⟩) (fun _ _ e => e) (fun _ _ _ e => e) (fun b ps e => ⟨#[], by rw [e]; simp⟩) (fun m hm => ?_) (fun b u e => ?_) I.bare
  · have e : b = it := by simpa using hb
    subst e
    exact ⟨h1, hL, h2, h3⟩
  · obtain ⟨o, es, ep, ho, r⟩ := hm
    exact ⟨o, es, ep, k _ o (Ne.symm hL) ho, r⟩
  · refine (I.hok b u e).stay (fun c v hc q => k c v ?_ q) (fun _ q => q) fun _ _ q => q
    rcases hc with z | z
    · rw [z]; exact nit b u e
    · exact nit c _ z
theorem Inv.tok (I : Inv X pins σ H s) (t : Nat) : Inv X pins σ H { s with toks := t } := I.un (h' := s.heap) (t' := t) Un.refl I.hok
/-- all objects kept -/
theorem Inv.kept {t' : Nat} (I : Inv X pins σ H s) (k : ∀ b u, s.heap.get? b = some u → h'.get? b = some u) : Inv X pins σ H { s with heap := h', toks := t' } := I.un (Un.kept k) (I.hok.kept k)
/-- a new object laid and tracked -/
theorem Inv.laid {a : Addr} {o : HO} {t' : Nat} (I : Inv X pins σ H s) (k : ∀ b u, s.heap.get? b = some u → h'.get? b = some u) (hp : s.heap.objs.size ≤ a) (new : ObjOk X.prog X.w (upd H a o) h' a o) :
    Inv X pins σ (upd H a o) { s with heap := h', toks := t' } := I.un (Un.laid k hp (I.hok.fresh hp)) (I.hok.laid k hp new)
/-- an object written -/
theorem Inv.write {x e : Addr} {o : HO} {t' : Nat} (I : Inv X pins σ H s) (mu : Mut (H x)) (he : e = x ∨ H e = some (.own x)) (k : ∀ b u, b ≠ e → s.heap.get? b = some u → h'.get? b = some u) (heo : ∃ u, h'.get? e = some u)
    (new : ObjOk X.prog X.w (upd H x o) h' x o) : Inv X pins σ (upd H x o) { s with heap := h', toks := t' } := I.un (Un.write mu he k heo) (I.hok.write mu he k heo new)
theorem Inv.pins_of {pins' : List (Addr × Obj)} (I : Inv X pins σ H s) (h : ∀ p ∈ pins', s.heap.get? p.1 = some p.2 ∧ H p.1 = none ∧ p.1 ≠ X.env.locals ∧ p.1 ∉ X.fs ∧ ∀ v, p.2.data ≠ .cell v) : Inv X pins' σ H s :=
  ⟨I.ok, I.os, I.bare, I.base, I.loc, I.cell, I.free, I.freeC, fun p hp => (List.mem_append.mp hp).elim (fun z => I.pin p (List.mem_append_left _ z)) (h p), I.hok, I.len⟩

theorem nodup_ix {N : List Str} (hN : N.Nodup) {i j : Nat} {x : Str} (a : N[i]? = some x) (b : N[j]? = some x) : i = j := by
  obtain ⟨h1, e1⟩ := List.getElem?_eq_some_iff.mp a
  obtain ⟨h2, e2⟩ := List.getElem?_eq_some_iff.mp b
  exact (List.getElem_inj hN).mp (e1.trans e2.symm)

/-- a name is stored; what changed -/
theorem store_ok2 {M : Model} {A : Around} {E : Value → Shared → Prop} {i : Nat} {x : Str} {v : V} {u : Value} {Q : Unit → Shared → Prop} (I : Inv X pins σ H s) (hN : X.N.Nodup) (hi : X.N[i]? = some x) (hx : Loc X.env.scope x) (r : RelV v u)
    (h : ∀ s', Inv X pins (σ.set i (some v)) H s' → (∃ a, Heap.SameBut a s.heap s'.heap ∧ (a = X.env.locals ∨ X.env.cells.lookup x = some a)) → Q () s') (hf : X.fn x = true ∨ X.env.scope.names.lookup x = some .local := by first | exact .inl rfl | exact .inr rfl | assumption) : wpAny M A (storeName X.env x u) Q E s := by
  obtain ⟨m, hn, hl⟩ := id I.loc
  have hcls : (X.env.scope.kind == .class || (X.env.scope.kind == .module && X.env.locals != X.env.globals)) = false := by rw [I.ok.kind]; rfl
  have hiσ : i < σ.length := by rw [I.len]; exact (List.getElem?_eq_some_iff.mp hi).1
  have cne := I.cne
  have tracked : ∀ {a : Addr} {h' : Heap}, (∃ o, s.heap.get? a = some o ∧ H a = none) → Heap.SameBut a s.heap h' → HOk X.prog X.w H h' := fun {a h'} ha hs b ob e => by
    obtain ⟨_, _, hfree⟩ := ha
    refine (I.hok b ob e).stay (fun c w' hc q => (hs.2 c ?_).trans q) (fun _ q => q) fun _ _ q => q
    rintro rfl
    rcases hc with rfl | hc
    · rw [hfree] at e; cases e
    · rw [hfree] at hc; cases hc
  rcases hx with hk | hk
  · refine wpAny_storeName_local hk hn (fun h' hn' hs => ?_) hcls
    obtain ⟨oL, _, _, hoL, _⟩ := id hn
    refine h _ ⟨I.ok, I.os, I.bare, ⟨fun b o e n hb hx => ?_, fun b o e n hb hx => ?_, I.base.free, fun b o e hx => ?_, I.base.tups, I.base.frzs, I.base.tbls⟩, ⟨_, hn', fun j y v' e1 e2 e3 => ?_⟩, fun y c e => ?_, I.free, I.freeC, fun p hp => ?_, tracked ⟨oL, hoL, I.free⟩ hs, by simpa using I.len⟩ ⟨_, hs, .inl rfl⟩
    · exact (hs.2 b (Nat.ne_of_lt (Nat.lt_of_lt_of_le (Heap.lt_size e) I.ok.above))).trans (I.base.keep b o e n hb hx)
    · obtain ⟨sl, e1⟩ := I.base.slot b o e n hb hx
      exact ⟨sl, (hs.2 b (Nat.ne_of_lt (Nat.lt_of_lt_of_le (Heap.lt_size e) I.ok.above))).trans e1⟩
    · obtain ⟨o', e1⟩ := I.base.there b o e hx
      exact ⟨o', (hs.2 b (Nat.ne_of_lt (Nat.lt_of_lt_of_le (Heap.lt_size e) I.ok.above))).trans e1⟩
    · by_cases hj : j = i
      · subst hj
        rw [hi] at e1; cases e1
        rw [List.getElem?_set_self hiσ] at e2
        cases e2
        exact ⟨u, r, .inl ⟨hk, by simp⟩⟩
      · rw [List.getElem?_set_ne (Ne.symm hj)] at e2
        obtain ⟨u', r', q⟩ := hl j y v' e1 e2 e3
        refine ⟨u', r', ?_⟩
        rcases q with ⟨k, e⟩ | ⟨k, c, e, z⟩
        · refine .inl ⟨k, ?_⟩
          have : y ≠ x := fun e => hj (nodup_ix hN e1 (e ▸ hi))
          simp [this, e]
        · exact .inr ⟨k, c, e, z.sameBut hs (cne y c e)⟩
    · obtain ⟨w', z⟩ := I.cell y c e
      exact ⟨w', z.sameBut hs (cne y c e)⟩
    · obtain ⟨e, n, ne, nf, d⟩ := I.pin p hp
      exact ⟨(hs.2 p.1 ne).trans e, n, ne, nf, d⟩
  · have hfn : X.fn x = true := by
      rcases hf with z | z
      · exact z
      · rw [z] at hk; cases hk
    obtain ⟨c, hc⟩ := I.ok.has x (.inl hk)
    obtain ⟨w', z⟩ := I.cell x c hc
    refine wpAny_storeName_cell I.ok.kind hk hc z (fun h' hc' hs => ?_)
    obtain ⟨oc, hoc, hocd⟩ := id z
    refine h { s with heap := h' } ⟨I.ok, I.os, I.bare, ⟨fun b o e n hb hx => ?_, fun b o e n hb hx => ?_, I.base.free, fun b o e hx => ?_, I.base.tups, I.base.frzs, I.base.tbls⟩, ⟨m, hn.sameBut hs (Ne.symm (cne x c hc)), fun j y v' e1 e2 e3 => ?_⟩, fun y c' e => ?_, I.free, I.freeC, fun p hp => ?_, tracked ⟨oc, hoc, I.freeC x c hc⟩ hs, by simpa using I.len⟩ ⟨c, hs, .inr hc⟩
    · exact (hs.2 b (Nat.ne_of_lt (Nat.lt_of_lt_of_le (Heap.lt_size e) (I.ok.cab x c hfn hc)))).trans (I.base.keep b o e n hb hx)
    · obtain ⟨sl, e1⟩ := I.base.slot b o e n hb hx
      exact ⟨sl, (hs.2 b (Nat.ne_of_lt (Nat.lt_of_lt_of_le (Heap.lt_size e) (I.ok.cab x c hfn hc)))).trans e1⟩
    · obtain ⟨o', e1⟩ := I.base.there b o e hx
      exact ⟨o', (hs.2 b (Nat.ne_of_lt (Nat.lt_of_lt_of_le (Heap.lt_size e) (I.ok.cab x c hfn hc)))).trans e1⟩
    · by_cases hj : j = i
      · subst hj
        rw [hi] at e1; cases e1
        rw [List.getElem?_set_self hiσ] at e2
        cases e2
        exact ⟨u, r, .inr ⟨.inl hk, c, hc, hc'⟩⟩
      · rw [List.getElem?_set_ne (Ne.symm hj)] at e2
        obtain ⟨u', r', q⟩ := hl j y v' e1 e2 e3
        refine ⟨u', r', ?_⟩
        rcases q with q | ⟨k, c', e, z'⟩
        · exact .inl q
        · refine .inr ⟨k, c', e, z'.sameBut hs ?_⟩
          rintro rfl
          exact hj (nodup_ix hN e1 (I.ok.inj _ _ _ e hc ▸ hi))
    · by_cases hcc : c' = c
      · subst hcc; exact ⟨_, hc'⟩
      · obtain ⟨w2, z2⟩ := I.cell y c' e
        exact ⟨w2, z2.sameBut hs hcc⟩
    · obtain ⟨e, n, ne, nf, d⟩ := I.pin p hp
      refine ⟨(hs.2 p.1 ?_).trans e, n, ne, nf, d⟩
      intro q
      rw [q, hoc] at e
      have q' : oc = p.2 := Option.some.inj e
      exact d w' (by rw [← q']; exact hocd)
theorem store_ok {M : Model} {A : Around} {E : Value → Shared → Prop} {i : Nat} {x : Str} {v : V} {u : Value} {Q : Unit → Shared → Prop} (I : Inv X pins σ H s) (hN : X.N.Nodup) (hi : X.N[i]? = some x) (hx : Loc X.env.scope x) (r : RelV v u)
    (h : ∀ s', Inv X pins (σ.set i (some v)) H s' → Q () s') (hf : X.fn x = true ∨ X.env.scope.names.lookup x = some .local := by first | exact .inl rfl | exact .inr rfl | assumption) : wpAny M A (storeName X.env x u) Q E s :=
  store_ok2 I hN hi hx r (fun s' I' _ => h s' I') hf
/-- behind a call or a block, the state as it is -/
theorem Inv.call' {s' : Shared} {ch : List Addr} (I : Inv X pins σ H s) (ho : s'.os = s.os) (u : Un (frs X.stack) ch H H' s.heap s'.heap) (hok : HOk X.prog X.w H' s'.heap) (hg : AllBare s'.gens)
    (hch : ∀ b ∈ ch, (b ∈ X.ex ∨ X.s₀.heap.objs.size ≤ b) ∧ b ≠ X.env.locals ∧ (∀ x c, X.env.cells.lookup x = some c → c ≠ b) ∧ ∀ p ∈ X.pn ++ pins, p.1 ≠ b) : Inv X pins σ H' s' := by
  obtain ⟨h', g', d', t', o'⟩ := s'
  have e : o' = s.os := ho
  subst e
  exact I.call (g' := g') (t' := t') (d' := d') u hok hg hch
end

/-! ### the judgements -/
/-- an exception: its class, its own dict's address (where it has one), the abstract heap behind it -/
abbrev XK := Value → Option Addr → Hp → Prop
abbrev St := List (Option V)
abbrev VK := V → Hp → Prop
/-- an expression's reading; a test's; an argument list's -/
abbrev TE := St → Hp → VK → Prop
abbrev TT := St → Hp → (Bool → Hp → Prop) → Prop
abbrev TA := St → Hp → (List V → Hp → Prop) → Prop
/-- what is wanted behind a statement -/
structure Ends where
  nx : St → Hp → Prop
  rt : VK
  bk : St → Hp → Prop := fun _ _ => False
  ct : St → Hp → Prop := fun _ _ => False
abbrev TS := Ends → St → Hp → Prop

def EP (X : Cx) (pins : List (Addr × Obj)) (σ : St) (Q : VK) (u : Value) (s' : Shared) : Prop := ∃ v H', Inv X pins σ H' s' ∧ RelV v u ∧ Q v H'
def TP (X : Cx) (pins : List (Addr × Obj)) (σ : St) (Q : Bool → Hp → Prop) (b : Bool) (s' : Shared) : Prop := ∃ H', Inv X pins σ H' s' ∧ Q b H'
def AP (X : Cx) (pins : List (Addr × Obj)) (σ : St) (Q : List V → Hp → Prop) (us : List Value) (s' : Shared) : Prop := ∃ vs H', Inv X pins σ H' s' ∧ Vals vs us ∧ Q vs H'
def SP (X : Cx) (pins : List (Addr × Obj)) (D : Ends) (f : Flow) (s' : Shared) : Prop :=
  match f with
  | .next => ∃ σ' H', Inv X pins σ' H' s' ∧ D.nx σ' H'
  | .brk => ∃ σ' H', Inv X pins σ' H' s' ∧ D.bk σ' H'
  | .cont => ∃ σ' H', Inv X pins σ' H' s' ∧ D.ct σ' H'
  | .ret u => ∃ v σ' H', Inv X pins σ' H' s' ∧ RelV v u ∧ D.rt v H'

structure PE (X : Cx) (e : Expr) (t : TE) : Prop where
  go : ∀ (pins : List (Addr × Obj)) (s : Shared) (σ : St) (H : Hp) (Q : VK), Inv X pins σ H s → t σ H Q → wpAny (model X.prog X.w) X.A (eval e X.env) (EP X pins σ Q) X.xe s
instance {X : Cx} {e : Expr} {t : TE} : CoeFun (PE X e t) (fun _ => ∀ (pins : List (Addr × Obj)) (s : Shared) (σ : St) (H : Hp) (Q : VK), Inv X pins σ H s → t σ H Q → wpAny (model X.prog X.w) X.A (eval e X.env) (EP X pins σ Q) X.xe s) := ⟨PE.go⟩
structure PT (X : Cx) (e : Expr) (t : TT) : Prop where
  go : ∀ (pins : List (Addr × Obj)) (s : Shared) (σ : St) (H : Hp) (Q : Bool → Hp → Prop), Inv X pins σ H s → t σ H Q → wpAny (model X.prog X.w) X.A (isTrue e X.env (eval e X.env)) (TP X pins σ Q) X.xe s
instance {X : Cx} {e : Expr} {t : TT} : CoeFun (PT X e t) (fun _ => ∀ (pins : List (Addr × Obj)) (s : Shared) (σ : St) (H : Hp) (Q : Bool → Hp → Prop), Inv X pins σ H s → t σ H Q → wpAny (model X.prog X.w) X.A (isTrue e X.env (eval e X.env)) (TP X pins σ Q) X.xe s) := ⟨PT.go⟩
/-- a test whatever its 'whole' is (and, or) -/
structure PW (X : Cx) (e : Expr) (t : TT) : Prop where
  go : ∀ (whole : Sem Value) (pins : List (Addr × Obj)) (s : Shared) (σ : St) (H : Hp) (Q : Bool → Hp → Prop), Inv X pins σ H s → t σ H Q → wpAny (model X.prog X.w) X.A (isTrue e X.env whole) (TP X pins σ Q) X.xe s
instance {X : Cx} {e : Expr} {t : TT} : CoeFun (PW X e t) (fun _ => ∀ (whole : Sem Value) (pins : List (Addr × Obj)) (s : Shared) (σ : St) (H : Hp) (Q : Bool → Hp → Prop), Inv X pins σ H s → t σ H Q → wpAny (model X.prog X.w) X.A (isTrue e X.env whole) (TP X pins σ Q) X.xe s) := ⟨PW.go⟩
theorem PW.pt {X : Cx} {e : Expr} {t : TT} (h : PW X e t) : PT X e t := .mk (h _)
/-- an argument list (no star), from the left -/
structure PA (X : Cx) (es : List Expr) (t : TA) : Prop where
  go : ∀ (pos : Pos) (pins : List (Addr × Obj)) (s : Shared) (σ : St) (H : Hp) (Q : List V → Hp → Prop), Inv X pins σ H s → t σ H Q → wpAny (model X.prog X.w) X.A (spliced (backTo pos (starEach es X.env))) (AP X pins σ Q) X.xe s
instance {X : Cx} {es : List Expr} {t : TA} : CoeFun (PA X es t) (fun _ => ∀ (pos : Pos) (pins : List (Addr × Obj)) (s : Shared) (σ : St) (H : Hp) (Q : List V → Hp → Prop), Inv X pins σ H s → t σ H Q → wpAny (model X.prog X.w) X.A (spliced (backTo pos (starEach es X.env))) (AP X pins σ Q) X.xe s) := ⟨PA.go⟩
structure PS (X : Cx) (st : Stmt) (t : TS) : Prop where
  go : ∀ (pins : List (Addr × Obj)) (s : Shared) (σ : St) (H : Hp) (D : Ends), Inv X pins σ H s → t D σ H → wpAny (model X.prog X.w) X.A (exec st X.env) (SP X pins D) X.xe s
instance {X : Cx} {st : Stmt} {t : TS} : CoeFun (PS X st t) (fun _ => ∀ (pins : List (Addr × Obj)) (s : Shared) (σ : St) (H : Hp) (D : Ends), Inv X pins σ H s → t D σ H → wpAny (model X.prog X.w) X.A (exec st X.env) (SP X pins D) X.xe s) := ⟨PS.go⟩
structure PSs (X : Cx) (st : List Stmt) (t : TS) : Prop where
  go : ∀ (pins : List (Addr × Obj)) (s : Shared) (σ : St) (H : Hp) (D : Ends), Inv X pins σ H s → t D σ H → wpAny (model X.prog X.w) X.A (execs st X.env) (SP X pins D) X.xe s
instance {X : Cx} {st : List Stmt} {t : TS} : CoeFun (PSs X st t) (fun _ => ∀ (pins : List (Addr × Obj)) (s : Shared) (σ : St) (H : Hp) (D : Ends), Inv X pins σ H s → t D σ H → wpAny (model X.prog X.w) X.A (execs st X.env) (SP X pins D) X.xe s) := ⟨PSs.go⟩
/-- weaken the end -/
theorem thn {α : Type} {t : Sem α} {Q Q' : α → Shared → Prop} {M : Model} {A : Around} {E : Value → Shared → Prop} {s : Shared} (h : wpAny M A t Q E s) (hQ : ∀ a s, Q a s → Q' a s) : wpAny M A t Q' E s := wpAny_mono h hQ fun _ _ x => x
end L2

namespace L2
open PySem PySem.Spec PyProof.Rows
section
variable {X : Cx}


/-! ### names and constants -/
inductive tVar (i : Nat) (σ : St) (H : Hp) (Q : VK) : Prop
  | mk (v : V) (e : σ[i]? = some (some v)) (q : Q v H) : tVar i σ H Q
abbrev tC (v : V) : TE := fun _ H Q => Q v H
theorem pe_var {i : Nat} {x : Str} {pos : Pos} (hN : X.N[i]? = some x) (hv : Vis X.env.scope x) (hd : (x == ("__debug__" : Str)) = false := by decide) (hcd : (x == ("__classdict__" : Str)) = false := by decide) : PE X (.Name x pos) (tVar i) := by
  refine ⟨?_⟩
  intro pins s σ H Q I h
  obtain ⟨v, e, h⟩ := h
  obtain ⟨m, hn, hl⟩ := I.loc
  obtain ⟨u, r, l⟩ := hl i x v hN e hv
  have fin : EP X pins σ Q u s := ⟨v, H, I, r, h⟩
  rcases l with ⟨hk, hm⟩ | ⟨hk, c, hc, hcell⟩
  · exact wpAny_Name (wpAny_loadName_local I.ok.kind hk hn hm fin) hd
  · rcases hk with hk | hk
    · exact wpAny_Name (wpAny_loadName_cell I.ok.kind hk hc hcell fin) hd
    · exact wpAny_Name (wpAny_loadName_free I.ok.kind hk hc hcell fin hcd) hd
theorem pe_int {i j pos} : PE X (.Constant (.int i) j pos) (tC (.int i)) := .mk fun _ _ _ H _ I h => wpAny_Constant_int ⟨.int i, H, I.tok _, ⟨_, rfl⟩, h⟩
theorem pe_bl {b j pos} : PE X (.Constant (.bool b) j pos) (tC (.bl b)) := .mk fun _ _ _ H _ I h => Constant_bool ⟨.bl b, H, I, rfl, h⟩
theorem pe_non {j pos} : PE X (.Constant .none j pos) (tC .non) := .mk fun _ _ _ H _ I h => Constant_none ⟨.non, H, I, rfl, h⟩
theorem pe_str {x j pos} : PE X (.Constant (.str x) j pos) (tC (.str x)) := .mk fun _ _ _ H _ I h => Calls.Constant_str ⟨.str x, H, I.tok _, ⟨_, rfl⟩, h⟩

/-- a global name of the def -/
def Gl (X : Cx) (x : Str) : Prop := X.env.kindOf x = some .globalImplicit
theorem ld_glob {E : Value → Shared → Prop} {pins : List (Addr × Obj)} {s : Shared} {σ : St} {H : Hp} {x : Str} {u : Value} {pos : Pos} {Q : Value → Shared → Prop} (I : Inv X pins σ H s) (hg : Gl X x) (hm : X.mg x = some u) (h : Q u s)
    (hd : (x == ("__debug__" : Str)) = false := by decide) : wpAny (model X.prog X.w) X.A (eval (.Name x pos) X.env) Q E s :=
  Calls.Name_function_global I.ok.kind hg (Calls.loadGlobal_global (by rw [I.ok.glob]; exact I.mod.glob.keeps I.bk) hm h) hd
theorem ld_blt {E : Value → Shared → Prop} {pins : List (Addr × Obj)} {s : Shared} {σ : St} {H : Hp} {x : Str} {u : Value} {pos : Pos} {Q : Value → Shared → Prop} (I : Inv X pins σ H s) (hg : Gl X x) (hm : X.mg x = none) (hv : bootBuiltins x = some u) (h : Q u s)
    (hn : x ≠ "__name__" := by decide) (hd : (x == ("__debug__" : Str)) = false := by decide) : wpAny (model X.prog X.w) X.A (eval (.Name x pos) X.env) Q E s := by
  obtain ⟨mb, h1, h2⟩ := I.mod.blt
  exact Calls.Name_function_global I.ok.kind hg (Calls.loadGlobal_builtin (by rw [I.ok.glob]; exact I.mod.glob.keeps I.bk) hm (by rw [I.ok.blt]; exact h1.keeps I.bk) ((h2 x hn).trans hv) h) hd
/-- a module's constant, a class, a function, as a value -/
theorem pe_glob {x : Str} {v : V} {u : Value} {pos : Pos} (hg : Gl X x) (hm : X.mg x = some u) (r : RelV v u) (hd : (x == ("__debug__" : Str)) = false := by decide) : PE X (.Name x pos) (tC v) := .mk
  fun _ _ _ H _ I h => ld_glob I hg hm ⟨v, H, I, r, h⟩ hd
theorem pe_bltn {x : Str} {v : V} {u : Value} {pos : Pos} (hg : Gl X x) (hm : X.mg x = none) (hv : bootBuiltins x = some u) (r : RelV v u) (hn : x ≠ "__name__" := by decide) (hd : (x == ("__debug__" : Str)) = false := by decide) : PE X (.Name x pos) (tC v) := .mk
  fun _ _ _ H _ I h => ld_blt I hg hm hv ⟨v, H, I, r, h⟩ hn hd

/-! ### arithmetic -/
variable {a b : Expr} {ta tb : TE} {pos : Pos}

/-! ### comparisons -/
def PC (X : Cx) (op : CmpOp) (a b : Expr) (t : TE) : Prop :=
  ∀ (pins : List (Addr × Obj)) (s : Shared) (σ : St) (H : Hp) (Q : VK), Inv X pins σ H s → t σ H Q →
    wpAny (model X.prog X.w) X.A (eval a X.env) (fun v s₁ => wpAny (model X.prog X.w) X.A (eval b X.env) (fun u s₂ => wpAny (model X.prog X.w) X.A (compareOp op v u) (EP X pins σ Q) X.xe s₂) X.xe s₁) X.xe s
/-- a comparison as a value, as a test -/
inductive tBx (x : V) (H1 : Hp) (Q : Bool → Hp → Prop) : Prop
  | mk (c : Bool) (e : x = .bl c) (q : Q c H1) : tBx x H1 Q
def tB (t : TE) : TT := fun σ H Q => t σ H fun x H1 => tBx x H1 Q
theorem pe_cmp {op : CmpOp} {t : TE} (h : PC X op a b t) (h1 : behindInMarks op b = false := by first | exact nobehind _ (by decide) (by decide) | rfl) : PE X (.Compare a [op] [b] pos) t := .mk fun pins s σ H Q I hw => wpAny_Compare1 (h pins s σ H Q I hw) h1
/-- an expression whose value is a bool, as a test -/
theorem pt_val {e : Expr} {t : TE} (h : PE X e t) (he : ∀ whole, isTrue e X.env whole = (do let v ← whole; standAt e.pos; holding [v] (truthy v)) := by intro _; rfl) : PT X e (tB t) := by
  refine ⟨?_⟩
  intro pins s σ H Q I hw
  refine isTrue_plain (thn (h pins s σ H _ I hw) fun v s1 ⟨x, H1, I1, r1, q1⟩ => ?_) (he _)
  obtain ⟨d, rfl, q⟩ := q1
  cases r1
  exact wpAny_truthy_bool ⟨H1, I1, q⟩

/-! ### and, or, not -/
variable {tA tB' : TT} {rest : List Expr}
def tAnd (t u : TT) : TT := fun σ H Q => t σ H fun c H1 => if c = true then u σ H1 Q else Q false H1
def tOr (t u : TT) : TT := fun σ H Q => t σ H fun c H1 => if c = true then Q true H1 else u σ H1 Q
def tNot (t : TT) : TT := fun σ H Q => t σ H fun c H1 => Q (!c) H1
theorem pw_and1 (ha : PT X a tA) : PW X (.BoolOp .And [a] pos) tA := by
  refine ⟨?_⟩
  intro wh pins s σ H Q I h
  refine isTrue_and (thn (ha pins s σ H Q I h) fun c s1 e => ?_)
  cases c with
  | true => exact isTrue_and_nil e
  | false => exact e
theorem pw_or1 (ha : PT X a tA) : PW X (.BoolOp .Or [a] pos) tA := by
  refine ⟨?_⟩
  intro wh pins s σ H Q I h
  refine isTrue_or (thn (ha pins s σ H Q I h) fun c s1 e => ?_)
  cases c with
  | false => exact isTrue_or_nil e
  | true => exact e
theorem pw_and (ha : PT X a tA) (hb : PW X (.BoolOp .And (b :: rest) pos) tB') : PW X (.BoolOp .And (a :: b :: rest) pos) (tAnd tA tB') := by
  refine ⟨?_⟩
  intro wh pins s σ H Q I h
  refine isTrue_and (thn (ha pins s σ H _ I h) fun c s1 ⟨H1, I1, q1⟩ => ?_)
  cases c with
  | true => exact hb wh pins s1 σ H1 Q I1 q1
  | false => exact ⟨H1, I1, q1⟩
theorem pw_or (ha : PT X a tA) (hb : PW X (.BoolOp .Or (b :: rest) pos) tB') : PW X (.BoolOp .Or (a :: b :: rest) pos) (tOr tA tB') := by
  refine ⟨?_⟩
  intro wh pins s σ H Q I h
  refine isTrue_or (thn (ha pins s σ H _ I h) fun c s1 ⟨H1, I1, q1⟩ => ?_)
  cases c with
  | true => exact ⟨H1, I1, q1⟩
  | false => exact hb wh pins s1 σ H1 Q I1 q1
theorem pt_not (ha : PT X a tA) : PT X (.UnaryOp .Not a pos) (tNot tA) := by
  refine ⟨?_⟩
  intro pins s σ H Q I h
  exact isTrue_not (ha pins s σ H (fun c H1 => Q (!c) H1) I h)
/-- .. as values (bools) -/
inductive tAndX (tb : TE) (σ : St) (x : V) (H1 : Hp) (Q : VK) : Prop
  | mk (c : Bool) (e : x = .bl c) (q : if c = true then tb σ H1 Q else Q (.bl false) H1) : tAndX tb σ x H1 Q
def tAndV (ta tb : TE) : TE := fun σ H Q => ta σ H fun x H1 => tAndX tb σ x H1 Q
def tNotV (ta : TE) : TE := fun σ H Q => ta σ H fun x H1 => ∃ c, x = .bl c ∧ Q (.bl (!c)) H1
theorem pe_one {op} {t : TE} (h : PE X a t) : PE X (.BoolOp op [a] pos) t := .mk fun pins s σ H Q I hw => BoolOp_one (h pins s σ H Q I hw)
theorem pe_and (ha : PE X a ta) (hb : PE X (.BoolOp .And (b :: rest) pos) tb) : PE X (.BoolOp .And (a :: b :: rest) pos) (tAndV ta tb) := by
  refine ⟨?_⟩
  intro pins s σ H Q I h
  refine BoolOp_and (thn (ha pins s σ H _ I h) fun v s1 ⟨x, H1, I1, r1, q1⟩ => ?_)
  obtain ⟨c, rfl, q1⟩ := q1
  cases r1
  refine wpAny_truthy_bool ?_
  cases c with
  | true => exact hb pins s1 σ H1 Q I1 q1
  | false => exact ⟨.bl false, H1, I1, rfl, q1⟩
theorem pe_not (ha : PE X a ta) : PE X (.UnaryOp .Not a pos) (tNotV ta) := by
  refine ⟨?_⟩
  intro pins s σ H Q I h
  refine UnaryOp_ (thn (ha pins s σ H _ I h) fun v s1 ⟨x, H1, I1, r1, q1⟩ => ?_)
  obtain ⟨c, rfl, q1⟩ := q1
  cases r1
  exact not_of (wpAny_truthy_bool ⟨.bl (!c), H1, I1, rfl, q1⟩)
end
end L2

namespace L2
open PySem PySem.Spec PyProof.Rows

/-! ### a list, a tuple that is read: tracked, frozen, or an object of the module -/
def SqL (K : PySem.W.Frag) (H : Hp) (a : Addr) (xs : List V) : Prop :=
  Rd H a (.lst xs) ∨
    ∃ (o : Obj) (its : Array Value) (n : Nat), K.lookup a = some o ∧ o.cls = .type "list" ∧ o.dict = none ∧ o.data = .seq its n ∧ its.size ≤ sizeLine ∧ Vals xs its.toList
def SqT (K : PySem.W.Frag) (H : Hp) (a : Addr) (xs : List V) : Prop :=
  Rd H a (.tup xs) ∨
    ∃ (o : Obj) (its : Array Value) (n : Nat), K.lookup a = some o ∧ o.cls = .type "tuple" ∧ o.data = .seq its n ∧ its.size ≤ sizeLine ∧ Vals xs its.toList
def absV : Value → Option V
  | .none => some .non
  | .bool b => some (.bl b)
  | .int i _ => some (.int i)
  | .str x _ => some (.str x)
  | .bytes b _ => some (.byt b)
  | .float b _ => some (.flt b)
  | .ref a => some (.ref a)
  | .type n => some (.ty n)
  | _ => none
theorem RelV.abs {x : V} {u : Value} (r : RelV x u) : absV u = some x := by
  cases x with
  | non => cases r; rfl
  | bl _ => cases r; rfl
  | int _ => obtain ⟨t, rfl⟩ := r; rfl
  | str _ => obtain ⟨t, rfl⟩ := r; rfl
  | byt _ => obtain ⟨t, rfl⟩ := r; rfl
  | flt _ => obtain ⟨t, rfl⟩ := r; rfl
  | ref _ => cases r; rfl
  | ty _ => cases r; rfl
theorem RelV.inj {x y : V} {u : Value} (r : RelV x u) (q : RelV y u) : x = y := Option.some.inj (r.abs.symm.trans q.abs)
theorem Vals.inj : ∀ {xs ys : List V} {us : List Value}, Vals xs us → Vals ys us → xs = ys
  | _, _, _, .nil, .nil => rfl
  | _, _, _, .cons r t, .cons r' t' => by rw [r.inj r', Vals.inj t t']
section
variable {X : Cx} {pins : List (Addr × Obj)} {σ : St} {H : Hp} {s : Shared} {a : Addr} {xs ys : List V}
theorem SqL.of {K : PySem.W.Frag} (h : H a = some (.lst xs)) : SqL K H a xs := .inl (.inl h)
theorem SqT.of {K : PySem.W.Frag} (h : H a = some (.tup xs)) : SqT K H a xs := .inl (.inl h)
theorem Inv.list (I : Inv X pins σ H s) (h : SqL X.K H a xs) : ∃ its : List Value, Vals xs its ∧ PlainL s.heap a its.toArray ∧ xs.length ≤ sizeLine := by
  rcases h with h | ⟨o, its, n, hk, hc, hd, hs, hz, r⟩
  · obtain ⟨z, its, n, r, e⟩ := h.ok I.hok
    exact ⟨its, r, ⟨_, n, e, rfl, rfl, rfl⟩, z⟩
  · refine ⟨its.toList, r, ⟨o, n, I.kIn a o hk, hc, hd, by simpa using hs⟩, ?_⟩
    have e := r.length
    simp only [Array.length_toList] at e
    omega
theorem Inv.tuple (I : Inv X pins σ H s) (h : SqT X.K H a xs) : ∃ its : List Value, Vals xs its ∧ IsTup s.heap a its.toArray ∧ xs.length ≤ sizeLine := by
  rcases h with h | ⟨o, its, n, hk, hc, hs, hz, r⟩
  · obtain ⟨z, its, r, p⟩ := h.ok I.hok
    exact ⟨its, r, p, z⟩
  · refine ⟨its.toList, r, ⟨o, I.kIn a o hk, hc, n, by simpa using hs⟩, ?_⟩
    have e := r.length
    simp only [Array.length_toList] at e
    omega
theorem Inv.list_inj (I : Inv X pins σ H s) (h : SqL X.K H a xs) (h' : SqL X.K H a ys) : xs = ys := by
  obtain ⟨its, r, ⟨o, n, e, _, _, d⟩, _⟩ := I.list h
  obtain ⟨its', r', ⟨o', n', e', _, _, d'⟩, _⟩ := I.list h'
  rw [e] at e'; cases e'
  rw [d] at d'
  injection d' with d1 _
  have : its = its' := by simpa using congrArg Array.toList d1
  subst this
  exact r.inj r'
theorem Inv.tuple_inj (I : Inv X pins σ H s) (h : SqT X.K H a xs) (h' : SqT X.K H a ys) : xs = ys := by
  obtain ⟨its, r, ⟨o, e, _, n, d⟩, _⟩ := I.tuple h
  obtain ⟨its', r', ⟨o', e', _, n', d'⟩, _⟩ := I.tuple h'
  rw [e] at e'; cases e'
  rw [d] at d'
  injection d' with d1 _
  have : its = its' := by simpa using congrArg Array.toList d1
  subst this
  exact r.inj r'
end

/-! ### another wish about exceptions -/
abbrev Cx.wish (X : Cx) (E : Value → Shared → Prop) : Cx := { X with xe := E }
/-- no exception leaves -/
abbrev Cx.nox (X : Cx) : Cx := X.wish fun _ _ => False
theorem Cx.Ok.wish {X : Cx} (ok : X.Ok) (E : Value → Shared → Prop) : (X.wish E).Ok :=
  ⟨ok.mod, ok.kind, ok.glob, ok.blt, ok.above, ok.inj, ok.has, ok.cab, ok.hd, ok.frames, ok.stk, ok.exf, ok.bs, ok.bsz, ok.noex, ok.exfs, ok.funs, ok.frf⟩
theorem Cx.Ok.unwish {X : Cx} {E : Value → Shared → Prop} (ok : (X.wish E).Ok) : X.Ok :=
  ⟨ok.mod, ok.kind, ok.glob, ok.blt, ok.above, ok.inj, ok.has, ok.cab, ok.hd, ok.frames, ok.stk, ok.exf, ok.bs, ok.bsz, ok.noex, ok.exfs, ok.funs, ok.frf⟩
section
variable {X : Cx} {pins : List (Addr × Obj)} {σ : St} {H : Hp} {s : Shared} {E : Value → Shared → Prop}
theorem Inv.wish (I : Inv X pins σ H s) (E : Value → Shared → Prop) : Inv (X.wish E) pins σ H s := ⟨I.ok.wish E, I.os, I.bare, I.base, I.loc, I.cell, I.free, I.freeC, I.pin, I.hok, I.len⟩
theorem Inv.unwish (I : Inv (X.wish E) pins σ H s) : Inv X pins σ H s := ⟨I.ok.unwish, I.os, I.bare, I.base, I.loc, I.cell, I.free, I.freeC, I.pin, I.hok, I.len⟩
theorem SP.unwish {D : Ends} {f : Flow} {s' : Shared} (h : SP (X.wish E) pins D f s') : SP X pins D f s' := by
  cases f with
  | next => obtain ⟨σ', H', I, q⟩ := h; exact ⟨σ', H', I.unwish, q⟩
  | brk => obtain ⟨σ', H', I, q⟩ := h; exact ⟨σ', H', I.unwish, q⟩
  | cont => obtain ⟨σ', H', I, q⟩ := h; exact ⟨σ', H', I.unwish, q⟩
  | ret u => obtain ⟨v, σ', H', I, r, q⟩ := h; exact ⟨v, σ', H', I.unwish, r, q⟩
theorem PSs.nox {st : List Stmt} {t : TS} (h : PSs X.nox st t) : PSs X st t := .mk fun pins s σ H D I hw =>
  wpAny_mono (h pins s σ H D (I.wish _) hw) (fun _ _ q => q.unwish) fun _ _ z => False.elim z
end

/-! ### blocks and small statements -/
section
variable {X : Cx} {st : Stmt} {rest : List Stmt} {t u : TS} {e : Expr} {te : TE} {pos : Pos}
def tNext : TS := fun D σ H => D.nx σ H
def tSeq (t u : TS) : TS := fun D σ H => t { D with nx := u D } σ H
theorem pss_nil : PSs X [] tNext := .mk fun _ _ σ H _ I h => wpAny_execs_nil ⟨σ, H, I, h⟩
theorem pss_cons (h1 : PS X st t) (h2 : PSs X rest u) : PSs X (st :: rest) (tSeq t u) := by
  refine ⟨?_⟩
  intro pins s σ H D I h
  refine wpAny_execs_cons (thn (h1 pins s σ H { D with nx := u D } I h) fun f s1 q => ?_)
  cases f with
  | next =>
    obtain ⟨σ', H', I', q⟩ := q
    exact h2 pins s1 σ' H' D I' q
  | ret v => exact q
  | brk => exact q
  | cont => exact q
theorem pss_one (h1 : PS X st t) : PSs X [st] t := by
  refine ⟨?_⟩
  intro pins s σ H D I h
  refine wpAny_execs_cons (thn (h1 pins s σ H D I h) fun f s1 q => ?_)
  cases f with
  | next => exact wpAny_execs_nil q
  | ret v => exact q
  | brk => exact q
  | cont => exact q
/-- in a def's body nothing is shown -/
theorem Inv.quiet {pins : List (Addr × Obj)} {σ : St} {H : Hp} {s : Shared} (I : Inv X pins σ H s) : interactive X.env = false := by simp [interactive, I.ok.kind]
/-- an expression whose value is dropped -/
def tDrop (te : TE) : TS := fun D σ H => te σ H fun _ H1 => D.nx σ H1
theorem ps_expr (he : PE X e te) (hs : swapsWith e none pos.line X.env = pure false := by rfl) : PS X (.Expr e pos) (tDrop te) := by
  refine ⟨?_⟩
  intro pins s σ H D I h
  exact wpAny_Expr_any (thn (he pins s σ H _ I h) fun v s1 ⟨x, H1, I1, r1, q1⟩ => ⟨σ, H1, I1, q1⟩) I.quiet hs
def tRet (te : TE) : TS := fun D σ H => te σ H D.rt
theorem ps_ret (he : PE X e te) : PS X (.Return (some e) pos) (tRet te) := by
  refine ⟨?_⟩
  intro pins s σ H D I h
  exact wpAny_Return_some (thn (he pins s σ H _ I h) fun v s1 ⟨x, H1, I1, r1, q1⟩ => ⟨x, σ, H1, I1, r1, q1⟩)
def tIfS (c : TT) (t u : TS) : TS := fun D σ H => c σ H fun b H1 => if b = true then t D σ H1 else u D σ H1
theorem ps_if {c : Expr} {a b : List Stmt} {tc : TT} (hc : PT X c tc) (ha : PSs X a t) (hb : PSs X b u) : PS X (.If c a b pos) (tIfS tc t u) := by
  refine ⟨?_⟩
  intro pins s σ H D I h
  refine wpAny_If (thn (hc pins s σ H _ I h) fun d s1 ⟨H1, I1, q1⟩ => ?_)
  cases d with
  | true => exact ha pins s1 σ H1 D I1 q1
  | false => exact hb pins s1 σ H1 D I1 q1
/-- code that the proof never comes to -/
def tNever : TS := fun _ _ _ => False
theorem pss_never {sts : List Stmt} : PSs X sts tNever := .mk fun _ _ _ _ _ _ h => h.elim
end

/-! ### targets -/
abbrev TG := V → St → Hp → (St → Hp → Prop) → Prop
abbrev TGs := List V → St → Hp → (St → Hp → Prop) → Prop
def PG (X : Cx) (target : Expr) (t : TG) : Prop :=
  ∀ (pins : List (Addr × Obj)) (s : Shared) (σ : St) (H : Hp) (v : V) (u : Value) (Q : St → Hp → Prop), Inv X pins σ H s → RelV v u → t v σ H Q →
    wpAny (model X.prog X.w) X.A (assign target X.env u) (fun _ s' => ∃ σ' H', Inv X pins σ' H' s' ∧ Q σ' H') X.xe s
/-- several targets, one after another -/
def PGs (X : Cx) (ts : List Expr) (t : TGs) : Prop :=
  ∀ (pins : List (Addr × Obj)) (s : Shared) (σ : St) (H : Hp) (vs : List V) (us : List Value) (Q : St → Hp → Prop), Inv X pins σ H s → Vals vs us → t vs σ H Q →
    wpAny (model X.prog X.w) X.A (assignInOrder ((assignEach ts X.env).map (·.2)) us) (fun _ s' => ∃ σ' H', Inv X pins σ' H' s' ∧ Q σ' H') X.xe s
/-- o[i] = v, by values -/
abbrev TSet := V → V → V → Hp → (Hp → Prop) → Prop
def PSet (X : Cx) (t : TSet) : Prop :=
  ∀ (pins : List (Addr × Obj)) (s : Shared) (σ : St) (H : Hp) (o i v : V) (ov iv u : Value) (Q : Hp → Prop), Inv X pins σ H s → RelV o ov → RelV i iv → RelV v u → t o i v H Q →
    wpAny (model X.prog X.w) X.A (setItem ov iv u) (fun _ s' => ∃ H', Inv X pins σ H' s' ∧ Q H') X.xe s
/-- a op= b, by values -/
abbrev TIp := V → V → Hp → VK → Prop
def PIp (X : Cx) (op : Operator) (t : TIp) : Prop :=
  ∀ (pins : List (Addr × Obj)) (s : Shared) (σ : St) (H : Hp) (x y : V) (v u : Value) (Q : VK), Inv X pins σ H s → RelV x v → RelV y u → t x y H Q →
    wpAny (model X.prog X.w) X.A (inplaceOp op v u) (EP X pins σ Q) X.xe s
section
variable {X : Cx} {pos : Pos}
def gName (i : Nat) : TG := fun v σ H Q => Q (σ.set i (some v)) H
theorem pg_name {i : Nat} {x : Str} (hN : X.N.Nodup) (hi : X.N[i]? = some x) (hx : Loc X.env.scope x) (hf : X.fn x = true ∨ X.env.scope.names.lookup x = some .local := by first | exact .inl rfl | exact .inr rfl | assumption) : PG X (.Name x pos) (gName i) := by
  intro pins s σ H v u Q I r h
  exact wpAny_assign_Name (store_ok I hN hi hx r (fun s' I' => ⟨_, H, I', h⟩) hf)
def gNil : TGs := fun vs σ H Q => vs = [] ∧ Q σ H
inductive gCons (t : TG) (u : TGs) (vs : List V) (σ : St) (H : Hp) (Q : St → Hp → Prop) : Prop
  | mk (v : V) (r : List V) (e : vs = v :: r) (q : t v σ H fun σ' H' => u r σ' H' Q) : gCons t u vs σ H Q
theorem pgs_nil : PGs X [] gNil := by
  intro pins s σ H vs us Q I r h
  obtain ⟨e, h⟩ := h
  subst e
  cases r
  exact assignInOrder_nil ⟨σ, H, I, h⟩
theorem pgs_cons {e : Expr} {es : List Expr} {t : TG} {u : TGs} (h1 : PG X e t) (h2 : PGs X es u)
    (hs : (assignEach (e :: es) X.env).map (·.2) = assign e X.env :: (assignEach es X.env).map (·.2) := by rfl) : PGs X (e :: es) (gCons t u) := by
  intro pins s σ H vs us Q I r h
  obtain ⟨v, vr, e1, h⟩ := h
  subst e1
  cases r with
  | cons r rr =>
    rw [hs]
    refine assignInOrder_cons (thn (h1 pins s σ H _ _ _ I r h) fun _ s1 ⟨σ1, H1, I1, q1⟩ => ?_)
    exact h2 pins s1 σ1 H1 _ _ Q I1 rr q1
/-- (a, b, ..) = a tuple of that length -/
inductive gTup (K : PySem.W.Frag) (n : Nat) (t : TGs) (v : V) (σ : St) (H : Hp) (Q : St → Hp → Prop) : Prop
  | mk (a : Addr) (xs : List V) (e : v = .ref a) (h : SqT K H a xs) (l : xs.length = n) (q : t xs σ H Q) : gTup K n t v σ H Q
theorem pg_tup {es : List Expr} {k : Nat} {t : TGs} {n : Nat} (hc : X.calm = true) (h : PGs X es t)
    (hn : (assignEach es X.env).length = n := by rfl) (hst : (assignEach es X.env).findIdx? (·.1) = none := by rfl) : PG X (.Tuple es k pos) (gTup X.K n t) := by
  intro pins s σ H v u Q I r hw
  obtain ⟨a, xs, e1, hq, hl, hw⟩ := hw
  subst e1
  cases r
  obtain ⟨its, rv, ht, hz⟩ := I.tuple hq
  refine assign_Tuple_tuple (I.ok.hd hc) ht (by simp [hn, ← hl, rv.length]) hst fun h' hx => ?_
  have I1 : Inv X pins σ H { s with heap := h' } := I.kept (t' := s.toks) fun b o e => hx b o (Nat.ne_of_lt (Heap.lt_size e)) e
  exact h pins _ σ H xs _ Q I1 (by simpa using rv) hw
/-- o[i] = .. -/
def gSub (to ti : TE) (t : TSet) : TG := fun v σ H Q => to σ H fun o H1 => ti σ H1 fun i H2 => t o i v H2 fun H3 => Q σ H3
theorem pg_sub {o i : Expr} {to ti : TE} {t : TSet} (ho : PE X o to) (hi : PE X i ti) (hs : PSet X t)
    (ha : ∀ v, assign (.Subscript o i pos) X.env v = (do
      let ov ← holding [v] (eval o X.env)
      let iv ← holding [v, ov] (eval i X.env)
      standAt pos
      holding [v, ov, iv] (setItem ov iv v)
      release [v, ov, iv] []) := by intro _; rfl) : PG X (.Subscript o i pos) (gSub to ti t) := by
  intro pins s σ H v u Q I r h
  rw [ha]
  refine wpAny_bind (wpAny_holding (thn (ho pins s σ H _ I h) fun ov s1 ⟨x, H1, I1, r1, q1⟩ => ?_))
  refine wpAny_bind (wpAny_holding (thn (hi pins s1 σ H1 _ I1 q1) fun iv s2 ⟨y, H2, I2, r2, q2⟩ => ?_))
  refine wpAny_bind (wpAny_standAt (wpAny_bind (wpAny_holding (thn (hs pins s2 σ H2 x y v ov iv u _ I2 r1 r2 r q2) fun _ s3 ⟨H3, I3, q3⟩ => ?_))))
  exact wpAny_release ⟨σ, H3, I3, q3⟩
/-- target = value -/
def tAsg (te : TE) (g : TG) : TS := fun D σ H => te σ H fun x H1 => g x σ H1 D.nx
theorem ps_asg {tg e : Expr} {te : TE} {g : TG} (he : PE X e te) (hg : PG X tg g) (hs : swapsWithSole [tg] e pos.line X.env = pure false := by rfl) (hw : swappedStores [tg] e X.env = pure none := by rfl)
    (h1 : (assignEach [tg] X.env).map (·.2) = [assign tg X.env] := by rfl) : PS X (.Assign [tg] e pos) (tAsg te g) := by
  refine ⟨?_⟩
  intro pins s σ H D I h
  refine wpAny_Assign_stores (thn (he pins s σ H _ I h) fun v s1 ⟨x, H1, I1, r1, q1⟩ => ?_) hs hw
  rw [h1]
  exact thn (hg pins s1 σ H1 x v _ I1 r1 q1) fun _ s2 q => q
/-- name = value -/
theorem ps_set {i : Nat} {x : Str} {e : Expr} {te : TE} {pos' : Pos} (hN : X.N.Nodup) (hi : X.N[i]? = some x) (hx : Loc X.env.scope x) (he : PE X e te) (hs : swapsWith e (some (.Name x pos')) pos.line X.env = pure false := by rfl) (hf : X.fn x = true ∨ X.env.scope.names.lookup x = some .local := by first | exact .inl rfl | exact .inr rfl | assumption) :
    PS X (.Assign [.Name x pos'] e pos) (tAsg te (gName i)) := by
  refine ⟨?_⟩
  intro pins s σ H D I h
  refine wpAny_Assign_Name (thn (he pins s σ H _ I h) fun v s1 ⟨y, H1, I1, r1, q1⟩ => ?_) hs
  exact store_ok I1 hN hi hx r1 (fun s2 I2 => ⟨_, H1, I2, q1⟩) hf
/-- name op= e -/
def tAug (i : Nat) (te : TE) (ti : TIp) : TS := fun D σ H => ∃ x, σ[i]? = some (some x) ∧ te σ H fun y H1 => ti x y H1 fun z H2 => D.nx (σ.set i (some z)) H2
theorem ps_aug {i : Nat} {x : Str} {e : Expr} {te : TE} {op : Operator} {ti : TIp} {pos' : Pos} (hN : X.N.Nodup) (hi : X.N[i]? = some x) (hx : Loc X.env.scope x) (he : PE X e te) (ho : PIp X op ti) (hf : X.fn x = true ∨ X.env.scope.names.lookup x = some .local := by first | exact .inl rfl | exact .inr rfl | assumption) :
    PS X (.AugAssign (.Name x pos') op e pos) (tAug i te ti) := by
  refine ⟨?_⟩
  intro pins s σ H D I h
  obtain ⟨v, e1, h⟩ := h
  obtain ⟨m, hn, hl⟩ := I.loc
  have vis : Vis X.env.scope x := by rcases hx with k | k; exact .inl k; exact .inr (.inl k)
  obtain ⟨u, r, l⟩ := hl i x v hi e1 vis
  refine wpAny_AugAssign_Name ?_
  have go : wpAny (model X.prog X.w) X.A (eval e X.env) (fun w s₂ => wpAny (model X.prog X.w) X.A (inplaceOp op u w) (fun r s₃ => wpAny (model X.prog X.w) X.A (storeName X.env x r) (fun _ => SP X pins D .next) X.xe s₃) X.xe s₂) X.xe s := by
    refine thn (he pins s σ H _ I h) fun w s1 ⟨y, H1, I1, r1, q1⟩ => ?_
    refine thn (ho pins s1 σ H1 v y u w _ I1 r r1 q1) fun z s2 ⟨zv, H2, I2, r2, q2⟩ => ?_
    exact store_ok I2 hN hi hx r2 (fun s3 I3 => ⟨_, H2, I3, q2⟩) hf
  rcases l with ⟨hk, hm⟩ | ⟨hk, c, hc, hcell⟩
  · exact wpAny_loadName_local I.ok.kind hk hn hm go
  · rcases hk with hk | hk
    · exact wpAny_loadName_cell I.ok.kind hk hc hcell go
    · rcases hx with k | k
      · have : X.env.scope.names.lookup x = some .free := hk
        rw [k] at this; cases this
      · have : X.env.scope.names.lookup x = some .free := hk
        rw [k] at this; cases this
/-- o[i] op= e -/
def tAugS (to ti te : TE) (tget : V → V → Hp → VK → Prop) (tip : TIp) (tset : TSet) : TS := fun D σ H => to σ H fun o H1 => ti σ H1 fun i H2 => tget o i H2 fun x H3 => te σ H3 fun y H4 => tip x y H4 fun z H5 => tset o i z H5 fun H6 => D.nx σ H6
/-- o[i], by values -/
def PGet (X : Cx) (t : V → V → Hp → VK → Prop) : Prop :=
  ∀ (pins : List (Addr × Obj)) (s : Shared) (σ : St) (H : Hp) (o i : V) (ov iv : Value) (Q : VK), Inv X pins σ H s → RelV o ov → RelV i iv → t o i H Q →
    wpAny (model X.prog X.w) X.A (getItem ov iv) (EP X pins σ Q) X.xe s
theorem ps_augS {o i e : Expr} {to ti te : TE} {tget : V → V → Hp → VK → Prop} {tip : TIp} {tset : TSet} {op : Operator} {tpos : Pos} (ho : PE X o to) (hi : PE X i ti) (hg : PGet X tget) (he : PE X e te) (hp : PIp X op tip) (hs : PSet X tset)
    (ha : ∀ ov iv new, augStore i ov iv new = (do holding [new, ov, iv] (setItem ov iv new); release [new, ov, iv] []; pure .next) := by intros; rfl) : PS X (.AugAssign (.Subscript o i tpos) op e pos) (tAugS to ti te tget tip tset) := by
  refine ⟨?_⟩
  intro pins s σ H D I h
  refine wpAny_AugAssign_SubscriptAny (thn (ho pins s σ H _ I h) fun ov s1 ⟨x1, H1, I1, r1, q1⟩ => ?_) ha
  refine thn (hi pins s1 σ H1 _ I1 q1) fun iv s2 ⟨x2, H2, I2, r2, q2⟩ => ?_
  refine thn (hg pins s2 σ H2 x1 x2 ov iv _ I2 r1 r2 q2) fun old s3 ⟨x3, H3, I3, r3, q3⟩ => ?_
  refine thn (he pins s3 σ H3 _ I3 q3) fun v s4 ⟨x4, H4, I4, r4, q4⟩ => ?_
  refine thn (hp pins s4 σ H4 x3 x4 old v _ I4 r3 r4 q4) fun new s5 ⟨x5, H5, I5, r5, q5⟩ => ?_
  exact thn (hs pins s5 σ H5 x1 x2 x5 ov iv new _ I5 r1 r2 r5 q5) fun _ s6 ⟨H6, I6, q6⟩ => ⟨σ, H6, I6, q6⟩
/-- ints -/
def ipI (f : Int → Int → Int) : TIp := fun x y H Q => ∃ i j, x = .int i ∧ y = .int j ∧ Q (.int (f i j)) H
theorem ip_add : PIp X .Add (ipI fun i j => i + j) := by
  intro pins s σ H x y v u Q I r1 r2 h
  obtain ⟨i, j, e1, e2, q⟩ := h
  subst e1; subst e2
  obtain ⟨t, rfl⟩ := r1
  obtain ⟨t', rfl⟩ := r2
  exact iadd_int ⟨.int _, H, I.tok _, ⟨_, rfl⟩, q⟩
theorem ip_sub : PIp X .Sub (ipI fun i j => i - j) := by
  intro pins s σ H x y v u Q I r1 r2 h
  obtain ⟨i, j, e1, e2, q⟩ := h
  subst e1; subst e2
  obtain ⟨t, rfl⟩ := r1
  obtain ⟨t', rfl⟩ := r2
  exact isub_int ⟨.int _, H, I.tok _, ⟨_, rfl⟩, q⟩
end

/-! ### while -/
section
variable {X : Cx} {pos : Pos}
/-- the invariant W with its measure -/
def tWhile (c : TT) (tb : TS) : TS := fun D σ H => ∃ W : Nat → St → Hp → Prop, (∃ m, W m σ H) ∧ ∀ m σ H, W m σ H →
  c σ H fun b H1 => if b = true then ∃ N : St → Hp → Prop, (∀ σ' H', N σ' H' → ∃ m', m' < m ∧ W m' σ' H') ∧ tb { D with nx := N, ct := N, bk := D.nx } σ H1 else D.nx σ H1
theorem ps_while {c : Expr} {body : List Stmt} {tc : TT} {tb : TS} (hp : PassesOwn (model X.prog X.w) X.A X.env X.xe) (hc : PT X c tc) (hb : PSs X body tb) : PS X (.While c body [] pos) (tWhile tc tb) := by
  refine ⟨?_⟩
  intro pins s σ H D I h
  obtain ⟨W, ⟨m0, w0⟩, turn⟩ := h
  refine wpAny_While (codeAny_whileLoop (fun n s' => ∃ σ' H', Inv X pins σ' H' s' ∧ W n σ' H') ?_ m0 ⟨σ, H, I, w0⟩)
  rintro n s1 ⟨σ1, H1, I1, w1⟩
  refine wpAny_passesOwn hp (thn (hc pins s1 σ1 H1 _ I1 (turn n σ1 H1 w1)) fun b s2 ⟨H2, I2, q2⟩ => ?_)
  cases b with
  | true =>
    obtain ⟨N, hN, q2⟩ := q2
    rw [if_pos rfl]
    refine wpAny_passesOwn hp (thn (hb pins s2 σ1 H2 _ I2 q2) fun f s3 q3 => ?_)
    cases f with
    | next =>
      obtain ⟨σ3, H3, I3, n3⟩ := q3
      obtain ⟨m', hm, w3⟩ := hN σ3 H3 n3
      exact ⟨m', hm, σ3, H3, I3, w3⟩
    | cont =>
      obtain ⟨σ3, H3, I3, n3⟩ := q3
      obtain ⟨m', hm, w3⟩ := hN σ3 H3 n3
      exact ⟨m', hm, σ3, H3, I3, w3⟩
    | brk => exact q3
    | ret v => exact q3
  | false =>
    rw [if_neg Bool.false_ne_true]
    exact wpAny_execs_nil ⟨σ1, H2, I2, q2⟩
end

/-! ### what a loop or a comprehension walks -/
/-- at turn i: it yields x (the heap may grow), or it stops -/
structure It where
  go : Nat → Hp → Prop
  yld : Nat → Hp → V → Hp → Prop
  stop : Nat → Hp → Prop
/-- the iterator's own objects may turn: they are not the frame's, not pinned, younger than the entry (or a comprehension's own) -/
def FpOk (X : Cx) (pins : List (Addr × Obj)) (H : Hp) (b : Addr) : Prop :=
  H b = none ∧ b ≠ X.env.locals ∧ b ∉ X.fs ∧ (b ∈ X.ex ∨ X.s₀.heap.objs.size ≤ b) ∧ (∀ x c, X.env.cells.lookup x = some c → c ≠ b) ∧ ∀ p ∈ X.pn ++ pins, p.1 ≠ b
theorem Inv.fpOk {X : Cx} {pins : List (Addr × Obj)} {σ : St} {H H' : Hp} {s : Shared} {b : Addr} (I : Inv X pins σ H s) (hb : s.heap.objs.size ≤ b) (hn : H' b = none) : FpOk X pins H' b := by
  refine ⟨hn, Nat.ne_of_gt (Nat.lt_of_lt_of_le I.lt hb), I.nofs hb, .inr (Nat.le_trans I.sz hb), fun x c e z => ?_, fun p hp z => ?_⟩
  · obtain ⟨v, q⟩ := I.cell x c e
    exact absurd (Nat.lt_of_lt_of_le q.lt (by rw [z]; exact hb)) (Nat.lt_irrefl _)
  · exact absurd (Nat.lt_of_lt_of_le (Heap.lt_size (I.pin p hp).1) (by rw [z]; exact hb)) (Nat.lt_irrefl _)
structure Turn (P : Program) (w : World) (K : PySem.W.Frag) (tg : Expr) (J : It) (fp : List Addr) (it : Addr) (tn : Nat → Heap → Prop) : Prop where
  mem : it ∈ fp
  obj : ∀ i h, tn i h → ∀ b ∈ fp, ∃ o, h.get? b = some o ∧ ∀ v, o.data ≠ .cell v
  keep : ∀ i h h', tn i h → (∀ b ∈ fp, ∀ o, h.get? b = some o → h'.get? b = some o) → tn i h'
  item : ∀ (X : Cx), X.prog = P → X.w = w → X.K = K → X.calm = true → ∀ (i : Nat) (pins : List (Addr × Obj)) (s : Shared) (σ : St) (H : Hp) (E : Value → Shared → Prop), Inv X pins σ H s → (∀ b ∈ fp, FpOk X pins H b) → tn i s.heap → J.go i H →
    wpAny (model P w) X.A (pyNext (.ref it)) (fun r s1 => ∃ u, r = some u ∧
      wpAny (model P w) X.A (letOwnedTupleGo tg (.ref it) u) (fun _ s2 => ∃ x H', Inv X pins σ H' s2 ∧ RelV x u ∧ J.yld i H x H' ∧ tn (i + 1) s2.heap ∧ ∀ b ∈ fp, H' b = none) E s1) E s
  done : ∀ (X : Cx), X.prog = P → X.w = w → X.K = K → X.calm = true → ∀ (i : Nat) (pins : List (Addr × Obj)) (s : Shared) (σ : St) (H : Hp) (E : Value → Shared → Prop), Inv X pins σ H s → (∀ b ∈ fp, FpOk X pins H b) → tn i s.heap → J.stop i H →
    wpAny (model P w) X.A (pyNext (.ref it)) (fun r s1 => r = none ∧ Inv X pins σ H s1) E s
  self : ∀ (A : Around) (i : Nat) (s : Shared) (Q : Value → Shared → Prop) (E : Value → Shared → Prop), tn i s.heap → Q (.ref it) s → wpAny (model P w) A (pyIter (.ref it)) Q E s
abbrev TI := St → Hp → (It → Hp → Prop) → Prop
/-- an iterator has come -/
def PIE (X : Cx) (pins : List (Addr × Obj)) (σ : St) (tg : Expr) (R : It → Hp → Prop) (itv : Value) (s2 : Shared) : Prop :=
  ∃ (it : Addr) (fp : List Addr) (tn : Nat → Heap → Prop) (J : It) (H' : Hp), itv = .ref it ∧ Inv X pins σ H' s2 ∧ Turn X.prog X.w X.K tg J fp it tn ∧ tn 0 s2.heap ∧ (∀ b ∈ fp, FpOk X pins H' b) ∧ R J H'
def PI (X : Cx) (tg iter : Expr) (wi : TI) : Prop :=
  ∀ (pins : List (Addr × Obj)) (s : Shared) (σ : St) (H : Hp) (R : It → Hp → Prop), Inv X pins σ H s → wi σ H R →
    wpAny (model X.prog X.w) X.A (eval iter X.env) (fun v s1 => wpAny (model X.prog X.w) X.A (pyIter v) (PIE X pins σ tg R) X.xe s1) X.xe s

/-- the step ahead of the store is nothing for an iterator that keeps no tuple -/
theorem go_of {M : Model} {A : Around} {E : Value → Shared → Prop} {s : Shared} {tg : Expr} {it : Addr} {u : Value} {o : Obj} {n : String} {vs : Array Value} {Q : Unit → Shared → Prop} (ho : s.heap.get? it = some o) (hc : o.cls = .type n) (hd : o.data = .fields vs)
    (hn : ["enumerate", "zip", "dict_itemiterator", "dict_reverseitemiterator", "odict_iterator", "itertools.zip_longest", "itertools.pairwise"].contains n = false) (hQ : Q () s) : wpAny M A (letOwnedTupleGo tg (.ref it) u) Q E s := by
  unfold letOwnedTupleGo
  cases tg <;> first
    | exact wpAny_pure hQ
    | (cases u <;> first
        | exact wpAny_pure hQ
        | (refine wpAny_bind (wpAny_load ho ?_)
           rw [hc, hd]
           show wpAny M A (if (["enumerate", "zip", "dict_itemiterator", "dict_reverseitemiterator", "odict_iterator", "itertools.zip_longest", "itertools.pairwise"].contains n && vs[0]? == some (rawInt _)) = true then _ else _) Q E s
           rw [if_neg (by intro h; rw [hn, Bool.false_and] at h; cases h)]
           exact wpAny_pure hQ))

/-- the list at a, as it stands at each turn (a loop may append to it) -/
def Itl (K : PySem.W.Frag) (a : Addr) : It :=
  ⟨fun i H => ∃ xs x, SqL K H a xs ∧ xs[i]? = some x, fun i H x H' => H' = H ∧ ∀ xs, SqL K H a xs → xs[i]? = some x, fun i H => ∃ xs, SqL K H a xs ∧ xs.length ≤ i⟩
def Itt (K : PySem.W.Frag) (a : Addr) : It :=
  ⟨fun i H => ∃ xs x, SqT K H a xs ∧ xs[i]? = some x, fun i H x H' => H' = H ∧ ∀ xs, SqT K H a xs → xs[i]? = some x, fun i H => ∃ xs, SqT K H a xs ∧ xs.length ≤ i⟩
/-- lo, lo + 1, .. (n of them) -/
def Itr (lo : Int) (n : Nat) : It := ⟨fun i _ => i < n, fun i H x H' => H' = H ∧ x = .int (lo + i), fun i _ => n ≤ i⟩
theorem turn_list {P : Program} {w : World} {K : PySem.W.Frag} {tg : Expr} (a it : Addr) : Turn P w K tg (Itl K a) [it] it (fun i h => h.IsListIter it a i) where
  mem := by simp
  obj := fun i h st b hb => by
    have e : b = it := by simpa using hb
    subst e
    obtain ⟨o, e, c, d⟩ := st
    exact ⟨o, e, fun v z => by rw [d] at z; cases z⟩
  keep := fun i h h' st k => st.at fun o e => k it (by simp) o e
  item := by
    intro X hP hw hK hc i pins s σ H E I hf st hg
    subst hP hw hK
    obtain ⟨xs, x, hq, hx⟩ := hg
    obtain ⟨its, rv, p, hz⟩ := I.list hq
    obtain ⟨u, hu, ru⟩ := rv.get hx
    obtain ⟨f0, f1, f2, f3, f4, f5⟩ := hf it (by simp)
    refine wpAny_pyNext_list_item st p.isList (x := u) (by simpa using hu) fun h' st' sb => ?_
    have I1 : Inv X pins σ H { s with heap := h' } := I.turned (t' := s.toks) (fun b o hb e => (sb.2 b hb).trans e) f0 f1 f3 f4 f5
    obtain ⟨o, e, c, d⟩ := id st'
    exact ⟨u, rfl, go_of (s := { s with heap := h' }) e c d (by decide) ⟨x, H, I1, ru, ⟨rfl, fun ys hy => by rw [I.list_inj hy hq]; exact hx⟩, st', fun b hb => (hf b hb).1⟩⟩
  done := by
    intro X hP hw hK hc i pins s σ H E I hf st hg
    subst hP hw hK
    obtain ⟨xs, hq, hx⟩ := hg
    obtain ⟨its, rv, p, hz⟩ := I.list hq
    obtain ⟨f0, f1, f2, f3, f4, f5⟩ := hf it (by simp)
    have hl := rv.length
    exact wpAny_pyNext_list_end (I.ok.hd hc) st p.isList (by simp; omega) fun h' eb => ⟨rfl, I.turned (t' := s.toks) (fun b o hb e => eb b o hb e) f0 f1 f3 f4 f5⟩
  self := fun _ _ _ _ _ st h => wpAny_pyIter_listiter st h
theorem turn_tuple {P : Program} {w : World} {K : PySem.W.Frag} {tg : Expr} (a it : Addr) : Turn P w K tg (Itt K a) [it] it (fun i h => h.IsTupleIter it a i) where
  mem := by simp
  obj := fun i h st b hb => by
    have e : b = it := by simpa using hb
    subst e
    obtain ⟨o, e, c, d⟩ := st
    exact ⟨o, e, fun v z => by rw [d] at z; cases z⟩
  keep := fun i h h' st k => st.at fun o e => k it (by simp) o e
  item := by
    intro X hP hw hK hc i pins s σ H E I hf st hg
    subst hP hw hK
    obtain ⟨xs, x, hq, hx⟩ := hg
    obtain ⟨its, rv, p, hz⟩ := I.tuple hq
    obtain ⟨u, hu, ru⟩ := rv.get hx
    obtain ⟨f0, f1, f2, f3, f4, f5⟩ := hf it (by simp)
    refine wpAny_pyNext_tuple_item st (show s.heap.IsTuple a its.toArray from p) (x := u) (by simpa using hu) fun h' st' sb => ?_
    have I1 : Inv X pins σ H { s with heap := h' } := I.turned (t' := s.toks) (fun b o hb e => (sb.2 b hb).trans e) f0 f1 f3 f4 f5
    obtain ⟨o, e, c, d⟩ := id st'
    exact ⟨u, rfl, go_of (s := { s with heap := h' }) e c d (by decide) ⟨x, H, I1, ru, ⟨rfl, fun ys hy => by rw [I.tuple_inj hy hq]; exact hx⟩, st', fun b hb => (hf b hb).1⟩⟩
  done := by
    intro X hP hw hK hc i pins s σ H E I hf st hg
    subst hP hw hK
    obtain ⟨xs, hq, hx⟩ := hg
    obtain ⟨its, rv, p, hz⟩ := I.tuple hq
    obtain ⟨f0, f1, f2, f3, f4, f5⟩ := hf it (by simp)
    have hl := rv.length
    exact wpAny_pyNext_tuple_end (I.ok.hd hc) st (show s.heap.IsTuple a its.toArray from p) (by simp; omega) fun h' eb => ⟨rfl, I.turned (t' := s.toks) (fun b o hb e => eb b o hb e) f0 f1 f3 f4 f5⟩
  self := fun _ _ _ _ _ st h => wpAny_pyIter_tupleiter st h
theorem turn_range {P : Program} {w : World} {K : PySem.W.Frag} {tg : Expr} (it : Addr) (lo : Int) (n : Nat) : Turn P w K tg (Itr lo n) [it] it (fun i h => IsRangeIter h it (lo + (i : Nat) * 1) ((n : Int) - (i : Nat)) 1) where
  mem := by simp
  obj := fun i h st b hb => by
    have e : b = it := by simpa using hb
    subst e
    exact ⟨_, st, fun v z => by
      have z' : Data.fields _ = Data.cell v := z
      cases z'⟩
  keep := fun i h h' st k => k it (by simp) _ st
  item := by
    intro X hP hw hK hc i pins s σ H E I hf st hg
    subst hP hw hK
    obtain ⟨f0, f1, f2, f3, f4, f5⟩ := hf it (by simp)
    have W := Walks.range (prog := X.prog) (w := X.w) (I.ok.hd hc) it lo 1 n
    refine W.item i s _ _ hg st fun v h' tk hv st' kk => ?_
    obtain ⟨t, rfl⟩ := hv
    have I1 : Inv X pins σ H { s with heap := h', toks := tk } := I.turned (fun b o hb e => kk b o (by simpa using hb) e) f0 f1 f3 f4 f5
    refine ⟨_, rfl, go_of (s := { s with heap := h', toks := tk }) (n := "range_iterator") st' rfl rfl (by decide) ⟨.int (lo + i), H, I1, ⟨t, ?_⟩, ⟨rfl, rfl⟩, st', fun b hb => (hf b hb).1⟩⟩
    rw [Int.mul_one]
  done := by
    intro X hP hw hK hc i pins s σ H E I hf st hg
    subst hP hw hK
    obtain ⟨f0, f1, f2, f3, f4, f5⟩ := hf it (by simp)
    exact wpAny_pyNext_range_end (I.ok.hd hc) st (by have : n ≤ i := hg; omega) fun h' eb => ⟨rfl, I.turned (t' := s.toks) (fun b o hb e => eb b o hb e) f0 f1 f3 f4 f5⟩
  self := fun _ _ _ _ _ st h => wpAny_pyIter_rangeiter st h
end L2

namespace L2
open PySem PySem.Spec PyProof.Rows
section
variable {X : Cx} {tg : Expr}
inductive iListX (K : PySem.W.Frag) (R : It → Hp → Prop) (x : V) (H1 : Hp) : Prop
  | mk (a : Addr) (e : x = .ref a) (h : ∃ xs, SqL K H1 a xs) (q : R (Itl K a) H1) : iListX K R x H1
def iList (K : PySem.W.Frag) (tl : TE) : TI := fun σ H R => tl σ H fun x H1 => iListX K R x H1
def iTup (K : PySem.W.Frag) (tl : TE) : TI := fun σ H R => tl σ H fun x H1 => ∃ a, x = .ref a ∧ (∃ xs, SqT K H1 a xs) ∧ R (Itt K a) H1
theorem pi_list {l : Expr} {tl : TE} (hl : PE X l tl) : PI X tg l (iList X.K tl) := by
  intro pins s σ H R I h
  refine thn (hl pins s σ H _ I h) fun v s1 ⟨x, H1, I1, r1, q1⟩ => ?_
  obtain ⟨a, e, ⟨xs, hq⟩, q⟩ := q1
  subst e
  cases r1
  obtain ⟨its, rv, p, hz⟩ := I1.list hq
  refine wpAny_pyIter_list p.isList ?_
  refine ⟨s1.heap.objs.size, [s1.heap.objs.size], _, _, H1, rfl, I1.kept (t' := s1.toks) fun b o e => Heap.get?_push_of_some _ e, turn_list a _, ⟨_, Heap.get?_push_size _ rfl, rfl, rfl⟩, fun b hb => ?_, q⟩
  have e : b = s1.heap.objs.size := by simpa using hb
  subst e
  exact I1.fpOk (Nat.le_refl _) (I1.hok.fresh (Nat.le_refl _))
theorem pi_tup {l : Expr} {tl : TE} (hl : PE X l tl) : PI X tg l (iTup X.K tl) := by
  intro pins s σ H R I h
  refine thn (hl pins s σ H _ I h) fun v s1 ⟨x, H1, I1, r1, q1⟩ => ?_
  obtain ⟨a, e, ⟨xs, hq⟩, q⟩ := q1
  subst e
  cases r1
  obtain ⟨its, rv, p, hz⟩ := I1.tuple hq
  refine wpAny_pyIter_tuple (show s1.heap.IsTuple a its.toArray from p) ?_
  refine ⟨s1.heap.objs.size, [s1.heap.objs.size], _, _, H1, rfl, I1.kept (t' := s1.toks) fun b o e => Heap.get?_push_of_some _ e, turn_tuple a _, ⟨_, Heap.get?_push_size _ rfl, rfl, rfl⟩, fun b hb => ?_, q⟩
  have e : b = s1.heap.objs.size := by simpa using hb
  subst e
  exact I1.fpOk (Nat.le_refl _) (I1.hok.fresh (Nat.le_refl _))
/-- a range object just made, walked -/
theorem range_it {pins : List (Addr × Obj)} {σ : St} {H : Hp} {s : Shared} {R : It → Hp → Prop} {E : Value → Shared → Prop} {lo hi : Int} {t u v : Tok} {tk : Nat} (I : Inv X pins σ H s) (h1 : -(2 ^ 62) ≤ lo) (h2 : lo < 2 ^ 62) (h3 : -(2 ^ 62) ≤ hi) (h4 : hi < 2 ^ 62)
    (q : R (Itr lo (hi - lo).toNat) H) : wpAny (model X.prog X.w) X.A (pyIter (.ref s.heap.objs.size)) (PIE X pins σ tg R) E { s with heap := s.heap.push { cls := .type "range", data := .fields #[.int lo t, .int hi u, .int 1 v] }, toks := tk } := by
  refine wpAny_pyIter_range (IsRange.new ..) (small_one h1 h2 h3 h4) ?_
  have I1 : Inv X pins σ H { s with heap := s.heap.push { cls := .type "range", data := .fields #[.int lo t, .int hi u, .int 1 v] }, toks := tk } := I.kept fun b o e => Heap.get?_push_of_some _ e
  refine ⟨(s.heap.push { cls := .type "range", data := .fields #[.int lo t, .int hi u, .int 1 v] }).objs.size, [(s.heap.push { cls := .type "range", data := .fields #[.int lo t, .int hi u, .int 1 v] }).objs.size], _, _, H, rfl,
    I1.kept (t' := tk) fun b o e => Heap.get?_push_of_some _ e, turn_range _ lo (hi - lo).toNat, ?_, fun b hb => ?_, q⟩
  · have e1 : lo + ((0 : Nat) : Int) * 1 = lo := by simp
    have e2 : (((hi - lo).toNat : Nat) : Int) - ((0 : Nat) : Int) = Builtin.Range.rangeSize lo hi 1 := by rw [rangeSize_one]; split <;> omega
    show IsRangeIter _ _ (lo + ((0 : Nat) : Int) * 1) ((((hi - lo).toNat : Nat) : Int) - ((0 : Nat) : Int)) 1
    rw [e1, e2]
    exact Heap.get?_push_size _ rfl
  · have e : b = (s.heap.push { cls := .type "range", data := .fields #[.int lo t, .int hi u, .int 1 v] }).objs.size := by simpa using hb
    subst e
    exact I1.fpOk (Nat.le_refl _) (I1.hok.fresh (Nat.le_refl _))
inductive iRng1X (R : It → Hp → Prop) (vs : List V) (H1 : Hp) : Prop
  | mk (j : Int) (e : vs = [.int j]) (h1 : -(2 ^ 62) ≤ j) (h2 : j < 2 ^ 62) (q : R (Itr 0 j.toNat) H1) : iRng1X R vs H1
def iRng1 (ta : TA) : TI := fun σ H R => ta σ H fun vs H1 => iRng1X R vs H1
theorem pi_range1 {a : Expr} {ta : TA} {p pos : Pos} (hg : Gl X "range") (hm : X.mg "range" = none) (ha : PA X [a] ta) (hs : starEach [a] X.env = [(false, eval a X.env)] := by rfl) : PI X tg (.Call (.Name "range" p) [a] [] pos) (iRng1 ta) := by
  intro pins s σ H R I h
  refine Call_ (ld_blt I hg hm boot_range (PyProof.Rows.callWith_type1 (thn (ha pos pins s σ H _ I h) fun us s1 ⟨vs, H1, I1, r1, q1⟩ => ?_) hs rfl))
  obtain ⟨j, e, q1, q2, q⟩ := q1
  subst e
  cases r1 with
  | cons r rr =>
    cases rr
    obtain ⟨t, rfl⟩ := r
    exact call_range_1 (range_it I1 (by omega) (by omega) q1 q2 (by simpa using q))

/-! ### for -/
/-- W: the invariant by the turn and a measure; N: what the body is to reach -/
def tFor (wi : TI) (g : TG) (tb : TS) : TS := fun D σ H => wi σ H fun J H1 => ∃ W : Nat → Nat → St → Hp → Prop, (∃ m, W 0 m σ H1) ∧ ∀ i m σ H, W i m σ H →
  (J.stop i H ∧ D.nx σ H) ∨ (J.go i H ∧ ∃ N : St → Hp → Prop, (∀ σ' H', N σ' H' → ∃ m', m' < m ∧ W (i + 1) m' σ' H') ∧ ∀ x H', J.yld i H x H' → g x σ H' fun σ2 H2 => tb { D with nx := N, ct := N, bk := D.nx } σ2 H2)
/-- the records at fp as they stand -/
def pinsAt (fp : List Addr) (h : Heap) : List (Addr × Obj) := fp.filterMap fun b => (h.get? b).map fun o => (b, o)
theorem mem_pinsAt {fp : List Addr} {h : Heap} {b : Addr} {o : Obj} (hb : b ∈ fp) (e : h.get? b = some o) : (b, o) ∈ pinsAt fp h := List.mem_filterMap.mpr ⟨b, hb, by rw [e]; rfl⟩
theorem of_pinsAt {fp : List Addr} {h : Heap} {p : Addr × Obj} (hp : p ∈ pinsAt fp h) : p.1 ∈ fp ∧ h.get? p.1 = some p.2 := by
  obtain ⟨b, hb, e⟩ := List.mem_filterMap.mp hp
  cases q : h.get? b with
  | none => rw [q] at e; cases e
  | some o =>
    rw [q] at e
    have e' : (b, o) = p := Option.some.inj e
    subst e'
    exact ⟨hb, q⟩
theorem Inv.pinned {pins : List (Addr × Obj)} {σ : St} {H : Hp} {s : Shared} {fp : List Addr} (I : Inv X pins σ H s) (hf : ∀ b ∈ fp, FpOk X pins H b) (ho : ∀ b ∈ fp, ∃ o, s.heap.get? b = some o ∧ ∀ v, o.data ≠ .cell v) : Inv X (pins ++ pinsAt fp s.heap) σ H s :=
  I.pins_of fun p hp => (List.mem_append.mp hp).elim (fun z => I.pin p (List.mem_append_right _ z)) fun z => by
    obtain ⟨hb, e⟩ := of_pinsAt z
    obtain ⟨f0, f1, f2, _⟩ := hf p.1 hb
    obtain ⟨o, e', d⟩ := ho p.1 hb
    rw [e] at e'; cases e'
    exact ⟨e, f0, f1, f2, d⟩
theorem Inv.unpinned {pins pl : List (Addr × Obj)} {σ : St} {H : Hp} {s : Shared} (I : Inv X (pins ++ pl) σ H s) : Inv X pins σ H s := I.pins_of fun p hp => I.pin p (List.mem_append_right _ (List.mem_append_left _ hp))
theorem ps_for {iter : Expr} {body : List Stmt} {wi : TI} {g : TG} {tb : TS} {pos : Pos} (hp : PassesOwn (model X.prog X.w) X.A X.env X.xe) (hc : X.calm = true) (hi : PI X tg iter wi) (hg : PG X tg g) (hb : PSs X body tb)
    (hs : ∀ x, foldedSetIterable iter X.env x = pure x := by intro _; rfl) : PS X (.For tg iter body [] pos) (tFor wi g tb) := by
  refine ⟨?_⟩
  intro pins s σ H D I h
  refine wpAny_For (thn (hi pins s σ H _ I h) fun v s1 h1 => thn h1 fun itv s2 h2 => ?_) hs
  obtain ⟨it, fp, tn, J, H2, e, I2, T, st2, f2, W, ⟨m0, w0⟩, turn⟩ := h2
  subst e
  have stat : ∀ {H' : Hp}, (∀ b ∈ fp, H' b = none) → ∀ b ∈ fp, FpOk X pins H' b := fun hn b hb => ⟨hn b hb, (f2 b hb).2⟩
  refine codeAny_forLoop_any (fun n s' => ∃ i σ' H', Inv X pins σ' H' s' ∧ tn i s'.heap ∧ (∀ b ∈ fp, H' b = none) ∧ W i n σ' H') ?_ m0 ⟨0, σ, H2, I2, st2, fun b hb => (f2 b hb).1, w0⟩
  rintro n s3 ⟨i, σ3, H3, I3, st3, fr3, w3⟩
  rcases turn i n σ3 H3 w3 with ⟨stop, qn⟩ | ⟨go, N, hN, step⟩
  · refine wpAny_passesOwn hp (thn (T.done X rfl rfl rfl hc i pins s3 σ3 H3 X.xe I3 (stat fr3) st3 stop) fun r s4 ⟨hr, I4⟩ => ?_)
    subst hr
    exact wpAny_execs_nil ⟨σ3, H3, I4, qn⟩
  · refine wpAny_passesOwn hp (thn (T.item X rfl rfl rfl hc i pins s3 σ3 H3 X.xe I3 (stat fr3) st3 go) fun r s4 ⟨u, hr, h4⟩ => ?_)
    subst hr
    refine wpAny_passesOwn hp (thn h4 fun _ s5 ⟨x, H5, I5, r5, y5, st5, fr5⟩ => ?_)
    have I5' := I5.pinned (stat fr5) (T.obj _ _ st5)
    refine wpAny_passesOwn hp (thn (hg _ s5 σ3 H5 x u _ I5' r5 (step x H5 y5)) fun _ s6 ⟨σ6, H6, I6, q6⟩ => ?_)
    refine wpAny_passesOwn hp (thn (hb _ s6 σ6 H6 _ I6 q6) fun f s7 q7 => ?_)
    have again : ∀ {σ7 : St} {H7 : Hp}, Inv X (pins ++ pinsAt fp s5.heap) σ7 H7 s7 → N σ7 H7 → ∃ m, m < n ∧ ∃ i σ' H', Inv X pins σ' H' s7 ∧ tn i s7.heap ∧ (∀ b ∈ fp, H' b = none) ∧ W i m σ' H' := fun {σ7 H7} I7 n7 => by
      obtain ⟨m', hm, w7⟩ := hN σ7 H7 n7
      refine ⟨m', hm, i + 1, σ7, H7, I7.unpinned, T.keep _ _ _ st5 fun b hb o e => (I7.pin (b, o) (List.mem_append_right _ (List.mem_append_right _ (mem_pinsAt hb e)))).1, fun b hb => ?_, w7⟩
      obtain ⟨o, e, d⟩ := T.obj _ _ st5 b hb
      exact (I7.pin (b, o) (List.mem_append_right _ (List.mem_append_right _ (mem_pinsAt hb e)))).2.1
    cases f with
    | next => obtain ⟨σ7, H7, I7, n7⟩ := q7; exact again I7 n7
    | cont => obtain ⟨σ7, H7, I7, n7⟩ := q7; exact again I7 n7
    | brk => obtain ⟨σ7, H7, I7, q7⟩ := q7; exact ⟨σ7, H7, I7.unpinned, q7⟩
    | ret v => obtain ⟨x7, σ7, H7, I7, r7, q7⟩ := q7; exact ⟨x7, σ7, H7, I7.unpinned, r7, q7⟩
end

/-! ### the forms one uses -/
theorem for_tup {K : PySem.W.Frag} {a : Addr} {xs : List V} {g : TG} {tb : TS} {D : Ends} {σ : St} {H : Hp} (Pv : Nat → St → Hp → Prop) (h0 : Pv 0 σ H) (hl : ∀ i σ H, i ≤ xs.length → Pv i σ H → SqT K H a xs)
    (hs : ∀ i x σ H, xs[i]? = some x → Pv i σ H → g x σ H fun σ2 H2 => tb { D with nx := Pv (i + 1), ct := Pv (i + 1), bk := D.nx } σ2 H2) (hd : ∀ σ H, Pv xs.length σ H → D.nx σ H) :
    ∃ W : Nat → Nat → St → Hp → Prop, (∃ m, W 0 m σ H) ∧ ∀ i m σ H, W i m σ H →
      ((Itt K a).stop i H ∧ D.nx σ H) ∨ ((Itt K a).go i H ∧ ∃ N : St → Hp → Prop, (∀ σ' H', N σ' H' → ∃ m', m' < m ∧ W (i + 1) m' σ' H') ∧ ∀ x H', (Itt K a).yld i H x H' → g x σ H' fun σ2 H2 => tb { D with nx := N, ct := N, bk := D.nx } σ2 H2) := by
  refine ⟨fun i m σ H => m = xs.length - i ∧ i ≤ xs.length ∧ Pv i σ H, ⟨xs.length, by simp, Nat.zero_le _, h0⟩, ?_⟩
  rintro i m σ H ⟨rfl, hi, p⟩
  have q := hl i σ H hi p
  by_cases hlt : i < xs.length
  · refine .inr ⟨⟨xs, xs[i], q, by simp [hlt]⟩, Pv (i + 1), fun σ' H' p' => ⟨xs.length - (i + 1), by omega, rfl, hlt, p'⟩, fun x H' y => ?_⟩
    obtain ⟨e, y⟩ := y
    subst e
    exact hs i x σ _ (y xs q) p
  · have e : i = xs.length := by omega
    subst e
    exact .inl ⟨⟨xs, q, Nat.le_refl _⟩, hd σ H p⟩
theorem for_range {lo : Int} {n : Nat} {g : TG} {tb : TS} {D : Ends} {σ : St} {H : Hp} (Pv : Nat → St → Hp → Prop) (h0 : Pv 0 σ H)
    (hs : ∀ i σ H, i < n → Pv i σ H → g (.int (lo + i)) σ H fun σ2 H2 => tb { D with nx := Pv (i + 1), ct := Pv (i + 1), bk := D.nx } σ2 H2) (hd : ∀ σ H, Pv n σ H → D.nx σ H) :
    ∃ W : Nat → Nat → St → Hp → Prop, (∃ m, W 0 m σ H) ∧ ∀ i m σ H, W i m σ H →
      ((Itr lo n).stop i H ∧ D.nx σ H) ∨ ((Itr lo n).go i H ∧ ∃ N : St → Hp → Prop, (∀ σ' H', N σ' H' → ∃ m', m' < m ∧ W (i + 1) m' σ' H') ∧ ∀ x H', (Itr lo n).yld i H x H' → g x σ H' fun σ2 H2 => tb { D with nx := N, ct := N, bk := D.nx } σ2 H2) := by
  refine ⟨fun i m σ H => m = n - i ∧ i ≤ n ∧ Pv i σ H, ⟨n, by simp, Nat.zero_le _, h0⟩, ?_⟩
  rintro i m σ H ⟨rfl, hi, p⟩
  by_cases hlt : i < n
  · refine .inr ⟨hlt, Pv (i + 1), fun σ' H' p' => ⟨n - (i + 1), by omega, rfl, hlt, p'⟩, fun x H' y => ?_⟩
    obtain ⟨e, y⟩ := y
    subst e y
    exact hs i σ _ hlt p
  · have e : i = n := by omega
    subst e
    exact .inl ⟨Nat.le_refl _, hd σ H p⟩
end L2

namespace L2
open PySem PySem.Spec PyProof.Rows

abbrev R2 := V → V → Hp → VK → Prop
/-- a two-place operation on values: f is binaryOp op, inplaceOp op or compareOp op -/
def OpR (X : Cx) (f : Value → Value → Sem Value) (r : R2) : Prop :=
  ∀ (pins : List (Addr × Obj)) (s : Shared) (σ : St) (H : Hp) (x y : V) (v u : Value) (Q : VK), Inv X pins σ H s → RelV x v → RelV y u → r x y H Q →
    wpAny (model X.prog X.w) X.A (f v u) (EP X pins σ Q) X.xe s
/-- a one-place operation -/
def UnR (X : Cx) (f : Value → Sem Value) (r : V → Hp → VK → Prop) : Prop :=
  ∀ (pins : List (Addr × Obj)) (s : Shared) (σ : St) (H : Hp) (x : V) (v : Value) (Q : VK), Inv X pins σ H s → RelV x v → r x H Q →
    wpAny (model X.prog X.w) X.A (f v) (EP X pins σ Q) X.xe s
/-- a call of a value that is known (a builtin, a type) with values -/
def CallR (X : Cx) (f : Value) (r : List V → Hp → VK → Prop) : Prop :=
  ∀ (pins : List (Addr × Obj)) (s : Shared) (σ : St) (H : Hp) (xs : List V) (us : List Value) (Q : VK), Inv X pins σ H s → Vals xs us → r xs H Q →
    wpAny (model X.prog X.w) X.A (call f us) (EP X pins σ Q) X.xe s

def tOp (r : R2) (ta tb : TE) : TE := fun σ H Q => ta σ H fun x H1 => tb σ H1 fun y H2 => r x y H2 Q
def tUn (r : V → Hp → VK → Prop) (ta : TE) : TE := fun σ H Q => ta σ H fun x H1 => r x H1 Q
/-- ints in, under C, and a value out -/
inductive rI (C : Int → Int → Prop) (g : Int → Int → V) (x y : V) (H : Hp) (Q : VK) : Prop
  | mk (i j : Int) (e1 : x = .int i) (e2 : y = .int j) (c : C i j) (q : Q (g i j) H) : rI C g x y H Q
inductive rI0 (g : Int → Int → V) (x y : V) (H : Hp) (Q : VK) : Prop
  | mk (i j : Int) (e1 : x = .int i) (e2 : y = .int j) (q : Q (g i j) H) : rI0 g x y H Q
def rU (g : Int → V) : V → Hp → VK → Prop := fun x H Q => ∃ i, x = .int i ∧ Q (g i) H

section
variable {X : Cx} {a b c : Expr} {ta tb tc : TE} {pos : Pos}

theorem binT (ha : PE X a ta) (hb : PE X b tb) {pins : List (Addr × Obj)} {s : Shared} {σ : St} {H : Hp} {R : V → V → Hp → Prop} (I : Inv X pins σ H s)
    (h : ta σ H fun x H1 => tb σ H1 fun y H2 => R x y H2) {Q : Value → Shared → Prop} {f : Value → Value → Sem Value}
    (hf : ∀ v u s2 x y H2, Inv X pins σ H2 s2 → RelV x v → RelV y u → R x y H2 → wpAny (model X.prog X.w) X.A (f v u) Q X.xe s2) :
    wpAny (model X.prog X.w) X.A (eval a X.env) (fun v s₁ => wpAny (model X.prog X.w) X.A (eval b X.env) (fun u s₂ => wpAny (model X.prog X.w) X.A (f v u) Q X.xe s₂) X.xe s₁) X.xe s := by
  refine thn (ha pins s σ H _ I h) fun v s1 ⟨x, H1, I1, r1, q1⟩ => ?_
  refine thn (hb pins s1 σ H1 _ I1 q1) fun u s2 ⟨y, H2, I2, r2, q2⟩ => ?_
  exact hf v u s2 x y H2 I2 r1 r2 q2

theorem pe_op {op : Operator} {r : R2} (ho : OpR X (binaryOp op) r) (ha : PE X a ta) (hb : PE X b tb) : PE X (.BinOp a op b pos) (tOp r ta tb) := by
  refine ⟨?_⟩
  intro pins s σ H Q I h
  exact wpAny_BinOp (binT ha hb I h fun v u s2 x y H2 I2 rx ry q => ho pins s2 σ H2 x y v u Q I2 rx ry q)
theorem pe_un {op : UnaryOp} {r : V → Hp → VK → Prop} (ho : UnR X (unaryOp op) r) (ha : PE X a ta) : PE X (.UnaryOp op a pos) (tUn r ta) := by
  refine ⟨?_⟩
  intro pins s σ H Q I h
  exact UnaryOp_ (thn (ha pins s σ H _ I h) fun v s1 ⟨x, H1, I1, r1, q1⟩ => ho pins s1 σ H1 x v Q I1 r1 q1)

/-! ### ints -/
theorem opI {f : Value → Value → Sem Value} {C : Int → Int → Prop} {g : Int → Int → Int}
    (rule : ∀ (i j : Int) (t u : Tok) (s : Shared) (Q : Value → Shared → Prop) (E : Value → Shared → Prop), C i j → Q (.int (g i j) s.toks) { s with toks := s.toks + 1 } → wpAny (model X.prog X.w) X.A (f (.int i t) (.int j u)) Q E s) :
    OpR X f (rI C fun i j => .int (g i j)) := by
  intro pins s σ H x y v u Q I rx ry h
  obtain ⟨i, j, rfl, rfl, hc, q⟩ := h
  obtain ⟨t, rfl⟩ := rx
  obtain ⟨t', rfl⟩ := ry
  exact rule i j t t' s _ _ hc ⟨.int (g i j), H, I.tok _, ⟨_, rfl⟩, q⟩
theorem opI0 {f : Value → Value → Sem Value} {g : Int → Int → Int}
    (rule : ∀ (i j : Int) (t u : Tok) (s : Shared) (Q : Value → Shared → Prop) (E : Value → Shared → Prop), Q (.int (g i j) s.toks) { s with toks := s.toks + 1 } → wpAny (model X.prog X.w) X.A (f (.int i t) (.int j u)) Q E s) :
    OpR X f (rI0 fun i j => .int (g i j)) := by
  intro pins s σ H x y v u Q I rx ry h
  obtain ⟨i, j, rfl, rfl, q⟩ := h
  obtain ⟨t, rfl⟩ := rx
  obtain ⟨t', rfl⟩ := ry
  exact rule i j t t' s _ _ ⟨.int (g i j), H, I.tok _, ⟨_, rfl⟩, q⟩
theorem opB0 {f : Value → Value → Sem Value} {g : Int → Int → Bool}
    (rule : ∀ (i j : Int) (t u : Tok) (s : Shared) (Q : Value → Shared → Prop) (E : Value → Shared → Prop), Q (.bool (g i j)) s → wpAny (model X.prog X.w) X.A (f (.int i t) (.int j u)) Q E s) :
    OpR X f (rI0 fun i j => .bl (g i j)) := by
  intro pins s σ H x y v u Q I rx ry h
  obtain ⟨i, j, rfl, rfl, q⟩ := h
  obtain ⟨t, rfl⟩ := rx
  obtain ⟨t', rfl⟩ := ry
  exact rule i j t t' s _ _ ⟨.bl (g i j), H, I, rfl, q⟩

def CPow (i j : Int) : Prop := 0 ≤ j ∧ j ≤ 1000000 ∧ i.natAbs < 2 ^ 64
def CMul (i j : Int) : Prop := (-(2 ^ 64) < i ∧ i < 2 ^ 64) ∨ (-(2 ^ 64) < j ∧ j < 2 ^ 64)
theorem CMul.ok {i j : Int} (h : CMul i j) : IntMulOk i j := by
  rcases h with ⟨h1, h2⟩ | ⟨h1, h2⟩
  · exact .of_left (intBits_le_64 h1 h2)
  · exact .of_right (intBits_le_64 h1 h2)

theorem op_add : OpR X (binaryOp .Add) (rI0 fun i j => .int (i + j)) := opI0 fun _ _ _ _ _ _ _ q => add_int q
theorem op_sub : OpR X (binaryOp .Sub) (rI0 fun i j => .int (i - j)) := opI0 fun _ _ _ _ _ _ _ q => sub_int q
theorem op_mul : OpR X (binaryOp .Mult) (rI CMul fun i j => .int (i * j)) := opI fun _ _ _ _ _ _ _ hc q => mul_int q hc.ok
/-- % by a positive divisor of any size -/
theorem op_mod : OpR X (binaryOp .Mod) (rI (fun _ j => 0 < j) fun i j => .int (i % j)) := opI fun i j _ _ _ _ _ hc q => by
  have h1 : (0 : Int) < j := hc
  exact mod_int' (by omega) (by rw [Int.fmod_eq_emod_of_nonneg i (by omega)]; exact q)
theorem op_pow : OpR X (binaryOp .Pow) (rI CPow fun i j => .int (i ^ j.toNat)) := opI fun _ _ _ _ _ _ _ hc q => pow_int_small hc.1 hc.2.1 hc.2.2 q


theorem unI {f : Value → Sem Value} {g : Int → Int}
    (rule : ∀ (i : Int) (t : Tok) (s : Shared) (Q : Value → Shared → Prop) (E : Value → Shared → Prop), Q (.int (g i) s.toks) { s with toks := s.toks + 1 } → wpAny (model X.prog X.w) X.A (f (.int i t)) Q E s) :
    UnR X f (rU fun i => .int (g i)) := by
  intro pins s σ H x v Q I rx h
  obtain ⟨i, rfl, q⟩ := h
  obtain ⟨t, rfl⟩ := rx
  exact rule i t s _ _ ⟨.int (g i), H, I.tok _, ⟨_, rfl⟩, q⟩
theorem un_neg : UnR X (unaryOp .USub) (rU fun i => .int (-i)) := unI fun _ _ _ _ _ q => neg_int q

/-! ### bools among ints: n += (a < b) -/
end

/-! ### comparisons -/
/-- the scalars that == tells apart as data does -/
def scal : V → V → Bool
  | .non, .non => true | .non, .int _ => true | .int _, .non => true | .non, .bl _ => true | .bl _, .non => true | .non, .str _ => true | .str _, .non => true
  | .int _, .int _ => true | .bl _, .bl _ => true | .str _, .str _ => true | .byt _, .byt _ => true
  | .int _, .str _ => true | .str _, .int _ => true | .bl _, .str _ => true | .str _, .bl _ => true
  | _, _ => false
def rNe : R2 := fun x y H Q => scal x y = true ∧ Q (.bl (!decide (x = y))) H

theorem dec_int {i j : Int} : decide (V.int i = V.int j) = (i == j) := by
  rw [Bool.eq_iff_iff]
  simp
theorem dec_bl {i j : Bool} : decide (V.bl i = V.bl j) = (i == j) := by
  rw [Bool.eq_iff_iff]
  simp
theorem dec_str {i j : Str} : decide (V.str i = V.str j) = (i == j) := by
  rw [Bool.eq_iff_iff]
  simp
theorem dec_byt {i j : Array UInt8} : decide (V.byt i = V.byt j) = (i.toList == j.toList) := by
  rw [Bool.eq_iff_iff]
  cases i
  cases j
  simp

section
variable {X : Cx} {a b c : Expr} {ta tb tc : TE} {pos : Pos}
theorem fin_bl {pins : List (Addr × Obj)} {σ : St} {H : Hp} {s : Shared} {Q : VK} {k k' : Bool} (I : Inv X pins σ H s) (q : Q (.bl k) H) (e : k = k') : EP X pins σ Q (.bool k') s := by
  subst e
  exact ⟨.bl k, H, I, rfl, q⟩
theorem op_ne : OpR X (compareOp .NotEq) rNe := by
  intro pins s σ H x y v u Q I rx ry h
  obtain ⟨hs, q⟩ := h
  cases x with
  | non =>
    cases rx
    cases y with
    | non => cases ry; exact PySem.EqNone.ne_none_none (fin_bl I q (by simp))
    | bl j => cases ry; exact PySem.EqNone.ne_none_bool (fin_bl I q (by simp))
    | int j => obtain ⟨t', rfl⟩ := ry; exact PySem.EqNone.ne_none_int (fin_bl I q (by simp))
    | str j => obtain ⟨t', rfl⟩ := ry; exact PySem.EqNone.ne_none_str (fin_bl I q (by simp))
    | _ => exact absurd (show false = true from hs) Bool.false_ne_true
  | bl i =>
    cases rx
    cases y with
    | non => cases ry; exact PySem.EqNone.ne_bool_none (fin_bl I q (by simp))
    | bl j => cases ry; exact ne_bool (fin_bl I q (congrArg not dec_bl))
    | str j => obtain ⟨t', rfl⟩ := ry; exact PySem.EqMixed.ne_bool_str (fin_bl I q (by simp))
    | _ => exact absurd (show false = true from hs) Bool.false_ne_true
  | int i =>
    obtain ⟨t, rfl⟩ := rx
    cases y with
    | non => cases ry; exact PySem.EqNone.ne_int_none (fin_bl I q (by simp))
    | int j => obtain ⟨t', rfl⟩ := ry; exact ne_int (fin_bl I q (congrArg not dec_int))
    | str j => obtain ⟨t', rfl⟩ := ry; exact PySem.EqMixed.ne_int_str (fin_bl I q (by simp))
    | _ => exact absurd (show false = true from hs) Bool.false_ne_true
  | str i =>
    obtain ⟨t, rfl⟩ := rx
    cases y with
    | non => cases ry; exact PySem.EqNone.ne_str_none (fin_bl I q (by simp))
    | bl j => cases ry; exact PySem.EqMixed.ne_str_bool (fin_bl I q (by simp))
    | int j => obtain ⟨t', rfl⟩ := ry; exact PySem.EqMixed.ne_str_int (fin_bl I q (by simp))
    | str j => obtain ⟨t', rfl⟩ := ry; exact ne_str (fin_bl I q (congrArg not dec_str))
    | _ => exact absurd (show false = true from hs) Bool.false_ne_true
  | byt i =>
    obtain ⟨t, rfl⟩ := rx
    cases y with
    | byt j => obtain ⟨t', rfl⟩ := ry; exact PySem.W.ne_bytes (fin_bl I q (congrArg not dec_byt))
    | _ => exact absurd (show false = true from hs) Bool.false_ne_true
  | _ => cases y <;> exact absurd (show false = true from hs) Bool.false_ne_true

theorem op_lt : OpR X (compareOp .Lt) (rI0 fun i j => .bl (decide (i < j))) := opB0 fun _ _ _ _ _ _ _ q => lt_int q
theorem op_le : OpR X (compareOp .LtE) (rI0 fun i j => .bl (decide (i ≤ j))) := opB0 fun _ _ _ _ _ _ _ q => le_int q
theorem op_gt : OpR X (compareOp .Gt) (rI0 fun i j => .bl (decide (j < i))) := opB0 fun _ _ _ _ _ _ _ q => gt_int q
theorem op_ge : OpR X (compareOp .GtE) (rI0 fun i j => .bl (decide (j ≤ i))) := opB0 fun _ _ _ _ _ _ _ q => ge_int q




theorem nomark (b : Expr) {op : CmpOp} (h : op ≠ .In := by decide) (h2 : op ≠ .NotIn := by decide) : behindInMarks op b = false := by
  have e1 : (op == CmpOp.In) = false := by cases op <;> first | rfl | exact absurd rfl h
  have e2 : (op == CmpOp.NotIn) = false := by cases op <;> first | rfl | exact absurd rfl h2
  cases b <;> simp [behindInMarks, e1, e2]
/-- a comparison as a value; hm: nomark b, or (for in, not in) by with_unfolding_all rfl -/
theorem pe_cmpR {op : CmpOp} {r : R2} (ho : OpR X (compareOp op) r) (ha : PE X a ta) (hb : PE X b tb) (hm : behindInMarks op b = false) : PE X (.Compare a [op] [b] pos) (tOp r ta tb) := by
  refine ⟨?_⟩
  intro pins s σ H Q I h
  exact wpAny_Compare1 (binT ha hb I h fun v u s2 x y H2 I2 rx ry q => ho pins s2 σ H2 x y v u Q I2 rx ry q) hm
/-- a reading of a value as a test -/
def tTest (t : TE) : TT := fun σ H Q => t σ H fun x H' => ∃ k, x = .bl k ∧ Q k H'
theorem pt_cmpR {op : CmpOp} {r : R2} (ho : OpR X (compareOp op) r) (ha : PE X a ta) (hb : PE X b tb) (hm : behindInMarks op b = false) : PT X (.Compare a [op] [b] pos) (tTest (tOp r ta tb)) := by
  refine ⟨?_⟩
  intro pins s σ H Q I h
  refine wpAny_isTrue_Compare1 (thn (ha pins s σ H _ I h) fun v s1 ⟨x, H1, I1, r1, q1⟩ => thn (hb pins s1 σ H1 _ I1 q1) fun u s2 ⟨y, H2, I2, r2, q2⟩ =>
    thn (ho pins s2 σ H2 x y v u _ I2 r1 r2 q2) fun c s3 ⟨z, H3, I3, r3, k, e, q3⟩ => ?_) hm
  subst e
  cases r3
  exact wpAny_truthy_bool ⟨H3, I3, q3⟩
/-- a op1 b op2 c -/
def tChain (r r' : R2) (ta tb tc : TE) : TE := fun σ H Q => ta σ H fun x H1 => tb σ H1 fun y H2 => r x y H2 fun z H3 => ∃ k, z = .bl k ∧
  (if k = true then tc σ H3 fun w' H4 => r' y w' H4 Q else Q (.bl false) H3)
theorem pe_chain {op op' : CmpOp} {r r' : R2} (ho : OpR X (compareOp op) r) (ho' : OpR X (compareOp op') r') (ha : PE X a ta) (hb : PE X b tb) (hc : PE X c tc)
    (hm : lastMarks [op, op'] [b, c] = false := by with_unfolding_all rfl) : PE X (.Compare a [op, op'] [b, c] pos) (tChain r r' ta tb tc) := by
  refine ⟨?_⟩
  intro pins s σ H Q I h
  refine Compare_chain (thn (ha pins s σ H _ I h) fun v s1 ⟨x, H1, I1, r1, q1⟩ => chain_link (thn (hb pins s1 σ H1 _ I1 q1) fun u s2 ⟨y, H2, I2, r2, q2⟩ =>
    thn (ho pins s2 σ H2 x y v u _ I2 r1 r2 q2) fun d s3 ⟨z, H3, I3, r3, k, e, q3⟩ => ?_)) hm
  subst e
  cases r3
  refine wpAny_truthy_bool ?_
  cases k with
  | false => exact ite_ff ⟨.bl false, H3, I3, rfl, q3⟩
  | true => exact ite_tt (chain_last (thn (hc pins s3 σ H3 _ I3 q3) fun w' s4 ⟨z', H4, I4, r4, q4⟩ => ho' pins s4 σ H4 y z' u w' Q I4 r2 r4 q4))
theorem pt_chain {op op' : CmpOp} {r r' : R2} (ho : OpR X (compareOp op) r) (ho' : OpR X (compareOp op') r') (ha : PE X a ta) (hb : PE X b tb) (hc : PE X c tc)
    (hm : lastMarks [op, op'] [b, c] = false := by with_unfolding_all rfl) : PT X (.Compare a [op, op'] [b, c] pos) (tTest (tChain r r' ta tb tc)) := by
  refine ⟨?_⟩
  intro pins s σ H Q I h
  refine isTrue_chain (thn (ha pins s σ H _ I h) fun v s1 ⟨x, H1, I1, r1, q1⟩ => test_link (thn (hb pins s1 σ H1 _ I1 q1) fun u s2 ⟨y, H2, I2, r2, q2⟩ =>
    thn (ho pins s2 σ H2 x y v u _ I2 r1 r2 q2) fun d s3 ⟨z, H3, I3, r3, k, e, q3⟩ => ?_)) hm
  subst e
  cases r3
  refine wpAny_truthy_bool ?_
  cases k with
  | false =>
    obtain ⟨k', e', q'⟩ := q3
    cases e'
    exact ite_ff ⟨H3, I3, q'⟩
  | true =>
    refine ite_tt (test_last (thn (hc pins s3 σ H3 _ I3 q3) fun w' s4 ⟨z', H4, I4, r4, q4⟩ => thn (ho' pins s4 σ H4 y z' u w' _ I4 r2 r4 q4) fun d' s5 ⟨z2, H5, I5, r5, k2, e2, q5⟩ => ?_))
    subst e2
    cases r5
    exact wpAny_truthy_bool ⟨H5, I5, q5⟩

/-! ### truth -/
theorem line63 : (sizeLine : Nat) < 2 ^ 63 := by rw [sizeLine_eq]; decide

/-! ### strs and bytes -/


/-! ### scalar builtins, by CallR -/
theorem vals1 {x : V} {us : List Value} (r : Vals [x] us) : ∃ u, us = [u] ∧ RelV x u := by
  cases r with
  | cons r1 r2 => cases r2; exact ⟨_, rfl, r1⟩
theorem vals2 {x y : V} {us : List Value} (r : Vals [x, y] us) : ∃ u w', us = [u, w'] ∧ RelV x u ∧ RelV y w' := by
  cases r with
  | cons r1 r2 =>
    cases r2 with
    | cons r3 r4 => cases r4; exact ⟨_, _, rfl, r1, r3⟩
theorem call_max2 (hc : X.calm = true) : CallR X (.builtin "max") (fun xs H Q => ∃ i j, xs = [.int i, .int j] ∧ Q (.int (if j > i then j else i)) H) := by
  intro pins s σ H xs us Q I r h
  obtain ⟨i, j, rfl, q⟩ := h
  obtain ⟨u, w', rfl, ⟨t, rfl⟩, ⟨t', rfl⟩⟩ := vals2 r
  refine max_two_ints (I.ok.hd hc) fun h' tk k => ⟨_, H, I.kept k, ?_, q⟩
  by_cases hj : j > i
  · rw [if_pos hj, if_pos hj]; exact ⟨_, rfl⟩
  · rw [if_neg hj, if_neg hj]; exact ⟨_, rfl⟩
theorem call_min2 (hc : X.calm = true) : CallR X (.builtin "min") (fun xs H Q => ∃ i j, xs = [.int i, .int j] ∧ Q (.int (if j < i then j else i)) H) := by
  intro pins s σ H xs us Q I r h
  obtain ⟨i, j, rfl, q⟩ := h
  obtain ⟨u, w', rfl, ⟨t, rfl⟩, ⟨t', rfl⟩⟩ := vals2 r
  refine min_two_ints (I.ok.hd hc) fun h' tk k => ⟨_, H, I.kept k, ?_, q⟩
  by_cases hj : j < i
  · rw [if_pos hj, if_pos hj]; exact ⟨_, rfl⟩
  · rw [if_neg hj, if_neg hj]; exact ⟨_, rfl⟩
theorem call_int1 : CallR X (.type "int") (fun xs H Q => (∃ i, xs = [.int i] ∧ Q (.int i) H) ∨ ∃ k, xs = [.bl k] ∧ Q (.int (if k then 1 else 0)) H) := by
  intro pins s σ H xs us Q I r h
  rcases h with ⟨i, rfl, q⟩ | ⟨k, rfl, q⟩
  · obtain ⟨u, rfl, t, rfl⟩ := vals1 r
    exact call_int_int ⟨.int i, H, I, ⟨_, rfl⟩, q⟩
  · obtain ⟨u, rfl, r1⟩ := vals1 r
    cases r1
    exact call_int_bool ⟨.int (if k then 1 else 0), H, I.tok _, ⟨_, rfl⟩, q⟩
end
end L2

namespace L2
open PySem PySem.Spec PyProof.Rows

/-! ### an instance, its attributes a map -/
structure ObjM (h : Heap) (x dx C : Addr) (mA : Str → Option Value) : Prop where
  obj : h.get? x = some (PySem.W.instObj C dx)
  ns : h.Ns1 dx mA
  ne : dx ≠ x

theorem lookIn_ns {h : Heap} {dx : Addr} {mA : Str → Option Value} (n : h.Ns1 dx mA) : ∃ od, h.get? dx = some od ∧ ∀ name, PySem.W.lookIn name od = some (mA name) := by
  obtain ⟨o, es, ep, ho, hd, hk, _, hm⟩ := n
  refine ⟨o, ho, fun name => ?_⟩
  have e := hm name
  unfold nsFind findBy at e
  rw [← Array.find?_toList] at e
  unfold PySem.W.lookIn
  rw [hd]
  dsimp only
  split
  · rename_i y q
    rw [q] at e
    exact congrArg some e
  · rename_i q
    rw [q] at e
    have a : es.toList.any (·.refKey) = false := by
      rw [List.any_eq_false]
      intro y hy
      obtain ⟨z, t, hkey⟩ := hk y (Array.mem_toList_iff.mp hy)
      simp [DictEntry.refKey, hkey]
    have a' : ¬ es.toList.any (·.refKey) = true := by rw [a]; exact Bool.false_ne_true
    rw [if_neg a']
    exact congrArg some e

theorem ObjM.look {h : Heap} {x dx C : Addr} {mA : Str → Option Value} (I : ObjM h x dx C mA) : ∃ od, PySem.W.InstAt h x (PySem.W.instObj C dx) C (some od) ∧ ∀ name, PySem.W.lookIn name od = some (mA name) :=
  let ⟨od, ho, hl⟩ := lookIn_ns I.ns
  ⟨od, ⟨I.obj, rfl, rfl, ho⟩, hl⟩

section
variable {prog : Program} {w : World} {A : Around} {E : Value → Shared → Prop} {s : Shared} {K : PySem.W.Frag} {x dx C f : Addr} {mA : Str → Option Value} {name : Str} {v : Value}

theorem get_map {expr : Bool} {Q : Value → Shared → Prop} (X : K.In s.heap) (I : ObjM s.heap x dx C mA) (hg : PySem.W.plainGet K C name = true) (hh : PySem.W.hasDictIn K C = true)
    (ha : PySem.W.findIn K (.ref C) name = some none) (hv : mA name = some v) (hv' : PySem.W.handedIn v = true) (h : Q v { s with toks := s.toks + 1 }) :
    wpAny (model prog w) A (getAttr (.ref x) name expr) Q E s := by
  obtain ⟨od, J, hl⟩ := I.look
  exact PySem.W.get_value X J (PySem.W.plainGet_of hg).1 (PySem.W.findObj_own hh ha rfl (by rw [hl, hv])) hv' h


theorem get_meth {pl : Sem Bool} {Q : Value × List Value → Shared → Prop} (X : K.In s.heap) (I : ObjM s.heap x dx C mA) (hg : PySem.W.plainGet K C name = true)
    (hf : PySem.W.findIn K (.ref C) name = some (some (.ref f))) (ht : PySem.W.isFn K (.ref f) = true) (hv : mA name = none) (h : Q (.ref f, [.ref x]) s) :
    wpAny (model prog w) A (getMethod (.ref x) name pl) Q E s := by
  obtain ⟨od, J, hl⟩ := I.look
  exact PySem.W.method_fn X J (PySem.W.plainGet_of hg).1 (PySem.W.plainGet_of hg).2 hf (beq_iff_eq.mp ht) (by show (PySem.W.lookIn name od).map (·.isSome) = some false; rw [hl, hv]; rfl) h

theorem set_map {ns : List Str} {Q : Unit → Shared → Prop} (X : K.In s.heap) (I : ObjM s.heap x dx C mA)
    (hs : PySem.W.findIn K (.ref C) "__setattr__" = some (some (.builtin "object.__setattr__"))) (hp : PySem.W.plainOver K C = true) (ht : PySem.W.takerIn K C name = some none) (hh : PySem.W.hasDictIn K C = true)
    (hw : PySem.Within mA ns) (hsz : ns.length ≤ sizeLine)
    (h : ∀ h', ObjM h' x dx C (fun y => if y = name then some v else mA y) → Heap.SameBut dx s.heap h' → Q () { s with heap := h', toks := s.toks + 2 }) :
    wpAny (model prog w) A (setAttr (.ref x) name v) Q E s := by
  obtain ⟨od, J, hl⟩ := I.look
  refine PySem.W.set_plain X J hs (PySem.W.osa_open (s := { s with toks := s.toks + 1 }) (r := none) X J hp ht fun b => ?_)
  obtain ⟨cd, hc, hd'⟩ := PySem.W.any_some hh
  have hx : s.heap.get? x = some ⟨.ref C, some dx, .plain, #[]⟩ := I.obj
  refine wpAny_bind (wpAny_pure (wpAny_bind (wpAny_bind (wpAny_loadPart hx (wpAny_bind (PySem.W.Looks.here (s := { s with toks := s.toks + 1 }) (PySem.W.looks_clsIn X hc) ?_))))))
  rw [hd']
  refine wpAny_pure (a := some dx) (wpAny_bind (wpAny_pure (wpAny_bind ?_)))
  refine wpAny_nsSet1 (s := { s with toks := s.toks + 1 }) I.ns fun h' hn2 hs2 => ?_
  obtain ⟨oD, esD, epD, hoD, hdD, hcD⟩ := hn2.count (PySem.Within.cons name v hw)
  refine wpAny_bind (wpAny_lookBehind hoD (by rw [hdD]; exact pastItsLine_dict (Nat.le_trans hcD (by rw [List.length_cons]; omega))) ?_)
  exact wpAny_pure (h _ ⟨(hs2.2 _ (Ne.symm I.ne)).trans I.obj, hn2, I.ne⟩ hs2)

/-- C(..): the dict at the heap's end, the instance behind it; then its __init__ -/
theorem make_map {R : Result → Shared → Prop} {vs : List Value} {kw : List (Str × Value)} (X : K.In s.heap) (hm : PySem.W.makesIn K C = true)
    (hi : PySem.W.findIn K (.ref C) "__init__" = some (some (.ref f))) (hf : PySem.W.typeIn K (.ref f) = some (.type "function"))
    (h : codeAny (model prog w) (A.under (.builtin "type.__call__" ⟨.ref C :: vs, kw⟩)) (.call (.ref f) ⟨.ref (s.heap.objs.size + 1) :: vs, kw⟩) (PySem.W.InitBack (s.heap.objs.size + 1) R)
      { s with heap := (s.heap.push PySem.W.emptyDict).push (PySem.W.instObj C s.heap.objs.size) }) :
    codeAny (model prog w) A (.call (.ref C) ⟨vs, kw⟩) R s := by
  obtain ⟨hh, g, d, t, os⟩ := s
  exact PySem.W.make_core (PySem.W.makes_of X hm) (PySem.W.looks_findIn X hi) (fun self => PySem.W.bind_fn X self hf) (.inl rfl) h
end

/-! ### the attributes as a list of pairs -/
def putF (f : Str) (v : V) : List (Str × V) → List (Str × V)
  | [] => [(f, v)]
  | (g, x) :: r => if g = f then (g, v) :: r else (g, x) :: putF f v r
theorem lookup_putF (f g : Str) (v : V) : ∀ fs : List (Str × V), (putF f v fs).lookup g = if g = f then some v else fs.lookup g
  | [] => by
    show List.lookup g [(f, v)] = _
    by_cases h : g = f
    · have hb : (g == f) = true := beq_iff_eq.mpr h
      simp only [List.lookup, hb, if_pos h]
    · have hb : (g == f) = false := beq_eq_false_iff_ne.mpr h
      simp only [List.lookup, hb, if_neg h]
  | (k, x) :: r => by
    have ih := lookup_putF f g v r
    rw [show putF f v ((k, x) :: r) = (if k = f then (k, v) :: r else (k, x) :: putF f v r) from rfl]
    by_cases hk : k = f
    · rw [if_pos hk]
      by_cases h : g = k
      · have hb : (g == k) = true := beq_iff_eq.mpr h
        simp only [List.lookup, hb, if_pos (h.trans hk)]
      · have hb : (g == k) = false := beq_eq_false_iff_ne.mpr h
        simp only [List.lookup, hb, if_neg (fun e : g = f => h (e.trans hk.symm))]
    · rw [if_neg hk]
      by_cases h : g = k
      · have hb : (g == k) = true := beq_iff_eq.mpr h
        simp only [List.lookup, hb, if_neg (fun e : g = f => hk (h.symm.trans e))]
      · have hb : (g == k) = false := beq_eq_false_iff_ne.mpr h
        simp only [List.lookup, hb]
        exact ih
theorem keys_putF (f : Str) (v : V) : ∀ fs : List (Str × V), f ∈ (putF f v fs).map (·.1) ∧ ∀ g, g ∈ fs.map (·.1) → g ∈ (putF f v fs).map (·.1)
  | [] => ⟨by simp [putF], fun g h => by simp at h⟩
  | (k, x) :: r => by
    obtain ⟨i1, i2⟩ := keys_putF f v r
    rw [show putF f v ((k, x) :: r) = (if k = f then (k, v) :: r else (k, x) :: putF f v r) from rfl]
    by_cases hk : k = f
    · rw [if_pos hk]
      subst hk
      exact ⟨by simp, fun g h => by simpa using h⟩
    · rw [if_neg hk]
      refine ⟨?_, fun g h => ?_⟩
      · rw [List.map_cons]
        exact List.mem_cons_of_mem _ i1
      · rw [List.map_cons] at h ⊢
        rcases List.mem_cons.mp h with e | e
        · exact List.mem_cons.mpr (.inl e)
        · exact List.mem_cons_of_mem _ (i2 g e)
theorem length_putF (f : Str) (v : V) : ∀ fs : List (Str × V), (putF f v fs).length ≤ fs.length + 1
  | [] => by simp [putF]
  | (k, x) :: r => by
    have ih := length_putF f v r
    rw [show putF f v ((k, x) :: r) = (if k = f then (k, v) :: r else (k, x) :: putF f v r) from rfl]
    by_cases hk : k = f
    · rw [if_pos hk, List.length_cons, List.length_cons]; omega
    · rw [if_neg hk, List.length_cons, List.length_cons]; omega

theorem RelO.some_of {v : V} {o : Option Value} (r : RelO (some v) o) : ∃ u, o = some u ∧ RelV v u := by
  cases o with
  | none => exact (show False from r).elim
  | some u => exact ⟨u, rfl, r⟩
theorem RelO.none_of {o : Option Value} (r : RelO none o) : o = none := by
  cases o with
  | none => rfl
  | some u => exact (show False from r).elim
theorem handed_of {v : V} {u : Value} (r : RelV v u) : PySem.W.handedIn u = true := by
  cases v with
  | non => cases (show u = Value.none from r); rfl
  | bl b => cases (show u = Value.bool b from r); rfl
  | int i => obtain ⟨t, e⟩ := (show ∃ t, u = Value.int i t from r); cases e; rfl
  | str x => obtain ⟨t, e⟩ := (show ∃ t, u = Value.str x t from r); cases e; rfl
  | byt b => obtain ⟨t, e⟩ := (show ∃ t, u = Value.bytes b t from r); cases e; rfl
  | flt b => obtain ⟨t, e⟩ := (show ∃ t, u = Value.float b t from r); cases e; rfl
  | ref a => cases (show u = Value.ref a from r); rfl
  | ty n => cases (show u = Value.type n from r); rfl

section
variable {P : Program} {w : World} {H H' : Hp} {h h' : Heap} {a C dx : Addr} {fs fs' : List (Str × V)}
theorem ins_get (hok : HOk P w H h) (e : H a = some (.ins C dx fs)) : ∃ mA, ObjM h a dx C mA ∧ (∀ f, RelO (fs.lookup f) (mA f)) ∧ PySem.Within mA (fs.map (·.1)) ∧ fs.length ≤ 1000 ∧ H dx = some (.own a) := by
  obtain ⟨d, z, ne, ob, mA, n, r, q⟩ := (show ObjOk P w H h a (.ins C dx fs) from hok a _ e)
  exact ⟨mA, ⟨ob, n, ne⟩, r, q, z, d⟩
end

/-! ### what of the text a class must have -/
structure Cls (K : PySem.W.Frag) (C : Addr) : Prop where
  pg : PySem.W.plainGet K C Str.empty = true
  hd : PySem.W.hasDictIn K C = true
  po : PySem.W.plainOver K C = true
  sa : PySem.W.findIn K (.ref C) "__setattr__" = some (some (.builtin "object.__setattr__"))
theorem Cls.get {K : PySem.W.Frag} {C : Addr} (c : Cls K C) (f : Str) : PySem.W.plainGet K C f = true := c.pg
/-- no class of it has the name -/
def NoAttr (K : PySem.W.Frag) (C : Addr) (f : Str) : Prop := PySem.W.findIn K (.ref C) f = some none
theorem NoAttr.taker {K : PySem.W.Frag} {C : Addr} {f : Str} (n : NoAttr K C f) : PySem.W.takerIn K C f = some none := by
  unfold PySem.W.takerIn
  rw [show PySem.W.findIn K (.ref C) f = some none from n]
  rfl
/-- a method: a plain def of the class or of one above it -/
structure Meth (K : PySem.W.Frag) (C : Addr) (m : Str) (f : Addr) : Prop where
  at_ : PySem.W.findIn K (.ref C) m = some (some (.ref f))
  fn : PySem.W.isFn K (.ref f) = true
  kp : PySem.W.keepIn K (.ref f) = true

section
variable {X : Cx} {pins : List (Addr × Obj)} {σ : St} {H : Hp} {s : Shared} {a C dx : Addr} {fs : List (Str × V)} {f : Str} {v : V} {A : Around} {E : Value → Shared → Prop}

theorem getattr_ok {b : Bool} {Q : Value → Shared → Prop} (I : Inv X pins σ H s) (e : H a = some (.ins C dx fs)) (c : Cls X.K C) (n : NoAttr X.K C f) (l : fs.lookup f = some v)
    (h : ∀ u s', Inv X pins σ H s' → RelV v u → Q u s') : wpAny (model X.prog X.w) A (getAttr (.ref a) f b) Q E s := by
  obtain ⟨mA, O, r, _, _, _⟩ := ins_get I.hok e
  obtain ⟨u, hu, ru⟩ := RelO.some_of (v := v) (o := mA f) (by rw [← l]; exact r f)
  exact get_map I.kIn O (c.get f) c.hd n hu (handed_of ru) (h u _ (I.tok _) ru)


theorem getmeth_ok {m : Str} {g : Addr} {pl : Sem Bool} {Q : Value × List Value → Shared → Prop} (I : Inv X pins σ H s) (e : H a = some (.ins C dx fs)) (c : Cls X.K C) (k : Meth X.K C m g) (l : fs.lookup m = none)
    (h : Q (.ref g, [.ref a]) s) : wpAny (model X.prog X.w) A (getMethod (.ref a) m pl) Q E s := by
  obtain ⟨mA, O, r, _, _, _⟩ := ins_get I.hok e
  have hn : mA m = none := RelO.none_of (by rw [← l]; exact r m)
  exact get_meth I.kIn O (c.get m) k.at_ k.fn hn h

theorem setattr_ok {y : V} {u : Value} {Q : Unit → Shared → Prop} (I : Inv X pins σ H s) (e : H a = some (.ins C dx fs)) (c : Cls X.K C) (n : NoAttr X.K C f) (hl : fs.length < 1000) (ry : RelV y u)
    (h : ∀ s', Inv X pins σ (upd H a (.ins C dx (putF f y fs))) s' → Q () s') : wpAny (model X.prog X.w) A (setAttr (.ref a) f u) Q E s := by
  obtain ⟨mA, O, r, wi, _, ho⟩ := ins_get I.hok e
  have hz : (fs.map (·.1)).length ≤ sizeLine := by rw [List.length_map, sizeLine_eq]; omega
  refine set_map I.kIn O c.sa c.po n.taker c.hd wi hz fun h' O' sb => h _ ?_
  have hd : ∃ o, h'.get? dx = some o := let ⟨o, _, _, e', _⟩ := O'.ns; ⟨o, e'⟩
  refine I.write (x := a) (e := dx) (by rw [e]; exact True.intro) (.inr ho) (fun b q hb z => (sb.2 b hb).trans z) hd ?_
  refine ⟨by rw [upd_ne O.ne]; exact ho, ?_, O.ne, O'.obj, _, O'.ns, fun g => ?_, fun g hg => ?_⟩
  · have := length_putF f y fs; omega
  · show RelO ((putF f y fs).lookup g) (if g = f then some u else mA g)
    rw [lookup_putF]
    by_cases q : g = f
    · rw [if_pos q, if_pos q]; exact ry
    · rw [if_neg q, if_neg q]; exact r g
  · by_cases q : g = f
    · rw [q]; exact (keys_putF f y fs).1
    · refine (keys_putF f y fs).2 g (wi g fun z => hg ?_)
      show (if g = f then some u else mA g) = none
      rw [if_neg q]; exact z

/-- a new instance, tracked, without attributes -/
theorem Inv.made (I : Inv X pins σ H s) : Inv X pins σ (upd (upd H s.heap.objs.size (.own (s.heap.objs.size + 1))) (s.heap.objs.size + 1) (.ins C s.heap.objs.size []))
    { s with heap := (s.heap.push PySem.W.emptyDict).push (PySem.W.instObj C s.heap.objs.size) } := by
  have e1 : (s.heap.push PySem.W.emptyDict).get? s.heap.objs.size = some PySem.W.emptyDict := Heap.get?_push_size s.heap rfl
  have e2 : ((s.heap.push PySem.W.emptyDict).push (PySem.W.instObj C s.heap.objs.size)).get? (s.heap.objs.size + 1) = some (PySem.W.instObj C s.heap.objs.size) := by
    have := Heap.get?_push_size (s.heap.push PySem.W.emptyDict) (o := PySem.W.instObj C s.heap.objs.size) rfl
    rwa [Heap.size_push] at this
  have e3 : (s.heap.push PySem.W.emptyDict).Ns s.heap.objs.size (fun _ => none) := ⟨PySem.W.emptyDict, #[], _, e1, rfl, (fun e he => absurd he (by simp)), fun _ => rfl⟩
  have I1 := I.laid (a := s.heap.objs.size) (o := .own (s.heap.objs.size + 1)) (h' := s.heap.push PySem.W.emptyDict) (t' := s.toks) (fun b u q => Heap.get?_push_of_some _ q) (Nat.le_refl _) ⟨_, e1⟩
  refine I1.laid (a := s.heap.objs.size + 1) (o := .ins C s.heap.objs.size []) (t' := s.toks) (fun b u q => Heap.get?_push_of_some _ q) (Nat.le_of_eq (Heap.size_push _ _)) ?_
  have ne : s.heap.objs.size ≠ s.heap.objs.size + 1 := Nat.ne_of_lt (Nat.lt_succ_self _)
  refine ⟨by rw [upd_ne ne, upd_same], Nat.zero_le _, ne, e2, fun _ => none, (Heap.Ns1.of_empty e3).at fun o q => Heap.get?_push_of_some _ q, fun _ => True.intro, fun y hy => absurd rfl hy⟩

/-- e.f where nothing but the object is asked: through attributeBase (super) and the last hold -/
theorem attr_of {prog : Program} {w : World} {env : Env} {e : Expr} {f : Str} {pos : Pos} {s : Shared} {Q : Value → Shared → Prop} (hb : attributeBase e f env (eval e env) = eval e env)
    (h : wpAny (model prog w) A (eval e env) (fun o s₁ => wpAny (model prog w) A (getAttr o f true) Q E s₁) E s) : wpAny (model prog w) A (eval (.Attribute e f pos) env) Q E s :=
  Attribute_any_ h (by rw [arm_eval_Attribute, hb])
end

/-! ### readings and rules -/
/-- e.f, an attribute of the instance -/
inductive rFld (K : PySem.W.Frag) (f : Str) (x : V) (H1 : Hp) (Q : VK) : Prop
  | mk (a C dx : Addr) (fs : List (Str × V)) (v : V) (e : x = .ref a) (h : H1 a = some (.ins C dx fs)) (c : Cls K C) (n : NoAttr K C f) (l : fs.lookup f = some v) (q : Q v H1) : rFld K f x H1 Q
def tFld (K : PySem.W.Frag) (ta : TE) (f : Str) : TE := fun σ H Q => ta σ H fun x H1 => rFld K f x H1 Q
/-- e.f = value -/
def sFld (K : PySem.W.Frag) (ta tv : TE) (f : Str) : TS := fun D σ H => tv σ H fun y H1 => ta σ H1 fun x H2 => ∃ a C dx fs, x = .ref a ∧ H2 a = some (.ins C dx fs) ∧ Cls K C ∧ NoAttr K C f ∧ fs.length < 1000 ∧
  D.nx σ (upd H2 a (.ins C dx (putF f y fs)))

section
variable {X : Cx} {o e value : Expr} {f : Str} {pos pos' tpos : Pos} {ta tv : TE}
theorem pe_fld (he : PE X e ta) (hb : attributeBase e f X.env (eval e X.env) = eval e X.env) : PE X (.Attribute e f pos) (tFld X.K ta f) := by
  refine ⟨?_⟩
  intro pins s σ H Q I h
  refine attr_of hb (thn (he pins s σ H _ I h) fun u s1 ⟨x, H1, I1, rx, a, C, dx, fs, v, ex, ea, c, n, l, q⟩ => ?_)
  subst ex
  obtain rfl : u = Value.ref a := rx
  exact getattr_ok I1 ea c n l fun u' s2 I2 ru => ⟨v, H1, I2, ru, q⟩
theorem ps_fld (ha : PE X o ta) (hv : PE X value tv) (hs : swapsWith value (some (.Attribute o f pos')) pos.line X.env = pure false) : PS X (.Assign [.Attribute o f pos'] value pos) (sFld X.K ta tv f) := by
  refine ⟨?_⟩
  intro pins s σ H D I h
  refine plainObj_wpAny_Assign_Attribute (thn (hv pins s σ H _ I h) fun u s1 ⟨y, H1, I1, ry, q⟩ => thn (ha pins s1 σ H1 _ I1 q) fun ov s2 ⟨x, H2, I2, rx, a, C, dx, fs, ex, ea, c, n, l, q2⟩ => ?_) hs
  subst ex
  obtain rfl : ov = Value.ref a := rx
  exact setattr_ok I2 ea c n l ry fun s3 I3 => ⟨σ, _, I3, q2⟩

end

/-! ### isinstance -/
section
variable {X : Cx} {pins : List (Addr × Obj)} {σ : St} {H : Hp} {s : Shared} {A : Around} {E : Value → Shared → Prop} {Q : Value → Shared → Prop} {c : Value} {b : Bool}
end
end L2

namespace L2
open PySem PySem.Spec PyProof.Rows

/-! ### room -/
structure Room (k : Nat) (A : Around) : Prop where
  hd : A.handled = none
  dp : A.depth + 3 * k + 5 < recursionLimit
  un : A.units + 16 * k + 200 < cLine
  gd : A.guards = some []
theorem Room.mono {j k : Nat} {A : Around} (r : Room k A) (h : j ≤ k) : Room j A := ⟨r.hd, by have := r.dp; omega, by have := r.un; omega, r.gd⟩
theorem Room.deeper {k : Nat} {A : Around} (r : Room (k + 1) A) (env : Env) : Room k (A.deeper env) :=
  ⟨r.hd, by have := r.dp; show A.depth + 1 + 3 * k + 5 < _; omega, by have := r.un; show A.units + 3 + 16 * k + 200 < _; omega, r.gd⟩
theorem make_depth {A : Around} {C : Addr} {us : List Value} {kw : List (Str × Value)} : (A.under (.builtin "type.__call__" ⟨.ref C :: us, kw⟩)).depth = A.depth + 1 := by
  first | rfl | simp [Around.under, Code.weight, Code.isCreation, Code.isGuard, Code.isCaller, Code.frames, Code.isFrame, guardIds]
theorem make_units {A : Around} {C : Addr} {us : List Value} {kw : List (Str × Value)} : (A.under (.builtin "type.__call__" ⟨.ref C :: us, kw⟩)).units = A.units + 1 := by
  first | rfl | simp [Around.under, Code.cUnits, Code.frames, Code.isFrame]
theorem make_guards {A : Around} {C : Addr} {us : List Value} {kw : List (Str × Value)} : (A.under (.builtin "type.__call__" ⟨.ref C :: us, kw⟩)).guards = A.guards := by
  first | rfl | simp [Around.under, Code.weight, Code.isCreation, Code.isGuard, Code.isCaller, Code.frames, Code.isFrame, guardIds]
theorem Room.make {k : Nat} {A : Around} (r : Room (k + 1) A) (C : Addr) (us : List Value) (kw : List (Str × Value)) : Room k (A.under (.builtin "type.__call__" ⟨.ref C :: us, kw⟩)) :=
  ⟨r.hd, by have := r.dp; rw [make_depth]; omega, by have := r.un; rw [make_units]; omega, by rw [make_guards]; exact r.gd⟩
theorem Room.depth {k : Nat} {A : Around} (r : Room k A) : A.depth < recursionLimit := by have := r.dp; omega
theorem Room.units {k : Nat} {A : Around} (r : Room k A) : A.units + 64 < cLine := by have := r.un; omega

/-! ### argument lists and displays -/
abbrev tNil : TA := fun _ H Q => Q [] H
abbrev tCons (ta : TE) (tr : TA) : TA := fun σ H Q => ta σ H fun x H1 => tr σ H1 fun xs H2 => Q (x :: xs) H2
section
variable {X : Cx} {e : Expr} {es : List Expr} {te : TE} {t : TA} {pos : Pos}
theorem pa_nil : PA X [] tNil := .mk fun _ _ _ _ H Q I h => Calls.spliced_nil ⟨[], H, I, .nil, h⟩
theorem pa_cons (ha : PE X e te) (hr : PA X es t) (hs : starEach (e :: es) X.env = (false, eval e X.env) :: starEach es X.env := by rfl) : PA X (e :: es) (tCons te t) := by
  refine ⟨?_⟩
  intro pos pins s σ H Q I h
  rw [hs]
  show wpAny _ _ (spliced ((false, eval e X.env) :: backTo pos (starEach es X.env))) _ _ s
  refine Calls.spliced_cons (thn (ha pins s σ H _ I h) fun u s1 ⟨x, H1, I1, r1, q1⟩ => ?_)
  exact thn (hr pos pins s1 σ H1 _ I1 q1) fun us s2 ⟨xs, H2, I2, r2, q2⟩ => ⟨x :: xs, H2, I2, .cons r1 r2, q2⟩

/-- a tuple, a list of written items -/
def tTup (t : TA) : TE := fun σ H Q => t σ H fun xs H1 => xs.length ≤ sizeLine ∧ ∀ p, H1 p = none → Q (.ref p) (upd H1 p (.tup xs))
def tLst (t : TA) : TE := fun σ H Q => t σ H fun xs H1 => xs.length ≤ sizeLine ∧ ∀ p, H1 p = none → Q (.ref p) (upd H1 p (.lst xs))
theorem pe_tup {x1} (h : PA X es t) : PE X (.Tuple es x1 pos) (tTup t) := by
  refine ⟨?_⟩
  intro pins s σ H Q I hq
  refine wpAny_Tuple_spliced (thn (h pos pins s σ H _ I hq) fun us s1 ⟨xs, H1, I1, r, z, q⟩ => ⟨by rw [← r.length]; exact z, ?_⟩)
  have hf : H1 s1.heap.objs.size = none := I1.hok.fresh (Nat.le_refl _)
  refine ⟨.ref s1.heap.objs.size, upd H1 s1.heap.objs.size (.tup xs), I1.laid (t' := s1.toks) (fun b u e => Heap.get?_push_of_some _ e) (Nat.le_refl _) ?_, rfl, q _ hf⟩
  exact ⟨z, us, r, ⟨_, Heap.get?_push_size _ rfl, rfl, _, rfl⟩⟩
theorem pe_lst (h : PA X es t) : PE X (.List es pos) (tLst t) := by
  refine ⟨?_⟩
  intro pins s σ H Q I hq
  refine wpAny_List_spliced (thn (h pos pins s σ H _ I hq) fun us s1 ⟨xs, H1, I1, r, z, q⟩ => ⟨by rw [← r.length]; exact z, ?_⟩)
  have hf : H1 s1.heap.objs.size = none := I1.hok.fresh (Nat.le_refl _)
  refine ⟨.ref s1.heap.objs.size, upd H1 s1.heap.objs.size (.lst xs), I1.laid (t' := s1.toks) (fun b u e => Heap.get?_push_of_some _ e) (Nat.le_refl _) ?_, rfl, q _ hf⟩
  exact ⟨z, us, 0, r, Heap.get?_push_size _ rfl⟩
end

/-! ### what a def promises -/
/-- a def's promise: the bound arguments in the parameters' order, the heap, the wanted end, the wanted exception -/
abbrev Sp := List V → Hp → VK → XK → Prop
/-- how an exception lies behind a call (file 08 gives it): the callers' frames, abstract heap and state ahead of the call, the wish, the exception, the state -/
abbrev CXT := List Env → Hp → Shared → XK → Value → Shared → Prop

/-- the state at a call -/
structure Env0 (P : Program) (w : World) (K : PySem.W.Frag) (mg : Str → Option Value) (base : Heap) (A : Around) (outer : List Env) (s : Shared) (H : Hp) : Prop where
  frames : A.frames = some outer
  mod : Mod K mg base
  bs : ∀ b o, base.get? b = some o → s.heap.get? b = some o ∧ H b = none
  bsz : base.objs.size ≤ s.heap.objs.size
  funs : s.heap.FunFrames base outer
  frf : ∀ b ∈ frs outer, H b = none
  hok : HOk P w H s.heap
  bare : AllBare s.gens
/-- a call's end -/
def CE (outer : List Env) (P : Program) (w : World) (H : Hp) (s : Shared) (Q : VK) (u : Value) (s' : Shared) : Prop :=
  ∃ v H', s'.os = s.os ∧ AllBare s'.gens ∧ Un (frs outer) [] H H' s.heap s'.heap ∧ HOk P w H' s'.heap ∧ RelV v u ∧ Q v H'
def CR (CX : CXT) (outer : List Env) (P : Program) (w : World) (H : Hp) (s : Shared) (Q : VK) (E : XK) (r : Result) (s' : Shared) : Prop :=
  match r with
  | .ok (.ret u) => CE outer P w H s Q u s'
  | .ok _ => False
  | .error e => CX outer H s E e s'
structure FnOk (P : Program) (w : World) (K : PySem.W.Frag) (mg : Str → Option Value) (base : Heap) (CX : CXT) (k : Nat) (f : Addr) (fd : FuncData) (ps : List Str) (sp : Sp) : Prop where
  len : ∀ vs H Q E, sp vs H Q E → vs.length = ps.length
  run : ∀ (A : Around) (outer : List Env) (s : Shared) (H : Hp) (args : Args) (us : List Value) (vs : List V) (Q : VK) (E : XK), Room k A → Env0 P w K mg base A outer s H → BindsTo s fd args (ps.zip us) → Vals vs us → sp vs H Q E →
    codeAny (model P w) A (.call (.ref f) args) (CR CX outer P w H s Q E) s

theorem Env0.make {P : Program} {w : World} {K : PySem.W.Frag} {mg : Str → Option Value} {base : Heap} {A : Around} {outer : List Env} {s : Shared} {H : Hp} (e : Env0 P w K mg base A outer s H) (C : Addr) (us : List Value) (kw : List (Str × Value)) :
    Env0 P w K mg base (A.under (.builtin "type.__call__" ⟨.ref C :: us, kw⟩)) outer s H := ⟨by first | exact e.frames | (simpa [Around.under, Code.envs, Code.isFrame, pushEnvs] using e.frames), e.mod, e.bs, e.bsz, e.funs, e.frf, e.hok, e.bare⟩

section
variable {X : Cx} {pins : List (Addr × Obj)} {σ : St} {H : Hp} {s s' : Shared}
/-- from a body: what a callee wants -/
theorem Inv.env0 (I : Inv X pins σ H s) : Env0 X.prog X.w X.K X.mg X.base X.A X.stack s H :=
  ⟨I.ok.frames, I.ok.mod, I.bs, Nat.le_trans I.ok.bsz I.sz, I.stack, I.stkFree, I.hok, I.bare⟩
/-- behind a call -/
theorem Inv.after {Q : VK} {u : Value} (I : Inv X pins σ H s) (h : CE X.stack X.prog X.w H s Q u s') : EP X pins σ Q u s' := by
  obtain ⟨v, H', os, bare, un, hok, r, q⟩ := h
  obtain ⟨hh, g, d, t, os'⟩ := s'
  obtain rfl : os' = s.os := os
  exact ⟨v, H', I.call (h' := hh) (g' := g) (d' := d) (t' := t) (ch := []) un hok bare (fun b z => absurd z (by simp)), r, q⟩
end

/-! ### calls -/
/-- f(..): the written arguments, then the defaults dvs; E: what is wanted of an exception -/
abbrev tCall (sp : Sp) (dvs : List V) (E : XK) (t : TA) : TE := fun σ H Q => t σ H fun vs H1 => sp (vs ++ dvs) H1 Q E
/-- o.m(..) of an instance of the class at C -/
inductive rMeth (C : Addr) (m : Str) (x : V) (H1 : Hp) (R : Prop) : Prop
  | mk (a dx : Addr) (fs : List (Str × V)) (e : x = .ref a) (h : H1 a = some (.ins C dx fs)) (l : fs.lookup m = none) (q : R) : rMeth C m x H1 R
def tMeth (C : Addr) (m : Str) (sp : Sp) (dvs : List V) (E : XK) (ta : TE) (t : TA) : TE := fun σ H Q => ta σ H fun x H1 => rMeth C m x H1 (t σ H1 fun vs H2 => sp (x :: (vs ++ dvs)) H2 Q E)
/-- C(..): a new instance and its dict, then __init__ -/
def tMake (C : Addr) (sp : Sp) (dvs : List V) (E : XK) (t : TA) : TE := fun σ H Q => t σ H fun vs H1 => ∀ x dx, H1 x = none → H1 dx = none → dx ≠ x →
  sp (.ref x :: (vs ++ dvs)) (upd (upd H1 dx (.own x)) x (.ins C dx [])) (fun v H2 => v = .non ∧ Q (.ref x) H2) E

/-- how the parameters are bound: us the positional arguments, kw the keywords' values by name, ds the defaults that fill up -/
def Binds (K : PySem.W.Frag) (fd : FuncData) (ps : List Str) (ds : List Value) : Prop :=
  ∀ (s : Shared) (us : List Value), K.In s.heap → (us ++ ds).length = ps.length → BindsTo s fd ⟨us, []⟩ (ps.zip (us ++ ds))
/-- every parameter is given -/
theorem Binds.all {K : PySem.W.Frag} {fd : FuncData} {ps : List Str} (h : ∀ us : List Value, us.length = ps.length → bindArgs fd ⟨us, []⟩ = pure (ps.zip us)) : Binds K fd ps [] := fun s us _ hl => by
  rw [List.append_nil] at hl ⊢
  exact .of_eq (h us hl)

/-- an exception of a callee reaches what this body wants of exceptions -/
def Passes (CX : CXT) (X : Cx) (E : XK) : Prop := ∀ (pins : List (Addr × Obj)) (σ : St) (H : Hp) (s : Shared) (e : Value) (s' : Shared), Inv X pins σ H s → CX X.stack H s E e s' → X.xe e s'

section
variable {X : Cx} {CX : CXT} {k : Nat} {f C : Addr} {fd : FuncData} {ps : List Str} {sp : Sp} {dvs : List V} {ds : List Value} {E : XK} {x m : Str} {p pos apos : Pos} {e o : Expr} {es : List Expr} {ta : TE} {t : TA}

/-- the callee runs -/
theorem run_fn {pins : List (Addr × Obj)} {σ : St} {H : Hp} {s : Shared} {Q : VK} {us : List Value} {vs : List V} (F : FnOk X.prog X.w X.K X.mg X.base CX k f fd ps sp) (hr : Room k X.A) (hb : Binds X.K fd ps ds) (hd : Vals dvs ds) (hx : Passes CX X E)
    (I : Inv X pins σ H s) (r : Vals vs us) (h : sp (vs ++ dvs) H Q E) : wpAny (model X.prog X.w) X.A (call (.ref f) us) (EP X pins σ Q) X.xe s := by
  have r2 : Vals (vs ++ dvs) (us ++ ds) := r.append hd
  have hl : (us ++ ds).length = ps.length := by rw [← r2.length]; exact F.len _ _ _ _ h
  refine wpAny_call (codeAny_mono (F.run X.A X.stack s H ⟨us, []⟩ (us ++ ds) (vs ++ dvs) Q E hr I.env0 (hb s us I.kIn hl) r2 h) fun r s' hq => ?_)
  cases r with
  | error e => exact hx pins σ H s e s' I hq
  | ok fl =>
    cases fl with
    | ret u => exact I.after hq
    | next => exact False.elim hq
    | brk => exact False.elim hq
    | cont => exact False.elim hq

theorem pe_call (F : FnOk X.prog X.w X.K X.mg X.base CX k f fd ps sp) (hr : Room k X.A) (hg : Gl X x) (hm : X.mg x = some (.ref f)) (hk : PySem.W.keepIn X.K (.ref f) = true) (hb : Binds X.K fd ps ds) (hd : Vals dvs ds) (hx : Passes CX X E)
    (ha : PA X (e :: es) t) (hdb : (x == ("__debug__" : Str)) = false := by decide) (he : starEach (e :: es) X.env = (false, eval e X.env) :: starEach es X.env := by rfl) (hpl : (backTo pos (starEach es X.env)).any (·.1) = false := by rfl) :
    PE X (.Call (.Name x p) (e :: es) [] pos) (tCall sp dvs E t) := by
  refine ⟨?_⟩
  intro pins s σ H Q I h
  refine wpAny_Call_Name_kw (ld_glob I hg hm ?_ hdb)
  refine PySem.W.callWith_K (h₀ := X.base) I.ok.mod.kin hk (thn (ha pos pins s σ H _ I h) fun us s1 ⟨vs, H1, I1, r, q⟩ => ⟨I1.kIn, ?_⟩) he hpl
  exact run_fn F hr hb hd hx I1 r q

/-- o.m(e, ..) -/
theorem pe_meth {pl : Sem Bool} (he : PE X o ta) (c : Cls X.K C) (hm : Meth X.K C m f) (F : FnOk X.prog X.w X.K X.mg X.base CX k f fd ps sp) (hr : Room k X.A) (hb : Binds X.K fd ps ds) (hd : Vals dvs ds) (hx : Passes CX X E) (ha : PA X (e :: es) t)
    (hst : starEach (e :: es) X.env = (false, eval e X.env) :: starEach es X.env := by rfl) (hpl : (backTo pos (starEach es X.env)).any (·.1) = false := by rfl)
    (ht : eval (.Call (.Attribute o m apos) (e :: es) [] pos) X.env = (do
      let ov ← eval o X.env
      standAt apos.atName
      let (f, first) ← holding [ov] (getMethod ov m pl)
      callWith pos f first (backTo pos (starEach (e :: es) X.env)) (backToKw pos (keywordEach [] X.env))) := by rfl) :
    PE X (.Call (.Attribute o m apos) (e :: es) [] pos) (tMeth C m sp dvs E ta t) := by
  refine ⟨?_⟩
  intro pins s σ H Q I h
  refine PySem.W.methodCall_KW (pl := pl) (thn (he pins s σ H _ I h) fun u s1 ⟨x, H1, I1, rx, a, dx, fs, ex, ea, l, q⟩ => ?_) ht
  subst ex
  obtain rfl : u = Value.ref a := rx
  refine getmeth_ok I1 ea c hm l ?_
  refine PySem.W.callWith_K (first := [.ref a]) (h₀ := X.base) I.ok.mod.kin hm.kp (thn (ha pos pins s1 σ H1 _ I1 q) fun us s2 ⟨vs, H2, I2, r, q2⟩ => ⟨I2.kIn, ?_⟩) hst hpl
  exact run_fn (us := .ref a :: us) (vs := .ref a :: vs) F hr hb hd hx I2 (.cons rfl r) q2
/-- o.m() -/
theorem pe_meth0 {pl : Sem Bool} (he : PE X o ta) (c : Cls X.K C) (hm : Meth X.K C m f) (F : FnOk X.prog X.w X.K X.mg X.base CX k f fd ps sp) (hr : Room k X.A) (hb : Binds X.K fd ps ds) (hd : Vals dvs ds) (hx : Passes CX X E)
    (ht : eval (.Call (.Attribute o m apos) [] [] pos) X.env = (do
      let ov ← eval o X.env
      standAt apos.atName
      let (f, first) ← holding [ov] (getMethod ov m pl)
      callWith pos f first (backTo pos (starEach [] X.env)) (backToKw pos (keywordEach [] X.env))) := by rfl) :
    PE X (.Call (.Attribute o m apos) [] [] pos) (tMeth C m sp dvs E ta tNil) := by
  refine ⟨?_⟩
  intro pins s σ H Q I h
  refine PySem.W.methodCall_KW (pl := pl) (thn (he pins s σ H _ I h) fun u s1 ⟨x, H1, I1, rx, a, dx, fs, ex, ea, l, q⟩ => ?_) ht
  subst ex
  obtain rfl : u = Value.ref a := rx
  refine getmeth_ok I1 ea c hm l ?_
  exact PySem.W.callWith_K0 (first := [.ref a]) I1.kIn hm.kp (run_fn (us := [.ref a]) (vs := [.ref a]) F hr hb hd hx I1 (.cons rfl .nil) q)

/-- what a class must have to be made -/
structure Mk (K : PySem.W.Frag) (C f : Addr) : Prop where
  makes : PySem.W.makesIn K C = true
  init : PySem.W.findIn K (.ref C) "__init__" = some (some (.ref f))
  fn : PySem.W.isFn K (.ref f) = true
  kp : PySem.W.keepIn K (.ref C) = true

theorem run_make {pins : List (Addr × Obj)} {σ : St} {H : Hp} {s : Shared} {Q : VK} {us : List Value} {vs : List V} (M : Mk X.K C f) (F : FnOk X.prog X.w X.K X.mg X.base CX k f fd ps sp) (hr : Room (k + 1) X.A) (hb : Binds X.K fd ps ds) (hd : Vals dvs ds)
    (hx : Passes CX X E) (I : Inv X pins σ H s) (r : Vals vs us)
    (h : ∀ x dx, H x = none → H dx = none → dx ≠ x → sp (.ref x :: (vs ++ dvs)) (upd (upd H dx (.own x)) x (.ins C dx [])) (fun v H2 => v = .non ∧ Q (.ref x) H2) E) :
    wpAny (model X.prog X.w) X.A (call (.ref C) us) (EP X pins σ Q) X.xe s := by
  have hq := h (s.heap.objs.size + 1) s.heap.objs.size (I.hok.fresh (Nat.le_succ _)) (I.hok.fresh (Nat.le_refl _)) (Nat.ne_of_lt (Nat.lt_succ_self _))
  have I2 := Inv.made (C := C) I
  have r2 : Vals (V.ref (s.heap.objs.size + 1) :: (vs ++ dvs)) (Value.ref (s.heap.objs.size + 1) :: (us ++ ds)) := .cons rfl (r.append hd)
  have hl : (Value.ref (s.heap.objs.size + 1) :: us ++ ds).length = ps.length := by
    have e := r2.length
    rw [F.len _ _ _ _ hq] at e
    exact e.symm
  refine wpAny_call (make_map (f := f) I.kIn M.makes M.init (beq_iff_eq.mp M.fn) (codeAny_mono (F.run _ X.stack _ _ ⟨Value.ref (s.heap.objs.size + 1) :: us, []⟩ (Value.ref (s.heap.objs.size + 1) :: (us ++ ds)) _ _ E (hr.make C us [])
    (I2.env0.make C us []) (hb _ (Value.ref (s.heap.objs.size + 1) :: us) I2.kIn hl) r2 hq) fun r s' hq' => ?_))
  cases r with
  | error e => exact hx pins σ _ _ e s' I2 hq'
  | ok fl =>
    cases fl with
    | ret u =>
      obtain ⟨v, H', I3, rv, ev, q3⟩ := I2.after hq'
      subst ev
      exact ⟨rv, ⟨V.ref (s.heap.objs.size + 1), H', I3, rfl, q3⟩⟩
    | next => exact False.elim hq'
    | brk => exact False.elim hq'
    | cont => exact False.elim hq'
theorem pe_make (M : Mk X.K C f) (F : FnOk X.prog X.w X.K X.mg X.base CX k f fd ps sp) (hr : Room (k + 1) X.A) (hg : Gl X x) (hm : X.mg x = some (.ref C)) (hb : Binds X.K fd ps ds) (hd : Vals dvs ds) (hx : Passes CX X E)
    (ha : PA X (e :: es) t) (hdb : (x == ("__debug__" : Str)) = false := by decide) (he : starEach (e :: es) X.env = (false, eval e X.env) :: starEach es X.env := by rfl) (hpl : (backTo pos (starEach es X.env)).any (·.1) = false := by rfl) :
    PE X (.Call (.Name x p) (e :: es) [] pos) (tMake C sp dvs E t) := by
  refine ⟨?_⟩
  intro pins s σ H Q I h
  refine wpAny_Call_Name_kw (ld_glob I hg hm ?_ hdb)
  refine PySem.W.callWith_K (h₀ := X.base) I.ok.mod.kin M.kp (thn (ha pos pins s σ H _ I h) fun us s1 ⟨vs, H1, I1, r, q⟩ => ⟨I1.kIn, ?_⟩) he hpl
  exact run_make M F hr hb hd hx I1 r q
end

/-! ### keywords -/
section
variable {X : Cx} {CX : CXT} {k : Nat} {f C : Addr} {fd : FuncData} {ps ks : List Str} {sp : Sp} {E : XK} {x m : Str} {p pos apos kpos : Pos} {e o : Expr} {es : List Expr} {kws : List Keyword} {te ta : TE} {t tk : TA} {nm : Option Str}

variable {g : List Value → List Value → List Value} {gV : List V → List V → List V}
end

/-! ### a def's body keeps its promise -/
/-- names: the parameters first -/
structure FnScope (N P : List Str) (sc : Scope) : Prop where
  kind : sc.kind = .function
  co : sc.isCoroutine = false
  gen : sc.isGenerator = false
  nd : N.Nodup
  pre : N.take P.length = P
  par : ∀ x ∈ P, sc.names.lookup x = some .local ∨ sc.names.lookup x = some .cell
  nofree : ∀ y ∈ sc.names, y.2 ≠ .free

theorem bindL_out {kindOf : Str → Option NameKind} {x : Str} : ∀ {binds : List (Str × Value)} {m : Str → Option Value}, (∀ v, (x, v) ∉ binds) → bindL kindOf binds m x = m x
  | [], _, _ => rfl
  | (n, v) :: r, m, h => by
    unfold bindL
    rw [bindL_out fun w hw => h w (List.mem_cons_of_mem _ hw)]
    split
    · have : x ≠ n := by rintro rfl; exact h v List.mem_cons_self
      simp [this]
    · rfl
theorem bindC_out {kindOf : Str → Option NameKind} {x : Str} : ∀ {binds : List (Str × Value)} {m : Str → Option Value}, (∀ v, (x, v) ∉ binds) → bindC kindOf binds m x = m x
  | [], _, _ => rfl
  | (n, v) :: r, m, h => by
    unfold bindC
    rw [bindC_out fun w hw => h w (List.mem_cons_of_mem _ hw)]
    split
    · rfl
    · have : x ≠ n := by rintro rfl; exact h v List.mem_cons_self
      simp [this]
theorem bindL_get {kindOf : Str → Option NameKind} {x : Str} {v : Value} : ∀ {P : List Str} {vs : List Value} {i : Nat} {m : Str → Option Value}, P.Nodup → P[i]? = some x → vs[i]? = some v → kindOf x = some .local →
    bindL kindOf (P.zip vs) m x = some v
  | [], _, _, _, _, h, _, _ => by simp at h
  | _ :: _, [], _, _, _, _, h, _ => by simp at h
  | p :: P, w :: vs, 0, m, nd, h1, h2, hk => by
    simp at h1 h2; subst h1; subst h2
    show bindL kindOf ((p, w) :: P.zip vs) m p = _
    unfold bindL
    rw [bindL_out fun v hv => (List.nodup_cons.mp nd).1 (List.of_mem_zip hv).1, if_pos hk]
    simp
  | p :: P, w :: vs, i + 1, m, nd, h1, h2, hk => by
    show bindL kindOf ((p, w) :: P.zip vs) m x = _
    unfold bindL
    exact bindL_get (i := i) (List.nodup_cons.mp nd).2 (by simpa using h1) (by simpa using h2) hk
theorem bindC_get {kindOf : Str → Option NameKind} {x : Str} {v : Value} : ∀ {P : List Str} {vs : List Value} {i : Nat} {m : Str → Option Value}, P.Nodup → P[i]? = some x → vs[i]? = some v → kindOf x ≠ some .local →
    bindC kindOf (P.zip vs) m x = some v
  | [], _, _, _, _, h, _, _ => by simp at h
  | _ :: _, [], _, _, _, _, h, _ => by simp at h
  | p :: P, w :: vs, 0, m, nd, h1, h2, hk => by
    simp at h1 h2; subst h1; subst h2
    show bindC kindOf ((p, w) :: P.zip vs) m p = _
    unfold bindC
    rw [bindC_out fun v hv => (List.nodup_cons.mp nd).1 (List.of_mem_zip hv).1, if_neg hk]
    simp
  | p :: P, w :: vs, i + 1, m, nd, h1, h2, hk => by
    show bindC kindOf ((p, w) :: P.zip vs) m x = _
    unfold bindC
    exact bindC_get (i := i) (List.nodup_cons.mp nd).2 (by simpa using h1) (by simpa using h2) hk

/-- the names' values at the entry -/
def start (N : List Str) (vs : List V) : St := vs.map some ++ List.replicate (N.length - vs.length) none

/-- the context of a def's body, at its entry; an exception leaves the frame, then lies as CX says -/
def cxOf (CX : CXT) (P : Program) (w : World) (K : PySem.W.Frag) (mg : Str → Option Value) (base : Heap) (N : List Str) (qual : Str) (scope : Scope) (f : Addr) (cd : Value) (A : Around) (outer : List Env) (s : Shared) (H : Hp) (E : XK) : Cx where
  prog := P
  w := w
  K := K
  mg := mg
  base := base
  A := A.deeper (envOfC qual scope s.heap.objs.size f cd)
  N := N
  s₀ := s
  H₀ := H
  env := envOfC qual scope s.heap.objs.size f cd
  outer := outer
  stack := envOfC qual scope s.heap.objs.size f cd :: outer
  ex := []
  calm := true
  fn := fun _ => true
  pn := []
  xe := fun e s' => wpAny (model P w) (A.deeper (envOfC qual scope s.heap.objs.size f cd)) (leaving (envOfC qual scope s.heap.objs.size f cd) e) (fun _ s'' => CX outer H s E e s'') (fun e' s'' => CX outer H s E e' s'') s'

theorem cell_has {sc : Scope} {n : Nat} {x : Str} (h : sc.names.lookup x = some .cell) : ∃ c, (cellsFrom n sc.names []).lookup x = some c := by
  have q := PySem.W.cellsFrom_some sc.names n [] (.inl h)
  exact Option.isSome_iff_exists.mp q

theorem inv_start {CX : CXT} {P : Program} {w : World} {K : PySem.W.Frag} {mg : Str → Option Value} {base : Heap} {N ps : List Str} {qual : Str} {scope : Scope} {f : Addr} {cd : Value} {A : Around} {outer : List Env} {s s1 : Shared} {H : Hp} {E : XK} {us : List Value} {vs : List V}
    (S : FnScope N ps scope) (hd : A.handled = none) (e0 : Env0 P w K mg base A outer s H) (hl : vs.length = ps.length) (r : Vals vs us)
    (x : InCallC s s.heap.objs.size (bindL (envOfC qual scope s.heap.objs.size f cd).kindOf (ps.zip us) fun _ => none) (cellsFrom (s.heap.objs.size + 1) scope.names []) (bindC (envOfC qual scope s.heap.objs.size f cd).kindOf (ps.zip us) fun _ => none) s1) :
    Inv (cxOf CX P w K mg base N qual scope f cd A outer s H E) [] (start N vs) H s1 := by
  have hpl : ps.length ≤ N.length := by have := congrArg List.length S.pre; rw [List.length_take] at this; omega
  obtain ⟨h1, tk, rfl, hk⟩ := x.done
  have noA : ∀ b : Addr, b ∉ (cxOf CX P w K mg base N qual scope f cd A outer s H E).ex := fun b z => absurd (show b ∈ ([] : List Addr) from z) (by simp)
  refine ⟨⟨e0.mod, S.kind, rfl, rfl, Nat.le_refl _, fun y z c h1 h2 => ?_, fun y hy => ?_, fun y c _ h => ?_, fun _ => hd, Around.frames_deeper e0.frames, .inr ⟨rfl, rfl⟩, fun b z => absurd z (noA b), e0.bs, e0.bsz, fun b _ _ => noA b, fun b z => absurd z (noA b), e0.funs, e0.frf⟩,
    rfl, e0.bare, Un.kept hk, ⟨_, x.toInCall.ns, fun i y v h1 h2 h3 => ?_⟩, fun y c h => ⟨_, x.cell y c h⟩, e0.hok.fresh (Nat.le_refl _), fun y c h => ?_, fun p hp => absurd (show p ∈ ([] : List (Addr × Obj)) from hp) (by simp), e0.hok.kept hk, ?_⟩
  · exact name_of_addr x.apart (PySem.mem_of_lookup h1) (PySem.mem_of_lookup h2)
  · have hy : scope.names.lookup y = some .cell ∨ scope.names.lookup y = some .free := hy
    rcases hy with hy | hy
    · exact cell_has hy
    · exact absurd rfl (S.nofree _ (PySem.mem_of_lookup hy))
  · exact Nat.le_of_lt (x.above y c (PySem.mem_of_lookup h))
  · have hi : i < vs.length := by
      unfold start at h2
      by_cases hi : i < vs.length
      · exact hi
      · rw [List.getElem?_append_right (by simpa using hi)] at h2
        rw [List.getElem?_replicate] at h2
        split at h2 <;> cases h2
    have ha : vs[i]? = some v := by
      unfold start at h2
      rw [List.getElem?_append_left (by simpa using hi), List.getElem?_map] at h2
      cases e : vs[i]? with
      | none => rw [e] at h2; cases h2
      | some a => rw [e] at h2; cases h2; rfl
    obtain ⟨u, hu, rv⟩ := r.get ha
    have hp : ps[i]? = some y := by
      rw [← S.pre, List.getElem?_take_of_lt (by omega)]; exact h1
    have ndP : ps.Nodup := by rw [← S.pre]; exact S.nd.sublist (List.take_sublist _ _)
    refine ⟨u, rv, ?_⟩
    rcases S.par y (List.mem_of_getElem? hp) with k | k
    · exact .inl ⟨k, bindL_get ndP hp hu k⟩
    · obtain ⟨c, e⟩ := cell_has (n := s.heap.objs.size + 1) k
      refine .inr ⟨.inl k, c, e, ?_⟩
      have q := x.cell y c e
      rw [bindC_get ndP hp hu (by show scope.names.lookup y ≠ _; rw [k]; decide)] at q
      exact q
  · exact e0.hok.fresh (Nat.le_of_lt (x.above y c (PySem.mem_of_lookup h)))
  · unfold start
    show _ = N.length
    rw [List.length_append, List.length_map, List.length_replicate]
    omega

/-- THE RULE: a def (or a method) of the text, by its body. The body's reading t is chosen for each entry; it is run at the parameters' values -/
theorem fn_of {CX : CXT} {P : Program} {w : World} {K : PySem.W.Frag} {mg : Str → Option Value} {base : Heap} {k : Nat} {f : Addr} {name qual : Str} {params : Arguments} {body : List Stmt} {scope : Scope} {dV kV doc pm cdv ct oc : Value} {an od : Option Addr}
    {osl : Array (Option Value)} {N ps : List Str} {sp : Sp} (lk : K.lookup f = some ⟨oc, od, .func (PySem.W.fnOf name qual params body scope dV kV doc pm an cdv ct), osl⟩) (hcd : PySem.W.codeIn K cdv qual = true) (S : FnScope N ps scope)
    (len : ∀ vs H Q E, sp vs H Q E → vs.length = ps.length)
    (hbody : ∀ (A : Around) (outer : List Env) (s : Shared) (H : Hp) (vs : List V) (Q : VK) (E : XK), Room k (A.deeper (envOfC qual scope s.heap.objs.size f cdv)) → sp vs H Q E →
      ∃ t, PSs (cxOf CX P w K mg base N qual scope f cdv A outer s H E) body t ∧ t { nx := fun _ H' => Q .non H', rt := Q } (start N vs) H) :
    FnOk P w K mg base CX (k + 1) f (PySem.W.fnOf name qual params body scope dV kV doc pm an cdv ct) ps sp := by
  refine ⟨len, fun A outer s H args us vs Q E hr e0 hb r hsp => ?_⟩
  have hl := len _ _ _ _ hsp
  have KX : K.In s.heap := e0.mod.kin.keeps fun b o e => (e0.bs b o e).1
  have lim : s.heap.NoLimit := e0.mod.nolimit.keeps fun b o e => (e0.bs b o e).1
  have hkind : ∀ y ∈ ps.zip us, scope.names.lookup y.1 = some .local ∨ (scope.names.lookup y.1 = some .cell ∧ ((cellsFrom (s.heap.objs.size + 1) scope.names []).lookup y.1).isSome = true) := fun ⟨n, v⟩ hy => by
    rcases S.par n (List.of_mem_zip hy).1 with q | q
    · exact .inl q
    · exact .inr ⟨q, PySem.W.cellsFrom_some _ _ _ (.inl q)⟩
  refine codeAny_call_function hr.depth (KX _ _ lk) rfl S.co S.gen rfl (PySem.W.codeRec_of KX hcd) (hb _ _ _ _ ?_)
  refine wpAny_newFunctionEnv_cells S.kind hkind fun env he s1 x => ?_
  subst he
  refine ⟨lim.keeps x.toInCall.keep, codeAny_func ?_⟩
  obtain ⟨t, ht, hq⟩ := hbody A outer s H vs Q E (hr.deeper _) hsp
  have I : Inv (cxOf CX P w K mg base N qual scope f cdv A outer s H E) [] (start N vs) H s1 := inv_start S hr.hd e0 hl r x
  refine wpAny_mono (ht [] s1 (start N vs) H _ I hq) (fun fl s' hs => ?_) fun e s' hs => hs
  have fin : ∀ {σ' : St} {H' : Hp} {v : V} {u : Value}, Inv (cxOf CX P w K mg base N qual scope f cdv A outer s H E) [] σ' H' s' → RelV v u → Q v H' → CE outer P w H s Q u s' :=
    fun {σ' H' v u} J rv q => ⟨v, H', J.os, J.bare, J.base, J.hok, rv, q⟩
  cases fl with
  | ret u =>
    obtain ⟨v, σ', H', J, rv, q⟩ := hs
    exact fin J rv q
  | next =>
    obtain ⟨σ', H', J, q⟩ := hs
    exact fin (v := V.non) (u := Value.none) J rfl q
  | brk =>
    obtain ⟨_, _, _, q⟩ := hs
    exact False.elim q
  | cont =>
    obtain ⟨_, _, _, q⟩ := hs
    exact False.elim q
end L2

namespace L2
open PySem PySem.Spec PyProof.Rows
section
variable {X : Cx} {x : Str} {p pos : Pos} {e : Expr} {es : List Expr} {t : TA} {id T : String} {r : List V → Hp → VK → Prop}

def tCB (r : List V → Hp → VK → Prop) (t : TA) : TE := fun σ H Q => t σ H fun vs H1 => r vs H1 Q
/-- f(e, ..), f a built-in function -/
theorem pe_callB (hc : CallR X (.builtin id) r) (hg : Gl X x) (hm : X.mg x = none) (hv : bootBuiltins x = some (.builtin id)) (ha : PA X (e :: es) t) (hn : x ≠ "__name__" := by decide) (hdb : (x == ("__debug__" : Str)) = false := by decide)
    (he : starEach (e :: es) X.env = (false, eval e X.env) :: starEach es X.env := by rfl) (hpl : (backTo pos (starEach es X.env)).any (·.1) = false := by rfl) : PE X (.Call (.Name x p) (e :: es) [] pos) (tCB r t) := by
  refine ⟨?_⟩
  intro pins s σ H Q I h
  refine wpAny_Call_Name_kw (ld_blt I hg hm hv ?_ hn hdb)
  exact PyProof.Rows.callWith_builtin1 (thn (ha pos pins s σ H _ I h) fun us s1 ⟨vs, H1, I1, r1, q1⟩ => hc pins s1 σ H1 vs us Q I1 r1 q1) he hpl
/-- T(e, ..), T a built-in type -/
theorem pe_callTy (hc : CallR X (.type T) r) (hg : Gl X x) (hm : X.mg x = none) (hv : bootBuiltins x = some (.type T)) (ha : PA X (e :: es) t) (hn : x ≠ "__name__" := by decide) (hdb : (x == ("__debug__" : Str)) = false := by decide)
    (he : starEach (e :: es) X.env = (false, eval e X.env) :: starEach es X.env := by rfl) (hpl : (backTo pos (starEach es X.env)).any (·.1) = false := by rfl) : PE X (.Call (.Name x p) (e :: es) [] pos) (tCB r t) := by
  refine ⟨?_⟩
  intro pins s σ H Q I h
  refine wpAny_Call_Name_kw (ld_blt I hg hm hv ?_ hn hdb)
  exact PyProof.Rows.callWith_type1 (thn (ha pos pins s σ H _ I h) fun us s1 ⟨vs, H1, I1, r1, q1⟩ => hc pins s1 σ H1 vs us Q I1 r1 q1) he hpl
end
end L2

namespace HT
open PySem PyProof.Rows



section
open PySem.SeqAt
open PySem.AutoSeq1 (wpAny_loadPart')
open PySem.MeetsSeq PySem.MeetsSeq2 PySem.MeetsSeq3

end

section
variable {prog : Program} {w : World} {A : Around} {E : Value → Shared → Prop} {s : Shared}



/-! ### t[a:b], not the whole -/
/-- a slice's bound as a place among n (d where it is left out) -/
def sIx (n d : Nat) : Option Int → Nat
  | none => d
  | some v => if v < 0 then (v + (n : Int)).toNat else min v.toNat n
theorem sIx_none (n d : Nat) : sIx n d none = d := rfl
theorem sIx_nat (n d k : Nat) : sIx n d (some (k : Int)) = min k n := by
  show (if (k : Int) < 0 then ((k : Int) + (n : Int)).toNat else min (k : Int).toNat n) = min k n
  rw [if_neg (by omega), Int.toNat_natCast]
theorem sIx_le (n d : Nat) (hd : d ≤ n) (o : Option Int) : sIx n d o ≤ n := by
  cases o with
  | none => exact hd
  | some v =>
    show (if v < 0 then (v + (n : Int)).toNat else min v.toNat n) ≤ n
    by_cases hv : v < 0
    · rw [if_pos hv]; omega
    · rw [if_neg hv]; exact Nat.min_le_right _ _
theorem clip_eq (v : Int) (n d : Nat) : (if v < 0 then max (v + (n : Int)) 0 else min v (n : Int)) = ((sIx n d (some v) : Nat) : Int) := by
  show (if v < 0 then max (v + (n : Int)) 0 else min v (n : Int)) = (((if v < 0 then (v + (n : Int)).toNat else min v.toNat n) : Nat) : Int)
  by_cases hv : v < 0
  · simp only [if_pos hv]; omega
  · simp only [if_neg hv]; omega
theorem adjust_gen (lo hi : Option Int) (n : Nat) : Builtin.Slice.sliceAdjust lo hi 1 (n : Int) = (((sIx n 0 lo : Nat) : Int), ((sIx n n hi : Nat) : Int)) := by
  have h1 : ¬ ((1 : Int) < 0) := by omega
  unfold Builtin.Slice.sliceAdjust
  simp only [h1, if_false]
  refine Prod.ext ?_ ?_
  · cases lo with
    | none => rfl
    | some v => exact clip_eq v n 0
  · cases hi with
    | none => rfl
    | some v => exact clip_eq v n n
theorem places_gen (i j : Nat) : Builtin.Slice.slicePlaces (i : Int) (j : Int) 1 = j - i := by
  unfold Builtin.Slice.slicePlaces
  have h1 : (1 : Int) > 0 := by omega
  simp only [h1, if_true, Int.ediv_one]
  split <;> omega
theorem slicePart_ {v : Value} {o : Option Int} {Q : Option Int → Shared → Prop} (p : IsPart v o) (h : Q o s) : wpAny (model prog w) A (Builtin.Slice.slicePartIndex v) Q E s := by
  cases p with
  | none => exact slicePart_none h
  | int i t => exact slicePart_int h
theorem sliceApplied_gen {sl : Addr} {vl vu : Value} {lo hi : Option Int} {n : Nat} {Q : Int × Int × Nat → Shared → Prop} (hs : s.heap.IsSliceOf sl vl vu .none) (pl : IsPart vl lo) (pu : IsPart vu hi)
    (h : Q (((sIx n 0 lo : Nat) : Int), 1, sIx n n hi - sIx n 0 lo) s) : wpAny (model prog w) A (Builtin.Slice.sliceApplied (.ref sl) (pure (n : Int))) Q E s := by
  obtain ⟨os, hos, hcs, hds⟩ := id hs
  unfold Builtin.Slice.sliceApplied Builtin.Slice.sliceFields
  refine wpAny_bind (wpAny_bind (wpAny_field hos hds (x := vl) rfl (wpAny_bind (wpAny_field hos hds (x := vu) rfl (wpAny_bind (wpAny_field hos hds (x := .none) rfl (wpAny_pure ?_)))))))
  refine wpAny_bind (slicePart_none ?_)
  show wpAny _ _ (if ((1 : Int) == 0) = true then _ else _) _ _ s
  rw [if_neg (by decide)]
  refine wpAny_bind (slicePart_ pl (wpAny_bind (slicePart_ pu (wpAny_bind (wpAny_pure ?_)))))
  show wpAny _ _ (match Builtin.Slice.sliceAdjust lo hi 1 (n : Int) with | (lo, hi) => pure (lo, (1 : Int), Builtin.Slice.slicePlaces lo hi 1)) _ _ s
  rw [adjust_gen lo hi n]
  show wpAny _ _ (pure (((sIx n 0 lo : Nat) : Int), (1 : Int), Builtin.Slice.slicePlaces ((sIx n 0 lo : Nat) : Int) ((sIx n n hi : Nat) : Int) 1)) _ _ s
  rw [places_gen]
  exact wpAny_pure h
theorem pick_gen (xs : Array Value) (i k : Nat) : ((List.range k).filterMap fun (m : Nat) => xs[((i : Int) + (m : Int) * 1).toNat]?).toArray = ((xs.toList.drop i).take k).toArray := by
  have e : (fun (m : Nat) => xs[((i : Int) + (m : Int) * 1).toNat]?) = fun m => xs[i + m]? := by
    funext m
    have : ((i : Int) + (m : Int) * 1).toNat = i + m := by omega
    rw [this]
  rw [e]
  have := pick_run xs i k
  rw [List.filterMap_map] at this
  have e2 : ((fun x => xs[x]?) ∘ fun x => i + x) = fun m => xs[i + m]? := rfl
  rw [e2] at this
  rw [this]

theorem getItem_tuple_cut {t sl : Addr} {items : Array Value} {vl vu : Value} {lo hi : Option Int} {Q : Value → Shared → Prop} (ht : IsTup s.heap t items) (hs : s.heap.IsSliceOf sl vl vu .none) (pl : IsPart vl lo) (pu : IsPart vu hi)
    (hw : ¬ (sIx items.size 0 lo = 0 ∧ sIx items.size items.size hi = items.size))
    (h : Q (.ref s.heap.objs.size) { s with heap := s.heap.push { cls := .type "tuple", data := .seq ((items.toList.drop (sIx items.size 0 lo)).take (sIx items.size items.size hi - sIx items.size 0 lo)).toArray } })
    (hsz : items.size ≤ sizeLine) : wpAny (model prog w) A (getItem (.ref t) (.ref sl)) Q E s := by
  have htake : sizeOk (.seq ((items.toList.drop (sIx items.size 0 lo)).take (sIx items.size items.size hi - sIx items.size 0 lo)).toArray) := by
    show ((items.toList.drop (sIx items.size 0 lo)).take (sIx items.size items.size hi - sIx items.size 0 lo)).toArray.size ≤ sizeLine
    rw [List.size_toArray, List.length_take, List.length_drop, Array.length_toList]
    omega
  have hj : sIx items.size items.size hi ≤ items.size := sIx_le _ _ (Nat.le_refl _) hi
  obtain ⟨os, hos, hcs, hds⟩ := id hs
  have hTs : s.TypeIs (.ref sl) "slice" := ⟨os, hos, hcs⟩
  unfold getItem
  try with_reducible refine wpAny_holding ?_
  first | refine wpAny_bind (wpAny_pure ?_) | skip
  refine wpAny_bind (wpAny_sequenceKey ht.typeIs (by decide) ?_)
  refine wpAny_bind (wpAny_callSpecial?_slot (name := Str.ofString "__getitem__") ht.typeIs PyProof.Rows.slot_tuple_getitem
    (wpAny_call_entry PyProof.Rows.slot_tuple_getitem ht.typeIs entry_tuple_getitem ?_ (args_tuple_getitem _ _)))
  show wpAny _ _ (Builtin.Tuple.tupleItemsOf (.ref t) >>= _) _ _ s
  refine wpAny_bind (tupleItemsOf_ ht ?_)
  refine wpAny_bind (wpAny_typeOf hTs ?_)
  rw [if_pos (by decide)]
  refine wpAny_bind (sliceApplied_gen hs pl pu ?_)
  have hno : ¬ ((((sIx items.size 0 lo : Nat) : Int) == 0 && (1 : Int) == 1 && (sIx items.size items.size hi - sIx items.size 0 lo) == items.size) = true) := by
    intro q
    rw [Bool.and_eq_true, Bool.and_eq_true] at q
    have q1 : ((sIx items.size 0 lo : Nat) : Int) = 0 := eq_of_beq q.1.1
    have q2 : sIx items.size items.size hi - sIx items.size 0 lo = items.size := eq_of_beq q.2
    exact hw ⟨by omega, by omega⟩
  show wpAny _ _ (if (((sIx items.size 0 lo : Nat) : Int) == 0 && (1 : Int) == 1 && (sIx items.size items.size hi - sIx items.size 0 lo) == items.size) = true then _ else _) _ _ s
  rw [if_neg hno, pick_gen]
  first
    | exact wpAny_bind (m := Builtin.Tuple.tupleExact _) (wpAny_newObj_type (wpAny_pure ⟨_, rfl, wpAny_pure h⟩) htake)
    | exact wpAny_bind (m := Builtin.Tuple.tupleExact _) (wpAny_newObj_type (wpAny_bind (wpAny_pure (wpAny_pure ⟨_, rfl, wpAny_pure h⟩))) htake)
    | exact wpAny_bind (wpAny_bind (m := Builtin.Tuple.tupleExact _) (wpAny_newObj_type (wpAny_pure (wpAny_pure ⟨_, rfl, wpAny_pure h⟩)) htake))
    | exact wpAny_bind (wpAny_bind (m := Builtin.Tuple.tupleExact _) (wpAny_newObj_type (wpAny_pure ⟨_, rfl, wpAny_pure h⟩) htake))
end
end HT

namespace L2
open PySem PySem.Spec PyProof.Rows

/-! ### the parts of a slice -/
abbrev TO := St → Hp → (Option Int → Hp → Prop) → Prop
/-- a slice's part (left out, or an int) -/
def PO (X : Cx) (e : Option Expr) (t : TO) : Prop :=
  ∀ (pins : List (Addr × Obj)) (s : Shared) (σ : St) (H : Hp) (Q : Option Int → Hp → Prop), Inv X pins σ H s → t σ H Q →
    wpAny (model X.prog X.w) X.A (evalPart e X.env) (fun u s' => ∃ o H', Inv X pins σ H' s' ∧ IsPart u o ∧ Q o H') X.xe s
def tNoPart : TO := fun _ H Q => Q none H
def tPart (t : TE) : TO := fun σ H Q => t σ H fun x H1 => ∃ i, x = .int i ∧ Q (some i) H1


section
variable {X : Cx} {e : Expr} {te : TE} {lo hi : Option Expr} {tl th : TO} {pos p2 : Pos}

theorem po_none : PO X none tNoPart := by
  intro pins s σ H Q I h
  rw [evalPart_none]
  exact wpAny_pure ⟨none, H, I, .none, h⟩
theorem po_some (h : PE X e te) : PO X (some e) (tPart te) := by
  intro pins s σ H Q I hw
  rw [evalPart_some]
  refine thn (h pins s σ H _ I hw) fun u s1 ⟨x, H1, I1, r1, q1⟩ => ?_
  obtain ⟨i, rfl, q⟩ := q1
  obtain ⟨t, rfl⟩ := r1
  exact ⟨some i, H1, I1, .int i t, q⟩

/-- what a slice of a value is, by values: the slice object stands at sl -/
def SlR (X : Cx) (r : V → Option Int → Option Int → Hp → VK → Prop) : Prop :=
  ∀ (pins : List (Addr × Obj)) (s : Shared) (σ : St) (H : Hp) (x : V) (v vl vu : Value) (lo hi : Option Int) (sl : Addr) (Q : VK), Inv X pins σ H s → RelV x v → s.heap.IsSliceOf sl vl vu .none → IsPart vl lo → IsPart vu hi → r x lo hi H Q →
    ∃ T id, typeLookup (.type T) "__getitem__" = pure (some (.builtin id)) ∧ s.TypeIs v T ∧ wpAny (model X.prog X.w) X.A (getItem v (.ref sl)) (EP X pins σ Q) X.xe s
def tSl (r : V → Option Int → Option Int → Hp → VK → Prop) (te : TE) (tl th : TO) : TE := fun σ H Q => te σ H fun x H1 => tl σ H1 fun l H2 => th σ H2 fun u H3 => r x l u H3 Q
/-- a[lo:hi], any a -/
theorem pe_slice {r : V → Option Int → Option Int → Hp → VK → Prop} (hr : SlR X r) (he : PE X e te) (hl : PO X lo tl) (hu : PO X hi th) : PE X (.Subscript e (.Slice lo hi none p2) pos) (tSl r te tl th) := by
  refine ⟨?_⟩
  intro pins s σ H Q I h
  refine Subscript_ (thn (he pins s σ H _ I h) fun v s1 ⟨x, H1, I1, r1, q1⟩ => ?_)
  refine wpAny_Slice (thn (hl pins s1 σ H1 _ I1 q1) fun vl s2 ⟨l, H2, I2, pl, q2⟩ => thn (hu pins s2 σ H2 _ I2 q2) fun vu s3 ⟨u, H3, I3, pu, q3⟩ => ?_)
  rw [evalPart_none]
  refine wpAny_pure ?_
  have I4 : Inv X pins σ H3 { s3 with heap := s3.heap.push { cls := .type "slice", data := .fields #[vl, vu, .none] } } := I3.kept (t' := s3.toks) fun b ob q => Heap.get?_push_of_some _ q
  obtain ⟨T, id, hT, ht, hg⟩ := hr pins { s3 with heap := s3.heap.push { cls := .type "slice", data := .fields #[vl, vu, .none] } } σ H3 x v vl vu l u s3.heap.objs.size Q I4 r1 (Heap.IsSliceOf.new ..) pl pu q3
  show wpAny (model X.prog X.w) X.A (subscriptTail e (.Slice lo hi none p2) v (.ref s3.heap.objs.size)) (EP X pins σ Q) X.xe { s3 with heap := s3.heap.push { cls := .type "slice", data := .fields #[vl, vu, .none] } }
  exact tail_any (ops := [.ref s3.heap.objs.size, v]) ht hT hg (by with_unfolding_all rfl)

/-- the items of xs[lo:hi] -/
def cutV (xs : List V) (lo hi : Option Int) : List V := (xs.drop (HT.sIx xs.length 0 lo)).take (HT.sIx xs.length xs.length hi - HT.sIx xs.length 0 lo)
theorem cutV_length (xs : List V) (lo hi : Option Int) : (cutV xs lo hi).length ≤ xs.length := by
  unfold cutV
  rw [List.length_take, List.length_drop]
  omega
/-- t[lo:hi], not the whole of it (the whole would be t itself) -/
def rSlT (K : PySem.W.Frag) : V → Option Int → Option Int → Hp → VK → Prop := fun x lo hi H Q => ∃ a xs, x = .ref a ∧ SqT K H a xs ∧
  ¬ (HT.sIx xs.length 0 lo = 0 ∧ HT.sIx xs.length xs.length hi = xs.length) ∧ ∀ p, H p = none → Q (.ref p) (upd H p (.tup (cutV xs lo hi)))
theorem sl_tup : SlR X (rSlT X.K) := by
  intro pins s σ H x v vl vu lo hi sl Q I rx hs pl pu h
  obtain ⟨a, xs, rfl, hx, hw, q⟩ := h
  cases rx
  obtain ⟨its, r, ht, hz⟩ := I.tuple hx
  have hlen : its.toArray.size = xs.length := by rw [List.size_toArray]; exact r.length.symm
  refine ⟨"tuple", _, PyProof.Rows.slot_tuple_getitem.lookup, ht.typeIs, ?_⟩
  refine HT.getItem_tuple_cut ht hs pl pu (by rw [hlen]; exact hw) ?_ (by rw [hlen]; exact hz)
  rw [hlen]
  refine ⟨.ref s.heap.objs.size, _, I.laid (t' := s.toks) (o := .tup (cutV xs lo hi)) (fun b ob q => Heap.get?_push_of_some _ q) (Nat.le_refl _) ?_, rfl, q _ (I.hok.fresh (Nat.le_refl _))⟩
  exact ⟨Nat.le_trans (cutV_length xs lo hi) hz, _, (r.drop (HT.sIx xs.length 0 lo)).take (HT.sIx xs.length xs.length hi - HT.sIx xs.length 0 lo), IsTup.new _ _⟩

/-! ### t < u, t + u -/
end
end L2

namespace L2
open PySem PySem.Spec PyProof.Rows

/-! ### places -/
/-- the place that an index of any sign means -/
def ixN (n : Nat) (i : Int) : Option Nat := if 0 ≤ i then (if i < n then some i.toNat else none) else if -(n : Int) ≤ i then some (i + n).toNat else none
def atI {α : Type} (xs : List α) (i : Int) : Option α := (ixN xs.length i).bind fun j => xs[j]?
theorem ixN_seq {n : Nat} {i : Int} {j : Nat} (h : ixN n i = some j) : seqIndex? i n = some j ∧ j < n ∧ -(n : Int) ≤ i ∧ i < n := by
  unfold ixN at h
  by_cases h0 : 0 ≤ i
  · rw [if_pos h0] at h
    by_cases h1 : i < n
    · rw [if_pos h1] at h
      have e : i.toNat = j := Option.some.inj h
      exact ⟨by rw [seqIndex_of h0 h1, e], by omega, by omega, h1⟩
    · rw [if_neg h1] at h; cases h
  · rw [if_neg h0] at h
    by_cases h1 : -(n : Int) ≤ i
    · rw [if_pos h1] at h
      have e : (i + n).toNat = j := Option.some.inj h
      exact ⟨by rw [seqIndex_neg (by omega) h1, e], by omega, h1, by omega⟩
    · rw [if_neg h1] at h; cases h
theorem atI_get {α : Type} {xs : List α} {i : Int} {v : α} (h : atI xs i = some v) : ∃ j, seqIndex? i xs.length = some j ∧ xs[j]? = some v ∧ j < xs.length ∧ -(xs.length : Int) ≤ i ∧ i < xs.length := by
  unfold atI at h
  cases e : ixN xs.length i with
  | none => rw [e] at h; cases h
  | some j =>
    rw [e] at h
    obtain ⟨h1, h2, h3, h4⟩ := ixN_seq e
    exact ⟨j, h1, h, h2, h3, h4⟩
theorem atI_nat {α : Type} {xs : List α} {j : Nat} {v : α} (h : xs[j]? = some v) : atI xs (j : Int) = some v := by
  have hj : j < xs.length := (List.getElem?_eq_some_iff.mp h).1
  have e : ixN xs.length (j : Int) = some j := by
    unfold ixN
    rw [if_pos (by omega), if_pos (by omega)]; simp
  unfold atI; rw [e]; exact h
theorem atI_last {α : Type} (xs : List α) (v : α) : atI (xs ++ [v]) (-1) = some v := by
  have hl : (xs ++ [v]).length = xs.length + 1 := by simp
  have e : ixN (xs ++ [v]).length (-1) = some xs.length := by
    unfold ixN
    rw [hl, if_neg (by decide), if_pos (by omega)]
    congr 1
    omega
  unfold atI
  rw [e]
  show (xs ++ [v])[xs.length]? = some v
  simp

/-! ### what may be subscripted -/
/-- what stands as an index of a plain subscript -/
def PlainIx (b : Expr) : Prop := ∀ o i, subscripted b false o i = operate [o, i] (getItem o i)
/-- a subscript by values -/
def IxR (X : Cx) (r : R2) : Prop :=
  ∀ (value slice : Expr) (pins : List (Addr × Obj)) (s : Shared) (σ : St) (H : Hp) (x y : V) (v u : Value) (Q : VK), Inv X pins σ H s → RelV x v → RelV y u → r x y H Q →
    subscripted slice false v u = operate [v, u] (getItem v u) → wpAny (model X.prog X.w) X.A (subscriptTail value slice v u) (EP X pins σ Q) X.xe s
/-- a call of a builtin's method by values: the receiver, the arguments -/
def MtR (X : Cx) (id : String) (r : V → List V → Hp → VK → Prop) : Prop :=
  ∀ (pins : List (Addr × Obj)) (s : Shared) (σ : St) (H : Hp) (x : V) (xs : List V) (v : Value) (us : List Value) (Q : VK), Inv X pins σ H s → RelV x v → Vals xs us → r x xs H Q →
    wpAny (model X.prog X.w) X.A (call (.builtin id) (v :: us)) (EP X pins σ Q) X.xe s
section
variable {X : Cx} {a b : Expr} {ta tb : TE} {pos : Pos}
/-- a[b] -/
theorem pe_ix {r : R2} (hr : IxR X r) (ha : PE X a ta) (hb : PE X b tb) (hs : PlainIx b) : PE X (.Subscript a b pos) (tOp r ta tb) := by
  refine ⟨?_⟩
  intro pins s σ H Q I h
  exact Subscript_ (binT ha hb I h fun v u s2 x y H2 I2 rx ry q => hr a b pins s2 σ H2 x y v u Q I2 rx ry q (hs _ _))

inductive rIxL (K : PySem.W.Frag) (x y : V) (H : Hp) (Q : VK) : Prop
  | mk (p : Addr) (xs : List V) (i : Int) (v : V) (e1 : x = .ref p) (e2 : y = .int i) (h : SqL K H p xs) (e : atI xs i = some v) (q : Q v H) : rIxL K x y H Q
inductive rIxT (K : PySem.W.Frag) (x y : V) (H : Hp) (Q : VK) : Prop
  | mk (p : Addr) (xs : List V) (i : Int) (v : V) (e1 : x = .ref p) (e2 : y = .int i) (h : SqT K H p xs) (e : atI xs i = some v) (q : Q v H) : rIxT K x y H Q
theorem ix_list : IxR X (rIxL X.K) := by
  intro value slice pins s σ H x y v u Q I rx ry h hs
  obtain ⟨p, xs, i, z, rfl, rfl, hq, he, q⟩ := h
  cases rx
  obtain ⟨t, rfl⟩ := ry
  obtain ⟨its, r, pl, hz⟩ := I.list hq
  obtain ⟨j, h1, h2, h3, h4, h5⟩ := atI_get he
  obtain ⟨w, ew, rw'⟩ := r.get h2
  have hl := r.length
  have hn := line63
  have fin : EP X pins σ Q w s := ⟨z, H, I, rw', q⟩
  by_cases h0 : 0 ≤ i
  · have hj : i.toNat = j := by
      rw [seqIndex_of h0 h5] at h1
      exact Option.some.inj h1
    exact item_listR pl.isList h0 (by omega) (by rw [hj]; simpa using ew) fin hs
  · have hj : (i + (its.toArray.size : Int)).toNat = j := by
      rw [seqIndex_neg (by omega) h4] at h1
      rw [List.size_toArray, ← hl]
      exact Option.some.inj h1
    exact subscriptTail_builtinR (x := w) pl.isList.typeIs slot_list_getitem.lookup
      (wpAny_getItem_list_neg (Q := fun r s' => r = w ∧ EP X pins σ Q r s') pl.isList (by omega) (by rw [List.size_toArray] <;> omega) (by omega) (by rw [hj]; simpa using ew) ⟨rfl, fin⟩) hs
theorem ix_tup : IxR X (rIxT X.K) := by
  intro value slice pins s σ H x y v u Q I rx ry h hs
  obtain ⟨p, xs, i, z, rfl, rfl, hq, he, q⟩ := h
  cases rx
  obtain ⟨t, rfl⟩ := ry
  obtain ⟨its, r, pl, hz⟩ := I.tuple hq
  obtain ⟨j, h1, h2, h3, h4, h5⟩ := atI_get he
  obtain ⟨w, ew, rw'⟩ := r.get h2
  have hl := r.length
  have hn := line63
  have fin : EP X pins σ Q w s := ⟨z, H, I, rw', q⟩
  exact subscriptTail_builtinR (x := w) pl.typeIs slot_tuple_getitem.lookup
    (getItem_tuple (j := j) (Q := fun r s' => r = w ∧ EP X pins σ Q r s') pl (by omega) (by omega) (by rw [List.size_toArray, ← hl]; exact h1) (by simpa using ew) ⟨rfl, fin⟩) hs

/-! ### xs[i] = v, any sign -/
/-- the list's object behind a store -/
theorem mapSeq_set (its : List Value) (n j : Nat) (u : Value) : Obj.mapSeq (·.setIfInBounds j u) { cls := .type "list", data := .seq its.toArray n } = { cls := .type "list", data := .seq (its.set j u).toArray n } := by
  simp [Obj.mapSeq]
theorem Inv.lst {pins : List (Addr × Obj)} {σ : St} {H : Hp} {s : Shared} {p : Addr} {xs : List V} (I : Inv X pins σ H s) (h : H p = some (.lst xs)) :
    ∃ (its : List Value) (n : Nat), Vals xs its ∧ s.heap.get? p = some { cls := .type "list", data := .seq its.toArray n } ∧ xs.length ≤ sizeLine := by
  obtain ⟨z, its, n, r, e⟩ := I.hok p _ h
  exact ⟨its, n, r, e, z⟩
/-- the list at p is written by an update of its object -/
theorem Inv.lstUpd {pins : List (Addr × Obj)} {σ : St} {H : Hp} {s : Shared} {p : Addr} {xs ys : List V} {its its' : List Value} {n n' : Nat} {f : Obj → Obj} (I : Inv X pins σ H s) (h : H p = some (.lst xs))
    (ho : s.heap.get? p = some { cls := .type "list", data := .seq its.toArray n }) (hf : f { cls := .type "list", data := .seq its.toArray n } = { cls := .type "list", data := .seq its'.toArray n' }) (r : Vals ys its') (hz : ys.length ≤ sizeLine) (t : Nat) :
    Inv X pins σ (upd H p (.lst ys)) { s with heap := s.heap.update p f, toks := t } := by
  have e : (s.heap.update p f).get? p = some { cls := .type "list", data := .seq its'.toArray n' } := by
    rw [Heap.get?_update_self f ho (by rw [hf] <;> rfl), hf]
  refine I.write (x := p) (e := p) (by rw [h]; trivial) (.inl rfl) (fun b u hb q => (Heap.get?_update_other _ _ (Ne.symm hb)).trans q) ⟨_, e⟩ ?_
  exact ⟨hz, its', n', r, e⟩
def rSetL : V → V → V → Hp → (Hp → Prop) → Prop := fun o i v H Q => ∃ p xs k j, o = .ref p ∧ i = .int k ∧ H p = some (.lst xs) ∧ ixN xs.length k = some j ∧ Q (upd H p (.lst (xs.set j v)))
theorem set_list : PSet X rSetL := by
  intro pins s σ H o i v ov iv u Q I ro ri rv h
  obtain ⟨p, xs, k, j, rfl, rfl, hp, hj, q⟩ := h
  cases ro
  obtain ⟨t, rfl⟩ := ri
  obtain ⟨its, n, r, ho, hz⟩ := I.lst hp
  obtain ⟨h1, h2, h3, h4⟩ := ixN_seq hj
  have hl := r.length
  have hn := line63
  have I' : Inv X pins σ (upd H p (.lst (xs.set j v))) { s with heap := s.heap.update p (Obj.mapSeq (·.setIfInBounds j u)) } :=
    I.lstUpd hp ho (mapSeq_set its n j u) (r.set rv j) (by rw [List.length_set]; exact hz) s.toks
  by_cases h0 : 0 ≤ k
  · have hk : k.toNat = j := by
      rw [seqIndex_of h0 h4] at h1
      exact Option.some.inj h1
    exact PySem.W.ki_setAt ho h0 (by omega) (by rw [List.size_toArray, ← hl]; exact h4) (by rw [hk]; exact ⟨_, I', q⟩)
  · have hk : (k + (its.toArray.size : Int)).toNat = j := by
      rw [seqIndex_neg (by omega) h3] at h1
      rw [List.size_toArray, ← hl]
      exact Option.some.inj h1
    exact PySem.W.ki_setBack ho (by omega) (by rw [List.size_toArray, ← hl]; exact h3) (by omega) (by rw [hk]; exact ⟨_, I', q⟩)

/-! ### slices -/

/-! ### in, not in: flat items -/

/-! ### len, list(x), tuple(x) of any list or tuple that is read -/
theorem call_len_seq : CallR X (.builtin "len") (fun xs H Q => ∃ p ys, xs = [.ref p] ∧ (SqL X.K H p ys ∨ SqT X.K H p ys) ∧ Q (.int ys.length) H) := by
  intro pins s σ H xs us Q I r h
  obtain ⟨p, ys, rfl, hq, q⟩ := h
  obtain ⟨u, rfl, rx⟩ := vals1 r
  cases rx
  have hn := line63
  rcases hq with hq | hq
  · obtain ⟨its, r', pl, hz⟩ := I.list hq
    have hlen := r'.length
    exact Calls.call_len_list pl.isList (by simp only [List.size_toArray] <;> omega) ⟨.int ys.length, H, I.tok _, ⟨s.toks + 1, by rw [List.size_toArray, hlen]⟩, q⟩
  · obtain ⟨its, r', pl, hz⟩ := I.tuple hq
    have hlen := r'.length
    exact len_tuple pl (by simp only [List.size_toArray] <;> omega) ⟨.int ys.length, H, I.tok _, ⟨s.toks + 1, by rw [List.size_toArray, hlen]⟩, q⟩
theorem call_list_of : CallR X (.type "list") (fun xs H Q => ∃ p ys, xs = [.ref p] ∧ (SqL X.K H p ys ∨ SqT X.K H p ys) ∧ ∀ l, H l = none → Q (.ref l) (upd H l (.lst ys))) := by
  intro pins s σ H xs us Q I r h
  obtain ⟨p, ys, rfl, hq, q⟩ := h
  obtain ⟨u, rfl, rx⟩ := vals1 r
  cases rx
  have fin : ∀ (its : List Value), Vals ys its → ys.length ≤ sizeLine → ∀ (h' : Heap) (c' : Nat), (∀ b o', s.heap.get? b = some o' → h'.get? b = some o') →
      h'.get? s.heap.objs.size = some { cls := .type "list", dict := none, data := .seq its.toArray c', slots := #[] } → EP X pins σ Q (.ref s.heap.objs.size) { s with heap := h' } := fun its r' hz h' c' kp e =>
    ⟨.ref s.heap.objs.size, _, I.laid (t' := s.toks) kp (Nat.le_refl _) (show ObjOk X.prog X.w _ h' _ (.lst ys) from ⟨hz, its, c', r', e⟩), rfl, q _ (I.hok.fresh (Nat.le_refl _))⟩
  rcases hq with hq | hq
  · obtain ⟨its, r', pl, hz⟩ := I.list hq
    have hlen := r'.length
    obtain ⟨o, ho, hc, n, hd⟩ := pl.isList
    exact call_list_seq p (.inl rfl) ho hc hd (fun h' c' kp e => fin its r' hz h' c' kp e) (by simp only [List.size_toArray] <;> omega)
  · obtain ⟨its, r', pl, hz⟩ := I.tuple hq
    have hlen := r'.length
    obtain ⟨o, ho, hc, n, hd⟩ := pl
    exact call_list_seq p (.inr rfl) ho hc hd (fun h' c' kp e => fin its r' hz h' c' kp e) (by simp only [List.size_toArray] <;> omega)
theorem call_tuple_of : CallR X (.type "tuple") (fun xs H Q => ∃ p ys, xs = [.ref p] ∧ ((SqL X.K H p ys ∧ ∀ l, H l = none → Q (.ref l) (upd H l (.tup ys))) ∨ (SqT X.K H p ys ∧ Q (.ref p) H))) := by
  intro pins s σ H xs us Q I r h
  obtain ⟨p, ys, rfl, h⟩ := h
  obtain ⟨u, rfl, rx⟩ := vals1 r
  cases rx
  rcases h with ⟨hq, q⟩ | ⟨hq, q⟩
  · obtain ⟨its, r', pl, hz⟩ := I.list hq
    have hlen := r'.length
    refine call_tuple_list pl.isList (fun h' kp => ?_) (by simp only [List.size_toArray] <;> omega)
    have I1 : Inv X pins σ H { s with heap := h' } := I.kept (t' := s.toks) kp
    have I2 : Inv X pins σ (upd H h'.objs.size (.tup ys)) { s with heap := h'.push { cls := .type "tuple", data := .seq its.toArray } } :=
      I1.laid (t' := s.toks) (fun b o e => Heap.get?_push_of_some _ e) (Nat.le_refl _) (show ObjOk X.prog X.w _ _ _ (.tup ys) from ⟨hz, its, r', IsTup.new _ _⟩)
    exact ⟨.ref h'.objs.size, _, I2, rfl, q _ (I1.hok.fresh (Nat.le_refl _))⟩
  · obtain ⟨its, r', pl, hz⟩ := I.tuple hq
    exact call_tuple_same pl ⟨.ref p, H, I, rfl, q⟩

/-! ### the call of a builtin's method: o.m(..) -/
/-- the value is of that builtin type -/
def tyV (K : PySem.W.Frag) (T : String) (x : V) (H : Hp) : Prop := match x with
  | .str _ => T = "str"
  | .int _ => T = "int"
  | .ref p => (T = "list" ∧ ∃ xs, SqL K H p xs) ∨ (T = "tuple" ∧ ∃ o, K.lookup p = some o ∧ o.cls = .type "tuple" ∧ o.dict = none) ∨
      (T = "dict" ∧ ((∃ kvs, H p = some (.dK kvs)) ∨ ∃ kvs, H p = some (.dT kvs))) ∨ (T = "set" ∧ ∃ S n, H p = some (.set S n))
  | _ => False
theorem tyV_is {pins : List (Addr × Obj)} {σ : St} {H : Hp} {s : Shared} {T : String} {x : V} {v : Value} (I : Inv X pins σ H s) (r : RelV x v) (ty : tyV X.K T x H) :
    s.TypeIs v T ∧ ∀ a, v = .ref a → ∃ ob, s.heap.get? a = some ob ∧ ob.dict = none := by
  cases x with
  | str z =>
    obtain ⟨t, rfl⟩ := r
    cases (show T = "str" from ty)
    exact ⟨typeIs_str s z t, fun _ e => nomatch e⟩
  | int i =>
    obtain ⟨t, rfl⟩ := r
    cases (show T = "int" from ty)
    exact ⟨typeIs_int s i t, fun _ e => nomatch e⟩
  | ref p =>
    cases r
    rcases ty with ⟨rfl, xs, hq⟩ | ⟨rfl, o, hk, hc, hd⟩ | ⟨rfl, hk⟩ | ⟨rfl, S, n, hk⟩
    · obtain ⟨its, _, pl, _⟩ := I.list hq
      refine ⟨pl.isList.typeIs, fun a e => ?_⟩
      cases e
      obtain ⟨o, n, e, c, hd, _⟩ := pl
      exact ⟨o, e, hd⟩
    · refine ⟨⟨o, I.kIn p o hk, hc⟩, fun a e => ?_⟩
      cases e
      exact ⟨o, I.kIn _ o hk, hd⟩
    · have z : ∃ o, s.heap.get? p = some o ∧ o.ExactDict := by
        rcases hk with ⟨kvs, hk⟩ | ⟨kvs, hk⟩
        · obtain ⟨_, _, _, _, o, _, _, e, ex, _⟩ := I.hok p _ hk
          exact ⟨o, e, ex⟩
        · obtain ⟨_, _, _, _, o, _, _, e, ex, _⟩ := I.hok p _ hk
          exact ⟨o, e, ex⟩
      obtain ⟨o, e, ex⟩ := z
      refine ⟨⟨o, e, ex.1⟩, fun a e2 => ?_⟩
      cases e2
      exact ⟨o, e, ex.2.1⟩
    · obtain ⟨o, _, _, _, e, ex, _⟩ := I.hok p _ hk
      refine ⟨⟨o, e, ex.1⟩, fun a e2 => ?_⟩
      cases e2
      exact ⟨o, e, ex.2.1⟩
  | _ => exact False.elim ty
def tBM (K : PySem.W.Frag) (T : String) (r : V → List V → Hp → VK → Prop) (to : TE) (t : TA) : TE := fun σ H Q => to σ H fun x H1 => tyV K T x H1 ∧ t σ H1 fun xs H2 => r x xs H2 Q
variable {o e : Expr} {es : List Expr} {to : TE} {t : TA} {name : Str} {apos cpos : Pos} {T id : String} {r : V → List V → Hp → VK → Prop}
theorem pe_bm (pa : PlainAttrs T) (slot : Slot T name id) (hty : typeOf (.builtin id) = pure (.type "method_descriptor")) (hm : MtR X id r) (ho : PE X o to) (ha : PA X (e :: es) t)
    (hbase : attributeBase o name X.env (eval o X.env) = eval o X.env := by rfl)
    (hfew : ((backTo cpos (starEach (e :: es) X.env)).all (fun x => !x.1) && (backToKw cpos (keywordEach [] X.env)).all (fun x => x.1.isSome)
      && decide ((e :: es).length + ([] : List Keyword).length + (if ([] : List Keyword).isEmpty then 0 else 1) < 30)) = true := by rfl)
    (hline : (apos.endLine == cpos.line) = true := by rfl) (hs : starEach (e :: es) X.env = (false, eval e X.env) :: starEach es X.env := by rfl) (hplain : (backTo cpos (starEach es X.env)).any (·.1) = false := by rfl) :
    PE X (.Call (.Attribute o name apos) (e :: es) [] cpos) (tBM X.K T r to t) := by
  refine ⟨?_⟩
  intro pins s σ H Q I h
  refine wpAny_Call_method_late hbase hfew hline rfl (thn (ho pins s σ H _ I h) fun v s1 ⟨x, H1, I1, r1, ty, q1⟩ => ?_)
  obtain ⟨h1, h2⟩ := tyV_is I1 r1 ty
  refine ⟨T, id, pa, slot, hty, h1, h2, ?_⟩
  have hA := ha cpos pins s1 σ H1 _ I1 q1
  rw [hs] at hA ⊢
  refine Calls.callWith_builtin (by show (false || (backTo cpos (starEach es X.env)).any (·.1)) = false; rw [hplain] <;> rfl) (Calls.evalArgs_plain ?_)
  exact thn hA fun us s2 ⟨vs, H2, I2, r2, q2⟩ => hm pins s2 σ H2 x vs v us Q I2 r1 r2 q2
/- xs.append(e), list.index on a module's tuple .. are MtR facts of 06m -/
end
end L2

namespace L2
open PySem PySem.Spec PyProof.Rows

def MtM (X : Cx) (id : String) (r : V → List V → Hp → VK → Prop) : Prop :=
  ∀ (pins : List (Addr × Obj)) (s : Shared) (σ : St) (H : Hp) (x : V) (xs : List V) (v : Value) (us : List Value) (Q : VK), Inv X pins σ H s → RelV x v → Vals xs us → r x xs H Q →
    wpAny (model X.prog X.w) X.A (call (.builtin id) (v :: us)) (EP X pins σ Q) X.xe s

/-! ### lists of values -/
theorem Vals.one : ∀ {x : V} {us : List Value}, Vals [x] us → ∃ u, us = [u] ∧ RelV x u
  | _, _, .cons r .nil => ⟨_, rfl, r⟩
theorem Vals.two : ∀ {x y : V} {us : List Value}, Vals [x, y] us → ∃ u v, us = [u, v] ∧ RelV x u ∧ RelV y v
  | _, _, _, .cons r (.cons q .nil) => ⟨_, _, rfl, r, q⟩

section
variable {X : Cx} {pins : List (Addr × Obj)} {σ : St} {H : Hp} {s : Shared} {l b : Addr} {xs ys zs : List V}

/-! ### the two steps: a tracked list is rewritten, a new list is laid -/
theorem Inv.lset {its its' : List Value} {n : Nat} {f : Array Value → Array Value} {t' : Nat} (I : Inv X pins σ H s) (hH : H l = some (.lst xs))
    (e : s.heap.get? l = some { cls := .type "list", data := .seq its.toArray n }) (hf : f its.toArray = its'.toArray) (hv : Vals ys its') (hz : ys.length ≤ sizeLine) :
    Inv X pins σ (upd H l (.lst ys)) { s with heap := s.heap.update l (Obj.mapSeq f), toks := t' } := by
  have q := PySem.IsL.update e f
  rw [hf] at q
  refine I.write (x := l) (e := l) (by rw [hH]; exact trivial) (.inl rfl) (fun b' u hb hu => (Heap.get?_update_other s.heap (Obj.mapSeq f) (Ne.symm hb)).trans hu) ⟨_, q⟩ ?_
  exact ⟨hz, its', _, hv, q⟩
theorem Inv.lnew {its : List Value} {t' : Nat} (I : Inv X pins σ H s) (hv : Vals ys its) (hz : ys.length ≤ sizeLine) :
    Inv X pins σ (upd H s.heap.objs.size (.lst ys)) { s with heap := s.heap.push { cls := .type "list", data := .seq its.toArray }, toks := t' } :=
  I.laid (fun _ _ q => Heap.get?_push_of_some _ q) (Nat.le_refl _) ⟨hz, its, 0, hv, Heap.get?_push_size _ rfl⟩
theorem Inv.fresh (I : Inv X pins σ H s) : H s.heap.objs.size = none := I.hok.fresh (Nat.le_refl _)
theorem Inv.lstM (I : Inv X pins σ H s) (hH : H l = some (.lst xs)) : xs.length ≤ sizeLine ∧ ∃ (its : List Value) (n : Nat), Vals xs its ∧ xs.length = its.length ∧ s.heap.get? l = some { cls := .type "list", data := .seq its.toArray n } := by
  obtain ⟨z, its, n, r, e⟩ := I.hok l _ hH
  exact ⟨z, its, n, r, r.length, e⟩

end

section
variable {X : Cx}

/-! ### methods -/
def rAppend : V → List V → Hp → VK → Prop := fun x vs H Q => ∃ l xs y, x = .ref l ∧ vs = [y] ∧ H l = some (.lst xs) ∧ xs.length < sizeLine ∧ Q .non (upd H l (.lst (xs ++ [y])))
theorem mt_append : MtM X "list.append" rAppend := by
  intro pins s σ H x vs v us Q I rx rv h
  obtain ⟨l, xs, y, rfl, rfl, hH, hz, q⟩ := h
  cases rx
  obtain ⟨u, rfl, ru⟩ := rv.one
  obtain ⟨z, its, n, r, hl, e⟩ := I.lstM hH
  refine call_meets F.slot_list_append ⟨_, e, rfl⟩ F.entry_list_append (F.args_list_append_2 _ _) (PySem.list_append l its.toArray n u (by rw [List.size_toArray]; omega)) ⟨e, ?_⟩
  refine ⟨.non, _, I.lset (its' := its ++ [u]) hH e (by simp) (r.append (.cons ru .nil)) ?_, rfl, q⟩
  rw [List.length_append, List.length_singleton]
  omega






/-! ### list + list, list += list, list * int -/
def rCat : R2 := fun x y H Q => ∃ l b xs zs, x = .ref l ∧ y = .ref b ∧ H l = some (.lst xs) ∧ H b = some (.lst zs) ∧ xs.length + zs.length ≤ sizeLine ∧ ∀ p, H p = none → Q (.ref p) (upd H p (.lst (xs ++ zs)))
theorem op_cat : OpR X (binaryOp .Add) rCat := by
  intro pins s σ H x y v u Q I rx ry h
  obtain ⟨l, b, xs, zs, rfl, rfl, hH, hB, hz, q⟩ := h
  cases rx
  cases ry
  obtain ⟨z, its, n, r, hl, e⟩ := I.lstM hH
  obtain ⟨z2, its2, n2, r2, hl2, e2⟩ := I.lstM hB
  refine PySem.P.add_list e e2 ?_ (by rw [List.size_toArray, List.size_toArray]; omega)
  have ea : its.toArray ++ its2.toArray = (its ++ its2).toArray := by simp
  rw [ea]
  exact ⟨.ref _, _, I.lnew (t' := s.toks) (r.append r2) (by rw [List.length_append]; omega), rfl, q _ I.fresh⟩

/-! ### del xs[i] -/
end

/-! ### xs[a:b] = ys -/
section
variable {prog : Program} {w : World} {A : Around} {E : Value → Shared → Prop} {s : Shared}
end

section
variable {X : Cx}
end
end L2

namespace Att
open PySem PySem.W PySem.Calls PyProof.Rows

/-! ### the script -/
theorem ints_of_wellAll {P : Params} {h : Heap} : ∀ (ns : List Int) (vs : List Value), WellAll P h vs (ns.map WData.int) → IntsAre vs ns := by
  intro ns
  induction ns with
  | nil =>
    intro vs w
    rw [List.map_nil] at w
    cases w
    exact .nil
  | cons n ns ih =>
    intro vs w
    rw [List.map_cons] at w
    cases w with
    | cons a b =>
      cases a
      exact .cons _ _ (ih _ b)

theorem script_of {l : OpenLaw} {n : Nat} (hn : l.most = some n) {P : Params} {h : Heap} {args : List WData} {vals : List Value}
    (hpre : l.row.toRowW.claim.pre args = true) (hwl : WellAll P h vals args) :
    ∃ a vs ns, vals = [Value.ref a] ∧ args = [WData.list (ns.map WData.int)] ∧ h.get? a = some { cls := .type "list", data := .seq vs.toArray } ∧ IntsAre vs ns ∧ ns.length ≤ n := by
  have hsh : WShape.hasAll [] args [.list .int] = true := (pre_splitW hpre).1
  have hc : l.pre.holds [] { args := args } = true := (pre_splitW hpre).2
  obtain ⟨d, r, rfl, h1, h2⟩ := hasAllW_cons hsh
  obtain rfl := hasAllW_nil h2
  obtain ⟨xs, rfl, h3⟩ := hasW_list h1
  obtain ⟨ns, rfl⟩ := items_int h3
  have hlen : ns.length ≤ n := by
    unfold OpenLaw.pre at hc
    have h4 : (WTm.not (.lt (.lit (.int (n : Int))) (.len (.arg 0)))).holds [] { args := [.list (ns.map .int)] } = true := by
      have h4 := (holds_andW hc).1
      rw [hn] at h4
      exact h4
    have h5 := condW_of h4 (w_not (w_lt w_lit (w_len_list (w_arg rfl))))
    rw [List.length_map] at h5
    refine Nat.le_of_not_lt fun q => ?_
    have q' : (n : Int) < ((ns.length : Nat) : Int) := by omega
    first
      | (rw [decide_eq_true q'] at h5; exact absurd h5 (by decide))
      | (simp at h5; omega)
  cases hwl with
  | cons w1 w2 =>
    cases w2
    cases w1 with
    | list ho hall => exact ⟨_, _, ns, rfl, rfl, ho, ints_of_wellAll ns _ hall, hlen⟩

theorem post_true (l : OpenLaw) (args : List WData) : l.row.toRowW.claim.post args (.bool true) args = true :=
  postW_of (r := l.row.toRowW) (X := (true == true))
    (show WShape.has [] (.bool true) .bool = true by first | rfl | decide | simp [WShape.has, WShape.arms, WShape.armsAll])
    (show (WTm.eq .res (.lit (.bool true))).value [] { args := args, res := some (.bool true), after := args } = some (.bool (true == true)) from w_eq_bool (w_res rfl) w_lit) rfl

/-! ### the attachment: holds_open's last premise (the goal 'hc' behind k_head) from a wpAny of the law's body -/

/-- the same from a codeAny of the CALL (for a layer whose function contracts speak of calls) -/
theorem attach_call {l : OpenLaw} {n : Nat} {q : Program} {loose : List Str} {XP : (Str → Option Value) → Heap → Prop} {YP : World → Heap → Prop} {d : DefRec}
    (hn : l.most = some n) (hdf : d.params.defaults = [])
    (call : ∀ (w : World) (s₀ s₁ : Shared) (mg mb : Str → Option Value) (fa : Addr) (o : Obj) (pm cd doc : Value) (a : Addr) (vs : List Value) (ns : List Int),
      Ground q loose [] XP w s₀ mg mb s₁.heap → YP w s₁.heap →
      s₁.heap.get? fa = some o → o.data = .func (docDef d.name d.params d.body d.scope pm cd doc) → s₁.heap.CodeRec cd d.name → mg d.name = some (.ref fa) →
      s₁.heap.get? a = some { cls := .type "list", data := .seq vs.toArray } → IntsAre vs ns → ns.length ≤ n → s₁.gens = #[] →
      codeAny (model l.prog w) callerA (.call (.ref fa) ⟨[.ref a], []⟩) (fun r s' => r = .ok (.ret (.bool true)) ∧ OldK s₁.heap s'.heap ∧ s'.os = s₁.os ∧ AllBare s'.gens) s₁) :
    WalkO q loose XP YP l.row.toRowW d [] (fun f vs => PySem.call f vs) := by
  intro w s₀ s₁ mg mb G Y fa o pm cd doc dV kV ho hd hcd hD hmg hg args vals as hpre hlay hrd hwl hlo
  obtain rfl : dV = .none := Dflts.none hD hdf
  obtain rfl : kV = .none := Dflts.noKw hD
  obtain ⟨a, vs, ns, rfl, rfl, hobj, hints, hlen⟩ := script_of hn hpre hwl
  refine enter_call (codeAny_mono (call w s₀ s₁ mg mb fa o pm cd doc a vs ns G Y ho (fd_plain hd) hcd hmg hobj hints hlen hg) fun r s' hq => ?_)
  obtain ⟨rfl, h2, h3, h4⟩ := hq
  exact ⟨.inl ⟨.bool true, .bool true, [], rfl, fun _ => rfl, .bool true, post_true l _, fun _ => ⟨List.Pairwise.nil, fun _ hm => (nomatch hm)⟩⟩, h2, h3, h4⟩


/-! ### rules over ANY heap (no ledger) from facts about the written part K: the library's own take a ledger (News) for what they write -/
section
variable {prog : Program} {w : World} {A : Around} {E : Value → Shared → Prop} {s : Shared} {K : Frag}





/-! the whole heap as the ledger: makes every rule that writes through a ledger a rule over any heap -/

end
end Att

namespace L2
open PySem PySem.Spec PyProof.Rows

theorem vals_ints : ∀ {vs : List Value} {ns : List Int}, IntsAre vs ns → Vals (ns.map V.int) vs
  | _, _, .nil => .nil
  | _, _, .cons n t h => .cons ⟨t, rfl⟩ (vals_ints h)


end L2

namespace L2
open PySem PySem.Spec PyProof.Rows

abbrev KOf {K : PySem.W.Frag} {h : Heap} (_ : K.In h) : PySem.W.Frag := K

end L2

/- THE LAST THEOREM (shape; LID, My.* are yours):
   My.Adr: a structure of the addresses that your layer names (classes, functions); My.Txt K t: a structure (Prop) of the equations over K;
   My.txt_mk : {K} {implicit addresses ..} (e1 : nsIn K mainGlobals "law" = some (some (.ref f))) (e2 : K.lookup f = some ⟨oc, od, .func (fnOf "law" "law" params body scope dV kV doc pm an cdv ct), sl⟩) (e3 : codeIn K cdv "law" = true) .. : ∃ t, My.Txt K t

set_option maxRecDepth 100000 in
set_option maxHeartbeats 0 in
theorem PySem.Challenge.cw_LID_holds : PySem.Challenge.rw_LID.Holds := by
  w_on; o_law; k_head; (case hw => w_witness2)
  k_fill
  refine L2.walk_of (l := PySem.Challenge.rw_LID) (n := 63) (k := 40) (x := "script") (CX := fun w => ..) (sp := fun _ => My.sp_law) rfl (by decide) rfl ⟨rfl, by decide, by decide⟩ (fun w h Y => PySem.W.kIn_of Y) ?F ?S ?C
  case F =>
    intro w mg fa h KX G hmg
    have T : ∃ t, My.Txt (L2.KOf KX) t := by
      dsimp only [L2.KOf]                          -- K must stand as «<heap const> w.params» for k_is
      refine' My.txt_mk ?e1 ?e2 ?e3 ..
      (case e1 => PySem.W.k_is)                    -- in the order: a name -> its address -> its object -> its parts
      (case e2 => PySem.W.k_is)
      ..
    obtain ⟨t, T⟩ := T
    have e0 := hmg.symm.trans (PySem.W.mg_of KX G T.law)
    cases e0                                       -- fa is the law's own address
    exact ⟨_, fun s u => .of_eq rfl, fun base kb nb => My.law_fn T kb nb⟩     -- if «.of_eq rfl» comes too early: refine' ⟨_, ?b, fun base kb nb => My.law_fn T kb nb⟩; exact fun s u => .of_eq rfl
  case S => exact fun w H a ns hl hO hS => ..
  case C => exact ..
(the tactic k_is has no namespace: write k_is) -/

/-! SHORT WORDS over the layer: a def of the text, its body, what a loop and a test want. -/
namespace L2
open PySem PySem.Spec PyProof.Rows

/-! ### the text by places -/
/-- the j-th statement of a class's body -/
def inClass (s : Stmt) (j : Nat) : Stmt := match s with
  | .ClassDef _ _ _ body _ _ _ _ _ _ _ => body.getD j (.Pass ⟨0, 0, 0, 0⟩)
  | _ => .Pass ⟨0, 0, 0, 0⟩
def defArgs (s : Stmt) : Arguments := match s with
  | .FunctionDef _ a _ _ _ _ _ _ _ _ => a
  | _ => { posonlyargs := [], args := [], vararg := none, kwonlyargs := [], kw_defaults := [], kwarg := none, defaults := [] }
def defBody (s : Stmt) : List Stmt := match s with
  | .FunctionDef _ _ b _ _ _ _ _ _ _ => b
  | _ => []
def defScope (s : Stmt) : Scope := match s with
  | .FunctionDef _ _ _ _ _ _ sc _ _ _ => sc
  | _ => { kind := .function, names := [], isGenerator := false, isCoroutine := false }

/-! ### no exception leaves a def -/
abbrev CX0 : CXT := fun _ _ _ _ _ _ => False
abbrev E0 : XK := fun _ _ _ => False
theorem pass0 {X : Cx} : Passes CX0 X E0 := fun _ _ _ _ _ _ _ h => h.elim

/-! ### a def (or method) of the text as it stands behind the top -/
structure Fun (K : PySem.W.Frag) (x qual : Str) (st : Stmt) (f : Addr) (fd : FuncData) : Prop where
  ex : ∃ (oc : Value) (od : Option Addr) (kV doc pm : Value) (an : Option Addr) (cdv ct : Value) (osl : Array (Option Value)),
    fd = PySem.W.fnOf x qual (defArgs st) (defBody st) (defScope st) .none kV doc pm an cdv ct ∧ K.lookup f = some ⟨oc, od, .func fd, osl⟩ ∧ PySem.W.codeIn K cdv qual = true
  kp : PySem.W.keepIn K (.ref f) = true
section
variable {P : Program} {w : World} {K : PySem.W.Frag} {mg : Str → Option Value} {base : Heap}
/-- THE RULE for a def: its body as a term of rules, and the reading of that term -/
theorem Fun.ok {x qual : Str} {st : Stmt} {f : Addr} {fd : FuncData} {N ps : List Str} {k : Nat} {sp : Sp} (F : Fun K x qual st f fd) (S : FnScope N ps (defScope st)) (len : ∀ vs H Q E, sp vs H Q E → vs.length = ps.length)
    (hbody : ∀ (cdv : Value) (A : Around) (outer : List Env) (s : Shared) (H : Hp) (vs : List V) (Q : VK) (E : XK), Room k (A.deeper (envOfC qual (defScope st) s.heap.objs.size f cdv)) → sp vs H Q E →
      ∃ t, PSs (cxOf CX0 P w K mg base N qual (defScope st) f cdv A outer s H E).nox (defBody st) t ∧ t { nx := fun _ H' => Q .non H', rt := Q } (start N vs) H) : FnOk P w K mg base CX0 (k + 1) f fd ps sp := by
  obtain ⟨oc, od, kV, doc, pm, an, cdv, ct, osl, rfl, lk, hcd⟩ := F.ex
  refine fn_of lk hcd S len fun A outer s H vs Q E hr hsp => ?_
  obtain ⟨t, h, q⟩ := hbody cdv A outer s H vs Q E hr hsp
  exact ⟨t, h.nox, q⟩
/-- how its arguments bind (no defaults): h is «fun _ _ _ _ _ _ us hl => match us, hl with | [_, _], _ => rfl», one _ a parameter -/
theorem Fun.binds {x qual : Str} {st : Stmt} {f : Addr} {fd : FuncData} {ps : List Str} (F : Fun K x qual st f fd)
    (h : ∀ (kV doc pm : Value) (an : Option Addr) (cdv ct : Value) (us : List Value), us.length = ps.length → bindArgs (PySem.W.fnOf x qual (defArgs st) (defBody st) (defScope st) .none kV doc pm an cdv ct) ⟨us, []⟩ = pure (ps.zip us)) : Binds K fd ps [] := by
  obtain ⟨oc, od, kV, doc, pm, an, cdv, ct, osl, rfl, lk, hcd⟩ := F.ex
  exact .all (h kV doc pm an cdv ct)
theorem fun_mk {x qual : Str} {st : Stmt} {f : Addr} {oc : Value} {od an : Option Addr} {osl : Array (Option Value)} {kV doc pm cdv ct : Value} (l : K.lookup f = some ⟨oc, od, .func (PySem.W.fnOf x qual (defArgs st) (defBody st) (defScope st) .none kV doc pm an cdv ct), osl⟩)
    (c : PySem.W.codeIn K cdv qual = true) (k : PySem.W.keepIn K (.ref f) = true) : Fun K x qual st f (PySem.W.fnOf x qual (defArgs st) (defBody st) (defScope st) .none kV doc pm an cdv ct) := ⟨⟨oc, od, kV, doc, pm, an, cdv, ct, osl, rfl, l, c⟩, k⟩
end
theorem hu_of {A : Around} {k : Nat} (hr : Room k A) : A.units + 1 < cLine := Nat.lt_of_le_of_lt (Nat.add_le_add_left (by decide : 1 ≤ 64) _) hr.units
theorem small1000 {n : Nat} (h : n ≤ 1000) : n < sizeLine := Nat.lt_of_le_of_lt h (by decide)

/-! ### expressions in short: the name that stands in the i-th slot -/
section
variable {X : Cx}
theorem pv (i : Nat) {x : Str} {pos : Pos} (hN : X.N[i]? = some x := by rfl) (hv : Vis X.env.scope x := by first | exact Or.inl rfl | exact Or.inr (Or.inl rfl) | exact Or.inr (Or.inr rfl)) (hd : (x == ("__debug__" : Str)) = false := by decide)
    (hcd : (x == ("__classdict__" : Str)) = false := by decide) : PE X (.Name x pos) (tVar i) := pe_var hN hv hd hcd
end

/-! ### tests -/
theorem iteF {A B : Prop} (h : B) : if false = true then A else B := by
  rw [if_neg Bool.false_ne_true]
  exact h
theorem iteT {A B : Prop} (h : A) : if true = true then A else B := by
  rw [if_pos rfl]
  exact h
theorem ite2 {c A B : Prop} [Decidable c] (h1 : c → A) (h2 : ¬ c → B) : if c then A else B := by
  by_cases h : c
  · rw [if_pos h]
    exact h1 h
  · rw [if_neg h]
    exact h2 h

/-! ### heaps -/
/-- all that was tracked is as it was -/
def Same (H H' : Hp) : Prop := ∀ b o, H b = some o → H' b = some o
theorem Same.refl (H : Hp) : Same H H := fun _ _ h => h
theorem Same.trans {H H1 H2 : Hp} (a : Same H H1) (b : Same H1 H2) : Same H H2 := fun c o h => b c o (a c o h)
theorem Same.free {H H' : Hp} (e : Same H H') {l : Addr} (h : H' l = Option.none) : H l = Option.none := by
  cases q : H l with
  | none => rfl
  | some o =>
    rw [e l o q] at h
    cases h
theorem Same.seq {K : PySem.W.Frag} {H H' : Hp} {a : Addr} {xs : List V} (e : Same H H') (h : SqL K H a xs) : SqL K H' a xs := by
  rcases h with (h | ⟨o, h⟩) | h
  · exact .inl (.inl (e _ _ h))
  · exact .inl (.inr ⟨o, e _ _ h⟩)
  · exact .inr h

end L2
set_option Elab.async false
set_option linter.all false
set_option maxRecDepth 100000
/-! MORE CALLS over the hand layer: sum, all, divmod, isinstance, o[i] op= e. -/
namespace L2
open PySem PySem.Spec PyProof.Rows

theorem noPylong_big {x y : Int} (h : y.natAbs < 2 ^ 300) : Builtin.divisionGoesByPylong x y = false := by
  refine PyProof.noPylong_of_log2 ?_
  by_cases h0 : y.natAbs = 0
  · rw [h0]; decide +kernel
  · have h30 : y.natAbs.log2 < 300 := (Nat.log2_lt h0).mpr h
    omega
/-- a divisor from 1 on, of at most sixty figures -/
def CDivB (_i j : Int) : Prop := 0 < j ∧ j < 2 ^ 300
section
variable {X : Cx} {a b : Expr} {ta tb : TE} {pos : Pos}
theorem op_fdivB : OpR X (binaryOp .FloorDiv) (rI CDivB fun i j => .int (i / j)) := opI fun i j _ _ _ _ _ hc q => by
  obtain ⟨h1, h2⟩ := hc
  refine floordiv_int (by omega) ?_ (.inl (noPylong_big (by omega)))
  rw [Int.fdiv_eq_ediv_of_nonneg i (by omega)]
  exact q
inductive cDm (xs : List V) (H : Hp) (Q : VK) : Prop
  | mk (i j : Int) (e : xs = [.int i, .int j]) (c : CDivB i j) (q : ∀ p, H p = none → Q (.ref p) (upd H p (.tup [.int (i / j), .int (i % j)]))) : cDm xs H Q
theorem call_divmodB : CallR X (.builtin "divmod") cDm := by
  intro pins s σ H xs us Q I r h
  obtain ⟨i, j, rfl, ⟨h1, h2⟩, q⟩ := h
  obtain ⟨u, w', rfl, ⟨t, rfl⟩, ⟨t', rfl⟩⟩ := vals2 r
  refine divmod_int (by omega) ?_ (.inl (noPylong_big (by omega)))
  rw [Int.fdiv_eq_ediv_of_nonneg i (by omega), Int.fmod_eq_emod_of_nonneg i (by omega)]
  have hn : H s.heap.objs.size = none := I.hok.fresh (Nat.le_refl _)
  refine ⟨.ref s.heap.objs.size, _, ?_, rfl, q _ hn⟩
  refine I.laid (fun b o e => Heap.get?_push_of_some _ e) (Nat.le_refl _) ⟨by simp only [List.length_cons, List.length_nil]; rw [sizeLine_eq]; decide, [.int (i / j) s.toks, .int (i % j) (s.toks + 1)], .cons ⟨_, rfl⟩ (.cons ⟨_, rfl⟩ .nil), ?_⟩
  exact ⟨_, Heap.get?_push_size s.heap rfl, rfl, 0, rfl⟩

theorem preSum_take (ns : List Int) : ∀ k, preSum (fun i => ns.getD i 0) k = (ns.take k).sum := by
  intro k
  induction k with
  | zero => rfl
  | succ k ih =>
    show preSum (fun i => ns.getD i 0) k + ns.getD k 0 = _
    rw [ih, List.take_add_one, List.sum_append_int]
    cases e : ns[k]? with
    | none => simp [List.getD_eq_getElem?_getD, e]
    | some v => simp [List.getD_eq_getElem?_getD, e]
theorem ints_at {ns : List Int} {its : List Value} (rv : Vals (ns.map V.int) its) {i : Nat} {v : Value} (e : its[i]? = some v) : ∃ t, v = .int (ns.getD i 0) t := by
  have hl := rv.length
  rw [List.length_map] at hl
  have hi : i < its.length := (List.getElem?_eq_some_iff.mp e).1
  have hn : ns[i]? = some (ns[i]'(by omega)) := List.getElem?_eq_getElem (by omega)
  obtain ⟨u, hu, ru⟩ := rv.get (i := i) (x := V.int (ns[i]'(by omega))) (by rw [List.getElem?_map, hn]; rfl)
  rw [e] at hu
  cases hu
  obtain ⟨t, rfl⟩ := ru
  exact ⟨t, by rw [List.getD_eq_getElem?_getD, hn]; rfl⟩
theorem call_sum_seq (hc : X.calm = true) : CallR X (.builtin "sum") (fun xs H Q => ∃ (p : Addr) (ns : List Int), xs = [.ref p] ∧ (SqL X.K H p (ns.map V.int) ∨ SqT X.K H p (ns.map V.int)) ∧ Q (.int ns.sum) H) := by
  intro pins s σ H xs us Q I r h
  obtain ⟨p, ns, rfl, hq, q⟩ := h
  obtain ⟨u, rfl, rx⟩ := vals1 r
  cases rx
  have hh : X.A.in1.handled = none := I.ok.hd hc
  have fin : ∀ (its : List Value) (h' : Heap) (o : Obj) (tk : Nat) (t' : Tok), Vals (ns.map V.int) its → (∀ b ob, b ∉ [s.heap.objs.size] → (s.heap.push o).get? b = some ob → h'.get? b = some ob) → EP X pins σ Q (.int (preSum (fun i => ns.getD i 0) its.toArray.size) t') { s with heap := h', toks := tk } := fun its h' o tk t' rv k => by
    have hl := rv.length
    rw [List.length_map] at hl
    have e : preSum (fun i => ns.getD i 0) its.toArray.size = ns.sum := by
      rw [preSum_take, List.size_toArray, ← hl, List.take_length]
    rw [e]
    exact ⟨.int ns.sum, H, I.kept fun b ob e => k b ob (by simp; exact Nat.ne_of_lt (Heap.lt_size e)) (Heap.get?_push_of_some _ e), ⟨_, rfl⟩, q⟩
  rcases hq with hq | hq
  · obtain ⟨its, rv, pl, hz⟩ := I.list hq
    have hp : p < s.heap.objs.size := by obtain ⟨o, e, _⟩ := pl.isList; exact Heap.lt_size e
    refine call_sum_walkG (wpAny_pyIter_list pl.isList ?_)
    refine ⟨s.heap.objs.size, [s.heap.objs.size, p], [s.heap.objs.size], _, _, _, fun i => ns.getD i 0, rfl, Walks.list hh _ p (Nat.ne_of_lt hp) its.toArray, ⟨⟨_, Heap.get?_push_size _ rfl, rfl, rfl⟩, pl.isList.at fun o e => Heap.get?_push_of_some _ e⟩, ?_, ?_, ?_⟩
    · intro b hb
      show b < (s.heap.push _).objs.size
      rw [Heap.size_push]
      rcases List.mem_cons.mp hb with e | hb
      · rw [e]; exact Nat.lt_succ_self _
      · have e : b = p := by simpa using hb
        rw [e]; exact Nat.lt_succ_of_lt hp
    · intro i v e
      exact ints_at rv (by simpa using e)
    · intro h' tk t' k
      exact fin its h' _ tk t' rv k
  · obtain ⟨its, rv, pl, hz⟩ := I.tuple hq
    have pl' : s.heap.IsTuple p its.toArray := pl
    have hp : p < s.heap.objs.size := by obtain ⟨o, e, _⟩ := pl; exact Heap.lt_size e
    refine call_sum_walkG (wpAny_pyIter_tuple pl' ?_)
    refine ⟨s.heap.objs.size, [s.heap.objs.size, p], [s.heap.objs.size], _, _, _, fun i => ns.getD i 0, rfl, Walks.tuple hh _ p (Nat.ne_of_lt hp) its.toArray, ⟨⟨_, Heap.get?_push_size _ rfl, rfl, rfl⟩, pl'.push _⟩, ?_, ?_, ?_⟩
    · intro b hb
      show b < (s.heap.push _).objs.size
      rw [Heap.size_push]
      rcases List.mem_cons.mp hb with e | hb
      · rw [e]; exact Nat.lt_succ_self _
      · have e : b = p := by simpa using hb
        rw [e]; exact Nat.lt_succ_of_lt hp
    · intro i v e
      exact ints_at rv (by simpa using e)
    · intro h' tk t' k
      exact fin its h' _ tk t' rv k

theorem bools_at {bs : List Bool} {its : List Value} (rv : Vals (bs.map V.bl) its) {i : Nat} {v : Value} (e : its[i]? = some v) : v = .bool (bs.getD i true) := by
  have hl := rv.length
  rw [List.length_map] at hl
  have hi : i < its.length := (List.getElem?_eq_some_iff.mp e).1
  have hn : bs[i]? = some (bs[i]'(by omega)) := List.getElem?_eq_getElem (by omega)
  obtain ⟨u, hu, ru⟩ := rv.get (i := i) (x := V.bl (bs[i]'(by omega))) (by rw [List.getElem?_map, hn]; rfl)
  rw [e] at hu
  cases hu
  rw [List.getD_eq_getElem?_getD, hn]
  exact ru
theorem all_getD (bs : List Bool) : ((List.range bs.length).all fun i => bs.getD i true) = bs.all id := by
  rw [Bool.eq_iff_iff, List.all_eq_true, List.all_eq_true]
  constructor
  · intro h b hb
    obtain ⟨i, hi, e⟩ := List.getElem_of_mem hb
    have := h i (List.mem_range.mpr hi)
    rw [List.getD_eq_getElem?_getD, List.getElem?_eq_getElem hi, e] at this
    exact this
  · intro h i hi
    have hi' := List.mem_range.mp hi
    rw [List.getD_eq_getElem?_getD, List.getElem?_eq_getElem hi']
    exact h _ (List.getElem_mem hi')
theorem call_all_seq (hc : X.calm = true) : CallR X (.builtin "all") (fun xs H Q => ∃ (p : Addr) (bs : List Bool), xs = [.ref p] ∧ SqL X.K H p (bs.map V.bl) ∧ Q (.bl (bs.all id)) H) := by
  intro pins s σ H xs us Q I r h
  obtain ⟨p, bs, rfl, hq, q⟩ := h
  obtain ⟨u, rfl, rx⟩ := vals1 r
  cases rx
  have hh : X.A.in1.handled = none := I.ok.hd hc
  obtain ⟨its, rv, pl, hz⟩ := I.list hq
  have hp : p < s.heap.objs.size := by obtain ⟨o, e, _⟩ := pl.isList; exact Heap.lt_size e
  have hl := rv.length
  rw [List.length_map] at hl
  refine call_all_walk (wpAny_pyIter_list pl.isList ?_)
  refine ⟨s.heap.objs.size, [s.heap.objs.size, p], [s.heap.objs.size], _, _, _, fun i => bs.getD i true, rfl, Walks.list hh _ p (Nat.ne_of_lt hp) its.toArray, ⟨⟨_, Heap.get?_push_size _ rfl, rfl, rfl⟩, pl.isList.at fun o e => Heap.get?_push_of_some _ e⟩, ?_, ?_⟩
  · intro i v s' Q' E' e q'
    have e' : its[i]? = some v := by simpa using e
    rw [bools_at rv e']
    exact wpAny_pure q'
  · intro h' tk k
    have e : ((List.range its.toArray.size).all fun i => bs.getD i true) = bs.all id := by rw [List.size_toArray, ← hl]; exact all_getD bs
    rw [e]
    exact ⟨.bl (bs.all id), H, I.kept fun b ob e => k b ob (by simp; exact Nat.ne_of_lt (Heap.lt_size e)) (Heap.get?_push_of_some _ e), rfl, q⟩

/-! ### isinstance -/
inductive TyS (H : Hp) : V → Value → Prop
  | bl (y : Bool) : TyS H (.bl y) (.type "bool")
  | int (i : Int) : TyS H (.int i) (.type "int")
  | lst {a : Addr} {xs : List V} (ea : H a = some (.lst xs)) : TyS H (.ref a) (.type "list")
  | tup {a : Addr} {xs : List V} (ea : H a = some (.tup xs)) : TyS H (.ref a) (.type "tuple")
theorem ty_kit {pins : List (Addr × Obj)} {σ : St} {H : Hp} {s : Shared} {x : V} {u t : Value} (I : Inv X pins σ H s) (rx : RelV x u) (ty : TyS H x t) : ∃ Hx : Heap → Prop, PySem.W.KitX X.K u t Hx ∧ Hx s.heap ∧ u ≠ .builtin "__main__.__loader__#opaque" := by
  cases ty with
  | bl y => cases (show u = Value.bool y from rx); exact ⟨_, PySem.W.kitx_bool, True.intro, fun z => nomatch z⟩
  | int i => obtain ⟨t, q⟩ := (show ∃ t, u = Value.int i t from rx); cases q; exact ⟨_, PySem.W.kitx_int, True.intro, fun z => nomatch z⟩
  | @lst a xs ea =>
    cases (show u = Value.ref a from rx)
    obtain ⟨_, _, n, _, h1⟩ := (show ObjOk X.prog X.w H s.heap a (.lst xs) from I.hok a _ ea)
    exact ⟨_, PySem.W.kitx_list, ⟨_, h1, rfl⟩, fun z => nomatch z⟩
  | @tup a xs ea =>
    cases (show u = Value.ref a from rx)
    obtain ⟨_, _, _, p⟩ := (show ObjOk X.prog X.w H s.heap a (.tup xs) from I.hok a _ ea)
    obtain ⟨o, h1, h2, _⟩ := p
    exact ⟨_, PySem.W.kitx_tuple, ⟨o, h1, h2⟩, fun z => nomatch z⟩
theorem call_isi1 : CallR X (.builtin "isinstance") (fun xs H Q => ∃ x t T b, xs = [x, .ty T] ∧ TyS H x t ∧ PySem.W.kitOne X.K t (.type T) = some b ∧ Q (.bl b) H) := by
  intro pins s σ H xs us Q I r h
  obtain ⟨x, t, T, b, rfl, ty, e, q⟩ := h
  obtain ⟨u, w', rfl, rx, rt⟩ := vals2 r
  cases rt
  obtain ⟨Hx, Z, p, hx⟩ := ty_kit I rx ty
  exact PySem.W.kia_one Z I.kIn p e hx fun tk => ⟨.bl b, H, I.tok tk, rfl, q⟩
theorem call_isi2 : CallR X (.builtin "isinstance") (fun xs H Q => ∃ x t p T U b, xs = [x, .ref p] ∧ SqT X.K H p [.ty T, .ty U] ∧ TyS H x t ∧ PySem.W.kitAny X.K t [.type T, .type U] = some b ∧ Q (.bl b) H) := by
  intro pins s σ H xs us Q I r h
  obtain ⟨x, t, tp, T, U, b, rfl, hq, ty, e, q⟩ := h
  obtain ⟨u, w', rfl, rx, rt⟩ := vals2 r
  cases rt
  obtain ⟨Hx, Z, p, hx⟩ := ty_kit I rx ty
  obtain ⟨its, rv, pl, hz⟩ := I.tuple hq
  obtain ⟨u1, u2, rfl, r1, r2⟩ := rv.two
  cases r1
  cases r2
  obtain ⟨o, ho, hc, n, hd⟩ := pl
  obtain ⟨oc, odd, odt, osl⟩ := o
  dsimp only at hc hd
  subst hc hd
  exact PySem.W.kia_tup Z I.kIn p ho e hx fun tk => ⟨.bl b, H, I.tok tk, rfl, q⟩
theorem pe_ty {x : Str} {T : String} (hg : Gl X x) (hm : X.mg x = none) (hv : bootBuiltins x = some (.type T)) (hn : x ≠ "__name__" := by decide) (hd : (x == ("__debug__" : Str)) = false := by decide) : PE X (.Name x pos) (tC (.ty T)) := pe_bltn hg hm hv rfl hn hd

/-! ### o[i] by values -/
theorem pget_list : PGet X (rIxL X.K) := by
  intro pins s σ H x y v u Q I rx ry h
  obtain ⟨p, xs, i, z, rfl, rfl, hq, he, q⟩ := h
  cases rx
  obtain ⟨t, rfl⟩ := ry
  obtain ⟨its, r, pl, hz⟩ := I.list hq
  obtain ⟨j, h1, h2, h3, h4, h5⟩ := atI_get he
  obtain ⟨w, ew, rw'⟩ := r.get h2
  have hl := r.length
  have hn := line63
  have fin : EP X pins σ Q w s := ⟨z, H, I, rw', q⟩
  by_cases h0 : 0 ≤ i
  · have hj : i.toNat = j := by
      rw [seqIndex_of h0 h5] at h1
      exact Option.some.inj h1
    exact wpAny_getItem_list pl.isList h0 (by omega) (by rw [hj]; simpa using ew) fin
  · have hj : (i + (its.toArray.size : Int)).toNat = j := by
      rw [seqIndex_neg (by omega) h4] at h1
      rw [List.size_toArray, ← hl]
      exact Option.some.inj h1
    exact wpAny_getItem_list_neg pl.isList (by omega) (by rw [List.size_toArray] <;> omega) (by omega) (by rw [hj]; simpa using ew) fin
end

example (K : PySem.W.Frag) : PySem.W.kitOne K (.type "bool") (.type "int") = some true := by rfl
example (K : PySem.W.Frag) : PySem.W.kitOne K (.type "int") (.type "bool") = some false := by rfl
example (K : PySem.W.Frag) : PySem.W.kitAny K (.type "tuple") [.type "list", .type "tuple"] = some true := by rfl
example (K : PySem.W.Frag) : PySem.W.kitAny K (.type "str") [.type "list", .type "tuple"] = some false := by rfl
end L2
set_option Elab.async false
set_option linter.all false
set_option maxRecDepth 100000
/-! reversed(t) of a tuple, walked by a for. -/
namespace L2
open PySem PySem.Spec PyProof.Rows

namespace RF
end RF



section
variable {prog : Program} {w : World} {A : Around} {E : Value → Shared → Prop} {s : Shared}
end


section
variable {X : Cx} {tg : Expr}
end
end L2
set_option Elab.async false
set_option linter.all false
set_option maxRecDepth 100000
/-! LIST COMPREHENSIONS over the hand layer: one clause, a plain name, none or one test. -/
namespace L2
open PySem PySem.Spec PyProof.Rows

/-! ### the closure -/
def clStep (cells : List (Str × Addr)) (cs : List (Str × Addr)) (p : Str × NameKind) : List (Str × Addr) :=
  if (p.2 == NameKind.free) = true then (match cells.lookup p.1 with | some a => (p.1, a) :: cs | none => cs) else cs
def clOf (sc : Scope) (cells : List (Str × Addr)) : List (Str × Addr) := sc.names.foldl (clStep cells) []

theorem closure_eq {sc : Scope} {env : Env} (h : ∀ p ∈ sc.names, p.2 = .free → ∃ a, env.cells.lookup p.1 = some a) : closureFor sc env = pure (clOf sc env.cells) := by
  have key : ∀ (l : List (Str × NameKind)) (cs : List (Str × Addr)), (∀ p ∈ l, p.2 = .free → ∃ a, env.cells.lookup p.1 = some a) →
      (forIn l cs fun (x : Str × NameKind) (r : List (Str × Addr)) => match x with
        | (name, kind) => if (kind == NameKind.free) = true then (do let a ← cellOf env name; pure (ForInStep.yield ((name, a) :: r))) else (pure (ForInStep.yield r) : Sem (ForInStep (List (Str × Addr))))) = (pure (l.foldl (clStep env.cells) cs) : Sem (List (Str × Addr))) := by
    intro l
    induction l with
    | nil => intro cs _; rfl
    | cons p r ih =>
      intro cs hp
      obtain ⟨n, k⟩ := p
      rw [List.forIn_cons, List.foldl_cons]
      by_cases hk : (k == NameKind.free) = true
      · obtain ⟨a, ea⟩ := hp (n, k) List.mem_cons_self (by simpa using hk)
        have e1 : clStep env.cells cs (n, k) = (n, a) :: cs := by unfold clStep; rw [if_pos hk]; dsimp only; dsimp only at ea; rw [ea]
        rw [e1]
        dsimp only at ea ⊢
        rw [if_pos hk]
        unfold cellOf
        rw [ea]
        simp only [pure_bind]
        exact ih _ fun q hq => hp q (List.mem_cons_of_mem _ hq)
      · have e1 : clStep env.cells cs (n, k) = cs := by unfold clStep; rw [if_neg hk]
        rw [e1]
        dsimp only
        rw [if_neg hk]
        simp only [pure_bind]
        exact ih _ fun q hq => hp q (List.mem_cons_of_mem _ hq)
  unfold closureFor clOf
  rw [← key sc.names [] h]
  simp only [bind_pure]

theorem clOf_sub (sc : Scope) (cells : List (Str × Addr)) {y : Str} {c : Addr} : (clOf sc cells).lookup y = some c → cells.lookup y = some c := by
  have key : ∀ (l : List (Str × NameKind)) (cs : List (Str × Addr)), (∀ y c, cs.lookup y = some c → cells.lookup y = some c) → ∀ y c, (l.foldl (clStep cells) cs).lookup y = some c → cells.lookup y = some c := by
    intro l
    induction l with
    | nil => intro cs h; exact h
    | cons p r ih =>
      intro cs h
      rw [List.foldl_cons]
      refine ih _ ?_
      intro y c e
      unfold clStep at e
      split at e
      · split at e
        · rename_i a ea
          rw [List.lookup_cons] at e
          cases q : y == p.1 with
          | true =>
            rw [q] at e
            cases e
            rw [eq_of_beq q]; exact ea
          | false => rw [q] at e; exact h y c e
        · exact h y c e
      · exact h y c e
  exact key sc.names [] (fun _ _ h => by cases h) y c

theorem clOf_has (sc : Scope) (cells : List (Str × Addr)) (h : ∀ p ∈ sc.names, p.2 = .free → ∃ a, cells.lookup p.1 = some a) {y : Str} (hy : (y, NameKind.free) ∈ sc.names) : ∃ c, (clOf sc cells).lookup y = some c := by
  have mono : ∀ (l : List (Str × NameKind)) (cs : List (Str × Addr)), (∃ c, cs.lookup y = some c) → ∃ c, (l.foldl (clStep cells) cs).lookup y = some c := by
    intro l
    induction l with
    | nil => intro cs h; exact h
    | cons p r ih =>
      intro cs hc
      rw [List.foldl_cons]
      refine ih _ ?_
      unfold clStep
      split
      · split
        · rw [List.lookup_cons]
          cases q : y == p.1 with
          | true => exact ⟨_, rfl⟩
          | false => exact hc
        · exact hc
      · exact hc
  have key : ∀ (l : List (Str × NameKind)) (cs : List (Str × Addr)), (∀ p ∈ l, p.2 = .free → ∃ a, cells.lookup p.1 = some a) → (y, NameKind.free) ∈ l → ∃ c, (l.foldl (clStep cells) cs).lookup y = some c := by
    intro l
    induction l with
    | nil => intro cs _ hm; cases hm
    | cons p r ih =>
      intro cs hp hm
      rw [List.foldl_cons]
      rcases List.mem_cons.mp hm with e | hm
      · subst e
        obtain ⟨a, ea⟩ := hp (y, .free) List.mem_cons_self rfl
        refine mono r _ ⟨a, ?_⟩
        unfold clStep
        rw [if_pos (show (NameKind.free == NameKind.free) = true by decide)]
        dsimp only at ea ⊢
        rw [ea, List.lookup_cons, beq_self_eq_true]
      · exact ih _ (fun q hq => hp q (List.mem_cons_of_mem _ hq)) hm
  exact key sc.names [] h hy

/-! ### the block's context -/
def cxLC (X : Cx) (x : Str) (scope : Scope) (C : Addr) (fp : List Addr) (s : Shared) (H : Hp) : Cx where
  prog := X.prog
  w := X.w
  K := X.K
  mg := X.mg
  base := X.base
  A := X.A
  N := x :: X.N
  s₀ := s
  H₀ := H
  env := compEnvC scope (clOf scope X.env.cells) C X.env
  outer := X.stack
  stack := X.stack
  ex := fp
  fn := fun _ => false
  calm := X.calm
  pn := []
  xe := fun _ _ => False

/-- what a comprehension's scope must be -/
structure LcScope (X : Cx) (x : Str) (sc : Scope) : Prop where
  kind : sc.kind = .function
  nocell : ∀ p ∈ sc.names, p.2 ≠ .cell
  loc : sc.names.lookup x = some .local
  names : ∀ p ∈ sc.names, p.2 = .local → sc.names.lookup p.1 = some .local
  apart : ∀ y ∈ X.N, sc.names.lookup y ≠ some .local
  nd : X.N.Nodup
  free : ∀ p ∈ sc.names, p.2 = .free → X.env.kindOf p.1 = some .cell ∨ X.env.kindOf p.1 = some .free

section
variable {X : Cx} {pins : List (Addr × Obj)} {σ : St} {H : Hp} {s : Shared} {x : Str} {sc : Scope} {C : Addr} {fp : List Addr}

theorem relabel_look {env : Env} : ∀ {names : List (Str × NameKind)} {y : Str} {k : NameKind}, (names.map fun (n, k) => if (k == NameKind.free && env.scope.kind == .function && env.kindOf n == some .cell) then (n, NameKind.cell) else (n, k)).lookup y = some k →
    ∃ k', names.lookup y = some k' ∧ (k = k' ∨ (k' = .free ∧ k = .cell))
  | [], _, _, h => by simp at h
  | (n, k0) :: r, y, k, h => by
    have ih := @relabel_look env r y k
    have h : List.lookup y ((if (k0 == NameKind.free && env.scope.kind == .function && env.kindOf n == some .cell) = true then (n, NameKind.cell) else (n, k0)) :: (r.map _)) = some k := h
    cases hx : y == n with
    | true =>
      refine ⟨k0, by rw [List.lookup_cons, hx], ?_⟩
      by_cases hc : (k0 == NameKind.free && env.scope.kind == .function && env.kindOf n == some .cell) = true
      · rw [if_pos hc, List.lookup_cons, hx] at h
        cases h
        simp only [Bool.and_eq_true, beq_iff_eq] at hc
        exact .inr ⟨hc.1.1, rfl⟩
      · rw [if_neg hc, List.lookup_cons, hx] at h
        cases h
        exact .inl rfl
    | false =>
      by_cases hc : (k0 == NameKind.free && env.scope.kind == .function && env.kindOf n == some .cell) = true
      · rw [if_pos hc, List.lookup_cons, hx] at h
        rw [List.lookup_cons, hx]; exact ih h
      · rw [if_neg hc, List.lookup_cons, hx] at h
        rw [List.lookup_cons, hx]; exact ih h

theorem LcScope.cells (S : LcScope X x sc) (ok : X.Ok) : ∀ p ∈ sc.names, p.2 = .free → ∃ a, X.env.cells.lookup p.1 = some a := fun p hp e => ok.has p.1 (S.free p hp e)

theorem Inv.okLC (I : Inv X pins σ H s) (S : LcScope X x sc) (hC : s.heap.objs.size ≤ C) (hf : ∀ b ∈ fp, FpOk X pins H b) (hlt : ∀ b ∈ fp, b < s.heap.objs.size) : (cxLC X x sc C fp s H).Ok where
  mod := I.ok.mod
  kind := S.kind
  glob := I.ok.glob
  blt := I.ok.blt
  above := hC
  inj := fun y z c e1 e2 => I.ok.inj y z c (clOf_sub sc X.env.cells e1) (clOf_sub sc X.env.cells e2)
  has := fun y hy => by
    have hy' : (relabel sc X.env).names.lookup y = some .cell ∨ (relabel sc X.env).names.lookup y = some .free := hy
    have fr : sc.names.lookup y = some .free := by
      rcases hy' with h | h
      · obtain ⟨k', e, q⟩ := relabel_look h
        rcases q with q | ⟨q, _⟩
        · subst q; exact absurd rfl (S.nocell _ (PySem.mem_of_lookup e))
        · rw [e, q]
      · obtain ⟨k', e, q⟩ := relabel_look h
        rcases q with q | ⟨_, q⟩
        · rw [e, ← q]
        · cases q
    exact clOf_has sc X.env.cells (S.cells I.ok) (PySem.mem_of_lookup fr)
  cab := fun y c e => by cases (show false = true from e)
  hd := I.ok.hd
  frames := I.ok.frames
  stk := .inl rfl
  exf := fun b hb => ⟨Nat.ne_of_lt (Nat.lt_of_lt_of_le (hlt b hb) hC), fun y c e => (hf b hb).2.2.2.2.1 y c (clOf_sub sc X.env.cells e)⟩
  bs := I.bs
  bsz := Nat.le_trans I.ok.bsz I.sz
  noex := fun b o e hb => by
    rcases (hf b hb).2.2.2.1 with q | q
    · exact I.ok.noex b o e q
    · exact absurd (Nat.lt_of_lt_of_le (Heap.lt_size e) (Nat.le_trans I.ok.bsz q)) (Nat.lt_irrefl _)
  exfs := fun b hb z => by
    rcases List.mem_cons.mp (I.stkSub b z) with q | q
    · exact (hf b hb).2.1 q
    · exact (hf b hb).2.2.1 q
  funs := I.stack
  frf := I.stkFree

/-- the block begins: a new list at D, a new frame at C -/
theorem Inv.startLC {D : Addr} {h1 : Heap} {m : Str → Option Value} {tk : Nat} (I : Inv X pins σ H s) (S : LcScope X x sc) (hf : ∀ b ∈ fp, FpOk X pins H b) (hlt : ∀ b ∈ fp, b < s.heap.objs.size)
    (hD : D = s.heap.objs.size) (hC : s.heap.objs.size ≤ C) (hDC : C ≠ D) (hk : ∀ b o, s.heap.get? b = some o → h1.get? b = some o) (hn : h1.Ns C m) (hl : h1.get? D = some { cls := .type "list", data := .seq ([] : List Value).toArray 0 }) :
    Inv (cxLC X x sc C fp s H) [] (none :: σ) (upd H D (.lst [])) { s with heap := h1, toks := tk } := by
  have hDle : s.heap.objs.size ≤ D := by rw [hD]; exact Nat.le_refl _
  have cells : ∀ y c, (clOf sc X.env.cells).lookup y = some c → c < s.heap.objs.size := fun y c e => by
    obtain ⟨v, q⟩ := I.cell y c (clOf_sub sc X.env.cells e)
    exact q.lt
  refine ⟨I.okLC S hC hf hlt, rfl, I.bare, Un.laid hk hDle (I.hok.fresh hDle), ⟨m, hn, fun i y v e1 e2 e3 => ?_⟩, fun y c e => ?_, ?_, fun y c e => ?_, fun p hp => absurd (show p ∈ ([] : List (Addr × Obj)) from hp) (by simp), I.hok.laid hk hDle ⟨Nat.zero_le _, [], 0, .nil, hl⟩, ?_⟩
  · cases i with
    | zero => cases (show some (none : Option V) = some (some v) from e2)
    | succ j =>
      have e1' : X.N[j]? = some y := e1
      have e2' : σ[j]? = some (some v) := e2
      have e3' : Vis (relabel sc X.env) y := e3
      have ny : sc.names.lookup y ≠ some .local := S.apart y (List.mem_of_getElem? e1')
      have fr : sc.names.lookup y = some .free ∧ ((relabel sc X.env).names.lookup y = some .cell ∨ (relabel sc X.env).names.lookup y = some .free) := by
        rcases e3' with h | h | h
        · obtain ⟨k', e, q⟩ := relabel_look h
          rcases q with q | ⟨_, q⟩
          · subst q; exact absurd e ny
          · cases q
        · obtain ⟨k', e, q⟩ := relabel_look h
          rcases q with q | ⟨q, _⟩
          · subst q; exact absurd rfl (S.nocell _ (PySem.mem_of_lookup e))
          · exact ⟨by rw [e, q], .inl h⟩
        · obtain ⟨k', e, q⟩ := relabel_look h
          rcases q with q | ⟨_, q⟩
          · exact ⟨by rw [e, ← q], .inr h⟩
          · cases q
      have ok := S.free (y, .free) (PySem.mem_of_lookup fr.1) rfl
      obtain ⟨m0, hn0, hl0⟩ := I.loc
      obtain ⟨u, r, l⟩ := hl0 j y v e1' e2' (.inr ok)
      refine ⟨u, r, .inr ⟨fr.2, ?_⟩⟩
      rcases l with ⟨k, _⟩ | ⟨_, c, ec, z⟩
      · rcases ok with q | q <;> (rw [show X.env.kindOf y = some .local from k] at q; cases q)
      · obtain ⟨c', ec'⟩ := clOf_has sc X.env.cells (S.cells I.ok) (PySem.mem_of_lookup fr.1)
        have := clOf_sub sc X.env.cells ec'
        rw [ec] at this
        cases this
        obtain ⟨o, ho, hd⟩ := z
        exact ⟨c, ec', o, hk _ _ ho, hd⟩
  · obtain ⟨v, o, ho, hd⟩ := I.cell y c (clOf_sub sc X.env.cells e)
    exact ⟨v, o, hk _ _ ho, hd⟩
  · show upd H D (.lst []) C = none
    rw [upd_ne hDC]
    exact I.hok.fresh hC
  · show upd H D (.lst []) c = none
    rw [upd_ne (Nat.ne_of_lt (Nat.lt_of_lt_of_le (cells y c e) hDle))]
    exact I.freeC y c (clOf_sub sc X.env.cells e)
  · show (none :: σ).length = (x :: X.N).length
    rw [List.length_cons, List.length_cons, I.len]

/-- the frame C of a block let go: nothing of ours stands there -/
theorem Inv.butC {h' : Heap} (I : Inv X pins σ H s) (hs : Heap.SameBut C s.heap h') (hC : X.s₀.heap.objs.size ≤ C) (hn : H C = none) (hL : C ≠ X.env.locals) (hc : ∀ y c, X.env.cells.lookup y = some c → c ≠ C) (hp : ∀ p ∈ X.pn ++ pins, p.1 ≠ C) :
    Inv X pins σ H { s with heap := h' } := I.turned (t' := s.toks) (fun b o hb e => (hs.2 b hb).trans e) hn hL (.inr hC) hc hp

/-- the block is through: back in the context around it -/
theorem Inv.endLC {s2 : Shared} {H2 : Hp} {st : St} {pl : List (Addr × Obj)} (I : Inv X pins σ H s) (J : Inv (cxLC X x sc C fp s H) pl st H2 s2) (hf : ∀ b ∈ fp, FpOk X pins H b) : Inv X pins σ H2 s2 :=
  I.call' (ch := fp) J.os J.base J.hok J.bare fun b hb => ⟨(hf b hb).2.2.2.1, (hf b hb).2.1, (hf b hb).2.2.2.2.1, (hf b hb).2.2.2.2.2⟩
end

/-! ### the tests -/
def PTs (X : Cx) (ifs : List Expr) (t : TT) : Prop :=
  ∀ (pins : List (Addr × Obj)) (s : Shared) (σ : St) (H : Hp) (Q : Bool → Hp → Prop), Inv X pins σ H s → t σ H Q →
    wpAny (model X.prog X.w) X.A (forIn ifs true fun c r => if r = true then do let ok ← isTrue c X.env (eval c X.env); pure (ForInStep.yield ok) else pure (ForInStep.yield r)) (TP X pins σ Q) X.xe s
def tYes : TT := fun _ H Q => Q true H
theorem pts_nil {X : Cx} : PTs X [] tYes := fun _ _ _ H _ I h => wpAny_tests_nil ⟨H, I, h⟩
theorem pts_one {X : Cx} {c : Expr} {t : TT} (h : PT X c t) : PTs X [c] t := fun pins s σ H Q I q => wpAny_tests_one (h pins s σ H Q I q)

/-! ### the loop, the step ahead of the store kept -/
theorem compLoop_own {prog : Program} {w : World} {A : Around} {R : Result → Shared → Prop} {s : Shared} {elt target iter : Expr} {ifs : List Expr} {scope : Scope} {pos : Pos} {it acc : Value} {env : Env} (I : Nat → Shared → Prop)
    (turn : ∀ n s, I n s → wpAny (model prog w) A (pyNext it) (fun r s1 => match r with
      | none => R (.ok .next) s1
      | some v => wpAny (model prog w) A (letOwnedTupleGo target it v) (fun _ s1 => wpAny (model prog w) A (assign target env v) (fun _ s2 =>
          wpAny (model prog w) A (forIn ifs true fun c r => if r = true then do let ok ← isTrue c env (eval c env); pure (ForInStep.yield ok) else pure (ForInStep.yield r)) (fun ok s3 =>
            if ok = true then wpAny (model prog w) A (eval elt env) (fun x s4 =>
              wpAny (model prog w) A (call (.builtin "list.append") [acc, x]) (fun _ s5 => ∃ m, m < n ∧ I m s5) (fun _ _ => False) s4) (fun _ _ => False) s3
            else ∃ m, m < n ∧ I m s3) (fun _ _ => False) s2) (fun _ _ => False) s1) (fun _ _ => False) s1) (fun _ _ => False) s)
    (n : Nat) (h : I n s) :
    codeAny (model prog w) A (.compLoop (.ListComp elt [⟨target, iter, ifs, 0⟩] scope pos) 0 it acc env) R s := by
  refine codeAny_loop rfl I (fun n s hI => ?_) n h
  show wpAny _ A ((compTurn (.ListComp elt [⟨target, iter, ifs, 0⟩] scope pos) 0 it acc env).onRaise (fun x => do noteFrame x env; theTreesLotGoes x)) _ _ s
  refine wpAny_noted ?_
  rw [compTurn_list]
  refine wpAny_bind (wpAny_standAt (wpAny_bind (wpAny_mono (turn n s hI) (fun r s1 h1 => ?_) fun _ _ h' => h'.elim)))
  cases r with
  | none => exact wpAny_pure h1
  | some v =>
    refine wpAny_bind (wpAny_mono h1 (fun _ s1 h1 => ?_) fun _ _ h' => h'.elim)
    refine wpAny_bind (wpAny_mono h1 (fun _ s2 h2 => wpAny_bind (wpAny_mono h2 (fun ok s3 h3 => ?_) fun _ _ h' => h'.elim)) fun _ _ h' => h'.elim)
    cases ok with
    | false => exact wpAny_pure ⟨rfl, h3⟩
    | true =>
      exact wpAny_bind (wpAny_bind (wpAny_mono h3 (fun x s4 h4 => wpAny_bind (wpAny_mono h4 (fun _ s5 h5 => wpAny_pure (wpAny_pure ⟨rfl, h5⟩)) fun _ _ h' => h'.elim)) fun _ _ h' => h'.elim))

/-! ### the reading -/
/-- acc = []; for x in ..: if ..: acc.append(..), the list at D -/
def lcGo (tc : TT) (te : TE) (σ : St) (J : It) (D : Addr) (Fin : Hp → Prop) (H : Hp) : Prop :=
  ∃ W : Nat → Nat → List V → Hp → Prop, (∃ m, W 0 m [] (upd H D (.lst []))) ∧ ∀ i m ys H, W i m ys H → H D = some (.lst ys) ∧
    ((J.stop i H ∧ Fin H) ∨ (J.go i H ∧ ∀ x H', J.yld i H x H' → tc (some x :: σ) H' fun b H2 => if b = true then te (some x :: σ) H2 fun y H3 => H3 D = some (.lst ys) ∧ ys.length < sizeLine ∧ ∃ m', m' < m ∧ W (i + 1) m' (ys ++ [y]) (upd H3 D (.lst (ys ++ [y])))
      else ∃ m', m' < m ∧ W (i + 1) m' ys H2))
def tLC (wi : TI) (tc : TT) (te : TE) : TE := fun σ H Q => wi σ H fun J H1 => ∀ D, H1 D = none → lcGo tc te σ J D (fun H2 => Q (.ref D) H2) H1

section
variable {X : Cx} {x : Str} {sc : Scope} {elt iter : Expr} {ifs : List Expr} {px pos : Pos} {wi : TI} {tc : TT} {te : TE}
/-- from the iterator on -/
theorem lc_block {pins : List (Addr × Obj)} {σ : St} {H : Hp} {s : Shared} {it : Addr} {fp : List Addr} {tn : Nat → Heap → Prop} {J : It} {Fin : Addr → Hp → Prop} {RR : Value → Addr → Result → Shared → Prop} {E : Value → Shared → Prop}
    (hc : X.calm = true) (S : LcScope X x sc) (I : Inv X pins σ H s) (T : Turn X.prog X.w X.K (.Name x px) J fp it tn) (st : tn 0 s.heap) (hf : ∀ b ∈ fp, FpOk X pins H b)
    (ht : ∀ C s0 H0, PTs (cxLC X x sc C fp s0 H0) ifs tc) (he : ∀ C s0 H0, PE (cxLC X x sc C fp s0 H0) elt te) (q : ∀ D, H D = none → lcGo tc te σ J D (Fin D) H)
    (hR : ∀ D C H2 s2 m, s.heap.objs.size ≤ C → Inv X pins σ H2 s2 → H2 C = none → s2.heap.Ns C m → Fin D H2 → RR (.ref D) C (.ok .next) s2) :
    wpAny (model X.prog X.w) X.A (newList []) (fun acc s3 => wpAny (model X.prog X.w) X.A (newFunctionEnv sc X.env.globals (clOf sc X.env.cells) [] X.env.qual none .none (some X.env)) (fun cenv s4 =>
      codeAny (model X.prog X.w) X.A (.compStart (.ListComp elt [⟨.Name x px, iter, ifs, 0⟩] sc pos) 0 (.ref it) acc { cenv with scope := relabel sc X.env }) (RR acc cenv.locals) s4) E s3) E s := by
  have hlt : ∀ b ∈ fp, b < s.heap.objs.size := fun b hb => by
    obtain ⟨o, e, _⟩ := T.obj 0 _ st b hb
    exact Heap.lt_size e
  refine wpAny_newObj_type (wpAny_newFunctionEnv S.nocell (by intro y hy; simp at hy) (fun h1 hns1 hsb1 => ?_) S.kind)
  dsimp only at hns1 hsb1 ⊢
  generalize hH2 : s.heap.push { cls := .type "list", dict := none, data := .seq ([] : List Value).toArray } = G at hns1 hsb1 ⊢
  have hC : G.objs.size = s.heap.objs.size + 1 := by rw [← hH2, Heap.size_push]
  have hCle : s.heap.objs.size ≤ G.objs.size := by rw [hC]; exact Nat.le_succ _
  have hDC : G.objs.size ≠ s.heap.objs.size := by rw [hC]; exact Nat.succ_ne_self _
  have old : ∀ b o, s.heap.get? b = some o → h1.get? b = some o := fun b o e => hsb1.extBut b o (Nat.ne_of_lt (Nat.lt_of_lt_of_le (Heap.lt_size e) hCle)) (Heap.get?_push_of_some _ (hH2 ▸ Heap.get?_push_of_some _ e))
  have hacc : h1.get? s.heap.objs.size = some { cls := .type "list", data := .seq ([] : List Value).toArray 0 } := hsb1.extBut _ _ (Ne.symm hDC) (Heap.get?_push_of_some _ (hH2 ▸ Heap.get?_push_size _ rfl))
  have hDn : H s.heap.objs.size = none := I.hok.fresh (Nat.le_refl _)
  obtain ⟨W, ⟨m0, w0⟩, turn⟩ := q s.heap.objs.size hDn
  have st1 : tn 0 h1 := T.keep _ _ _ st fun b _ o e => old b o e
  have I1 := fun tk => I.startLC (tk := tk) S hf hlt rfl hCle hDC old hns1 hacc
  have fr1 : ∀ b ∈ fp, upd H s.heap.objs.size (.lst []) b = none := fun b hb => by rw [upd_ne (Nat.ne_of_lt (hlt b hb))]; exact (hf b hb).1
  have loop : ∀ s3 : Shared, s3 = { s with heap := h1, toks := s.toks + ([] : List (Str × Value)).length } →
      codeAny (model X.prog X.w) X.A (.compLoop (.ListComp elt [⟨.Name x px, iter, ifs, 0⟩] sc pos) 0 (.ref it) (.ref s.heap.objs.size) (compEnvC sc (clOf sc X.env.cells) G.objs.size X.env))
        (RR (.ref s.heap.objs.size) G.objs.size) s3 := by
    rintro s3 rfl
    have fpk : ∀ {H' : Hp}, (∀ b ∈ fp, H' b = none) → ∀ b ∈ fp, FpOk (cxLC X x sc G.objs.size fp s H) [] H' b := fun hn b hb =>
      ⟨hn b hb, Nat.ne_of_lt (Nat.lt_of_lt_of_le (hlt b hb) hCle), (I.okLC (C := G.objs.size) S hCle hf hlt).exfs b hb, .inl hb, fun y c e => (hf b hb).2.2.2.2.1 y c (clOf_sub sc X.env.cells e), fun p hp => absurd (show p ∈ ([] : List (Addr × Obj)) from hp) (by simp)⟩
    refine compLoop_own (fun n s' => ∃ i w ys H', Inv (cxLC X x sc G.objs.size fp s H) [] (w :: σ) H' s' ∧ tn i s'.heap ∧ (∀ b ∈ fp, H' b = none) ∧ W i n ys H') ?_ m0 ⟨0, none, [], _, I1 _, st1, fr1, w0⟩
    rintro n s3 ⟨i, v0, ys, H3, I3, st3, fr3, w3⟩
    obtain ⟨hD3, turn3⟩ := turn i n ys H3 w3
    rcases turn3 with ⟨stop, fin⟩ | ⟨go, step⟩
    · refine thn (T.done (cxLC X x sc G.objs.size fp s H) rfl rfl rfl hc i [] s3 _ H3 _ I3 (fpk fr3) st3 stop) fun r s4 ⟨hr, I4⟩ => ?_
      subst hr
      obtain ⟨m4, hn4, _⟩ := I4.loc
      exact hR _ _ H3 s4 m4 hCle (I.endLC I4 hf) I4.free hn4 fin
    · refine thn (T.item (cxLC X x sc G.objs.size fp s H) rfl rfl rfl hc i [] s3 _ H3 _ I3 (fpk fr3) st3 go) fun r s4 ⟨u, hr, h4⟩ => ?_
      subst hr
      refine thn h4 fun _ s5 ⟨y, H5, I5, r5, y5, st5, fr5⟩ => ?_
      have I5' := I5.pinned (fpk fr5) (T.obj _ _ st5)
      have hN : (x :: X.N).Nodup := List.nodup_cons.mpr ⟨fun hm => S.apart x hm S.loc, S.nd⟩
      have pg : PG (cxLC X x sc G.objs.size fp s H) (.Name x px) (gName 0) := pg_name hN rfl (.inl (lookup_relabel_local S.loc)) (.inr (lookup_relabel_local S.loc))
      refine thn (pg _ s5 _ H5 y u (fun σ6 H6 => σ6 = some y :: σ ∧ H6 = H5) I5' r5 ⟨rfl, rfl⟩) fun _ s6 ⟨σ6, H6, I6, e6, e6'⟩ => ?_
      subst e6; subst e6'
      refine thn (ht G.objs.size s H _ s6 _ H6 _ I6 (step y H6 y5)) fun ok s7 ⟨H7, I7, q7⟩ => ?_
      have again : ∀ {H8 : Hp} {s8 : Shared} {zs : List V}, Inv (cxLC X x sc G.objs.size fp s H) ([] ++ pinsAt fp s5.heap) (some y :: σ) H8 s8 → (∃ m', m' < n ∧ W (i + 1) m' zs H8) → ∃ m, m < n ∧ ∃ i w ys H', Inv (cxLC X x sc G.objs.size fp s H) [] (w :: σ) H' s8 ∧ tn i s8.heap ∧ (∀ b ∈ fp, H' b = none) ∧ W i m ys H' := fun {H8 s8 zs} I8 ⟨m', hm, w8⟩ => by
        refine ⟨m', hm, i + 1, some y, zs, H8, I8.unpinned, T.keep _ _ _ st5 fun b hb o e => (I8.pin (b, o) (List.mem_append_right _ (List.mem_append_right _ (mem_pinsAt hb e)))).1, fun b hb => ?_, w8⟩
        obtain ⟨o, e, d⟩ := T.obj _ _ st5 b hb
        exact (I8.pin (b, o) (List.mem_append_right _ (List.mem_append_right _ (mem_pinsAt hb e)))).2.1
      cases ok with
      | false =>
        rw [if_neg Bool.false_ne_true] at q7 ⊢
        exact again I7 q7
      | true =>
        rw [if_pos rfl] at q7 ⊢
        refine thn (he G.objs.size s H _ s7 _ H7 _ I7 q7) fun z s8 ⟨zv, H8, I8, r8, hD8, hz8, w8⟩ => ?_
        refine thn (mt_append _ s8 _ H8 (.ref s.heap.objs.size) [zv] (.ref s.heap.objs.size) [z] (fun _ H9 => ∃ m', m' < n ∧ W (i + 1) m' (ys ++ [zv]) H9) I8 rfl (.cons r8 .nil) ⟨_, ys, zv, rfl, rfl, hD8, hz8, w8⟩) fun _ s9 ⟨_, H9, I9, _, w9⟩ => ?_
        exact again I9 w9
  exact codeAny_compStart_list (loop _ rfl) (T.self X.A 0 _ _ _ st1 (loop _ rfl))

theorem pe_lc (hc : X.calm = true) (S : LcScope X x sc) (hi : PI X (.Name x px) iter wi) (ht : ∀ C fp s0 H0, PTs (cxLC X x sc C fp s0 H0) ifs tc) (he : ∀ C fp s0 H0, PE (cxLC X x sc C fp s0 H0) elt te)
    (hs : ∀ v, foldedSetIterable iter X.env v = pure v := by intro _; rfl) : PE X (.ListComp elt [⟨.Name x px, iter, ifs, 0⟩] sc pos) (tLC wi tc te) := by
  refine ⟨?_⟩
  intro pins s σ H Q I h
  rw [eval_ListComp]
  refine wpAny_comprehension_free (use := none) rfl hs (closure_eq (S.cells I.ok)) S.kind S.names (thn (hi pins s σ H _ I h) fun v s1 h1 => thn h1 fun itv s2 h2 => ?_)
  obtain ⟨it, fp, tn, J, H2, e, I2, T, st2, f2, q2⟩ := h2
  subst e
  refine lc_block (RR := fun acc C => compPost (model X.prog X.w) X.A X.xe none (EP X pins σ Q) acc C) (Fin := fun D H3 => Q (.ref D) H3) hc S I2 T st2 f2 (fun C s0 H0 => ht C fp s0 H0) (fun C s0 H0 => he C fp s0 H0) q2 ?_
  intro D C H3 s3 m hC I3 hn hN q3
  refine ⟨m, hN, fun h' hs' => ⟨.ref D, H3, I3.butC hs' (Nat.le_trans I2.sz hC) hn (Nat.ne_of_gt (Nat.lt_of_lt_of_le I2.lt hC)) (fun y c e => ?_) (fun p hp => ?_), rfl, q3⟩⟩
  · obtain ⟨v, z⟩ := I2.cell y c e
    exact Nat.ne_of_lt (Nat.lt_of_lt_of_le z.lt hC)
  · exact Nat.ne_of_lt (Nat.lt_of_lt_of_le (Heap.lt_size (I2.pin p hp).1) hC)

end

/-! ### the forms one uses -/
end L2
set_option Elab.async false
set_option linter.all false
set_option maxRecDepth 100000
set_option Elab.async false
set_option linter.all false
set_option maxRecDepth 100000
namespace L2
open PySem PySem.Spec PyProof.Rows
/-! ### defs of the text, and what they promise -/
structure Fn (K : PySem.W.Frag) (mg : Str → Option Value) (x : Str) (st : Stmt) (ps : List Str) (f : Addr) (fd : FuncData) : Prop where
  fn : Fun K x x st f fd
  m : mg x = some (.ref f)
  b : Binds K fd ps []
structure Fm (K : PySem.W.Frag) (C : Addr) (x qual : Str) (st : Stmt) (ps : List Str) (f : Addr) (fd : FuncData) : Prop where
  fn : Fun K x qual st f fd
  m : Meth K C x f
  b : Binds K fd ps []
def Can (P : Program) (w : World) (K : PySem.W.Frag) (mg : Str → Option Value) (base : Heap) (k : Nat) (x : Str) (ps : List Str) (sp : Sp) : Prop :=
  ∃ f fd, FnOk P w K mg base CX0 k f fd ps sp ∧ mg x = some (.ref f) ∧ PySem.W.keepIn K (.ref f) = true ∧ Binds K fd ps []
def CanM (P : Program) (w : World) (K : PySem.W.Frag) (mg : Str → Option Value) (base : Heap) (C : Addr) (k : Nat) (x : Str) (ps : List Str) (sp : Sp) : Prop :=
  ∃ f fd, FnOk P w K mg base CX0 k f fd ps sp ∧ Meth K C x f ∧ Binds K fd ps []
section
variable {P : Program} {w : World} {K : PySem.W.Frag} {mg : Str → Option Value} {base : Heap}
theorem fn_can {x : Str} {st : Stmt} {N ps : List Str} {k : Nat} {sp : Sp} (h : ∃ f fd, Fn K mg x st ps f fd) (S : FnScope N ps (defScope st)) (len : ∀ vs H Q E, sp vs H Q E → vs.length = ps.length)
    (hbody : ∀ (f : Addr) (cdv : Value) (A : Around) (outer : List Env) (s : Shared) (H : Hp) (vs : List V) (Q : VK) (E : XK), Room k (A.deeper (envOfC x (defScope st) s.heap.objs.size f cdv)) → sp vs H Q E →
      ∃ t, PSs (cxOf CX0 P w K mg base N x (defScope st) f cdv A outer s H E).nox (defBody st) t ∧ t { nx := fun _ H' => Q .non H', rt := Q } (start N vs) H) : Can P w K mg base (k + 1) x ps sp := by
  obtain ⟨f, fd, F⟩ := h
  exact ⟨f, fd, F.fn.ok S len fun cdv A outer s H vs Q E hr h => hbody f cdv A outer s H vs Q E hr h, F.m, F.fn.kp, F.b⟩
theorem fm_can {C : Addr} {x qual : Str} {st : Stmt} {N ps : List Str} {k : Nat} {sp : Sp} (h : ∃ f fd, Fm K C x qual st ps f fd) (S : FnScope N ps (defScope st)) (len : ∀ vs H Q E, sp vs H Q E → vs.length = ps.length)
    (hbody : ∀ (f : Addr) (cdv : Value) (A : Around) (outer : List Env) (s : Shared) (H : Hp) (vs : List V) (Q : VK) (E : XK), Room k (A.deeper (envOfC qual (defScope st) s.heap.objs.size f cdv)) → sp vs H Q E →
      ∃ t, PSs (cxOf CX0 P w K mg base N qual (defScope st) f cdv A outer s H E).nox (defBody st) t ∧ t { nx := fun _ H' => Q .non H', rt := Q } (start N vs) H) : CanM P w K mg base C (k + 1) x ps sp := by
  obtain ⟨f, fd, F⟩ := h
  exact ⟨f, fd, F.fn.ok S len fun cdv A outer s H vs Q E hr h => hbody f cdv A outer s H vs Q E hr h, F.m, F.b⟩
end
section
variable {X : Cx} {k k' : Nat} {x m : Str} {ps : List Str} {sp : Sp} {p pos apos : Pos} {e o : Expr} {es : List Expr} {ta : TE} {t : TA} {C : Addr}
theorem pe_can (h : Can X.prog X.w X.K X.mg X.base k x ps sp) (hr : Room k' X.A) (ha : PA X (e :: es) t) (hg : Gl X x := by rfl) (hk : k ≤ k' := by decide) (hdb : (x == ("__debug__" : Str)) = false := by decide)
    (hs : starEach (e :: es) X.env = (false, eval e X.env) :: starEach es X.env := by rfl) (hpl : (backTo pos (starEach es X.env)).any (·.1) = false := by rfl) : PE X (.Call (.Name x p) (e :: es) [] pos) (tCall sp [] E0 t) := by
  obtain ⟨f, fd, F, hm, kp, b⟩ := h
  exact pe_call F (hr.mono hk) hg hm kp b .nil pass0 ha hdb hs hpl
theorem pe_canM {pl : Sem Bool} (ho : PE X o ta) (c : Cls X.K C) (h : CanM X.prog X.w X.K X.mg X.base C k m ps sp) (hr : Room k' X.A) (ha : PA X (e :: es) t) (hk : k ≤ k' := by decide)
    (hst : starEach (e :: es) X.env = (false, eval e X.env) :: starEach es X.env := by rfl) (hpl : (backTo pos (starEach es X.env)).any (·.1) = false := by rfl)
    (ht : eval (.Call (.Attribute o m apos) (e :: es) [] pos) X.env = (do
      let ov ← eval o X.env
      standAt apos.atName
      let (f, first) ← holding [ov] (getMethod ov m pl)
      callWith pos f first (backTo pos (starEach (e :: es) X.env)) (backToKw pos (keywordEach [] X.env))) := by rfl) : PE X (.Call (.Attribute o m apos) (e :: es) [] pos) (tMeth C m sp [] E0 ta t) := by
  obtain ⟨f, fd, F, hm, b⟩ := h
  exact pe_meth (pl := pl) ho c hm F (hr.mono hk) b .nil pass0 ha hst hpl ht
theorem pe_canM0 {pl : Sem Bool} (ho : PE X o ta) (c : Cls X.K C) (h : CanM X.prog X.w X.K X.mg X.base C k m ps sp) (hr : Room k' X.A) (hk : k ≤ k' := by decide)
    (ht : eval (.Call (.Attribute o m apos) [] [] pos) X.env = (do
      let ov ← eval o X.env
      standAt apos.atName
      let (f, first) ← holding [ov] (getMethod ov m pl)
      callWith pos f first (backTo pos (starEach [] X.env)) (backToKw pos (keywordEach [] X.env))) := by rfl) : PE X (.Call (.Attribute o m apos) [] [] pos) (tMeth C m sp [] E0 ta tNil) := by
  obtain ⟨f, fd, F, hm, b⟩ := h
  exact pe_meth0 (pl := pl) ho c hm F (hr.mono hk) b .nil pass0 ht
theorem pe_gi {n : Int} (h : ∃ t, X.mg x = some (.int n t)) (hg : Gl X x := by rfl) (hd : (x == ("__debug__" : Str)) = false := by decide) : PE X (.Name x pos) (tC (.int n)) := by
  obtain ⟨t, h⟩ := h
  exact pe_glob hg h ⟨t, rfl⟩ hd
/-- T-names, builtins in short -/
theorem pe_b {id : String} {r : List V → Hp → VK → Prop} (hc : CallR X (.builtin id) r) (hm : X.mg x = none) (hv : bootBuiltins x = some (.builtin id)) (ha : PA X (e :: es) t) (hg : Gl X x := by rfl) (hn : x ≠ "__name__" := by decide) (hdb : (x == ("__debug__" : Str)) = false := by decide)
    (he : starEach (e :: es) X.env = (false, eval e X.env) :: starEach es X.env := by rfl) (hpl : (backTo pos (starEach es X.env)).any (·.1) = false := by rfl) : PE X (.Call (.Name x p) (e :: es) [] pos) (tCB r t) := pe_callB hc hg hm hv ha hn hdb he hpl
theorem pe_t {T : String} {r : List V → Hp → VK → Prop} (hc : CallR X (.type T) r) (hm : X.mg x = none) (hv : bootBuiltins x = some (.type T)) (ha : PA X (e :: es) t) (hg : Gl X x := by rfl) (hn : x ≠ "__name__" := by decide) (hdb : (x == ("__debug__" : Str)) = false := by decide)
    (he : starEach (e :: es) X.env = (false, eval e X.env) :: starEach es X.env := by rfl) (hpl : (backTo pos (starEach es X.env)).any (·.1) = false := by rfl) : PE X (.Call (.Name x p) (e :: es) [] pos) (tCB r t) := pe_callTy hc hg hm hv ha hn hdb he hpl
theorem pa1 {a : Expr} {ta : TE} (ha : PE X a ta) (hs : starEach [a] X.env = (false, eval a X.env) :: starEach [] X.env := by rfl) : PA X [a] (tCons ta tNil) := pa_cons ha pa_nil hs
theorem pa2 {a b : Expr} {ta tb : TE} (ha : PE X a ta) (hb : PE X b tb) (hs : starEach [a, b] X.env = (false, eval a X.env) :: starEach [b] X.env := by rfl) (hs2 : starEach [b] X.env = (false, eval b X.env) :: starEach [] X.env := by rfl) : PA X [a, b] (tCons ta (tCons tb tNil)) := pa_cons ha (pa_cons hb pa_nil hs2) hs
theorem pa3 {a b c : Expr} {ta tb tc : TE} (ha : PE X a ta) (hb : PE X b tb) (hc : PE X c tc) (hs : starEach [a, b, c] X.env = (false, eval a X.env) :: starEach [b, c] X.env := by rfl) (hs1 : starEach [b, c] X.env = (false, eval b X.env) :: starEach [c] X.env := by rfl) (hs2 : starEach [c] X.env = (false, eval c X.env) :: starEach [] X.env := by rfl) : PA X [a, b, c] (tCons ta (tCons tb (tCons tc tNil))) := pa_cons ha (pa_cons hb (pa_cons hc pa_nil hs2) hs1) hs
end
/-- all that was tracked but p is as it was -/
def But (p : Addr) (H H' : Hp) : Prop := ∀ b o, H b = some o → b ≠ p → H' b = some o
theorem But.trans {p : Addr} {H H1 H2 : Hp} (a : But p H H1) (b : But p H1 H2) : But p H H2 := fun c o h n => b c o (a c o h n) n
theorem Same.but {p : Addr} {H H' : Hp} (a : Same H H') : But p H H' := fun b o h _ => a b o h
theorem Same.upd {H : Hp} {p : Addr} {o : HO} (h : H p = none) : Same H (upd H p o) := fun b u e => by rw [upd_ne (ne_of_none e h)]; exact e
end L2
set_option Elab.async false
set_option linter.all false
set_option maxRecDepth 100000
namespace L2
open PySem PySem.Spec PyProof.Rows
theorem ul1 : ∀ {us : List Value}, us.length = 1 → ∃ a, us = [a]
  | [a], _ => ⟨a, rfl⟩
theorem ul2 {us : List Value} (h : us.length = 2) : ∃ a b, us = [a, b] := by
  cases us with
  | nil => cases h
  | cons a r => obtain ⟨b, rfl⟩ := ul1 (Nat.succ.inj h); exact ⟨a, b, rfl⟩
theorem ul3 {us : List Value} (h : us.length = 3) : ∃ a b c, us = [a, b, c] := by
  cases us with
  | nil => cases h
  | cons a r => obtain ⟨b, c, rfl⟩ := ul2 (Nat.succ.inj h); exact ⟨a, b, c, rfl⟩
theorem ul4 {us : List Value} (h : us.length = 4) : ∃ a b c d, us = [a, b, c, d] := by
  cases us with
  | nil => cases h
  | cons a r => obtain ⟨b, c, d, rfl⟩ := ul3 (Nat.succ.inj h); exact ⟨a, b, c, d, rfl⟩
section
variable {K : PySem.W.Frag} {x qual p q r s t u : Str} {st : Stmt} {g : Addr} {fd : FuncData}
abbrev fnQ (x qual : Str) (st : Stmt) (kV doc pm : Value) (an : Option Addr) (cdv ct : Value) : FuncData := PySem.W.fnOf x qual (defArgs st) (defBody st) (defScope st) .none kV doc pm an cdv ct
theorem Fun.b1 (F : Fun K x qual st g fd) (h : ∀ kV doc pm an cdv ct a, bindArgs (fnQ x qual st kV doc pm an cdv ct) ⟨[a], []⟩ = pure [(p, a)]) : Binds K fd [p] [] := F.binds fun kV doc pm an cdv ct us hl => by
  obtain ⟨a, rfl⟩ := ul1 hl
  exact h kV doc pm an cdv ct a
theorem Fun.b2 (F : Fun K x qual st g fd) (h : ∀ kV doc pm an cdv ct a b, bindArgs (fnQ x qual st kV doc pm an cdv ct) ⟨[a, b], []⟩ = pure [(p, a), (q, b)]) : Binds K fd [p, q] [] := F.binds fun kV doc pm an cdv ct us hl => by
  obtain ⟨a, b, rfl⟩ := ul2 hl
  exact h kV doc pm an cdv ct a b
theorem Fun.b3 (F : Fun K x qual st g fd) (h : ∀ kV doc pm an cdv ct a b c, bindArgs (fnQ x qual st kV doc pm an cdv ct) ⟨[a, b, c], []⟩ = pure [(p, a), (q, b), (r, c)]) : Binds K fd [p, q, r] [] := F.binds fun kV doc pm an cdv ct us hl => by
  obtain ⟨a, b, c, rfl⟩ := ul3 hl
  exact h kV doc pm an cdv ct a b c
theorem Fun.b4 (F : Fun K x qual st g fd) (h : ∀ kV doc pm an cdv ct a b c d, bindArgs (fnQ x qual st kV doc pm an cdv ct) ⟨[a, b, c, d], []⟩ = pure [(p, a), (q, b), (r, c), (s, d)]) : Binds K fd [p, q, r, s] [] := F.binds fun kV doc pm an cdv ct us hl => by
  obtain ⟨a, b, c, d, rfl⟩ := ul4 hl
  exact h kV doc pm an cdv ct a b c d
end
end L2
set_option Elab.async false
set_option linter.all false
set_option maxRecDepth 100000
/-! errors of own classes: raise, and how they pass through defs -/
namespace L2
open PySem PySem.Spec PyProof.Rows
section
variable {P : Program} {w : World} {H H' : Hp} {h h' : Heap} {a : Addr} {o : HO}
theorem ObjOk.there (x : ObjOk P w H h a o) : ∃ ob, h.get? a = some ob := by
  cases o with
  | lst xs => obtain ⟨_, _, _, _, e⟩ := x; exact ⟨_, e⟩
  | tup xs => obtain ⟨_, _, _, ob, e, _⟩ := x; exact ⟨_, e⟩
  | dK kvs => obtain ⟨_, _, _, _, o, _, _, e, _⟩ := x; exact ⟨_, e⟩
  | dT kvs => obtain ⟨_, _, _, _, o, _, _, e, _⟩ := x; exact ⟨_, e⟩
  | set S n => obtain ⟨o, _, _, _, e, _⟩ := x; exact ⟨_, e⟩
  | ins C dx fs => obtain ⟨_, _, _, e, _⟩ := x; exact ⟨_, e⟩
  | own y => exact x
  | xd fs => obtain ⟨_, ⟨_, _, _, e, _⟩, _⟩ := x; exact ⟨_, e⟩
  | rng lo hi => obtain ⟨_, _, _, e⟩ := x; exact ⟨_, e⟩
  | frz ob u => obtain ⟨e, _⟩ := x; exact ⟨_, e⟩
  | tbl ps => exact ⟨_, x⟩
  | met f y => exact ⟨_, x⟩
  | ext φ => obtain ⟨_, ⟨_, e⟩, _⟩ := x; exact ⟨_, e⟩
theorem HOk.none (x : HOk P w H h) (e : h.get? a = .none) : H a = .none := by
  cases q : H a with
  | none => rfl
  | some u => obtain ⟨_, e'⟩ := (x a u q).there; rw [e] at e'; cases e'
theorem funs_un {base : Heap} {fs : List Addr} (u : Un fs [] H H' h h') : ∀ {l : List Env}, (∀ b ∈ frs l, b ∈ fs ∧ H b = .none) → h.FunFrames base l → h'.FunFrames base l
  | [], _, _ => trivial
  | env :: r, hs, hl => by
    obtain ⟨hk, ⟨L, o, hf, hn, ho, hd⟩, hr⟩ := hl
    have hL := hs L (by unfold frs; rw [List.filterMap_cons, hf]; exact List.mem_cons_self)
    obtain ⟨sl, e⟩ := u.slot L o ho hL.2 hL.1 (by simp)
    exact ⟨hk, ⟨L, _, hf, hn, e, hd⟩, funs_un u (fun b hb => hs b (by unfold frs; rw [List.filterMap_cons, hf]; exact List.mem_cons_of_mem _ hb)) hr⟩
end
/-- how an error's record stands: new, or with its traceback; g: the heap ahead of it -/
inductive XRec (g h : Heap) (H' : Hp) (a : Addr) (cls : Value) : Bool → Prop
  | new (oe : Obj) (vs : Array Value) (he : h.get? a = some oe) (hc : oe.cls = cls) (hd : oe.data = .fields vs) (hdi : oe.dict = none) (hn : H' a = none) (hg : g.get? a = none) (h1 : vs[1]? = some .none) : XRec g h H' a cls true
  | old (oe : Obj) (vs : Array Value) (he : h.get? a = some oe) (hc : oe.cls = cls) (hd : oe.data = .fields vs) (hdi : oe.dict = none) (hn : H' a = none) (hg : g.get? a = none) (T : Addr) (oT : Obj) (ts : Array Value) (h1 : vs[1]? = some (.ref T)) (ht : T ≠ a) (hT : h.get? T = some oT)
      (hdT : oT.data = .fields ts) (h3 : ts[3]? = some .none) (hnT : H' T = none) (hgT : g.get? T = none) : XRec g h H' a cls false
  | fl (oe : Obj) (vs : Array Value) (he : h.get? a = some oe) (hc : oe.cls = cls) (hd : oe.data = .fields vs) (hdi : oe.dict = none) (hn : H' a = none) (hg : g.get? a = none) (T : Addr) (oT : Obj) (ts : Array Value) (h1 : vs[1]? = some (.ref T)) (ht : T ≠ a) (hT : h.get? T = some oT)
      (hdT : oT.data = .fields ts) (f : Addr) (h3 : ts[3]? = some (rawInt f)) (hnT : H' T = none) (hgT : g.get? T = none) : XRec g h H' a cls true
theorem XRec.base {g h : Heap} {H' : Hp} {a : Addr} {cls : Value} {b : Bool} (x : XRec g h H' a cls b) : H' a = none ∧ g.get? a = none := by
  cases x with
  | new oe vs he hc hd hdi hn hg => exact ⟨hn, hg⟩
  | old oe vs he hc hd hdi hn hg => exact ⟨hn, hg⟩
  | fl oe vs he hc hd hdi hn hg => exact ⟨hn, hg⟩
structure EX (P : Program) (w : World) (st : List Env) (H : Hp) (s : Shared) (new : Bool) (cls : Value) (a : Addr) (H' : Hp) (s' : Shared) : Prop where
  os : s'.os = s.os
  bare : AllBare s'.gens
  un : Un (frs st) [] H H' s.heap s'.heap
  hok : HOk P w H' s'.heap
  rc : XRec s.heap s'.heap H' a cls new
def CX1 (P : Program) (w : World) : CXT := fun outer H s E e s' => ∃ a cls H', e = .ref a ∧ EX P w outer H s false cls a H' s' ∧ E cls none H'
section
variable {X : Cx} {pins : List (Addr × Obj)} {σ : St} {H H' : Hp} {s s₁ : Shared} {cls : Value} {a : Addr} {new : Bool}
/-- behind an error, in the same def -/
theorem EX.inv (I : Inv X pins σ H s) (x : EX X.prog X.w X.stack H s new cls a H' s₁) : Inv X pins σ H' s₁ := I.call' x.os x.un x.hok x.bare fun b hb => by simp at hb
/-- what a frame's note leaves -/
structure Noted (fs : List Addr) (e : Addr) (oe : Obj) (L : Addr) (h h₃ : Heap) : Prop where
  stay : ∀ b o, b ∉ fs → b ≠ e → h.get? b = some o → h₃.get? b = some o
  slot : ∀ b ∈ fs, ∀ o, h.get? b = some o → ∃ sl, h₃.get? b = some { o with slots := sl }
  tr : ∃ T oT ts, h.objs.size ≤ T ∧ h₃.get? e = some (oe.mapFields fun z => z.setIfInBounds 1 (.ref T)) ∧ h₃.get? T = some oT ∧ oT.data = .fields ts ∧ ts[3]? = some (rawInt L)
theorem x_entry {M : Model} {A : Around} {E : Value → Shared → Prop} {s : Shared} {base : Heap} {env : Env} {outer : List Env} {L e : Addr} {oe : Obj} {vs : Array Value} {head : Value} {hadNext : Bool} {Q : Unit → Shared → Prop}
    (hfr : A.frames = some (env :: outer)) (hl : s.heap.FunFrames base (env :: outer)) (hf : env.frame = some L) (he : s.heap.get? e = some oe) (hd : oe.data = .fields vs) (hsz : 1 < vs.size) (h : ∀ h₃, Noted (frs (env :: outer)) e oe L s.heap h₃ → Q () { s with heap := h₃ }) :
    wpAny M A (do let a ← frameOf env; let pl ← entryPlaceOf L hadNext; let b ← EntryCells.newEntry head a .none (rawInt L) .none pl; setField (.ref e) 1 b) Q E s := by
  have hene : e ∉ frs (env :: outer) := fun hm => by
    obtain ⟨_, o, ho, hnf⟩ := hl.mem hm
    rw [he] at ho; cases ho; exact hnf vs hd
  refine wpAny_bind (wpAny_frameOf_fun hfr hl hf fun h₁ hs₁ => wpAny_bind (wpAny_entryPlaceOf fun pl hpl => ?_))
  unfold EntryCells.newEntry newFields
  refine wpAny_bind (wpAny_newObj_type ?_ (hpl.sizeOk5 _ _ _ _ _))
  generalize htb : ({ cls := .type "traceback", dict := none, data := .fields ([head, .ref L, .none, rawInt L, .none] ++ (if pl.isEmpty then List.replicate 6 Value.none else pl)).toArray } : Obj) = tb
  have he₁ : h₁.get? e = some oe := (hs₁.2.1 e hene).trans he
  have he₂ : (h₁.push tb).get? e = some oe := Heap.get?_push_of_some _ he₁
  have nTe : h₁.objs.size ≠ e := Nat.ne_of_gt (Heap.lt_size he₁)
  have dtb : tb.data = .fields ([head, .ref L, .none, rawInt L, .none] ++ (if pl.isEmpty then List.replicate 6 Value.none else pl)).toArray := by rw [← htb]
  have htbf : tb.isFreed = false := Obj.isFreed_of_fields dtb
  have hd₃ := Obj.data_mapFields hd fun z => z.setIfInBounds 1 (Value.ref h₁.objs.size)
  have he₃ := Heap.get?_update_self (Obj.mapFields fun z => z.setIfInBounds 1 (Value.ref h₁.objs.size)) he₂ (Obj.isFreed_of_fields hd₃)
  have hT₃ := (Heap.get?_update_other (h₁.push tb) (Obj.mapFields fun z => z.setIfInBounds 1 (Value.ref h₁.objs.size)) (Ne.symm nTe)).trans (Heap.get?_push_size h₁ htbf)
  refine wpAny_setField he₂ hd hsz (h _ ⟨fun b o hb hbe hbo => ?_, fun b hb o hbo => ?_, ?_⟩)
  · have hb1 : h₁.get? b = some o := (hs₁.2.1 b hb).trans hbo
    rw [Heap.get?_update_other _ _ (Ne.symm hbe)]
    exact Heap.get?_push_of_some _ hb1
  · obtain ⟨sl, hb1⟩ := hs₁.2.2 b o hbo
    refine ⟨sl, ?_⟩
    rw [Heap.get?_update_other _ _ (fun q => hene (by rw [q]; exact hb))]
    exact Heap.get?_push_of_some _ hb1
  · exact ⟨h₁.objs.size, tb, _, Nat.le_of_eq hs₁.1.symm, he₃, hT₃, dtb, by simp⟩
theorem EX.fin (I : Inv X pins σ H s) (x : EX X.prog X.w X.stack H s new cls a H' s₁) {oe : Obj} {vs : Array Value} (he : s₁.heap.get? a = some oe) (hc : oe.cls = cls) (hd : oe.data = .fields vs) (hdi : oe.dict = none) (hv : 1 < vs.size) {T0 : Option Addr}
    (hT0 : ∀ T, T0 = some T → H' T = none ∧ s.heap.get? T = none) {g h₃ : Heap} (hg : ∀ b o, (∀ T, T0 = some T → b ≠ T) → s₁.heap.get? b = some o → g.get? b = some o) (hgf : ∀ b ∈ frs X.stack, ∀ o, s₁.heap.get? b = some o → g.get? b = some o) (hgs : s₁.heap.objs.size ≤ g.objs.size)
    (hge : g.get? a = some oe) {L : Addr} (nt : Noted (frs X.stack) a oe L g h₃) : EX X.prog X.w X.stack H s true cls a H' { s₁ with heap := h₃ } := by
  obtain ⟨stay, slot, T, oT, ts, hTs, heT, hT, hdT, h3⟩ := nt
  obtain ⟨b1, b2⟩ := x.rc.base
  have frm : ∀ b ∈ frs X.stack, ∀ o, s.heap.get? b = some o → ∃ sl, h₃.get? b = some { o with slots := sl } := fun b hb o e => by
    obtain ⟨sl, e1⟩ := x.un.slot b o e (I.stkFree b hb) hb (by simp)
    obtain ⟨sl', e2⟩ := slot b hb _ (hgf b hb _ e1)
    exact ⟨sl', e2⟩
  have frn : ∀ b ∈ frs X.stack, H' b = none := fun b hb => by
    obtain ⟨_, o, ho, _⟩ := I.stack.mem hb
    exact x.un.free b o ho (I.stkFree b hb) (by simp)
  refine ⟨x.os, x.bare, ⟨fun b o e n hb _ => ?_, fun b o e n hb _ => frm b hb o e, x.un.free, fun b o e _ => ?_, x.un.tups, x.un.frzs, x.un.tbls⟩, fun b ob e => ?_, ?_⟩
  · refine stay b o hb (fun q => by rw [q, b2] at e; cases e) (hg b o (fun T hT q => by rw [q, (hT0 T hT).2] at e; cases e) (x.un.keep b o e n hb (by simp)))
  · by_cases hm : b ∈ frs X.stack
    · obtain ⟨sl, e2⟩ := frm b hm o e
      exact ⟨_, e2⟩
    · obtain ⟨o', e1⟩ := x.un.there b o e (by simp)
      exact ⟨o', stay b o' hm (fun q => by rw [q, b2] at e; cases e) (hg b o' (fun T hT q => by rw [q, (hT0 T hT).2] at e; cases e) e1)⟩
  · refine (x.hok b ob e).stay (fun c u hc q => ?_) (fun _ q => q) fun _ _ q => q
    have tr : ∃ v, H' c = some v := by
      rcases hc with rfl | hc
      · exact ⟨_, e⟩
      · exact ⟨_, hc⟩
    obtain ⟨v, tr⟩ := tr
    refine stay c u (fun hm => ?_) (fun z => ?_) (hg c u (fun T hT z => ?_) q)
    · rw [frn c hm] at tr; cases tr
    · rw [z, b1] at tr; cases tr
    · rw [z, (hT0 T hT).1] at tr; cases tr
  · have hTn : s₁.heap.get? T = none := Heap.get?_none_of_le (Nat.le_trans hgs hTs)
    have hTa : T ≠ a := fun z => by rw [z, he] at hTn; cases hTn
    refine .fl _ _ heT ((Obj.cls_mapFields ..).trans hc) (Obj.data_mapFields hd _) ?_ b1 b2 T oT ts (by simp [hv]) hTa hT hdT L h3 (x.hok.none hTn) ?_
    · obtain ⟨c0, d0, dt, sl⟩ := oe
      dsimp only at hd hdi
      subst hd hdi
      rfl
    · cases q : s.heap.get? T with
      | none => rfl
      | some o => obtain ⟨o', e2⟩ := x.un.there T o q (by simp); rw [hTn] at e2; cases e2
/-- what lies at the traceback alone is changed -/
theorem EX.upT {P : Program} {w : World} {st : List Env} {new' : Bool} (x : EX P w st H s new cls a H' s₁) {T : Addr} {h₃ : Heap} (hk : ∀ b, b ≠ T → h₃.get? b = s₁.heap.get? b) (ho : ∃ o, h₃.get? T = some o) (hnT : H' T = none) (hgT : s.heap.get? T = none) (rc : XRec s.heap h₃ H' a cls new') : EX P w st H s new' cls a H' { s₁ with heap := h₃ } := by
  have nT : ∀ {b o}, s.heap.get? b = some o → b ≠ T := fun {b o} e z => by rw [z, hgT] at e; cases e
  refine ⟨x.os, x.bare, ⟨fun b o e n hb hx => (hk b (nT e)).trans (x.un.keep b o e n hb hx), fun b o e n hb hx => ?_, x.un.free, fun b o e hx => ?_, x.un.tups, x.un.frzs, x.un.tbls⟩, fun b ob e => ?_, rc⟩
  · obtain ⟨sl, e1⟩ := x.un.slot b o e n hb hx
    exact ⟨sl, (hk b (nT e)).trans e1⟩
  · obtain ⟨o', e1⟩ := x.un.there b o e hx
    exact ⟨o', (hk b (nT e)).trans e1⟩
  · refine (x.hok b ob e).stay (fun c u hc q => (hk c fun z => ?_).trans q) (fun _ q => q) fun _ _ q => q
    rcases hc with rfl | hc
    · rw [z, hnT] at e; cases e
    · rw [z, hnT] at hc; cases hc
/-- the frame is noted in the error's traceback -/
theorem note_fl {M : Model} {A : Around} {Q : Unit → Shared → Prop} {E : Value → Shared → Prop} {cenv : Env} (I : Inv X pins σ H s) (hst : X.stack = X.env :: X.outer) (hf : X.env.frame = some X.env.locals) (hA : A.frames = some X.stack) (hcf : cenv.frame = X.env.frame) (x : EX X.prog X.w X.stack H s new cls a H' s₁)
    (h : ∀ h₃, EX X.prog X.w X.stack H s true cls a H' { s₁ with heap := h₃ } → (∃ vs oe T oT ts, ∃ f : Addr, h₃.get? a = some oe ∧ oe.data = .fields vs ∧ vs[1]? = some (.ref T) ∧ T ≠ a ∧ h₃.get? T = some oT ∧ oT.data = .fields ts ∧ ts[3]? = some (rawInt f) ∧ H' T = none ∧ s.heap.get? T = none) → Q () { s₁ with heap := h₃ }) : wpAny M A (noteFrame (.ref a) cenv) Q E s₁ := by
  have hfun : s₁.heap.FunFrames X.base X.stack := funs_un x.un (fun b hb => ⟨hb, I.stkFree b hb⟩) I.stack
  have efr : PySem.frameOf cenv = PySem.frameOf X.env := by unfold PySem.frameOf; rw [hcf]
  have rc := x.rc
  have h' : ∀ h₃, EX X.prog X.w X.stack H s true cls a H' { s₁ with heap := h₃ } → (∀ oe vs, h₃.get? a = some oe → oe.data = .fields vs → vs[1]? ≠ some .none) → Q () { s₁ with heap := h₃ } := fun h₃ x3 hne => by
    refine h h₃ x3 ?_
    cases x3.rc with
    | new oe vs he hc hd hdi hn hg h1 => exact absurd h1 (hne oe vs he hd)
    | fl oe vs he hc hd hdi hn hg T oT ts h1 ht hT hdT f h3 hnT hgT => exact ⟨vs, oe, T, oT, ts, f, he, hd, h1, ht, hT, hdT, h3, hnT, hgT⟩
  have hne : ∀ {h₃ : Heap} {oe : Obj} {T : Addr} {vs : Array Value}, oe.data = .fields vs → h₃.get? a = some (oe.mapFields fun z => z.setIfInBounds 1 (.ref T)) → ∀ oe' vs', h₃.get? a = some oe' → oe'.data = .fields vs' → vs'[1]? ≠ some .none := fun {h₃ oe T vs} hd e oe' vs' e' hd' z => by
    rw [e] at e'; cases e'
    have q := Obj.data_mapFields hd fun z => z.setIfInBounds 1 (Value.ref T)
    rw [hd'] at q
    cases q
    rw [Array.getElem?_setIfInBounds] at z
    split at z
    · split at z <;> cases z
    · rename_i z0; exact z0 rfl
  have over : ∀ {oe : Obj} {vs : Array Value} (_ : s₁.heap.get? a = some oe) (_ : oe.cls = cls) (_ : oe.data = .fields vs) (_ : oe.dict = none) {T : Addr} {oT : Obj} {ts : Array Value} {v3 : Value} (_ : vs[1]? = some (.ref T)) (_ : T ≠ a) (_ : s₁.heap.get? T = some oT) (_ : oT.data = .fields ts) (_ : ts[3]? = some v3) (_ : (v3 == rawInt X.env.locals) = false) (_ : H' T = none) (_ : s.heap.get? T = none), wpAny M A (noteFrame (.ref a) cenv) Q E s₁ := by
    intro oe vs he hc hd hdi T oT ts v3 h1 ht hT hdT h3 hv3 hnT hgT
    unfold noteFrame
    simp only [hcf, hf, efr]
    refine wpAny_bind (wpAny_field he hd h1 ?_)
    rw [if_pos (show (Value.ref T != Value.none) = true by simp)]
    refine wpAny_bind (wpAny_field hT hdT h3 ?_)
    rw [if_neg (show ¬ ((v3 == rawInt X.env.locals) = true) by rw [hv3]; exact Bool.false_ne_true)]
    refine wpAny_bind (wpAny_setField hT hdT (Array.getElem?_eq_some_iff.mp h3).1 ?_)
    have oth : ∀ c, c ≠ T → (s₁.heap.update T (Obj.mapFields fun z => z.setIfInBounds 3 Value.none)).get? c = s₁.heap.get? c := fun c hc => Heap.get?_update_other _ _ (Ne.symm hc)
    have nrec : ∀ c o, s₁.heap.get? c = some o → (∀ z, o.data ≠ .fields z) → c ≠ T := fun c o hc hnf q => by rw [q, hT] at hc; cases hc; exact hnf ts hdT
    have nfr : ∀ c ∈ frs X.stack, c ≠ T := fun c hc q => by
      obtain ⟨_, o, ho, hnf⟩ := hfun.mem hc
      exact nrec c o ho hnf q
    have hfun2 : (s₁.heap.update T (Obj.mapFields fun z => z.setIfInBounds 3 Value.none)).FunFrames X.base X.stack := hfun.of_keeps fun c o hc hnf => ⟨o, (oth c (nrec c o hc hnf)).trans hc, rfl⟩
    rw [hst] at hA hfun2
    have hv := (Array.getElem?_eq_some_iff.mp h1).1
    refine x_entry hA hfun2 hf ((oth a (Ne.symm ht)).trans he) hd hv fun h₃ nt => ?_
    have nt' := nt
    obtain ⟨_, _, T', _, _, _, heT, _⟩ := nt'
    refine h' h₃ (x.fin I he hc hd hdi hv (T0 := some T) (fun T' z => by cases z; exact ⟨hnT, hgT⟩) (g := s₁.heap.update T (Obj.mapFields fun z => z.setIfInBounds 3 Value.none)) (fun c o n e => (oth c (n T rfl)).trans e) (fun c hc o e => (oth c (nfr c hc)).trans e) (Nat.le_of_eq (Heap.size_after_update ..).symm) ((oth a (Ne.symm ht)).trans he) (L := X.env.locals) ?_) (hne hd heT)
    rw [hst]
    exact nt
  cases rc with
  | new oe vs he hc hd hdi hn hg h1 =>
    unfold noteFrame
    simp only [hcf, hf, efr]
    refine wpAny_bind (wpAny_field he hd h1 ?_)
    rw [if_neg (by decide)]
    rw [hst] at hA hfun
    refine x_entry hA hfun hf he hd (Array.getElem?_eq_some_iff.mp h1).1 fun h₃ nt => ?_
    have nt' := nt
    obtain ⟨_, _, T', _, _, _, heT, _⟩ := nt'
    refine h' h₃ (x.fin I he hc hd hdi (Array.getElem?_eq_some_iff.mp h1).1 (T0 := none) (fun _ z => nomatch z) (g := s₁.heap) (fun _ _ _ e => e) (fun _ _ _ e => e) (Nat.le_refl _) he (L := X.env.locals) ?_) (hne hd heT)
    rw [hst]
    exact nt
  | old oe vs he hc hd hdi hn hg T oT ts h1 ht hT hdT h3 hnT hgT => exact over he hc hd hdi h1 ht hT hdT h3 (by simp [rawInt]) hnT hgT
  | fl oe vs he hc hd hdi hn hg T oT ts h1 ht hT hdT f h3 hnT hgT =>
    cases q : (rawInt f == rawInt X.env.locals) with
    | false => exact over he hc hd hdi h1 ht hT hdT h3 q hnT hgT
    | true =>
      unfold noteFrame
      simp only [hcf, hf, efr]
      refine wpAny_bind (wpAny_field he hd h1 ?_)
      rw [if_pos (show (Value.ref T != Value.none) = true by simp)]
      refine wpAny_bind (wpAny_field hT hdT h3 ?_)
      rw [if_pos q]
      exact wpAny_pure (h _ x ⟨vs, oe, T, oT, ts, f, he, hd, h1, ht, hT, hdT, h3, hnT, hgT⟩)
/-- the error's record with another word of its flight -/
theorem EX.flight {fl : Option Addr} (x : EX X.prog X.w X.stack H s true cls a H' s₁) {vs ts : Array Value} {oe oT : Obj} {T f : Addr} (he : s₁.heap.get? a = some oe) (hd : oe.data = .fields vs) (h1 : vs[1]? = some (.ref T)) (ht : T ≠ a) (hT : s₁.heap.get? T = some oT) (hdT : oT.data = .fields ts) (h3 : ts[3]? = some (rawInt f)) (hnT : H' T = none) (hgT : s.heap.get? T = none) :
    EX X.prog X.w X.stack H s fl.isSome cls a H' { s₁ with heap := s₁.heap.update T (Obj.mapFields fun z => z.setIfInBounds 3 (fl.elim .none fun f => rawInt f)) } := by
  have dT := Obj.data_mapFields hdT fun z => z.setIfInBounds 3 (fl.elim .none fun f => rawInt f)
  have oT' := Heap.get?_update_self (Obj.mapFields fun z => z.setIfInBounds 3 (fl.elim .none fun f => rawInt f)) hT (Obj.isFreed_of_fields dT)
  have oth : ∀ b, b ≠ T → (s₁.heap.update T (Obj.mapFields fun z => z.setIfInBounds 3 (fl.elim .none fun f => rawInt f))).get? b = s₁.heap.get? b := fun b hb => Heap.get?_update_other _ _ (Ne.symm hb)
  have h3' : (ts.setIfInBounds 3 (fl.elim .none fun f => rawInt f))[3]? = some (fl.elim .none fun f => rawInt f) := Array.getElem?_setIfInBounds_self_of_lt (Array.getElem?_eq_some_iff.mp h3).1
  refine x.upT oth ⟨_, oT'⟩ hnT hgT ?_
  have base : oe.cls = cls ∧ oe.dict = none ∧ H' a = none ∧ s.heap.get? a = none := by
    cases x.rc with
    | new oe' vs' he' hc hd' hdi hn hg h1' => rw [he] at he'; cases he'; exact ⟨hc, hdi, hn, hg⟩
    | fl oe' vs' he' hc hd' hdi hn hg => rw [he] at he'; cases he'; exact ⟨hc, hdi, hn, hg⟩
  obtain ⟨hc, hdi, hn, hg⟩ := base
  cases fl with
  | none => exact .old oe vs ((oth a (Ne.symm ht)).trans he) hc hd hdi hn hg T _ _ h1 ht oT' dT h3' hnT hgT
  | some f' => exact .fl oe vs ((oth a (Ne.symm ht)).trans he) hc hd hdi hn hg T _ _ h1 ht oT' dT f' h3' hnT hgT
theorem note_ex {M : Model} {A : Around} {Q : Unit → Shared → Prop} {E : Value → Shared → Prop} (I : Inv X pins σ H s) (hst : X.stack = X.env :: X.outer) (hf : X.env.frame = some X.env.locals) (hA : A.frames = some X.stack) (x : EX X.prog X.w X.stack H s new cls a H' s₁)
    (h : ∀ h₃, EX X.prog X.w X.stack H s false cls a H' { s₁ with heap := h₃ } → Q () { s₁ with heap := h₃ }) : wpAny M A (noteFrame (.ref a) X.env) (fun _ s₂ => wpAny M A (setFlight (.ref a) none) Q E s₂) E s₁ := by
  refine note_fl I hst hf hA rfl x fun h₃ x3 ⟨vs, oe, T, oT, ts, f, he, hd, h1, ht, hT, hdT, h3, hnT, hgT⟩ => ?_
  unfold setFlight
  refine wpAny_bind (wpAny_field he hd h1 ?_)
  rw [if_pos (show (Value.ref T != Value.none) = true by simp)]
  exact wpAny_setField hT hdT (Array.getElem?_eq_some_iff.mp h3).1 (h _ (x3.flight (fl := none) he hd h1 ht hT hdT h3 hnT hgT))
/-- an error leaves a def -/
theorem leave_ex {M : Model} {A : Around} {Q : Unit → Shared → Prop} {E : Value → Shared → Prop} (I : Inv X pins σ H s) (hst : X.stack = X.env :: X.outer) (hf : X.env.frame = some X.env.locals) (hA : A.frames = some X.stack) (x : EX X.prog X.w X.stack H s new cls a H' s₁)
    (h : ∀ h₃, EX X.prog X.w X.stack H s false cls a H' { s₁ with heap := h₃ } → Q () { s₁ with heap := h₃ }) : wpAny M A (leaving X.env (.ref a)) Q E s₁ := by
  unfold leaving
  exact wpAny_bind (note_ex I hst hf hA x h)
/-- as the callers see it -/
theorem EX.out (I : Inv X pins σ H s) (hex : X.ex = []) (x : EX X.prog X.w X.stack H s false cls a H' s₁) : EX X.prog X.w X.outer X.H₀ X.s₀ false cls a H' s₁ := by
  have base := I.base
  rw [hex] at base
  have gone : ∀ {b : Addr}, s.heap.get? b = none → X.s₀.heap.get? b = none := fun {b} e => by
    cases q : X.s₀.heap.get? b with
    | none => rfl
    | some o => obtain ⟨o', e2⟩ := base.there b o q (by simp); rw [e] at e2; cases e2
  have nst : ∀ {b : Addr} {o : Obj}, X.s₀.heap.get? b = some o → b ∉ X.fs → b ∉ frs X.stack := fun {b o} e n hm => by
    rcases List.mem_cons.mp (I.stkSub b hm) with z | z
    · exact absurd (Nat.lt_of_lt_of_le (Heap.lt_size e) I.ok.above) (by rw [z]; exact Nat.lt_irrefl _)
    · exact n z
  refine ⟨x.os.trans I.os, x.bare, ⟨fun b o e n hb _ => x.un.keep b o (base.keep b o e n hb (by simp)) (base.free b o e n (by simp)) (nst e hb) (by simp), fun b o e n hb _ => ?_, fun b o e n _ => ?_, fun b o e _ => ?_, fun b xs e => x.un.tups b xs (base.tups b xs e), fun b o u e => x.un.frzs b o u (base.frzs b o u e), fun b ps e => ?_⟩, x.hok, ?_⟩
  · obtain ⟨sl, e1⟩ := base.slot b o e n hb (by simp)
    obtain ⟨sl', e2⟩ := x.un.any e1 (base.free b o e n (by simp)) (by simp)
    exact ⟨sl', e2⟩
  · obtain ⟨sl, e1⟩ := base.any e n (by simp)
    exact x.un.free b _ e1 (base.free b o e n (by simp)) (by simp)
  · obtain ⟨o', e1⟩ := base.there b o e (by simp)
    exact x.un.there b o' e1 (by simp)
  · obtain ⟨m1, e1⟩ := base.tbls b ps e
    obtain ⟨m2, e2⟩ := x.un.tbls b _ e1
    exact ⟨m1 ++ m2, by rw [e2, Array.append_assoc]⟩
  · have rc := x.rc
    cases rc with
    | old oe vs he hc hd hdi hn hg T oT ts h1 ht hT hdT h3 hnT hgT => exact .old oe vs he hc hd hdi hn (gone hg) T oT ts h1 ht hT hdT h3 hnT (gone hgT)
end
/-- what a context wishes of errors -/
structure Wish (X : Cx) (E : XK) : Prop where
  go : ∀ (pins : List (Addr × Obj)) (σ : St) (H : Hp) (s : Shared) (new : Bool) (cls : Value) (a : Addr) (H' : Hp) (s₁ : Shared), Inv X pins σ H s → EX X.prog X.w X.stack H s new cls a H' s₁ → E cls none H' → X.xe (.ref a) s₁
theorem Wish.pass {X : Cx} {E : XK} (W : Wish X E) : Passes (CX1 X.prog X.w) X E := fun pins σ H s e s' I ⟨a, cls, H', e1, x, q⟩ => by
  subst e1
  exact W.go pins σ H s false cls a H' s' I x q
/-- a def's body -/
theorem wish_def {P : Program} {w : World} {K : PySem.W.Frag} {mg : Str → Option Value} {base : Heap} {N : List Str} {qual : Str} {scope : Scope} {f : Addr} {cd : Value} {A : Around} {outer : List Env} {s : Shared} {H : Hp} {E : XK} : Wish (cxOf (CX1 P w) P w K mg base N qual scope f cd A outer s H E) E where
  go := fun pins σ H1 s1 new cls a H' s₁ I x q => by
    show wpAny (model P w) (A.deeper (envOfC qual scope s.heap.objs.size f cd)) (leaving (envOfC qual scope s.heap.objs.size f cd) (.ref a)) _ _ s₁
    refine leave_ex I rfl rfl I.ok.frames x fun h₃ x' => ⟨a, cls, H', rfl, x'.out I rfl, q⟩
end L2
set_option Elab.async false
set_option linter.all false
set_option maxRecDepth 100000
namespace L2
open PySem PySem.Spec PyProof.Rows
/-- an own class of errors, as it lies -/
theorem own_at {K : PySem.W.Frag} {h : Heap} {C : Addr} {bmB : List Value} {newId : String} (X : K.In h) (q : PySem.W.excIn K C bmB newId = true) :
    ∃ bm N nm q bs hdct sn sub ab col dd k0 k1 k2 k3 k5 mN, h.get? C = some (excClassObj nm q C N bs bm hdct sn sub ab col dd k0 k1 k2 k3 k5 newId) ∧ h.Ns N mN ∧ mN "__init__" = none ∧ OwnTail h bmB bm := by
  unfold PySem.W.excIn at q
  split at q
  · rename_i dd cd sl ho
    split at q
    · rename_i C' bm k0 k1 k2 k3 n k5 hm hs
      simp only [Bool.and_eq_true, beq_iff_eq, Bool.not_eq_true'] at q
      obtain ⟨⟨⟨⟨⟨rfl, rfl⟩, hdel⟩, ht⟩, hok⟩, hni⟩ := q
      obtain ⟨nm, bs, mro, ns, qn, hd, sn, sub, ab, col, del⟩ := cd
      dsimp only at hm hdel hok hni
      subst hm hdel
      have hsl : sl = #[k0, k1, k2, k3, some (.builtin n), k5] := by obtain ⟨l⟩ := sl; simp only at hs; rw [hs]
      subst hsl
      exact ⟨bm, ns, nm, qn, bs, hd, sn, sub, ab, col, dd, k0, k1, k2, k3, k5, _, X _ _ ho, .of_isNs (PySem.W.isNs_of_in X hok), PySem.W.nsMap_none_of_in X hok hni, PySem.W.tail_of_in X ht⟩
    · cases q
  · cases q
abbrev bmV : List Value := [.type "ValueError", .type "Exception", .type "BaseException", .type "object"]
/-- an own class of errors over ValueError, by its name -/
structure XCls (K : PySem.W.Frag) (mg : Str → Option Value) (x : Str) (C : Addr) : Prop where
  m : mg x = some (.ref C)
  ok : PySem.W.excIn K C bmV "ValueError.__new__" = true
/-- raise C(..) -/
inductive tRaise (t : TA) (cls : Value) (E : XK) (D : Ends) (σ : St) (H : Hp) : Prop
  | mk (h : t σ H fun vs H1 => vs.length ≤ sizeLine ∧ E cls none H1) : tRaise t cls E D σ H
section
variable {X : Cx} {E : XK} {x : Str} {C : Addr} {e₀ : Expr} {rest : List Expr} {t : TA} {np cpos pos : Pos}
theorem ps_raise (W : Wish X E) (hc : X.calm = true) (hC : XCls X.K X.mg x C) (ha : PA X (e₀ :: rest) t) (hg : Gl X x := by rfl) (he : starEach (e₀ :: rest) X.env = (false, eval e₀ X.env) :: starEach rest X.env := by rfl)
    (hpl : (backTo cpos (starEach rest X.env)).any (·.1) = false := by rfl) (hdb : (x == ("__debug__" : Str)) = false := by decide) : PS X (.Raise (some (.Call (.Name x np) (e₀ :: rest) [] cpos)) none pos) (tRaise t (.ref C) E) := by
  refine ⟨?_⟩
  intro pins s σ H D I h
  obtain ⟨h⟩ := h
  obtain ⟨bm, N, nm, q, bs, hdct, sn, sub, ab, col, dd, k0, k1, k2, k3, k5, mN, hCo, hN, hni, T⟩ := own_at I.mod.kin hC.ok
  refine wpAny_Raise_call_subT (C := C) (nm := nm) (q := q) (N := N) (bs := bs) (bm := bm) (hdct := hdct) (sn := sn) (sub := sub) (ab := ab) (col := col) (dd := dd) (k0 := k0) (k1 := k1) (k2 := k2) (k3 := k3) (k5 := k5) PySem.F.excBase_ValueError (mN := mN)
    (T.hasType PySem.F.excBase_ValueError.hasBase) (I.ok.hd hc) (by rw [he]; show (false || (backTo cpos (starEach rest X.env)).any (·.1)) = false; rw [hpl]; rfl) hni (ld_glob I hg hC.m ⟨rfl, ?_⟩ hdb)
  have hw := ha cpos pins s σ H _ I h
  rw [he] at hw ⊢
  refine Calls.evalArgs_plain (wpAny_mono hw (fun us s₂ h₂ => ?_) fun _ _ y => y)
  obtain ⟨vs, H1, I1, r, hl, qe⟩ := h₂
  refine ⟨rfl, by rw [← r.length]; exact hl, I1.bk _ _ hCo, hN.keeps I1.bk, T.keeps I1.bk, fun h' e hm => ?_⟩
  obtain ⟨tt, he', _, _⟩ := hm.there
  exact W.go pins σ H1 s₂ true (.ref C) e H1 { s₂ with heap := h' } I1 ⟨rfl, I1.bare, Un.kept hm.keeps, I1.hok.kept hm.keeps, .new _ _ he' rfl rfl rfl (I1.hok.none hm.new) hm.new rfl⟩ qe
end
/-- a def from which errors may leave -/
def CanX (P : Program) (w : World) (K : PySem.W.Frag) (mg : Str → Option Value) (base : Heap) (k : Nat) (x : Str) (ps : List Str) (sp : Sp) : Prop :=
  ∃ f fd, FnOk P w K mg base (CX1 P w) k f fd ps sp ∧ mg x = some (.ref f) ∧ PySem.W.keepIn K (.ref f) = true ∧ Binds K fd ps []
section
variable {P : Program} {w : World} {K : PySem.W.Frag} {mg : Str → Option Value} {base : Heap}
theorem fn_canX {x : Str} {st : Stmt} {N ps : List Str} {k : Nat} {sp : Sp} (h : ∃ f fd, Fn K mg x st ps f fd) (S : FnScope N ps (defScope st)) (len : ∀ vs H Q E, sp vs H Q E → vs.length = ps.length)
    (hbody : ∀ (f : Addr) (cdv : Value) (A : Around) (outer : List Env) (s : Shared) (H : Hp) (vs : List V) (Q : VK) (E : XK), Room k (A.deeper (envOfC x (defScope st) s.heap.objs.size f cdv)) → Wish (cxOf (CX1 P w) P w K mg base N x (defScope st) f cdv A outer s H E) E → sp vs H Q E →
      ∃ t, PSs (cxOf (CX1 P w) P w K mg base N x (defScope st) f cdv A outer s H E) (defBody st) t ∧ t { nx := fun _ H' => Q .non H', rt := Q } (start N vs) H) : CanX P w K mg base (k + 1) x ps sp := by
  obtain ⟨f, fd, F⟩ := h
  obtain ⟨oc, od, kV, doc, pm, an, cdv, ct, osl, e, lk, hcd⟩ := F.fn.ex
  refine ⟨f, fd, ?_, F.m, F.fn.kp, F.b⟩
  subst e
  exact fn_of lk hcd S len fun A outer s H vs Q E hr hsp => hbody f cdv A outer s H vs Q E hr wish_def hsp
end
section
variable {X : Cx} {k k' : Nat} {x : Str} {ps : List Str} {sp : Sp} {p pos : Pos} {e : Expr} {es : List Expr} {t : TA} {E : XK}
theorem pe_canX (h : CanX X.prog X.w X.K X.mg X.base k x ps sp) (W : Wish X E) (hr : Room k' X.A) (ha : PA X (e :: es) t) (hg : Gl X x := by rfl) (hk : k ≤ k' := by decide) (hdb : (x == ("__debug__" : Str)) = false := by decide)
    (hs : starEach (e :: es) X.env = (false, eval e X.env) :: starEach es X.env := by rfl) (hpl : (backTo pos (starEach es X.env)).any (·.1) = false := by rfl) : PE X (.Call (.Name x p) (e :: es) [] pos) (tCall sp [] E t) := by
  obtain ⟨f, fd, F, hm, kp, b⟩ := h
  exact pe_call F (hr.mono hk) hg hm kp b .nil W.pass ha hdb hs hpl
end
/-! ### try -/
abbrev Cx.tryC (X : Cx) (pn : List (Addr × Obj)) (xe : Value → Shared → Prop) : Cx := { X with pn := pn, xe := xe }
abbrev Cx.mark (X : Cx) (a : Addr) : Cx := { X with A := X.A.mark (some (.ref a)), calm := false, xe := fun _ _ => False }
section
variable {X : Cx} {pins pins2 : List (Addr × Obj)} {σ : St} {H : Hp} {s : Shared} {xe : Value → Shared → Prop} {a : Addr}
theorem Cx.Ok.tryC (ok : X.Ok) (pn : List (Addr × Obj)) (xe : Value → Shared → Prop) : (X.tryC pn xe).Ok :=
  ⟨ok.mod, ok.kind, ok.glob, ok.blt, ok.above, ok.inj, ok.has, ok.cab, ok.hd, ok.frames, ok.stk, ok.exf, ok.bs, ok.bsz, ok.noex, ok.exfs, ok.funs, ok.frf⟩
theorem Cx.Ok.untry {pn : List (Addr × Obj)} (ok : (X.tryC pn xe).Ok) : X.Ok :=
  ⟨ok.mod, ok.kind, ok.glob, ok.blt, ok.above, ok.inj, ok.has, ok.cab, ok.hd, ok.frames, ok.stk, ok.exf, ok.bs, ok.bsz, ok.noex, ok.exfs, ok.funs, ok.frf⟩
theorem Inv.tryC (I : Inv X pins σ H s) (xe : Value → Shared → Prop) : Inv (X.tryC (X.pn ++ pins) xe) [] σ H s :=
  ⟨I.ok.tryC _ _, I.os, I.bare, I.base, I.loc, I.cell, I.free, I.freeC, fun p hp => I.pin p (by simpa using hp), I.hok, I.len⟩
theorem Inv.untry (I : Inv (X.tryC (X.pn ++ pins) xe) pins2 σ H s) : Inv X pins σ H s :=
  ⟨I.ok.untry, I.os, I.bare, I.base, I.loc, I.cell, I.free, I.freeC, fun p hp => I.pin p (List.mem_append_left _ hp), I.hok, I.len⟩
theorem SP.untry {D : Ends} {f : Flow} {s' : Shared} (h : SP (X.tryC (X.pn ++ pins) xe) pins2 D f s') : SP X pins D f s' := by
  cases f with
  | next => obtain ⟨σ', H', I, q⟩ := h; exact ⟨σ', H', I.untry, q⟩
  | brk => obtain ⟨σ', H', I, q⟩ := h; exact ⟨σ', H', I.untry, q⟩
  | cont => obtain ⟨σ', H', I, q⟩ := h; exact ⟨σ', H', I.untry, q⟩
  | ret u => obtain ⟨v, σ', H', I, r, q⟩ := h; exact ⟨v, σ', H', I.untry, r, q⟩
theorem Inv.mark (I : Inv X pins σ H s) (a : Addr) : Inv (X.mark a) pins σ H s :=
  ⟨⟨I.ok.mod, I.ok.kind, I.ok.glob, I.ok.blt, I.ok.above, I.ok.inj, I.ok.has, I.ok.cab, (fun z => nomatch z), I.ok.frames, I.ok.stk, I.ok.exf, I.ok.bs, I.ok.bsz, I.ok.noex, I.ok.exfs, I.ok.funs, I.ok.frf⟩, I.os, I.bare, I.base, I.loc, I.cell, I.free, I.freeC, I.pin, I.hok, I.len⟩
theorem Inv.unmark (ok : X.Ok) (I : Inv (X.mark a) pins σ H s) : Inv X pins σ H s := ⟨ok, I.os, I.bare, I.base, I.loc, I.cell, I.free, I.freeC, I.pin, I.hok, I.len⟩
end
/-- the clauses of a try, at an error of that class -/
def PHs (X : Cx) (hs : List ExceptHandler) (th : Value → TS) : Prop :=
  ∀ (pins : List (Addr × Obj)) (s : Shared) (σ : St) (H : Hp) (D : Ends) (a : Addr) (cls : Value) (g : Heap), Inv X pins σ H s → XRec g s.heap H a cls false → X.s₀.heap.get? a = none → (∀ p ∈ X.pn ++ pins, p.1 ≠ a) → th cls D σ H → wpAny (model X.prog X.w) X.A (handleBy (.ref a) X.env hs) (SP X pins D) X.xe s
def tTry (n : Nat) (t : XK → TS) (th : Value → TS) : TS := fun D σ H => t (fun cls _ H' => ∀ σ' : St, σ'.length = n → th cls D σ' H') D σ H
section
variable {X : Cx} {body : List Stmt} {h₀ : ExceptHandler} {hs : List ExceptHandler} {t : XK → TS} {th : Value → TS} {pos : Pos}
theorem ps_try {n : Nat} (hb : ∀ (pn : List (Addr × Obj)) (xe : Value → Shared → Prop) (E : XK), Wish (X.tryC pn xe) E → PSs (X.tryC pn xe) body (t E)) (hh : PHs X (h₀ :: hs) th) (hst : X.stack = X.env :: X.outer := by rfl) (hf : X.env.frame = some X.env.locals := by rfl) (hn : X.N.length = n := by rfl) (hex : X.ex = [] := by rfl) :
    PS X (.Try body (h₀ :: hs) [] [] pos) (tTry n t th) := by
  refine ⟨?_⟩
  intro pins s σ H D I h
  refine wpAny_Try_except (wpAny_mono (hb (X.pn ++ pins) (fun e s₁ => wpAny (model X.prog X.w) X.A (noteFrame e X.env) (fun _ s₂ => wpAny (model X.prog X.w) X.A (setFlight e none) (fun _ s₃ => wpAny (model X.prog X.w) X.A (handleBy e X.env (h₀ :: hs)) (SP X pins D) X.xe s₃) X.xe s₂) X.xe s₁) _ ⟨fun pins2 σ2 H2 s2 new cls a H' s₁ I2 x q => ?_⟩ [] s σ H D (I.tryC _) h) (fun f s₁ q => ?_) fun _ _ z => z)
  · have I2' : Inv X pins σ2 H2 s2 := I2.untry
    refine note_ex I2' hst hf I2'.ok.frames x fun h₃ x3 => ?_
    have I3 := x3.inv I2'
    have fr := x3.rc.base.2
    refine hh pins _ σ2 H' D a cls s2.heap I3 x3.rc ?_ (fun p hp z => ?_) (q σ2 (I3.len.trans hn))
    · cases e : X.s₀.heap.get? a with
      | none => rfl
      | some o => obtain ⟨o', e2⟩ := I2'.base.there a o e (by rw [hex]; simp); rw [fr] at e2; cases e2
    · have e := (I2'.pin p hp).1
      rw [z, fr] at e
      cases e
  · cases f with
    | next =>
      obtain ⟨σ', H', I', q'⟩ := q
      exact pss_nil pins s₁ σ' H' D I'.untry q'
    | ret v => exact q.untry
    | brk => exact q.untry
    | cont => exact q.untry
end
end L2
set_option Elab.async false
set_option linter.all false
set_option maxRecDepth 100000
/-! the clauses of a try -/
namespace L2
open PySem PySem.Spec PyProof.Rows
theorem set3 {ts : Array Value} (h : ts[3]? = some Value.none) : ts.setIfInBounds 3 Value.none = ts := by
  obtain ⟨hl, e⟩ := Array.getElem?_eq_some_iff.mp h
  refine Array.ext (by simp) fun i h1 h2 => ?_
  rw [Array.getElem_setIfInBounds h2]
  by_cases hi : 3 = i
  · subst hi; simp [e]
  · simp [hi]
theorem map3 {o : Obj} {ts : Array Value} (hd : o.data = .fields ts) (h : ts[3]? = some Value.none) : Obj.mapFields (fun z => z.setIfInBounds 3 Value.none) o = o := by
  obtain ⟨c, d, dt, sl⟩ := o
  dsimp only at hd
  subst hd
  unfold Obj.mapFields
  simp [set3 h]
theorem keep3 {h : Heap} {T : Addr} {oT : Obj} {ts : Array Value} (hT : h.get? T = some oT) (hd : oT.data = .fields ts) (h3 : ts[3]? = some Value.none) : ∀ b u, h.get? b = some u → (h.update T (Obj.mapFields fun z => z.setIfInBounds 3 Value.none)).get? b = some u := fun b u e => by
  by_cases hb : b = T
  · subst hb
    rw [hT] at e
    cases e
    rw [Heap.get?_update_self _ hT (by rw [map3 hd h3]; exact Obj.isFreed_of_fields hd), map3 hd h3]
  · rw [Heap.get?_update_other _ _ (Ne.symm hb)]; exact e
section
variable {X : Cx} {x n : Str} {C : Addr} {b₀ : Stmt} {suite : List Stmt} {rest : List ExceptHandler} {pos np : Pos} {th : Value → TS}
theorem ph_nil : PHs X [] (fun _ _ _ _ => False) := fun _ _ _ _ _ _ _ _ _ _ _ _ h => h.elim
/-- the match, and the mark set down -/
theorem h_test {pins : List (Addr × Obj)} {σ : St} {H : Hp} {s : Shared} {a : Addr} {cls : Value} {g : Heap} {b : Bool} {name : Option Str} {Q : Flow → Shared → Prop} (I : Inv X pins σ H s) (xr : XRec g s.heap H a cls false) (hC : X.mg x = some (.ref C)) (hg : Gl X x) (hb : PySem.W.exmOne X.K cls (.ref C) = some b) (hdb : (x == ("__debug__" : Str)) = false)
    (h : if b = true then codeAny (model X.prog X.w) (X.A.mark (some (.ref a))) (.handlers (.ref a) [.ExceptHandler none name (b₀ :: suite) pos] X.env) (fun r s₂ => match r with
          | .ok f => (match name with | none => Q f s₂ | some n => wpAny (model X.prog X.w) X.A (do bindName X.env n .none; unbindBehindTheSuite X.env n pos) (fun _ s₃ => Q f s₃) X.xe s₂)
          | .error e => cameBackBy (model X.prog X.w) X.A X.env X.xe e s₂) s
      else wpAny (model X.prog X.w) X.A (handleBy (.ref a) X.env rest) Q X.xe s) :
    wpAny (model X.prog X.w) X.A (handleBy (.ref a) X.env (.ExceptHandler (some (.Name x np)) name (b₀ :: suite) pos :: rest)) Q X.xe s := by
  refine wpAny_handleBy_cons (codeAny_handlers_test (ld_glob (X := X.mark a) (I.mark a) hg hC ?_ hdb)) (by intro z; cases z)
  have LT : PySem.W.Looks (model X.prog X.w) s.heap (typeOf (.ref a)) cls := by
    cases xr with
    | old oe vs he hc => rw [← hc]; exact (PySem.W.Looks.ld he).andThen .now
  refine (PySem.W.exm_one (M := model X.prog X.w) I.kIn LT hb).here ?_
  cases b with
  | true => exact h
  | false => exact h
/-- an error, as it lies -/
def XO (a : Addr) (oe : Obj) : HO := .ext fun h => h.get? a = some oe
theorem Inv.trackX {pins : List (Addr × Obj)} {σ : St} {H : Hp} {s : Shared} {a : Addr} {oe : Obj} {vs : Array Value} (I : Inv X pins σ H s) (he : s.heap.get? a = some oe) (hd : oe.data = .fields vs) (hn : H a = none) (x0 : X.s₀.heap.get? a = none) (xp : ∀ p ∈ X.pn ++ pins, p.1 ≠ a) : Inv X pins σ (upd H a (XO a oe)) s := by
  have na : ∀ {b u}, H b = some u → b ≠ a := fun {b u} e z => by rw [z, hn] at e; cases e
  have nL : X.env.locals ≠ a := fun z => by
    obtain ⟨m, ⟨o, es, ep, ho, hdd, _⟩, _⟩ := I.loc
    rw [z, he] at ho; cases ho; rw [hd] at hdd; cases hdd
  refine ⟨I.ok, I.os, I.bare, ⟨I.base.keep, I.base.slot, fun b o e n hx => ?_, I.base.there, fun b xs e => ?_, fun b o u e => ?_, fun b ps e => ?_⟩, I.loc, I.cell, ?_, fun y c e => ?_, fun p hp => ?_, fun b ob e => ?_, I.len⟩
  · rw [upd_ne (fun z => by rw [z, x0] at e; cases e)]; exact I.base.free b o e n hx
  · have e1 := I.base.tups b xs e
    rw [upd_ne (na e1)]; exact e1
  · have e1 := I.base.frzs b o u e
    rw [upd_ne (na e1)]; exact e1
  · obtain ⟨m, e1⟩ := I.base.tbls b ps e
    exact ⟨m, by rw [upd_ne (na e1)]; exact e1⟩
  · rw [upd_ne nL]; exact I.free
  · have nc : c ≠ a := fun z => by
      obtain ⟨v, o, ho, hdd⟩ := I.cell y c e
      rw [z, he] at ho; cases ho; rw [hd] at hdd; cases hdd
    rw [upd_ne nc]; exact I.freeC y c e
  · obtain ⟨e1, e2, e3⟩ := I.pin p hp
    exact ⟨e1, by rw [upd_ne (xp p hp)]; exact e2, e3⟩
  · by_cases hb : b = a
    · subst hb
      rw [upd_same] at e
      cases e
      exact ⟨he, ⟨_, he⟩, fun h1 h2 z k => k _ z⟩
    · rw [upd_ne hb] at e
      refine (I.hok b ob e).stay (fun c u _ q => q) (fun c q => ?_) fun c xs q => ?_
      · rw [upd_ne (na q)]; exact q
      · rw [upd_ne (na q)]; exact q
/-- a name of ours is forgotten -/
theorem Inv.forget {pins : List (Addr × Obj)} {σ : St} {H : Hp} {s : Shared} {i : Nat} {m : Str → Option Value} {v : Option Value} {h' : Heap} {tk : Nat} (I : Inv X pins σ H s) (hN : X.N.Nodup) (hi : X.N[i]? = some n) (hm : s.heap.Ns X.env.locals m) (hn' : h'.Ns X.env.locals (fun y => if y = n then v else m y)) (hs : Heap.SameBut X.env.locals s.heap h') :
    Inv X pins (σ.set i none) H { s with heap := h', toks := tk } := by
  obtain ⟨m0, hn, hl⟩ := id I.loc
  have em : m0 = m := by
    funext y
    obtain ⟨o, es, ep, ho, hd, hk, hf⟩ := hn
    obtain ⟨o', es', ep', ho', hd', hk', hf'⟩ := hm
    rw [ho] at ho'; cases ho'
    rw [hd] at hd'; cases hd'
    rw [← hf y, ← hf' y]
  subst em
  have low : ∀ {b : Addr} {o : Obj}, X.s₀.heap.get? b = some o → b ≠ X.env.locals := fun e => Nat.ne_of_lt (Nat.lt_of_lt_of_le (Heap.lt_size e) I.ok.above)
  refine ⟨I.ok, I.os, I.bare, ⟨fun b o e n hb hx => (hs.2 b (low e)).trans (I.base.keep b o e n hb hx), fun b o e n hb hx => ?_, I.base.free, fun b o e hx => ?_, I.base.tups, I.base.frzs, I.base.tbls⟩, ⟨_, hn', fun j y v' e1 e2 e3 => ?_⟩, fun y c e => ?_, I.free, I.freeC, fun p hp => ?_, fun b ob e => ?_, by simpa using I.len⟩
  · obtain ⟨sl, e1⟩ := I.base.slot b o e n hb hx
    exact ⟨sl, (hs.2 b (low e)).trans e1⟩
  · obtain ⟨o', e1⟩ := I.base.there b o e hx
    exact ⟨o', (hs.2 b (low e)).trans e1⟩
  · by_cases hj : j = i
    · subst hj
      have hiσ : j < σ.length := by rw [I.len]; exact (List.getElem?_eq_some_iff.mp hi).1
      rw [List.getElem?_set_self hiσ] at e2
      cases e2
    · rw [List.getElem?_set_ne (Ne.symm hj)] at e2
      obtain ⟨u', r', q⟩ := hl j y v' e1 e2 e3
      have ny : y ≠ n := fun z => hj (nodup_ix hN e1 (z ▸ hi))
      refine ⟨u', r', ?_⟩
      rcases q with ⟨k, e⟩ | ⟨k, c, e, z⟩
      · exact .inl ⟨k, by simp [ny, e]⟩
      · exact .inr ⟨k, c, e, z.sameBut hs (I.cne y c e)⟩
  · obtain ⟨w', z⟩ := I.cell y c e
    exact ⟨w', z.sameBut hs (I.cne y c e)⟩
  · obtain ⟨e, n, ne, nf, d⟩ := I.pin p hp
    exact ⟨(hs.2 _ ne).trans e, n, ne, nf, d⟩
  · refine (I.hok b ob e).stay (fun c w' hc q => (hs.2 c ?_).trans q) (fun _ q => q) fun _ _ q => q
    rintro rfl
    rcases hc with rfl | hc
    · rw [I.free] at e; cases e
    · rw [I.free] at hc; cases hc
/-- except C as n: .. -/
inductive tHN (K : PySem.W.Frag) (C : Addr) (i : Nat) (ts : TS) (th : Value → TS) (cls : Value) (D : Ends) (σ : St) (H : Hp) : Prop
  | mk (b : Bool) (e : PySem.W.exmOne K cls (.ref C) = some b)
      (q : if b = true then ∀ a oe, H a = none → oe.cls = cls → oe.dict = none → (∃ vs, oe.data = .fields vs) → ts { nx := fun σ' H' => D.nx (σ'.set i none) H', rt := D.rt, bk := fun σ' H' => D.bk (σ'.set i none) H', ct := fun σ' H' => D.ct (σ'.set i none) H' } (σ.set i (some (.ref a))) (upd H a (XO a oe)) else th cls D σ H) : tHN K C i ts th cls D σ H
theorem phN {i : Nat} {ts : TS} (hC : X.mg x = some (.ref C)) (hN : X.N.Nodup) (hi : X.N[i]? = some n) (hk : X.env.scope.names.lookup n = some .local) (hs : ∀ a : Addr, PSs (X.mark a) (b₀ :: suite) ts) (hr : PHs X rest th) (hg : Gl X x := by rfl) (hdb : (x == ("__debug__" : Str)) = false := by decide) :
    PHs X (.ExceptHandler (some (.Name x np)) (some n) (b₀ :: suite) pos :: rest) (tHN X.K C i ts th) := by
  intro pins s σ H D a cls g I xr x0 xp h
  obtain ⟨b, e, q⟩ := h
  refine h_test I xr hC hg e hdb ?_
  cases b with
  | false => exact hr pins s σ H D a cls g I xr x0 xp q
  | true =>
    refine codeAny_handlers_suite_as ?_
    cases xr with
    | old oe vs he hc hd hdi hn hgg T oT ts' h1 ht hT hdT h3 hnT hgT =>
      refine wpAny_setFlight_none he hd h1 hT hdT (Array.getElem?_eq_some_iff.mp h3).1 ?_
      have kp := keep3 hT hdT h3
      have I' : Inv X pins σ H { s with heap := s.heap.update T (Obj.mapFields fun z => z.setIfInBounds 3 Value.none) } := I.kept (t' := s.toks) kp
      have IT := (I'.trackX (kp _ _ he) hd hn x0 xp).mark a
      refine store_ok (X := X.mark a) IT hN hi (.inl hk) (v := .ref a) rfl (fun s2 I2 => ?_) (.inr hk)
      refine wpAny_mono (hs a pins s2 _ _ _ I2 (q a oe hn hc hdi ⟨vs, hd⟩)) (fun f s3 z => ?_) fun _ _ z => z.elim
      have go : ∀ {σ' H'}, Inv (X.mark a) pins σ' H' s3 → ∀ {Q : Flow → Shared → Prop}, (∀ s5, Inv X pins (σ'.set i none) H' s5 → Q f s5) → wpAny (model X.prog X.w) X.A (do bindName X.env n .none; unbindBehindTheSuite X.env n pos) (fun _ s5 => Q f s5) X.xe s3 := fun {σ' H'} J {Q} hq => by
        have J' := J.unmark I.ok
        obtain ⟨m, hm, _⟩ := id J'.loc
        refine wpAny_nameGoes_keeps hk hm (by rw [I.ok.kind]; rfl) fun h' v hn' hsb => hq _ (J'.forget hN hi hm hn' hsb)
      cases f with
      | next => obtain ⟨σ', H', J, z⟩ := z; exact go J fun s5 J5 => ⟨_, _, J5, z⟩
      | brk => obtain ⟨σ', H', J, z⟩ := z; exact go J fun s5 J5 => ⟨_, _, J5, z⟩
      | cont => obtain ⟨σ', H', J, z⟩ := z; exact go J fun s5 J5 => ⟨_, _, J5, z⟩
      | ret u => obtain ⟨v, σ', H', J, r, z⟩ := z; exact go J fun s5 J5 => ⟨v, _, _, J5, r, z⟩
end
end L2
set_option Elab.async false
set_option linter.all false
set_option maxRecDepth 100000
/-! isinstance of an error -/
namespace L2
open PySem PySem.Spec PySem.W PyProof.Rows
structure XAttr (K : Frag) (C : Addr) : Prop where
  ga : findIn K (.ref C) "__getattribute__" = some (some (.builtin "BaseException.__getattribute__"))
  gn : findIn K (.ref C) "__getattr__" = some none
  fo : findObj K C none "__class__" = some (.bind (.builtin "getset_descriptor.__get__") (.builtin "object.__class__"))
  mo : mroIn K C (.type "object") = some true
  sb : subIn K (.ref C) (.type "BaseException") = some true
section
variable {prog : Program} {w : World} {A : Around} {E : Value → Shared → Prop} {s : Shared} {K : Frag} {a C : Addr} {oe : Obj}
theorem kx_call {tk : Tok} {R : Result → Shared → Prop} (F1 : XAttr K C) (X : K.In s.heap) (I : PySem.W.InstAt s.heap a oe C none) (h : R (.ok (.ret (.ref C))) s) :
    codeAny (model prog w) A (.call (.builtin "BaseException.__getattribute__") ⟨[.ref a, .str "__class__" tk], []⟩) R s := by
  have hk : builtinKind "BaseException.__getattribute__" = some .slot := by decide +kernel
  have hsplit : splitId "BaseException.__getattribute__" = some ("BaseException", "__getattribute__") := by decide +kernel
  have ha := F.args_bexc_ga (.ref a) (.str "__class__" tk)
  have cg := fun (A : Around) (R : Result → Shared → Prop) (hR : R (.ok (.ret (.ref C))) s) => PySem.W.class_get (prog := prog) (w := w) (A := A) (R := R) (tp := .ref C) X I F1.mo hR
  obtain ⟨hh, g, d, t, os⟩ := s
  have L0 := I.type (M := model prog w)
  have L1 := looks_subIn (M := model prog w) X F1.sb
  have L2 := looks_find (M := model prog w) X I F1.fo
  refine codeAny_call_builtin F.excAttr_ValueError.ga.plain F.entry_bexc_ga ?_
  simp only [checkBuiltinCall, hk, hsplit]
  refine wpAny_bind ?_
  unfold isInstance
  repeat (any_goals (first | assumption | (with_reducible refine wpAny_bind (L0.at ?_)) | (with_reducible refine wpAny_bind (L2.at ?_)) | (with_reducible refine L1.at ?_) | wp_step))
  exact cg _ _ (wpAny_pure h)
theorem kx_class {Q : Option Value → Shared → Prop} (F1 : XAttr K C) (X : K.In s.heap) (I : PySem.W.InstAt s.heap a oe C none) (h : Q (some (.ref C)) { s with toks := s.toks + 1 }) : wpAny (model prog w) A (getAttr? (.ref a) "__class__") Q E s := by
  have kc := fun (A : Around) (tk : Tok) (t : Nat) (R : Result → Shared → Prop) (hR : R (.ok (.ret (.ref C))) { s with toks := t }) => kx_call (prog := prog) (w := w) (A := A) (s := { s with toks := t }) (tk := tk) F1 X I hR
  have f3 := F.excAttr_ValueError.ga.bind (.ref a)
  have hx2 : (Value.builtin "BaseException.__getattribute__" == Value.builtin "object.__getattribute__") = false := by decide +kernel
  have hx1 : (onTheHeap (Value.ref C) && Value.builtin "BaseException.__getattribute__" == Value.builtin "object.__getattribute__") = false := by rw [hx2]; rfl
  have hx0 : (false && onTheHeap (Value.builtin "BaseException.__getattribute__")) = false := rfl
  obtain ⟨hh, g, d, t, os⟩ := s
  have L0 := I.type (M := model prog w)
  have L1 := looks_findIn (M := model prog w) X F1.ga
  have L2 := looks_findIn (M := model prog w) X F1.gn
  unfold getAttr? getAttrBy? getAttrBy
  refine wpAny_bind (wpAny_mkText (wpAny_bind (wpAny_attempt (wpAny_holding (wpAny_bind (L0.at (wpAny_bind (L1.at ?_))))))))
  show wpAny _ _ (if (onTheHeap (Value.ref C) && Value.builtin "BaseException.__getattribute__" == Value.builtin "object.__getattribute__") = true then _ else _) _ _ _
  rw [if_neg (by rw [hx1]; simp)]
  unfold getAttrByItsOwn hookBefore
  rw [if_pos (show onTheHeap (Value.ref C) = true by rfl)]
  refine wpAny_bind (L2.at (wpAny_bind (wpAny_attempt (wpAny_holding ?_))))
  unfold callGetattribute boundAndCalled
  rw [if_neg (by simp)]
  rw [f3]
  refine wpAny_bind (wpAny_pure (wpAny_call (kc _ _ _ _ ?_)))
  exact handed_on rfl (wpAny_pure h)
theorem kitx_err (F1 : XAttr K C) (hc : oe.cls = .ref C) (hdi : oe.dict = none) (hd : ∃ vs, oe.data = .fields vs) (hcl : (clsIn K C).isSome = true) : KitX K (.ref a) (.ref C) (fun h => h.get? a = some oe) := by
  have hI : ∀ h : Heap, h.get? a = some oe → PySem.W.InstAt h a oe C none := fun h e => by
    obtain ⟨vs, hd⟩ := hd
    refine ⟨e, hc, ?_, ?_⟩
    · obtain ⟨c0, d0, dt, sl⟩ := oe
      dsimp only at hd
      subst hd
      rfl
    · rw [hdi]; trivial
  refine ⟨fun M h X e => (hI h e).type, fun M h X e => ?_, fun h tp dd its n sl X htp => ?_, fun {_ _ _ _ _ s} X e k => kx_class F1 X (hI _ e) k⟩
  · obtain ⟨cd, hcD⟩ := Option.isSome_iff_exists.mp hcl
    unfold clsIn at hcD
    split at hcD
    · rename_i c' d' cd' sl' ho
      intro A' Q' E' s' k q
      unfold isType loadHead
      exact wpAny_bind (wpAny_loadPart (k _ _ (X _ _ ho)) (wpAny_pure q))
    · cases hcD
  · obtain ⟨cd, hcD⟩ := Option.isSome_iff_exists.mp hcl
    refine Bool.eq_false_iff.mpr fun q => ?_
    have e : C = tp := Value.ref.inj (beq_iff_eq.mp q)
    subst e
    unfold clsIn at hcD
    split at hcD
    · rename_i c' d' cd' sl' ho
      have z := (X _ _ ho).symm.trans htp
      cases z
    · cases hcD
end
end L2
namespace L2
open PySem PySem.Spec PyProof.Rows
/-- an error of an own class -/
structure XErr (K : PySem.W.Frag) (oe : Obj) (C : Addr) : Prop where
  c : oe.cls = .ref C
  d : oe.dict = none
  f : ∃ vs, oe.data = .fields vs
  at_ : XAttr K C
  cl : (PySem.W.clsIn K C).isSome = true
inductive cIsE (K : PySem.W.Frag) (xs : List V) (H : Hp) (Q : VK) : Prop
  | own (a : Addr) (oe : Obj) (C C' : Addr) (b : Bool) (e : xs = [.ref a, .ref C']) (h : H a = some (XO a oe)) (x : XErr K oe C) (k : PySem.W.kitOne K (.ref C) (.ref C') = some b) (q : Q (.bl b) H) : cIsE K xs H Q
  | ty (a : Addr) (oe : Obj) (C : Addr) (T : String) (b : Bool) (e : xs = [.ref a, .ty T]) (h : H a = some (XO a oe)) (x : XErr K oe C) (k : PySem.W.kitOne K (.ref C) (.type T) = some b) (q : Q (.bl b) H) : cIsE K xs H Q
theorem call_isE {X : Cx} (K : PySem.W.Frag) (ek : X.K = K := by rfl) : CallR X (.builtin "isinstance") (cIsE K) := by
  subst ek
  intro pins s σ H xs us Q I r h
  have go : ∀ {a : Addr} {oe : Obj} {C : Addr} {c : Value} {b : Bool}, H a = some (XO a oe) → XErr X.K oe C → PySem.W.kitOne X.K (.ref C) c = some b → Q (.bl b) H → wpAny (model X.prog X.w) X.A (call (.builtin "isinstance") [.ref a, c]) (EP X pins σ Q) X.xe s := fun {a oe C c b} h x k q => by
    have p : s.heap.get? a = some oe := (I.hok a _ h).1
    exact PySem.W.kia_one (kitx_err x.at_ x.c x.d x.f x.cl) I.kIn p k (by intro z; cases z) fun tk => ⟨.bl b, H, I.tok tk, rfl, q⟩
  cases h with
  | own a oe C C' b e h x k q =>
    subst e
    obtain ⟨u, w', rfl, rx, rt⟩ := vals2 r
    cases rx
    cases rt
    exact go h x k q
  | ty a oe C T b e h x k q =>
    subst e
    obtain ⟨u, w', rfl, rx, rt⟩ := vals2 r
    cases rx
    cases rt
    exact go h x k q
end L2
set_option Elab.async false
set_option linter.all false
set_option maxRecDepth 100000
namespace L2
open PySem PySem.Spec PyProof.Rows
section
variable {X : Cx} {CX : CXT} {k : Nat} {f C : Addr} {fd : FuncData} {ps : List Str} {sp : Sp} {dvs : List V} {ds : List Value} {E : XK} {x m : Str} {p pos apos : Pos} {e o : Expr} {es : List Expr} {ta : TE} {t : TA}
end
section
variable {P : Program} {w : World} {K : PySem.W.Frag} {mg : Str → Option Value} {base : Heap}
end
section
variable {X : Cx} {k k' : Nat} {x : Str} {ps : List Str} {sp : Sp} {p pos : Pos} {e : Expr} {es : List Expr} {t : TA}
end
end L2
set_option Elab.async false
set_option linter.all false
set_option maxRecDepth 100000
/-! the own classes of errors that a text names -/
namespace L2
open PySem PySem.Spec PyProof.Rows
/-- where the class stands that a name of the module means -/
def cOf (mg : Str → Option Value) (x : Str) : Addr := match mg x with
  | some (.ref C) => C
  | _ => 0
theorem cOf_eq {mg : Str → Option Value} {x : Str} {C : Addr} (h : mg x = some (.ref C)) : cOf mg x = C := by unfold cOf; rw [h]
structure XC (K : PySem.W.Frag) (mg : Str → Option Value) (x : Str) : Prop where
  m : mg x = some (.ref (cOf mg x))
  ok : PySem.W.excIn K (cOf mg x) bmV "ValueError.__new__" = true
  at_ : XAttr K (cOf mg x)
  cl : (PySem.W.clsIn K (cOf mg x)).isSome = true
theorem XC.cls {K : PySem.W.Frag} {mg : Str → Option Value} {x : Str} (h : XC K mg x) : XCls K mg x (cOf mg x) := ⟨h.m, h.ok⟩
theorem XC.err {K : PySem.W.Frag} {mg : Str → Option Value} {x : Str} (h : XC K mg x) {oe : Obj} (c : oe.cls = .ref (cOf mg x)) (d : oe.dict = none) (f : ∃ vs, oe.data = .fields vs) : XErr K oe (cOf mg x) := ⟨c, d, f, h.at_, h.cl⟩
theorem xc_mk {K : PySem.W.Frag} {mg : Str → Option Value} {x : Str} {C : Addr} (m : mg x = some (.ref C)) (ok : PySem.W.excIn K C bmV "ValueError.__new__" = true)
    (ga : PySem.W.findIn K (.ref C) "__getattribute__" = some (some (.builtin "BaseException.__getattribute__"))) (gn : PySem.W.findIn K (.ref C) "__getattr__" = some none)
    (fo : PySem.W.findIn K (.ref C) "__class__" = some (some (.builtin "object.__class__"))) (sp : PySem.W.specialIn K (.builtin "object.__class__") "__get__" = some (some (.builtin "getset_descriptor.__get__"))) (tk : PySem.W.takesIn K (.builtin "object.__class__") = some true) (mo : PySem.W.mroIn K C (.type "object") = some true) (sb : PySem.W.subIn K (.ref C) (.type "BaseException") = some true) {cd : ClassData} (cl : PySem.W.clsIn K C = some cd) : XC K mg x := by
  refine ⟨?_, ?_, ?_, ?_⟩ <;> rw [cOf_eq m]
  · exact m
  · exact ok
  · refine ⟨ga, gn, ?_, mo, sb⟩
    unfold PySem.W.findObj
    rw [cl, Option.bind_some, fo, Option.bind_some]
    simp [sp, tk]
  · rw [cl]; rfl
end L2
set_option Elab.async false
set_option linter.all false
set_option maxRecDepth 100000
namespace Pr
open PySem L2
def top (i : Nat) : Stmt := PySem.Challenge.pw_peakroll_k65_locks_refused.main.body.getD i (.Pass ⟨0, 0, 0, 0⟩)
abbrev s_is_whole : Stmt := top 11
abbrev s_is_whole_from : Stmt := top 12
abbrev s_is_wide : Stmt := top 13
abbrev s_is_list : Stmt := top 14
abbrev s_is_list_from : Stmt := top 15
abbrev s_need_moment : Stmt := top 16
abbrev s_need_roll : Stmt := top 17
abbrev s_need_number : Stmt := top 18
abbrev s_number_of : Stmt := top 22
abbrev s_is_part : Stmt := top 29
abbrev s_are_parts : Stmt := top 30
abbrev s_are_sizes : Stmt := top 31
abbrev s_is_row : Stmt := top 32
abbrev s_are_rows : Stmt := top 33
abbrev s_bar_lengths : Stmt := top 34
abbrev s_law_pot : Stmt := top 37
abbrev s_law_digit : Stmt := top 38
abbrev s_law_parts : Stmt := top 39
abbrev s_law_rows : Stmt := top 40
abbrev s_law_begin : Stmt := top 41
abbrev s_law_near : Stmt := top 42
abbrev s_law_bar : Stmt := top 43
abbrev s_law_no_roll : Stmt := top 44
abbrev s_law_no_number : Stmt := top 45
abbrev s_law_no_moment : Stmt := top 46
abbrev s_law_why : Stmt := top 47
abbrev s_law_three : Stmt := top 48
abbrev s_law : Stmt := top 49
abbrev sm_init : Stmt := inClass (top 35) 0
abbrev sm_begin : Stmt := inClass (top 35) 1
abbrev sm_parts : Stmt := inClass (top 35) 2
abbrev sm_rows : Stmt := inClass (top 35) 3
abbrev sm_rolls : Stmt := inClass (top 35) 4
abbrev sm_bar_at : Stmt := inClass (top 35) 5
abbrev sm_Locks_init : Stmt := inClass (top 20) 0
abbrev sm_Locks_shut : Stmt := inClass (top 20) 1
abbrev sm_Locks_open_bar : Stmt := inClass (top 20) 2
abbrev sm_Locks_is_shut : Stmt := inClass (top 20) 3
abbrev sm_Locks_held_by : Stmt := inClass (top 20) 4
abbrev sm_Locks_written : Stmt := inClass (top 20) 6
structure Txt (K : PySem.W.Frag) (mg : Str → Option Value) (C : Addr) : Prop where
  f_is_whole : ∃ f fd, Fn K mg "is_whole" s_is_whole ["value"] f fd
  f_is_whole_from : ∃ f fd, Fn K mg "is_whole_from" s_is_whole_from ["value", "least", "greatest"] f fd
  f_is_wide : ∃ f fd, Fn K mg "is_wide" s_is_wide ["value"] f fd
  f_is_list : ∃ f fd, Fn K mg "is_list" s_is_list ["value"] f fd
  f_is_list_from : ∃ f fd, Fn K mg "is_list_from" s_is_list_from ["value", "fewest", "most"] f fd
  f_need_moment : ∃ f fd, Fn K mg "need_moment" s_need_moment ["value"] f fd
  f_need_roll : ∃ f fd, Fn K mg "need_roll" s_need_roll ["value", "least", "greatest"] f fd
  f_need_number : ∃ f fd, Fn K mg "need_number" s_need_number ["value"] f fd
  f_number_of : ∃ f fd, Fn K mg "number_of" s_number_of ["begin", "sizes", "place"] f fd
  f_is_part : ∃ f fd, Fn K mg "is_part" s_is_part ["value"] f fd
  f_are_parts : ∃ f fd, Fn K mg "are_parts" s_are_parts ["value"] f fd
  f_are_sizes : ∃ f fd, Fn K mg "are_sizes" s_are_sizes ["value"] f fd
  f_is_row : ∃ f fd, Fn K mg "is_row" s_is_row ["value"] f fd
  f_are_rows : ∃ f fd, Fn K mg "are_rows" s_are_rows ["value"] f fd
  f_bar_lengths : ∃ f fd, Fn K mg "bar_lengths" s_bar_lengths ["parts"] f fd
  f_law_pot : ∃ f fd, Fn K mg "_law_pot" s_law_pot ["_law_script", "_law_k"] f fd
  f_law_digit : ∃ f fd, Fn K mg "_law_digit" s_law_digit ["_law_pot_here", "_law_many"] f fd
  f_law_parts : ∃ f fd, Fn K mg "_law_parts" s_law_parts ["_law_pot_here"] f fd
  f_law_rows : ∃ f fd, Fn K mg "_law_rows" s_law_rows ["_law_pot_here"] f fd
  f_law_begin : ∃ f fd, Fn K mg "_law_begin" s_law_begin ["_law_pot_here"] f fd
  f_law_near : ∃ f fd, Fn K mg "_law_near" s_law_near ["_law_pot_here", "_law_begin_here"] f fd
  f_law_bar : ∃ f fd, Fn K mg "_law_bar" s_law_bar ["_law_pot_here", "_law_ladder", "_law_begin_here"] f fd
  f_law_no_roll : ∃ f fd, Fn K mg "_law_no_roll" s_law_no_roll ["_law_pot_here", "_law_ladder"] f fd
  f_law_no_number : ∃ f fd, Fn K mg "_law_no_number" s_law_no_number ["_law_pot_here"] f fd
  f_law_no_moment : ∃ f fd, Fn K mg "_law_no_moment" s_law_no_moment ["_law_pot_here"] f fd
  f_law_why : ∃ f fd, Fn K mg "_law_why" s_law_why ["_law_deed"] f fd
  f_law_three : ∃ f fd, Fn K mg "_law_three" s_law_three ["_law_locks", "_law_roll", "_law_number", "_law_due"] f fd
  f_law : ∃ f fd, Fn K mg "law" s_law ["_law_script"] f fd
  c_WIDE_END : ∃ t, mg "WIDE_END" = some (.int 1000000000000000000000000000000 t)
  c_NUMBER_END : ∃ t, mg "NUMBER_END" = some (.int 10000000000000000000000000000000000000000 t)
  c_MOST_PARTS : ∃ t, mg "MOST_PARTS" = some (.int 12 t)
  c_MOST_LENGTH : ∃ t, mg "MOST_LENGTH" = some (.int 1000000000 t)
  c_MOST_ROWS : ∃ t, mg "MOST_ROWS" = some (.int 4 t)
  c_MOST_SIZES : ∃ t, mg "MOST_SIZES" = some (.int 12 t)
  c_MOST_SIZE : ∃ t, mg "MOST_SIZE" = some (.int 1000 t)
  b_ValueError : mg "ValueError" = none
  b_all : mg "all" = none
  b_bool : mg "bool" = none
  b_divmod : mg "divmod" = none
  b_int : mg "int" = none
  b_isinstance : mg "isinstance" = none
  b_len : mg "len" = none
  b_list : mg "list" = none
  b_max : mg "max" = none
  b_min : mg "min" = none
  b_range : mg "range" = none
  b_sorted : mg "sorted" = none
  b_sum : mg "sum" = none
  b_tuple : mg "tuple" = none
  cl : Cls K C
  mgC : mg "Ladder" = some (.ref C)
  n_open_lengths : NoAttr K C "open_lengths"
  n_part_lengths : NoAttr K C "part_lengths"
  n_steps : NoAttr K C "steps"
  m_init : ∃ f fd, Fun K "__init__" "Ladder.__init__" sm_init f fd ∧ Mk K C f ∧ Binds K fd ["self", "begin", "parts", "rows"] []
  m_begin : ∃ f fd, Fm K C "begin" "Ladder.begin" sm_begin ["self"] f fd
  m_parts : ∃ f fd, Fm K C "parts" "Ladder.parts" sm_parts ["self"] f fd
  m_rows : ∃ f fd, Fm K C "rows" "Ladder.rows" sm_rows ["self"] f fd
  m_rolls : ∃ f fd, Fm K C "rolls" "Ladder.rolls" sm_rolls ["self"] f fd
  m_bar_at : ∃ f fd, Fm K C "bar_at" "Ladder.bar_at" sm_bar_at ["self", "roll", "moment"] f fd
  cl_Locks : Cls K (cOf mg "Locks")
  mg_Locks : mg "Locks" = some (.ref (cOf mg "Locks"))
  n_Locks_ladder : NoAttr K (cOf mg "Locks") "ladder"
  n_Locks_shut_pairs : NoAttr K (cOf mg "Locks") "shut_pairs"
  m_Locks_init : ∃ f fd, Fun K "__init__" "Locks.__init__" sm_Locks_init f fd ∧ Mk K (cOf mg "Locks") f ∧ Binds K fd ["self", "ladder"] []
  m_Locks_shut : ∃ f fd, Fm K (cOf mg "Locks") "shut" "Locks.shut" sm_Locks_shut ["self", "roll", "number"] f fd
  m_Locks_open_bar : ∃ f fd, Fm K (cOf mg "Locks") "open_bar" "Locks.open_bar" sm_Locks_open_bar ["self", "roll", "number"] f fd
  m_Locks_is_shut : ∃ f fd, Fm K (cOf mg "Locks") "is_shut" "Locks.is_shut" sm_Locks_is_shut ["self", "roll", "number"] f fd
  m_Locks_held_by : ∃ f fd, Fm K (cOf mg "Locks") "held_by" "Locks.held_by" sm_Locks_held_by ["self", "moment"] f fd
  m_Locks_written : ∃ f fd, Fm K (cOf mg "Locks") "written" "Locks.written" sm_Locks_written ["self"] f fd
  x_PeakError : XC K mg "PeakError"
  x_NoMoment : XC K mg "NoMoment"
  x_NoRoll : XC K mg "NoRoll"
  x_NoNumber : XC K mg "NoNumber"
  e_NoMoment_PeakError : PySem.W.exmOne K (.ref (cOf mg "NoMoment")) (.ref (cOf mg "PeakError")) = some true
  k_NoMoment_NoMoment : PySem.W.kitOne K (.ref (cOf mg "NoMoment")) (.ref (cOf mg "NoMoment")) = some true
  k_NoMoment_NoRoll : PySem.W.kitOne K (.ref (cOf mg "NoMoment")) (.ref (cOf mg "NoRoll")) = some false
  k_NoMoment_NoNumber : PySem.W.kitOne K (.ref (cOf mg "NoMoment")) (.ref (cOf mg "NoNumber")) = some false
  e_NoNumber_PeakError : PySem.W.exmOne K (.ref (cOf mg "NoNumber")) (.ref (cOf mg "PeakError")) = some true
  k_NoNumber_NoMoment : PySem.W.kitOne K (.ref (cOf mg "NoNumber")) (.ref (cOf mg "NoMoment")) = some false
  k_NoNumber_NoRoll : PySem.W.kitOne K (.ref (cOf mg "NoNumber")) (.ref (cOf mg "NoRoll")) = some false
  k_NoNumber_NoNumber : PySem.W.kitOne K (.ref (cOf mg "NoNumber")) (.ref (cOf mg "NoNumber")) = some true
  e_NoRoll_PeakError : PySem.W.exmOne K (.ref (cOf mg "NoRoll")) (.ref (cOf mg "PeakError")) = some true
  k_NoRoll_NoMoment : PySem.W.kitOne K (.ref (cOf mg "NoRoll")) (.ref (cOf mg "NoMoment")) = some false
  k_NoRoll_NoRoll : PySem.W.kitOne K (.ref (cOf mg "NoRoll")) (.ref (cOf mg "NoRoll")) = some true
  k_NoRoll_NoNumber : PySem.W.kitOne K (.ref (cOf mg "NoRoll")) (.ref (cOf mg "NoNumber")) = some false
end Pr
set_option linter.all false
/-! The mathematics of ladders, over plain lists. -/
namespace Lad

/-! ### sizes one behind another -/
def Good (S : List Int) : Prop := S ≠ [] ∧ ∀ v ∈ S, 1 ≤ v
def fst (b : Int) (S : List Int) (k : Int) : Int := b + k / (S.length : Int) * S.sum + (S.take (k % (S.length : Int)).toNat).sum
def sz (S : List Int) (k : Int) : Int := S.getD (k % (S.length : Int)).toNat 0
def walk : List Int → Int → Nat
  | [], _ => 0
  | v :: r, x => if x < v then 0 else walk r (x - v) + 1
def num (b : Int) (S : List Int) (p : Int) : Int := (p - b) / S.sum * (S.length : Int) + (walk S ((p - b) % S.sum) : Int)

theorem len_le_sum : ∀ (S : List Int), (∀ v ∈ S, 1 ≤ v) → (S.length : Int) ≤ S.sum
  | [], _ => by simp
  | v :: r, h => by
    have h1 := len_le_sum r fun x hx => h x (List.mem_cons_of_mem _ hx)
    have h2 := h v List.mem_cons_self
    rw [List.length_cons, List.sum_cons]
    omega
theorem Good.len {S : List Int} (g : Good S) : 1 ≤ S.length := by
  cases S with
  | nil => exact absurd rfl g.1
  | cons v r => rw [List.length_cons]; omega
theorem Good.sum {S : List Int} (g : Good S) : 1 ≤ S.sum := by
  have := len_le_sum S g.2
  have := g.len
  omega
theorem take_succ_sum (S : List Int) (i : Nat) : (S.take (i + 1)).sum = (S.take i).sum + S.getD i 0 := by
  rw [List.take_add_one, List.sum_append_int]
  cases e : S[i]? with
  | none => simp [List.getD_eq_getElem?_getD, e]
  | some v => simp [List.getD_eq_getElem?_getD, e]
theorem getD_pos {S : List Int} (h : ∀ v ∈ S, 1 ≤ v) {i : Nat} (hi : i < S.length) : 1 ≤ S.getD i 0 := by
  rw [List.getD_eq_getElem?_getD, List.getElem?_eq_getElem hi]
  exact h _ (List.getElem_mem hi)
theorem walk_spec : ∀ (S : List Int) (x : Int), 0 ≤ x → x < S.sum → walk S x < S.length ∧ (S.take (walk S x)).sum ≤ x ∧ x < (S.take (walk S x + 1)).sum
  | [], x, h0, h1 => by simp at h1; omega
  | v :: r, x, h0, h1 => by
    rw [List.sum_cons] at h1
    unfold walk
    by_cases h : x < v
    · rw [if_pos h]
      refine ⟨by rw [List.length_cons]; omega, by simpa using h0, ?_⟩
      rw [List.take_succ_cons, List.sum_cons, List.take_zero, List.sum_nil]
      omega
    · rw [if_neg h]
      obtain ⟨a, b, c⟩ := walk_spec r (x - v) (by omega) (by omega)
      refine ⟨by rw [List.length_cons]; omega, ?_, ?_⟩
      · rw [List.take_succ_cons, List.sum_cons]; omega
      · rw [List.take_succ_cons, List.sum_cons]; omega
theorem fst_zero (b : Int) (S : List Int) : fst b S 0 = b := by unfold fst; simp
theorem fst_at {b : Int} {S : List Int} {q r : Int} (h0 : 0 ≤ r) (h1 : r < (S.length : Int)) : fst b S (q * (S.length : Int) + r) = b + q * S.sum + (S.take r.toNat).sum := by
  unfold fst
  have e1 : (q * (S.length : Int) + r) / (S.length : Int) = q := by
    rw [Int.add_comm, Int.add_mul_ediv_right _ _ (by omega), Int.ediv_eq_zero_of_lt h0 h1]
    omega
  have e2 : (q * (S.length : Int) + r) % (S.length : Int) = r := by
    rw [Int.add_comm, Int.add_mul_emod_self_right, Int.emod_eq_of_lt h0 h1]
  rw [e1, e2]
theorem fst_succ {S : List Int} (g : Good S) (b k : Int) : fst b S (k + 1) = fst b S k + sz S k := by
  have hn := g.len
  have hr0 : 0 ≤ k % (S.length : Int) := Int.emod_nonneg _ (by omega)
  have hr1 : k % (S.length : Int) < (S.length : Int) := Int.emod_lt_of_pos _ (by omega)
  have hk : k = k / (S.length : Int) * (S.length : Int) + k % (S.length : Int) := by
    have := Int.mul_ediv_add_emod k (S.length : Int)
    rw [Int.mul_comm] at this
    omega
  have e0 : fst b S k = b + k / (S.length : Int) * S.sum + (S.take (k % (S.length : Int)).toNat).sum := rfl
  rw [e0]
  unfold sz
  generalize k / (S.length : Int) = q at *
  generalize k % (S.length : Int) = r at *
  by_cases h : r + 1 < (S.length : Int)
  · have e : k + 1 = q * (S.length : Int) + (r + 1) := by omega
    rw [e, fst_at (by omega) h]
    have e2 : (r + 1).toNat = r.toNat + 1 := by omega
    rw [e2, take_succ_sum]
    omega
  · have e : k + 1 = (q + 1) * (S.length : Int) + 0 := by rw [Int.add_mul]; omega
    rw [e, fst_at (by omega) (by omega)]
    have e2 : S.sum = (S.take r.toNat).sum + S.getD r.toNat 0 := by
      rw [← take_succ_sum, show r.toNat + 1 = S.length by omega, List.take_length]
    rw [show ((0 : Int).toNat) = 0 from rfl, List.take_zero, List.sum_nil, Int.add_mul, Int.one_mul]
    omega
theorem sz_pos {S : List Int} (g : Good S) (k : Int) : 1 ≤ sz S k := by
  have hn := g.len
  have hr0 : 0 ≤ k % (S.length : Int) := Int.emod_nonneg _ (by omega)
  have hr1 : k % (S.length : Int) < (S.length : Int) := Int.emod_lt_of_pos _ (by omega)
  exact getD_pos g.2 (by omega)
theorem fst_add {S : List Int} (g : Good S) (b k : Int) : ∀ n : Nat, fst b S k + n ≤ fst b S (k + n) := by
  intro n
  induction n with
  | zero => simp
  | succ n ih =>
    have e : k + ((n + 1 : Nat) : Int) = (k + n) + 1 := by omega
    rw [e, fst_succ g]
    have := sz_pos g (k + n)
    omega
theorem fst_mono {S : List Int} (g : Good S) (b : Int) {j k : Int} (h : j ≤ k) : fst b S j + (k - j) ≤ fst b S k := by
  have := fst_add g b j (k - j).toNat
  have e : j + ((k - j).toNat : Int) = k := by omega
  rw [e] at this
  omega
theorem num_form {S : List Int} (g : Good S) (b p : Int) : 0 ≤ (walk S ((p - b) % S.sum) : Int) ∧ (walk S ((p - b) % S.sum) : Int) < (S.length : Int) ∧ fst b S (num b S p) ≤ p ∧ p < fst b S (num b S p + 1) := by
  have hs := g.sum
  have h0 : 0 ≤ (p - b) % S.sum := Int.emod_nonneg _ (by omega)
  have h1 : (p - b) % S.sum < S.sum := Int.emod_lt_of_pos _ (by omega)
  have hp : p - b = (p - b) / S.sum * S.sum + (p - b) % S.sum := by
    have := Int.mul_ediv_add_emod (p - b) S.sum
    rw [Int.mul_comm] at this
    omega
  obtain ⟨a, c, d⟩ := walk_spec S _ h0 h1
  have a' : (walk S ((p - b) % S.sum) : Int) < (S.length : Int) := by omega
  refine ⟨by omega, a', ?_, ?_⟩
  · unfold num
    rw [fst_at (by omega) a', Int.toNat_natCast]
    omega
  · rw [fst_succ g]
    have hz : sz S (num b S p) = S.getD (walk S ((p - b) % S.sum)) 0 := by
      unfold sz num
      rw [Int.add_comm, Int.add_mul_emod_self_right, Int.emod_eq_of_lt (by omega) a', Int.toNat_natCast]
    rw [hz]
    unfold num
    rw [fst_at (by omega) a', Int.toNat_natCast]
    rw [take_succ_sum] at d
    omega
theorem num_spec {S : List Int} (g : Good S) (b p : Int) : fst b S (num b S p) ≤ p ∧ p < fst b S (num b S p + 1) := (num_form g b p).2.2
theorem num_bound {S : List Int} (g : Good S) (b p : Int) : (0 ≤ num b S p ∧ num b S p ≤ p - b) ∨ (num b S p < 0 ∧ p - b ≤ num b S p) := by
  obtain ⟨a, c⟩ := num_spec g b p
  by_cases h : 0 ≤ num b S p
  · have := fst_mono g b h
    rw [fst_zero] at this
    exact .inl ⟨h, by omega⟩
  · have := fst_mono g b (show num b S p + 1 ≤ 0 by omega)
    rw [fst_zero] at this
    exact .inr ⟨by omega, by omega⟩

/-! ### steps, one above another -/
abbrev Step := Int × List Int
def up (st : List Step) (m : Int) : Int := st.foldl (fun n s => num s.1 s.2 n) m
def Goods (st : List Step) : Prop := ∀ s ∈ st, Good s.2
/-- how far a number may be -/
theorem up_bound {B : Int} (hB : 0 ≤ B) : ∀ (st : List Step), Goods st → (∀ s ∈ st, -B ≤ s.1 ∧ s.1 ≤ B) → ∀ m : Int, -(B * (st.length : Int)) - (if m < 0 then -m else m) ≤ up st m ∧ up st m ≤ B * (st.length : Int) + (if m < 0 then -m else m)
  | [], _, _, m => by
    show -(B * ((0 : Nat) : Int)) - (if m < 0 then -m else m) ≤ m ∧ m ≤ B * ((0 : Nat) : Int) + (if m < 0 then -m else m)
    split <;> omega
  | s :: r, g, h, m => by
    have ih := up_bound hB r (fun x hx => g x (List.mem_cons_of_mem _ hx)) (fun x hx => h x (List.mem_cons_of_mem _ hx)) (num s.1 s.2 m)
    have hb := num_bound (g s List.mem_cons_self) s.1 m
    have hs := h s List.mem_cons_self
    have e : B * (((s :: r).length : Nat) : Int) = B * (r.length : Int) + B := by rw [List.length_cons, Int.natCast_add, Int.mul_add]; simp
    show -(B * (((s :: r).length : Nat) : Int)) - _ ≤ up r (num s.1 s.2 m) ∧ up r (num s.1 s.2 m) ≤ B * (((s :: r).length : Nat) : Int) + _
    rw [e]
    generalize num s.1 s.2 m = n at *
    generalize up r n = u at *
    generalize B * (r.length : Int) = c at *
    split at ih <;> split <;> omega

/-! ### parts -/
def PartsOk (ps : List Int) : Prop := (∀ p ∈ ps, p ≠ 0) ∧ ∃ p r, ps = p :: r ∧ 0 < p
def barsFrom (cur : Int) : List Int → List Int
  | [] => [cur]
  | p :: r => if 0 < p then cur :: barsFrom p r else barsFrom (cur - p) r
def bars : List Int → List Int
  | [] => []
  | p :: r => barsFrom p r
def opens (ps : List Int) : List Int := ps.filter fun p => decide (0 < p)
def absI (p : Int) : Int := if p < 0 then -p else p
def total (ps : List Int) : Int := (ps.map absI).sum
/-- bar_lengths' turn -/
def addPart (acc : List Int) (p : Int) : List Int := if 0 < p then acc ++ [p] else acc.dropLast ++ [acc.getLastD 0 - p]

theorem addPart_from : ∀ (r : List Int) (acc : List Int) (cur : Int), r.foldl addPart (acc ++ [cur]) = acc ++ barsFrom cur r
  | [], acc, cur => rfl
  | p :: r, acc, cur => by
    rw [List.foldl_cons]
    unfold addPart barsFrom
    by_cases h : 0 < p
    · rw [if_pos h, if_pos h]
      have := addPart_from r (acc ++ [cur]) p
      unfold addPart at this
      rw [this, List.append_assoc]
      rfl
    · rw [if_neg h, if_neg h]
      have e : (acc ++ [cur]).dropLast ++ [(acc ++ [cur]).getLastD 0 - p] = acc ++ [cur - p] := by simp
      rw [e]
      have := addPart_from r acc (cur - p)
      unfold addPart at this
      exact this
theorem foldl_bars {ps : List Int} (h : PartsOk ps) : ps.foldl addPart [] = bars ps := by
  obtain ⟨_, p, r, rfl, hp⟩ := h
  rw [List.foldl_cons]
  have e : addPart [] p = [] ++ [p] := by unfold addPart; rw [if_pos hp]
  rw [e, addPart_from]
  rfl
theorem from_good : ∀ (r : List Int) (cur : Int), (∀ p ∈ r, p ≠ 0) → 1 ≤ cur → (∀ v ∈ barsFrom cur r, 1 ≤ v) ∧ barsFrom cur r ≠ []
  | [], cur, _, h => ⟨fun v hv => by
      have e : v = cur := by simpa [barsFrom] using hv
      omega, by simp [barsFrom]⟩
  | p :: r, cur, hr, h => by
    have hp := hr p List.mem_cons_self
    unfold barsFrom
    by_cases h1 : 0 < p
    · rw [if_pos h1]
      obtain ⟨a, b⟩ := from_good r p (fun x hx => hr x (List.mem_cons_of_mem _ hx)) h1
      refine ⟨fun v hv => ?_, by simp⟩
      rcases List.mem_cons.mp hv with e | hv
      · omega
      · exact a v hv
    · rw [if_neg h1]
      exact from_good r (cur - p) (fun x hx => hr x (List.mem_cons_of_mem _ hx)) (by omega)
theorem bars_good {ps : List Int} (h : PartsOk ps) : Good (bars ps) := by
  obtain ⟨h0, p, r, rfl, hp⟩ := h
  obtain ⟨a, b⟩ := from_good r p (fun x hx => h0 x (List.mem_cons_of_mem _ hx)) hp
  exact ⟨b, a⟩
theorem from_sum : ∀ (r : List Int) (cur : Int), (barsFrom cur r).sum = cur + total r
  | [], cur => by simp [barsFrom, total]
  | p :: r, cur => by
    unfold barsFrom total
    rw [List.map_cons, List.sum_cons]
    by_cases h1 : 0 < p
    · rw [if_pos h1, List.sum_cons, from_sum r p]
      unfold total absI
      rw [if_neg (show ¬ p < 0 by omega)]
    · rw [if_neg h1, from_sum r (cur - p)]
      unfold total absI
      by_cases h2 : p < 0
      · rw [if_pos h2]; omega
      · rw [if_neg h2]; omega
theorem bars_sum {ps : List Int} (h : PartsOk ps) : (bars ps).sum = total ps := by
  obtain ⟨h0, p, r, rfl, hp⟩ := h
  show (barsFrom p r).sum = _
  rw [from_sum]
  unfold total absI
  rw [List.map_cons, List.sum_cons, if_neg (show ¬ p < 0 by omega)]
theorem from_len : ∀ (r : List Int) (cur : Int), (barsFrom cur r).length = 1 + (opens r).length
  | [], cur => rfl
  | p :: r, cur => by
    unfold barsFrom opens
    by_cases h1 : 0 < p
    · rw [if_pos h1, List.length_cons, from_len r p, List.filter_cons_of_pos (by simpa using h1), List.length_cons]
      show 1 + (opens r).length + 1 = 1 + ((opens r).length + 1)
      omega
    · rw [if_neg h1, from_len r (cur - p), List.filter_cons_of_neg (by simpa using h1)]
      rfl
theorem bars_len {ps : List Int} (h : PartsOk ps) : (bars ps).length = (opens ps).length := by
  obtain ⟨h0, p, r, rfl, hp⟩ := h
  show (barsFrom p r).length = _
  rw [from_len]
  unfold opens
  rw [List.filter_cons_of_pos (by simpa using hp), List.length_cons]
  omega
end Lad
set_option Elab.async false
set_option linter.all false
namespace Lad
end Lad
set_option Elab.async false
set_option linter.all false
set_option maxRecDepth 100000
namespace L2
open PySem PySem.Spec PyProof.Rows
section
variable {X : Cx} {st : Stmt} {rest : List Stmt} {t u : TS} {e : Expr} {te : TE}
def tCut (t u : TS) : TS := fun D σ H => ∃ M : St → Hp → Prop, t { D with nx := M } σ H ∧ ∀ σ' H', M σ' H' → u D σ' H'
theorem pss_cut (h1 : PS X st t) (h2 : PSs X rest u) : PSs X (st :: rest) (tCut t u) := by
  refine ⟨?_⟩
  intro pins s σ H D I h
  obtain ⟨M, a, b⟩ := h
  refine wpAny_execs_cons (thn (h1 pins s σ H { D with nx := M } I a) fun f s1 q => ?_)
  cases f with
  | next =>
    obtain ⟨σ', H', I', q⟩ := q
    exact h2 pins s1 σ' H' D I' (b _ _ q)
  | ret v => exact q
  | brk => exact q
  | cont => exact q
end
end L2
set_option Elab.async false
set_option linter.all false
set_option maxRecDepth 100000
namespace L2
open PySem PySem.Spec PyProof.Rows
/-! ### the forms of a comprehension that one uses -/
/-- an element has come: y goes onto the list at D -/
def LcNx (n i : Nat) (D : Addr) (ys : List V) (Pv : Nat → List V → Hp → Prop) (y : V) (H3 : Hp) : Prop :=
  H3 D = some (.lst ys) ∧ ys.length < sizeLine ∧ ∃ m', m' < n - i ∧ (m' = n - (i + 1) ∧ i + 1 ≤ n ∧ Pv (i + 1) (ys ++ [y]) (upd H3 D (.lst (ys ++ [y]))))
/-- none has come -/
def LcNo (n i : Nat) (ys : List V) (Pv : Nat → List V → Hp → Prop) (H3 : Hp) : Prop := ∃ m', m' < n - i ∧ (m' = n - (i + 1) ∧ i + 1 ≤ n ∧ Pv (i + 1) ys H3)
theorem LcNx.mk {n i : Nat} {D : Addr} {ys : List V} {Pv : Nat → List V → Hp → Prop} {y : V} {H3 : Hp} (hi : i < n) (hn : n ≤ 1000) (hl : ys.length ≤ i) (h : H3 D = some (.lst ys)) (p : Pv (i + 1) (ys ++ [y]) (upd H3 D (.lst (ys ++ [y])))) : LcNx n i D ys Pv y H3 :=
  ⟨h, small1000 (by omega), n - (i + 1), by omega, rfl, hi, p⟩
theorem LcNo.mk {n i : Nat} {ys : List V} {Pv : Nat → List V → Hp → Prop} {H3 : Hp} (hi : i < n) (p : Pv (i + 1) ys H3) : LcNo n i ys Pv H3 := ⟨n - (i + 1), by omega, rfl, hi, p⟩
theorem lc_go {tc : TT} {te : TE} {σ : St} {J : It} {D : Addr} {Fin : Hp → Prop} {H : Hp} {n : Nat} (Pv : Nat → List V → Hp → Prop) (h0 : Pv 0 [] (upd H D (.lst [])))
    (hD : ∀ i ys H, Pv i ys H → H D = some (.lst ys)) (hend : ∀ ys H, Pv n ys H → J.stop n H ∧ Fin H)
    (hgo : ∀ i ys H, i < n → Pv i ys H → J.go i H ∧ ∀ x H', J.yld i H x H' → tc (some x :: σ) H' fun b H2 => if b = true then te (some x :: σ) H2 (LcNx n i D ys Pv) else LcNo n i ys Pv H2) : lcGo tc te σ J D Fin H := by
  refine ⟨fun i m ys H => m = n - i ∧ i ≤ n ∧ Pv i ys H, ⟨n, rfl, Nat.zero_le _, h0⟩, ?_⟩
  rintro i m ys H ⟨rfl, hi, p⟩
  refine ⟨hD i ys H p, ?_⟩
  by_cases hlt : i < n
  · exact .inr (hgo i ys H hlt p)
  · have e : i = n := by omega
    subst e
    exact .inl (hend ys H p)
/-! within a comprehension's block the readings must not name the block's context -/
section
variable {X : Cx}
theorem ix_tupK (K : PySem.W.Frag) (e : X.K = K := by rfl) : IxR X (rIxT K) := by rw [← e]; exact ix_tup
theorem ix_listK (K : PySem.W.Frag) (e : X.K = K := by rfl) : IxR X (rIxL K) := by rw [← e]; exact ix_list
end
theorem yesI {σ : St} {H : Hp} {A B : Hp → Prop} (h : A H) : tYes σ H (fun b H2 => if b = true then A H2 else B H2) := by
  show if true = true then A H else B H
  rw [if_pos rfl]
  exact h
theorem lcS {X : Cx} {x : Str} {sc scp : Scope} {N ps : List Str} (S : FnScope N ps scp) (hN : X.N = N := by rfl) (hs : X.env.scope = scp := by rfl) (h1 : sc.kind = .function := by rfl) (h2 : ∀ p ∈ sc.names, p.2 ≠ .cell := by decide +kernel) (h3 : sc.names.lookup x = some .local := by rfl)
    (h4 : ∀ p ∈ sc.names, p.2 = .local → sc.names.lookup p.1 = some .local := by decide +kernel) (h5 : ∀ y ∈ N, sc.names.lookup y ≠ some .local := by decide +kernel)
    (h7 : ∀ p ∈ sc.names, p.2 = .free → scp.names.lookup p.1 = some .cell ∨ scp.names.lookup p.1 = some .free := by decide +kernel) : LcScope X x sc :=
  ⟨h1, h2, h3, h4, by rw [hN]; exact h5, by rw [hN]; exact S.nd, fun p hp e => by
    show X.env.scope.names.lookup p.1 = _ ∨ X.env.scope.names.lookup p.1 = _
    rw [hs]
    exact h7 p hp e⟩
theorem Paired.get {α β : Type} {F : α → β → Prop} : ∀ {xs : List α} {ys : List β} {i : Nat} {x : α}, Paired F xs ys → xs[i]? = some x → ∃ y, ys[i]? = some y ∧ F x y
  | _, _, _, _, .nil, e => by simp at e
  | _, _, 0, _, .cons r _, e => by simp at e; subst e; exact ⟨_, rfl, r⟩
  | _, _, i + 1, x, .cons _ t, e => by
    obtain ⟨u, h1, h2⟩ := Paired.get (i := i) (x := x) t (by simpa using e)
    exact ⟨u, by simpa using h1, h2⟩
theorem Paired.take {α β : Type} {F : α → β → Prop} : ∀ {xs : List α} {ys : List β} (n : Nat), Paired F xs ys → Paired F (xs.take n) (ys.take n)
  | _, _, 0, _ => .nil
  | _, _, _ + 1, .nil => .nil
  | _, _, n + 1, .cons r t => .cons r (Paired.take n t)
end L2
set_option Elab.async false
set_option linter.all false
set_option maxRecDepth 100000
/-! WHAT A SORT OF FEWER THAN 64 THINGS COMES TO, over the library's tree of asks: a permutation, in order, those alike as they stood. -/
namespace Srt
open PySem PySem.W PyProof.Rows
def Good (n : Nat) (lt : Nat → Nat → Bool) {α : Type} : KasT α → (α → Prop) → Prop
  | .ret a, Q => Q a
  | .ask i j k, Q => i < n ∧ j < n ∧ Good n lt (k (lt i j)) Q
section
variable {n : Nat} {lt : Nat → Nat → Bool} {α β : Type}
theorem good_mono {Q Q' : α → Prop} (h : ∀ a, Q a → Q' a) : ∀ t : KasT α, Good n lt t Q → Good n lt t Q'
  | .ret a, q => h a q
  | .ask i j k, q => ⟨q.1, q.2.1, good_mono h (k (lt i j)) q.2.2⟩
theorem good_bind {f : α → KasT β} {Q : β → Prop} : ∀ t : KasT α, Good n lt t (fun a => Good n lt (f a) Q) → Good n lt (t.bind f) Q
  | .ret a, q => q
  | .ask i j k, q => ⟨q.1, q.2.1, good_bind (k (lt i j)) q.2.2⟩
theorem good_wp {cmp : Nat → Nat → (Bool → Shared → Prop) → Shared → Prop} {s : Shared} {Q : α → Shared → Prop} (hc : ∀ i j (C : Bool → Shared → Prop), i < n → j < n → C (lt i j) s → cmp i j C s) : ∀ t : KasT α, Good n lt t (fun a => Q a s) → t.kasWp cmp Q s
  | .ret a, q => q
  | .ask i j k, q => hc i j _ q.1 q.2.1 (good_wp hc (k (lt i j)) q.2.2)
end
structure Ord (lt : Nat → Nat → Bool) : Prop where
  asym : ∀ {a b}, lt a b = true → lt b a = false
  tr : ∀ {a b c}, lt b a = false → lt c b = false → lt c a = false
section
variable {lt : Nat → Nat → Bool} {N : Nat}
theorem Ord.ltle (O : Ord lt) {a b c : Nat} (h : lt a b = true) (h' : lt c b = false) : lt a c = true := by
  cases e : lt a c with
  | true => rfl
  | false => rw [O.tr h' e] at h; cases h
theorem Ord.lelt (O : Ord lt) {a b c : Nat} (h : lt b a = false) (h' : lt b c = true) : lt a c = true := by
  cases e : lt a c with
  | true => rfl
  | false => rw [O.tr e h] at h'; cases h'
def R (lt : Nat → Nat → Bool) (a b : Nat) : Prop := lt a b = true ∨ (lt b a = false ∧ a < b)
theorem R.le (O : Ord lt) {a b : Nat} (h : R lt a b) : lt b a = false := h.elim O.asym (·.1)
abbrev g (p : Array Nat) (i : Nat) : Nat := p.getD i 0
theorem g_eq {p : Array Nat} {i : Nat} : g p i = (p[i]?).getD 0 := by simp [g]
theorem g_rev {p : Array Nat} {i j : Nat} (hj : j ≤ p.size) (k : Nat) : g (kas_rev p i j) k = if i ≤ k ∧ k < j then g p (i + j - 1 - k) else g p k := by
  unfold kas_rev
  rw [g_eq, getElem?_mirror_all hj, g_eq, g_eq]
  split <;> rfl
theorem g_bub {p : Array Nat} {k d : Nat} (hs : k < p.size) (hd : d ≤ k) (i : Nat) : g (bubble p k d) i = if i = k - d then g p k else if k - d < i ∧ i ≤ k then g p (i - 1) else g p i := by
  rw [g_eq, getElem?_bubble hs d hd, g_eq, g_eq, g_eq]
  split
  · rfl
  · split <;> rfl
structure Pm (N : Nat) (p : Array Nat) (n : Nat) : Prop where
  sz : p.size = N
  pm : p.Perm (List.toArray (List.range N))
  lo : ∀ i, i < n → g p i < n
  hi : ∀ i, n ≤ i → i < N → g p i = i
theorem Pm.rev {p : Array Nat} {n i j : Nat} (h : Pm N p n) (hj : j ≤ n) (hn : n ≤ N) : Pm N (kas_rev p i j) n where
  sz := by rw [kas_rev_size]; exact h.sz
  pm := (mirror_perm _ _ _ _).trans h.pm
  lo := fun k hk => by
    rw [g_rev (by rw [h.sz]; omega)]
    split
    · exact h.lo _ (by omega)
    · exact h.lo _ hk
  hi := fun k hk hk2 => by
    rw [g_rev (by rw [h.sz]; omega), if_neg (by omega)]
    exact h.hi k hk hk2
theorem Pm.succ {p : Array Nat} {n : Nat} (h : Pm N p n) (hn : n < N) : Pm N p (n + 1) where
  sz := h.sz
  pm := h.pm
  lo := fun i hi => by
    rcases Nat.lt_or_ge i n with h1 | h1
    · exact Nat.lt_succ_of_lt (h.lo i h1)
    · rw [h.hi i h1 (by omega)]; exact hi
  hi := fun i h1 h2 => h.hi i (by omega) h2
def Asc (lt : Nat → Nat → Bool) (p : Array Nat) (n : Nat) : Prop := ∀ i j, i < j → j < n → R lt (g p i) (g p j)
theorem asc_ok (O : Ord lt) (p : Array Nat) : ∀ (f n : Nat), 1 ≤ n → n + f = N → Pm N p n → Asc lt p n →
    Good N lt (kas_asc p f n) (fun m => n ≤ m ∧ m ≤ N ∧ Pm N p m ∧ Asc lt p m ∧ (m < N → lt (g p m) (g p (m - 1)) = true))
  | 0, n, h1, hn, hp, ha => ⟨Nat.le_refl _, by omega, hp, ha, fun h => by omega⟩
  | f + 1, n, h1, hn, hp, ha => by
    have hnN : n < N := by omega
    have en := hp.hi n (Nat.le_refl _) hnN
    have e1 := hp.lo (n - 1) (by omega)
    show Good N lt (.ask (g p n) (g p (n - 1)) fun c => if c = true then .ret n else kas_asc p f (n + 1)) _
    refine ⟨by omega, by omega, ?_⟩
    cases hc : lt (g p n) (g p (n - 1)) with
    | true =>
      try dsimp only
      rw [if_pos rfl]
      exact ⟨Nat.le_refl _, by omega, hp, ha, fun _ => hc⟩
    | false =>
      try dsimp only
      rw [if_neg (by simp)]
      refine good_mono (fun m h => ⟨by omega, h.2⟩) _ (asc_ok O p f (n + 1) (by omega) (by omega) (hp.succ hnN) fun i j hij hj => ?_)
      rcases Nat.lt_or_ge j n with h2 | h2
      · exact ha i j hij h2
      · obtain rfl : j = n := by omega
        have hlo := hp.lo i hij
        refine .inr ⟨?_, by omega⟩
        rcases Nat.lt_or_ge i (j - 1) with h3 | h3
        · exact O.tr ((ha i (j - 1) h3 (by omega)).le O) hc
        · obtain rfl : i = j - 1 := by omega
          exact hc
structure Dsc (lt : Nat → Nat → Bool) (p : Array Nat) (n q : Nat) : Prop where
  a : ∀ i j, i < j → j < n - (q + 1) → R lt (g p j) (g p i)
  b : ∀ i j, i < n - (q + 1) → n - (q + 1) ≤ j → j < n → lt (g p j) (g p i) = true
  c : ∀ i j, n - (q + 1) ≤ i → i < j → j < n → lt (g p i) (g p j) = false ∧ lt (g p j) (g p i) = false ∧ g p i < g p j
def Rv (lt : Nat → Nat → Bool) (p : Array Nat) (n : Nat) : Prop := ∀ i j, i < j → j < n → R lt (g p j) (g p i)
theorem Dsc.rv0 {p : Array Nat} {n : Nat} (h : Dsc lt p n 0) (h1 : 1 ≤ n) : Rv lt p n := fun i j hij hj => by
  rcases Nat.lt_or_ge j (n - 1) with h2 | h2
  · exact h.a i j hij h2
  · exact .inl (h.b i j (by omega) h2 hj)
theorem Dsc.rv {p : Array Nat} {n q : Nat} (h : Dsc lt p n q) (hq : q + 1 ≤ n) (hn : n ≤ p.size) : Rv lt (kas_rev p (n - (q + 1)) n) n := fun i j hij hj => by
  rw [g_rev hn, g_rev hn]
  by_cases hi : n - (q + 1) ≤ i
  · rw [if_pos ⟨by omega, hj⟩, if_pos ⟨hi, by omega⟩]
    obtain ⟨c1, c2, c3⟩ := h.c (n - (q + 1) + n - 1 - j) (n - (q + 1) + n - 1 - i) (by omega) (by omega) (by omega)
    exact .inr ⟨c2, c3⟩
  · rw [if_neg (show ¬ (n - (q + 1) ≤ i ∧ i < n) by omega)]
    by_cases hj2 : n - (q + 1) ≤ j
    · rw [if_pos ⟨hj2, hj⟩]
      exact .inl (h.b i _ (by omega) (by omega) (by omega))
    · rw [if_neg (by omega)]
      exact h.a i j hij (by omega)
theorem desc_ok (O : Ord lt) : ∀ (f : Nat) (p : Array Nat) (n q : Nat), q + 1 ≤ n → n + f = N → Pm N p n → Dsc lt p n q →
    Good N lt (kas_desc f p n q) (fun r => r.2.2 + 1 ≤ r.2.1 ∧ r.2.1 ≤ N ∧ Pm N r.1 r.2.1 ∧ Dsc lt r.1 r.2.1 r.2.2)
  | 0, p, n, q, hq, hn, hp, hd => ⟨hq, by show n ≤ N; omega, hp, hd⟩
  | f + 1, p, n, q, hq, hn, hp, hd => by
    have hnN : n < N := by omega
    have en := hp.hi n (Nat.le_refl _) hnN
    have e1 := hp.lo (n - 1) (by omega)
    have hsz := hp.sz
    refine ⟨by show g p n < N; omega, by show g p (n - 1) < N; omega, ?_⟩
    cases hc : lt (p.getD n 0) (p.getD (n - 1) 0) with
    | true =>
      try dsimp only
      rw [if_pos rfl]
      have hx : ∀ i, i < n → lt (g p n) (g p i) = true := fun i hi => by
        rcases Nat.lt_or_ge i (n - (q + 1)) with h2 | h2
        · have := hd.b i (n - 1) h2 (by omega) (by omega)
          exact O.ltle hc (O.asym this)
        · rcases Nat.lt_or_ge i (n - 1) with h3 | h3
          · exact O.ltle hc (hd.c i (n - 1) h2 h3 (by omega)).1
          · obtain rfl : i = n - 1 := by omega
            exact hc
      have go : ∀ p' : Array Nat, Pm N p' n → Rv lt p' n → (∀ i, i < n → ∃ i', i' < n ∧ g p' i = g p i') → g p' n = g p n →
          Good N lt (kas_desc f p' (n + 1) 0) (fun r => r.2.2 + 1 ≤ r.2.1 ∧ r.2.1 ≤ N ∧ Pm N r.1 r.2.1 ∧ Dsc lt r.1 r.2.1 r.2.2) := fun p' hp' hv hs he => by
        refine desc_ok O f p' (n + 1) 0 (by omega) (by omega) (hp'.succ hnN) ⟨fun i j hij hj => hv i j hij (by omega), fun i j hi hj hj2 => ?_, fun i j hi hij hj => by omega⟩
        obtain rfl : j = n := by omega
        obtain ⟨i', hi', e⟩ := hs i (by omega)
        rw [he, e]
        exact hx i' hi'
      by_cases hq0 : q > 0
      · rw [if_pos hq0]
        refine go _ (hp.rev (Nat.le_refl _) (by omega)) (hd.rv hq (by omega)) (fun i hi => ?_) ?_
        · rw [g_rev (by omega)]
          split
          · exact ⟨_, by omega, rfl⟩
          · exact ⟨i, hi, rfl⟩
        · rw [g_rev (by omega), if_neg (by omega)]
      · rw [if_neg hq0]
        obtain rfl : q = 0 := by omega
        exact go p hp (hd.rv0 hq) (fun i hi => ⟨i, hi, rfl⟩) rfl
    | false =>
      try dsimp only
      rw [if_neg (by simp)]
      refine ⟨by show g p (n - 1) < N; omega, by show g p n < N; omega, ?_⟩
      cases hdd : lt (p.getD (n - 1) 0) (p.getD n 0) with
      | true =>
        try dsimp only
        rw [if_pos rfl]
        exact ⟨hq, by show n ≤ N; omega, hp, hd⟩
      | false =>
        try dsimp only
        rw [if_neg (by simp)]
        have eb : n + 1 - (q + 1 + 1) = n - (q + 1) := by omega
        refine desc_ok O f p (n + 1) (q + 1) (by omega) (by omega) (hp.succ hnN) ⟨fun i j hij hj => hd.a i j hij (by omega), fun i j hi hj hj2 => ?_, fun i j hi hij hj => ?_⟩
        · rw [eb] at hi hj
          rcases Nat.lt_or_ge j n with h2 | h2
          · exact hd.b i j hi hj h2
          · obtain rfl : j = n := by omega
            exact O.lelt (c := g p i) hdd (hd.b i (j - 1) hi (by omega) (by omega))
        · rw [eb] at hi
          rcases Nat.lt_or_ge j n with h2 | h2
          · exact hd.c i j hi hij h2
          · obtain rfl : j = n := by omega
            have hlo := hp.lo i hij
            rcases Nat.lt_or_ge i (j - 1) with h3 | h3
            · obtain ⟨c1, c2, c3⟩ := hd.c i (j - 1) hi h3 (by omega)
              exact ⟨O.tr hdd c1, O.tr c2 hc, by omega⟩
            · obtain rfl : i = j - 1 := by omega
              exact ⟨hdd, hc, by omega⟩
abbrev Cnt (N : Nat) (lt : Nat → Nat → Bool) (r : Nat × Array Nat) : Prop := 1 ≤ r.1 ∧ r.1 ≤ N ∧ Pm N r.2 r.1 ∧ Asc lt r.2 r.1
theorem tail3_ok (O : Ord lt) {p : Array Nat} {n : Nat} (h1 : 1 ≤ n) (hn : n ≤ N) (hp : Pm N p n) (hv : Rv lt p n) : Good N lt (kas_tail3 n N p) (Cnt N lt) := by
  have hsz := hp.sz
  refine good_bind _ (good_mono (fun m h => ?_) _ (asc_ok O (kas_rev p 0 n) (N - n) n h1 (by omega) (hp.rev (Nat.le_refl _) hn) fun i j hij hj => ?_))
  · exact ⟨by show 1 ≤ m; omega, h.2.1, h.2.2.1, h.2.2.2.1⟩
  · rw [g_rev (by omega), g_rev (by omega), if_pos (by omega), if_pos (by omega)]
    exact hv _ _ (by omega) (by omega)
theorem descPart_ok (O : Ord lt) {p : Array Nat} {n : Nat} (hn : n < N) (hp : Pm N p n) (hv : Rv lt p n) (hx : ∀ i, i < n → lt (g p n) (g p i) = true) : Good N lt (kas_descPart n N p) (Cnt N lt) := by
  refine good_bind _ (good_mono (fun r h => ?_) _ (desc_ok O (N - (n + 1)) p (n + 1) 0 (by omega) (by omega) (hp.succ hn) ⟨fun i j hij hj => hv i j hij (by omega), fun i j hi hj hj2 => ?_, fun i j hi hij hj => by omega⟩))
  · obtain ⟨q1, q2, q3, q4⟩ := h
    have hsz := q3.sz
    by_cases hq : r.2.2 > 0
    · rw [if_pos hq]
      exact tail3_ok O (by omega) q2 (q3.rev (Nat.le_refl _) q2) (q4.rv q1 (by omega))
    · rw [if_neg hq]
      have e0 : r.2.2 = 0 := by omega
      rw [e0] at q4
      exact tail3_ok O (by omega) q2 q3 (q4.rv0 (by omega))
  · obtain rfl : j = n := by omega
    exact hx i (by omega)
theorem count_ok (O : Ord lt) {p : Array Nat} (h1 : 1 ≤ N) (hp : Pm N p 1) : Good N lt (kas_count N p) (Cnt N lt) := by
  have hsz := hp.sz
  refine good_bind _ (good_mono (fun m h => ?_) _ (asc_ok O p (N - 1) 1 (Nat.le_refl _) (by omega) hp fun i j hij hj => by omega))
  obtain ⟨m1, m2, m3, m4, m5⟩ := h
  by_cases hm : m = N
  · rw [if_pos (by rw [hm]; exact beq_self_eq_true _)]
    exact ⟨m1, m2, m3, m4⟩
  · rw [if_neg (by intro e; exact hm (by simpa using e))]
    have hlt := m5 (by omega)
    by_cases hm1 : m > 1
    · rw [if_pos hm1]
      have l0 := m3.lo 0 (by omega)
      have l1 := m3.lo (m - 1) (by omega)
      refine ⟨by show g p 0 < N; omega, by show g p (m - 1) < N; omega, ?_⟩
      cases hc : lt (p.getD 0 0) (p.getD (m - 1) 0) with
      | true =>
        try dsimp only
        rw [if_pos rfl]
        exact ⟨m1, m2, m3, m4⟩
      | false =>
        try dsimp only
        rw [if_neg (by simp)]
        have le1 : ∀ i, i < m → lt (g p i) (g p (m - 1)) = false := fun i hi => by
          rcases Nat.eq_zero_or_pos i with h0 | h0
          · subst h0; exact hc
          · exact O.tr hc ((m4 0 i h0 hi).le O)
        have le2 : ∀ i, i < m → lt (g p (m - 1)) (g p i) = false := fun i hi => by
          rcases Nat.lt_or_ge i (m - 1) with h0 | h0
          · exact (m4 i (m - 1) h0 (by omega)).le O
          · obtain rfl : i = m - 1 := by omega
            exact le1 _ hi
        have all : ∀ i j, i < m → j < m → lt (g p i) (g p j) = false := fun i j hi hj => O.tr (le2 j hj) (le1 i hi)
        have idx : ∀ i j, i < j → j < m → g p i < g p j := fun i j hij hj => by
          rcases m4 i j hij hj with h | h
          · rw [all i j (by omega) hj] at h; cases h
          · exact h.2
        refine descPart_ok O (by omega) (m3.rev (Nat.le_refl _) m2) (fun i j hij hj => ?_) fun i hi => ?_
        · rw [g_rev (by omega), g_rev (by omega), if_pos (by omega), if_pos (by omega)]
          exact .inr ⟨all _ _ (by omega) (by omega), idx _ _ (by omega) (by omega)⟩
        · rw [g_rev (by omega), g_rev (by omega), if_neg (by omega), if_pos (by omega)]
          exact O.ltle hlt (le1 _ (by omega))
    · rw [if_neg hm1]
      obtain rfl : m = 1 := by omega
      refine descPart_ok O (by omega) m3 (fun i j hij hj => by omega) fun i hi => ?_
      obtain rfl : i = 0 := by omega
      exact hlt
theorem place_ok (O : Ord lt) {p : Array Nat} {k : Nat} (hk : k < N) (hp : Pm N p k) (ha : Asc lt p k) : ∀ (f l r : Nat), l ≤ r → r ≤ k → r - l ≤ f → (∀ i, i < l → lt (g p k) (g p i) = false) → (∀ i, r ≤ i → i < k → lt (g p k) (g p i) = true) →
    Good N lt (kas_place p k f l r) (fun l' => l' ≤ k ∧ (∀ i, i < l' → lt (g p k) (g p i) = false) ∧ ∀ i, l' ≤ i → i < k → lt (g p k) (g p i) = true)
  | 0, l, r, h1, h2, h3, hl, hr => ⟨by omega, hl, fun i h4 h5 => hr i (by omega) h5⟩
  | f + 1, l, r, h1, h2, h3, hl, hr => by
    show Good N lt (if l ≥ r then .ret l else .ask (p.getD k 0) (p.getD ((l + r) / 2) 0) fun c => if c = true then kas_place p k f l ((l + r) / 2) else kas_place p k f ((l + r) / 2 + 1) r) _
    by_cases hlr : l ≥ r
    · rw [if_pos hlr]
      exact ⟨by omega, hl, fun i h4 h5 => hr i (by omega) h5⟩
    · rw [if_neg hlr]
      have ek := hp.hi k (Nat.le_refl _) hk
      have em := hp.lo ((l + r) / 2) (by omega)
      refine ⟨by show g p k < N; omega, by show g p _ < N; omega, ?_⟩
      cases hc : lt (p.getD k 0) (p.getD ((l + r) / 2) 0) with
      | true =>
        try dsimp only
        rw [if_pos rfl]
        refine place_ok O hk hp ha f l ((l + r) / 2) (by omega) (by omega) (by omega) hl fun i h4 h5 => ?_
        rcases Nat.lt_or_ge ((l + r) / 2) i with h6 | h6
        · exact O.ltle hc ((ha _ i h6 h5).le O)
        · obtain rfl : i = (l + r) / 2 := by omega
          exact hc
      | false =>
        try dsimp only
        rw [if_neg (by simp)]
        refine place_ok O hk hp ha f ((l + r) / 2 + 1) r (by omega) h2 (by omega) (fun i h4 => ?_) hr
        rcases Nat.lt_or_ge i ((l + r) / 2) with h6 | h6
        · exact O.tr ((ha i _ h6 (by omega)).le O) hc
        · obtain rfl : i = (l + r) / 2 := by omega
          exact hc
theorem bin_ok (O : Ord lt) : ∀ (f : Nat) (p : Array Nat) (k : Nat), k + f = N → Pm N p k → Asc lt p k → Good N lt (kas_bin f p k) (fun p' => Pm N p' N ∧ Asc lt p' N)
  | 0, p, k, hk, hp, ha => by
    obtain rfl : k = N := by omega
    exact ⟨hp, ha⟩
  | f + 1, p, k, hk, hp, ha => by
    refine good_bind _ (good_mono (fun l h => ?_) _ (place_ok O (by omega) hp ha k 0 k (Nat.zero_le _) (Nat.le_refl _) (by omega) (fun i h => by omega) fun i h1 h2 => by omega))
    obtain ⟨hl, h1, h2⟩ := h
    have hsz := hp.sz
    have ek := hp.hi k (Nat.le_refl _) (by omega)
    have gb := fun i => g_bub (p := p) (k := k) (d := k - l) (by omega) (by omega) i
    have el : k - (k - l) = l := by omega
    rw [el] at gb
    refine bin_ok O f _ (k + 1) (by omega) ⟨by rw [bubble_size]; exact hsz, (bubble_perm _ _ _).trans hp.pm, fun i hi => ?_, fun i hi hi2 => ?_⟩ fun i j hij hj => ?_
    · rw [gb]
      split
      · omega
      · split
        · have := hp.lo (i - 1) (by omega); omega
        · have := hp.lo i (by omega); omega
    · rw [gb, if_neg (by omega), if_neg (by omega)]
      exact hp.hi i (by omega) hi2
    · rw [gb, gb]
      by_cases j1 : j = l
      · rw [if_pos j1, if_neg (by omega), if_neg (by omega)]
        have := hp.lo i (by omega)
        exact .inr ⟨h1 i (by omega), by omega⟩
      · rw [if_neg j1]
        by_cases i1 : i = l
        · rw [if_pos i1, if_pos (by omega)]
          exact .inl (h2 (j - 1) (by omega) (by omega))
        · rw [if_neg i1]
          by_cases j2 : l < j ∧ j ≤ k
          · rw [if_pos j2]
            split
            · exact ha _ _ (by omega) (by omega)
            · exact ha _ _ (by omega) (by omega)
          · rw [if_neg j2, if_neg (by omega)]
            exact ha i j hij (by omega)
theorem start_pm (N : Nat) : Pm N (List.toArray (List.range N)) 1 where
  sz := by simp
  pm := Array.Perm.refl _
  lo := fun i hi => by
    obtain rfl : i = 0 := by omega
    rw [g_eq]
    cases N with
    | zero => simp
    | succ m => simp
  hi := fun i _ hi => by rw [g_eq]; simp [hi]
theorem sort_ok (O : Ord lt) (h1 : 1 ≤ N) : Good N lt (kas_sort N) (fun p => Pm N p N ∧ Asc lt p N) := by
  refine good_bind _ (good_mono (fun r h => ?_) _ (count_ok O h1 (start_pm N)))
  obtain ⟨r1, r2, r3, r4⟩ := h
  by_cases hr : r.1 < N
  · rw [if_pos hr]
    have em : max r.1 1 = r.1 := by omega
    rw [em]
    exact bin_ok O _ _ _ (by omega) r3 r4
  · rw [if_neg hr]
    have e : r.1 = N := by omega
    rw [e] at r3 r4
    exact ⟨r3, r4⟩
theorem out_ok {p : Array Nat} (hp : Pm N p N) (ha : Asc lt p N) : p.toList.Perm (List.range N) ∧ p.toList.Pairwise (R lt) := by
  refine ⟨by simpa using Array.perm_iff_toList_perm.mp hp.pm, List.pairwise_iff_getElem.mpr fun i j hi hj hij => ?_⟩
  have hsz := hp.sz
  rw [Array.length_toList] at hi hj
  have := ha i j hij (by omega)
  simpa [g, Array.getD, hi, hj] using this
end
end Srt
set_option Elab.async false
set_option linter.all false
set_option maxRecDepth 100000
/-! sorted(list, key = a def of the text) over the hand layer. -/
namespace L2
open PySem PySem.Spec PyProof.Rows
section
variable {X : Cx} {pins : List (Addr × Obj)} {σ : St} {H : Hp} {s : Shared}
end
section
variable {X : Cx} {pins : List (Addr × Obj)} {σ : St} {H : Hp} {s : Shared} {kS D : Addr} {its : List Value} {xs : List V} {f : Value} {Q : VK}
/-- how the keys are asked -/
structure Asks (X : Cx) (n : Nat) (ks : List Value) (s : Shared) (κ : SortKind) (lt : Nat → Nat → Bool) : Prop where
  ord : Srt.Ord lt
  kind : 2 ≤ n → ∀ Q : SortKind → Shared → Prop, Q κ s → wpAny (model X.prog X.w) X.A.in1.in1 (keyKind' ks.toArray) Q (fun _ _ => False) s
  ask : ∀ i j (C : Bool → Shared → Prop), i < n → j < n → C (lt i j) s → PySem.W.kas_ask X.prog X.w X.A.in1.in1 κ ks i j C s
end
end L2
set_option Elab.async false
set_option linter.all false
set_option maxRecDepth 100000
/-! A list or a tuple alike: walked, indexed, compared. -/
namespace L2
open PySem PySem.Spec PyProof.Rows
/-- the record of a list, or of a tuple -/
def Ob (o : HO) (xs : List V) : Prop := o = .lst xs ∨ o = .tup xs
theorem Ob.sq {K : PySem.W.Frag} {H : Hp} {a : Addr} {o : HO} {xs : List V} (h : Ob o xs) (e : H a = some o) : SqL K H a xs ∨ SqT K H a xs := by
  rcases h with h | h
  · subst h; exact .inl (.of e)
  · subst h; exact .inr (.of e)
/-- what is told of an iterator over it -/
def ItOk (J : It) (a : Addr) (o : HO) (xs : List V) : Prop := ∀ H : Hp, H a = some o → (∀ i x, xs[i]? = some x → J.go i H ∧ ∀ y H', J.yld i H y H' → H' = H ∧ y = x) ∧ J.stop xs.length H
def iSeq (K : PySem.W.Frag) (tl : TE) : TI := fun σ H R => tl σ H fun x H1 => ∃ a o xs, x = .ref a ∧ H1 a = some o ∧ Ob o xs ∧ ∀ J, ItOk J a o xs → R J H1
theorem itl_ok {K : PySem.W.Frag} {a : Addr} {xs : List V} : ItOk (Itl K a) a (.lst xs) xs := fun H e => ⟨fun i x hx => ⟨⟨xs, x, .of e, hx⟩, fun y H' z => ⟨z.1, by
    have := z.2 xs (.of e)
    rw [hx] at this
    exact (Option.some.inj this).symm⟩⟩, ⟨xs, .of e, Nat.le_refl _⟩⟩
theorem itt_ok {K : PySem.W.Frag} {a : Addr} {xs : List V} : ItOk (Itt K a) a (.tup xs) xs := fun H e => ⟨fun i x hx => ⟨⟨xs, x, .of e, hx⟩, fun y H' z => ⟨z.1, by
    have := z.2 xs (.of e)
    rw [hx] at this
    exact (Option.some.inj this).symm⟩⟩, ⟨xs, .of e, Nat.le_refl _⟩⟩
section
variable {X : Cx} {tg : Expr}
theorem pi_seq {l : Expr} {tl : TE} (hl : PE X l tl) : PI X tg l (iSeq X.K tl) := by
  intro pins s σ H R I h
  refine thn (hl pins s σ H _ I h) fun v s1 ⟨x, H1, I1, r1, q1⟩ => ?_
  obtain ⟨a, o, xs, e, ha, ho, q⟩ := q1
  subst e
  cases r1
  have fpk : ∀ b ∈ [s1.heap.objs.size], FpOk X pins H1 b := fun b hb => by
    have e : b = s1.heap.objs.size := by simpa using hb
    subst e
    exact I1.fpOk (Nat.le_refl _) (I1.hok.fresh (Nat.le_refl _))
  rcases ho with ho | ho
  · subst ho
    obtain ⟨its, rv, p, hz⟩ := I1.list (.of ha : SqL X.K H1 a xs)
    refine wpAny_pyIter_list p.isList ?_
    exact ⟨s1.heap.objs.size, [s1.heap.objs.size], _, _, H1, rfl, I1.kept (t' := s1.toks) fun b o e => Heap.get?_push_of_some _ e, turn_list a _, ⟨_, Heap.get?_push_size _ rfl, rfl, rfl⟩, fpk, q _ itl_ok⟩
  · subst ho
    obtain ⟨its, rv, p, hz⟩ := I1.tuple (.of ha : SqT X.K H1 a xs)
    refine wpAny_pyIter_tuple (show s1.heap.IsTuple a its.toArray from p) ?_
    exact ⟨s1.heap.objs.size, [s1.heap.objs.size], _, _, H1, rfl, I1.kept (t' := s1.toks) fun b o e => Heap.get?_push_of_some _ e, turn_tuple a _, ⟨_, Heap.get?_push_size _ rfl, rfl, rfl⟩, fpk, q _ itt_ok⟩
def rIxSq (K : PySem.W.Frag) : R2 := fun x y H Q => ∃ p xs i v, x = .ref p ∧ y = .int i ∧ (SqL K H p xs ∨ SqT K H p xs) ∧ atI xs i = some v ∧ Q v H
theorem ix_sq : IxR X (rIxSq X.K) := by
  intro value slice pins s σ H x y v u Q I rx ry h hs
  obtain ⟨p, xs, i, z, e1, e2, hq, he, q⟩ := h
  rcases hq with hq | hq
  · exact ix_list value slice pins s σ H x y v u Q I rx ry ⟨p, xs, i, z, e1, e2, hq, he, q⟩ hs
  · exact ix_tup value slice pins s σ H x y v u Q I rx ry ⟨p, xs, i, z, e1, e2, hq, he, q⟩ hs
end
theorem lc_it {J : It} {a : Addr} {o : HO} {xs : List V} {tc : TT} {te : TE} {σ : St} {D : Addr} {Fin : Hp → Prop} {H : Hp} (hJ : ItOk J a o xs) (Pv : Nat → List V → Hp → Prop) (h0 : Pv 0 [] (upd H D (.lst [])))
    (hD : ∀ i ys H, Pv i ys H → H D = some (.lst ys) ∧ H a = some o) (hend : ∀ ys H, Pv xs.length ys H → Fin H)
    (hgo : ∀ i x ys H, i < xs.length → xs[i]? = some x → Pv i ys H → tc (some x :: σ) H fun b H2 => if b = true then te (some x :: σ) H2 (LcNx xs.length i D ys Pv) else LcNo xs.length i ys Pv H2) : lcGo tc te σ J D Fin H := by
  refine lc_go Pv h0 (fun i ys H p => (hD i ys H p).1) (fun ys H p => ⟨(hJ H (hD _ _ _ p).2).2, hend ys H p⟩) fun i ys H hi p => ?_
  obtain ⟨g, k⟩ := (hJ H (hD _ _ _ p).2).1 i xs[i] (List.getElem?_eq_getElem hi)
  refine ⟨g, fun x H' y => ?_⟩
  obtain ⟨e1, e2⟩ := k x H' y
  subst e1 e2
  exact hgo i _ ys _ hi (List.getElem?_eq_getElem hi) p
theorem for_it {J : It} {a : Addr} {o : HO} {xs : List V} {g : TG} {tb : TS} {D : Ends} {σ : St} {H : Hp} (hJ : ItOk J a o xs) (Pv : Nat → St → Hp → Prop) (h0 : Pv 0 σ H) (hl : ∀ i σ H, i ≤ xs.length → Pv i σ H → H a = some o)
    (hs : ∀ i x σ H, xs[i]? = some x → Pv i σ H → g x σ H fun σ2 H2 => tb { D with nx := Pv (i + 1), ct := Pv (i + 1), bk := D.nx } σ2 H2) (hd : ∀ σ H, Pv xs.length σ H → D.nx σ H) :
    ∃ W : Nat → Nat → St → Hp → Prop, (∃ m, W 0 m σ H) ∧ ∀ i m σ H, W i m σ H →
      (J.stop i H ∧ D.nx σ H) ∨ (J.go i H ∧ ∃ N : St → Hp → Prop, (∀ σ' H', N σ' H' → ∃ m', m' < m ∧ W (i + 1) m' σ' H') ∧ ∀ x H', J.yld i H x H' → g x σ H' fun σ2 H2 => tb { D with nx := N, ct := N, bk := D.nx } σ2 H2) := by
  refine ⟨fun i m σ H => m = xs.length - i ∧ i ≤ xs.length ∧ Pv i σ H, ⟨xs.length, by simp, Nat.zero_le _, h0⟩, ?_⟩
  rintro i m σ H ⟨rfl, hi, p⟩
  have q := hl i σ H hi p
  by_cases hlt : i < xs.length
  · obtain ⟨gg, k⟩ := (hJ H q).1 i xs[i] (List.getElem?_eq_getElem hlt)
    refine .inr ⟨gg, Pv (i + 1), fun σ' H' p' => ⟨xs.length - (i + 1), by omega, rfl, hlt, p'⟩, fun x H' y => ?_⟩
    obtain ⟨e1, e2⟩ := k x H' y
    subst e1 e2
    exact hs i _ σ _ (List.getElem?_eq_getElem hlt) p
  · have e : i = xs.length := by omega
    subst e
    exact .inl ⟨(hJ H q).2, hd σ H p⟩
/-! ### == and != of lists and tuples of whole numbers -/
section
variable {X : Cx}
end
end L2
set_option Elab.async false
set_option linter.all false
set_option maxRecDepth 100000
/-! LIST COMPREHENSIONS whose target is several names (a, b = each pair). -/
namespace L2
open PySem PySem.Spec PyProof.Rows
def cxLN (X : Cx) (xs Ns : List Str) (scope : Scope) (C : Addr) (fp : List Addr) (s : Shared) (H : Hp) : Cx where
  prog := X.prog
  w := X.w
  K := X.K
  mg := X.mg
  base := X.base
  A := X.A
  N := xs ++ Ns
  s₀ := s
  H₀ := H
  env := compEnvC scope (clOf scope X.env.cells) C X.env
  outer := X.stack
  stack := X.stack
  ex := fp
  fn := fun _ => false
  calm := X.calm
  pn := []
  xe := fun _ _ => False
/-- xs: the block's names; Ns: the names around it, those that the block's names hide put otherwise -/
structure LnScope (X : Cx) (xs Ns : List Str) (sc : Scope) : Prop where
  kind : sc.kind = .function
  nocell : ∀ p ∈ sc.names, p.2 ≠ .cell
  loc : ∀ x ∈ xs, sc.names.lookup x = some .local
  names : ∀ p ∈ sc.names, p.2 = .local → sc.names.lookup p.1 = some .local
  apart : ∀ y ∈ Ns, sc.names.lookup y ≠ some .local
  sub : ∀ (i : Nat) (y : Str), Ns[i]? = some y → sc.names.lookup y = some .free → X.N[i]? = some y
  len : Ns.length = X.N.length
  all : (xs ++ Ns).Nodup
  free : ∀ p ∈ sc.names, p.2 = .free → X.env.kindOf p.1 = some .cell ∨ X.env.kindOf p.1 = some .free
section
variable {X : Cx} {pins : List (Addr × Obj)} {σ : St} {H : Hp} {s : Shared} {xs Ns : List Str} {sc : Scope} {C : Addr} {fp : List Addr}
theorem LnScope.cells (S : LnScope X xs Ns sc) (ok : X.Ok) : ∀ p ∈ sc.names, p.2 = .free → ∃ a, X.env.cells.lookup p.1 = some a := fun p hp e => ok.has p.1 (S.free p hp e)
theorem Inv.okLN (I : Inv X pins σ H s) (S : LnScope X xs Ns sc) (hC : s.heap.objs.size ≤ C) (hf : ∀ b ∈ fp, FpOk X pins H b) (hlt : ∀ b ∈ fp, b < s.heap.objs.size) : (cxLN X xs Ns sc C fp s H).Ok where
  mod := I.ok.mod
  kind := S.kind
  glob := I.ok.glob
  blt := I.ok.blt
  above := hC
  inj := fun y z c e1 e2 => I.ok.inj y z c (clOf_sub sc X.env.cells e1) (clOf_sub sc X.env.cells e2)
  has := fun y hy => by
    have hy' : (relabel sc X.env).names.lookup y = some .cell ∨ (relabel sc X.env).names.lookup y = some .free := hy
    have fr : sc.names.lookup y = some .free := by
      rcases hy' with h | h
      · obtain ⟨k', e, q⟩ := relabel_look h
        rcases q with q | ⟨q, _⟩
        · subst q; exact absurd rfl (S.nocell _ (PySem.mem_of_lookup e))
        · rw [e, q]
      · obtain ⟨k', e, q⟩ := relabel_look h
        rcases q with q | ⟨_, q⟩
        · rw [e, ← q]
        · cases q
    exact clOf_has sc X.env.cells (S.cells I.ok) (PySem.mem_of_lookup fr)
  cab := fun y c e => by cases (show false = true from e)
  hd := I.ok.hd
  frames := I.ok.frames
  stk := .inl rfl
  exf := fun b hb => ⟨Nat.ne_of_lt (Nat.lt_of_lt_of_le (hlt b hb) hC), fun y c e => (hf b hb).2.2.2.2.1 y c (clOf_sub sc X.env.cells e)⟩
  bs := I.bs
  bsz := Nat.le_trans I.ok.bsz I.sz
  noex := fun b o e hb => by
    rcases (hf b hb).2.2.2.1 with q | q
    · exact I.ok.noex b o e q
    · exact absurd (Nat.lt_of_lt_of_le (Heap.lt_size e) (Nat.le_trans I.ok.bsz q)) (Nat.lt_irrefl _)
  exfs := fun b hb z => by
    rcases List.mem_cons.mp (I.stkSub b z) with q | q
    · exact (hf b hb).2.1 q
    · exact (hf b hb).2.2.1 q
  funs := I.stack
  frf := I.stkFree
theorem Inv.startLN {D : Addr} {h1 : Heap} {m : Str → Option Value} {tk : Nat} {w : St} (I : Inv X pins σ H s) (S : LnScope X xs Ns sc) (hf : ∀ b ∈ fp, FpOk X pins H b) (hlt : ∀ b ∈ fp, b < s.heap.objs.size) (hw : w = xs.map fun _ => none)
    (hD : D = s.heap.objs.size) (hC : s.heap.objs.size ≤ C) (hDC : C ≠ D) (hk : ∀ b o, s.heap.get? b = some o → h1.get? b = some o) (hn : h1.Ns C m) (hl : h1.get? D = some { cls := .type "list", data := .seq ([] : List Value).toArray 0 }) :
    Inv (cxLN X xs Ns sc C fp s H) [] (w ++ σ) (upd H D (.lst [])) { s with heap := h1, toks := tk } := by
  have hwl : w.length = xs.length := by rw [hw, List.length_map]
  have hDle : s.heap.objs.size ≤ D := by rw [hD]; exact Nat.le_refl _
  have cells : ∀ y c, (clOf sc X.env.cells).lookup y = some c → c < s.heap.objs.size := fun y c e => by
    obtain ⟨v, q⟩ := I.cell y c (clOf_sub sc X.env.cells e)
    exact q.lt
  refine ⟨I.okLN S hC hf hlt, rfl, I.bare, Un.laid hk hDle (I.hok.fresh hDle), ⟨m, hn, fun i y v e1 e2 e3 => ?_⟩, fun y c e => ?_, ?_, fun y c e => ?_, fun p hp => absurd (show p ∈ ([] : List (Addr × Obj)) from hp) (by simp), I.hok.laid hk hDle ⟨Nat.zero_le _, [], 0, .nil, hl⟩, ?_⟩
  · have e1 : (xs ++ Ns)[i]? = some y := e1
    have e2 : (w ++ σ)[i]? = some (some v) := e2
    rcases Nat.lt_or_ge i xs.length with hi | hi
    · rw [List.getElem?_append_left (by omega), hw, List.getElem?_map, List.getElem?_eq_getElem hi] at e2
      cases e2
    · have e1' : Ns[i - xs.length]? = some y := by rw [List.getElem?_append_right hi] at e1; exact e1
      have e2' : σ[i - xs.length]? = some (some v) := by rw [List.getElem?_append_right (by omega), hwl] at e2; exact e2
      have e3' : Vis (relabel sc X.env) y := e3
      have ny : sc.names.lookup y ≠ some .local := S.apart y (List.mem_of_getElem? e1')
      have fr : sc.names.lookup y = some .free ∧ ((relabel sc X.env).names.lookup y = some .cell ∨ (relabel sc X.env).names.lookup y = some .free) := by
        rcases e3' with h | h | h
        · obtain ⟨k', e, q⟩ := relabel_look h
          rcases q with q | ⟨_, q⟩
          · subst q; exact absurd e ny
          · cases q
        · obtain ⟨k', e, q⟩ := relabel_look h
          rcases q with q | ⟨q, _⟩
          · subst q; exact absurd rfl (S.nocell _ (PySem.mem_of_lookup e))
          · exact ⟨by rw [e, q], .inl h⟩
        · obtain ⟨k', e, q⟩ := relabel_look h
          rcases q with q | ⟨_, q⟩
          · exact ⟨by rw [e, ← q], .inr h⟩
          · cases q
      have ok := S.free (y, .free) (PySem.mem_of_lookup fr.1) rfl
      obtain ⟨m0, hn0, hl0⟩ := I.loc
      obtain ⟨u, r, l⟩ := hl0 _ y v (S.sub _ y e1' fr.1) e2' (.inr ok)
      refine ⟨u, r, .inr ⟨fr.2, ?_⟩⟩
      rcases l with ⟨k, _⟩ | ⟨_, c, ec, z⟩
      · rcases ok with q | q <;> (rw [show X.env.kindOf y = some .local from k] at q; cases q)
      · obtain ⟨c', ec'⟩ := clOf_has sc X.env.cells (S.cells I.ok) (PySem.mem_of_lookup fr.1)
        have := clOf_sub sc X.env.cells ec'
        rw [ec] at this
        cases this
        obtain ⟨o, ho, hd⟩ := z
        exact ⟨c, ec', o, hk _ _ ho, hd⟩
  · obtain ⟨v, o, ho, hd⟩ := I.cell y c (clOf_sub sc X.env.cells e)
    exact ⟨v, o, hk _ _ ho, hd⟩
  · show upd H D (.lst []) C = none
    rw [upd_ne hDC]
    exact I.hok.fresh hC
  · show upd H D (.lst []) c = none
    rw [upd_ne (Nat.ne_of_lt (Nat.lt_of_lt_of_le (cells y c e) hDle))]
    exact I.freeC y c (clOf_sub sc X.env.cells e)
  · show (w ++ σ).length = (xs ++ Ns).length
    rw [List.length_append, List.length_append, I.len, hwl, S.len]
theorem Inv.endLN {s2 : Shared} {H2 : Hp} {st : St} {pl : List (Addr × Obj)} (I : Inv X pins σ H s) (J : Inv (cxLN X xs Ns sc C fp s H) pl st H2 s2) (hf : ∀ b ∈ fp, FpOk X pins H b) : Inv X pins σ H2 s2 :=
  I.call' (ch := fp) J.os J.base J.hok J.bare fun b hb => ⟨(hf b hb).2.2.2.1, (hf b hb).2.1, (hf b hb).2.2.2.2.1, (hf b hb).2.2.2.2.2⟩
end
/-- acc = []; for target in ..: if ..: acc.append(..), the list at D; n: how many names the target has -/
def lcGoN (n : Nat) (g : TG) (tc : TT) (te : TE) (σ : St) (J : It) (D : Addr) (Fin : Hp → Prop) (H : Hp) : Prop :=
  ∃ W : Nat → Nat → List V → Hp → Prop, (∃ m, W 0 m [] (upd H D (.lst []))) ∧ ∀ i m ys H, W i m ys H → H D = some (.lst ys) ∧
    ((J.stop i H ∧ Fin H) ∨ (J.go i H ∧ ∀ x H' (u : St), u.length = n → J.yld i H x H' → g x (u ++ σ) H' fun σ2 H2 => (∃ u2 : St, u2.length = n ∧ σ2 = u2 ++ σ) ∧ tc σ2 H2 fun b H3 => if b = true then te σ2 H3 fun y H4 => H4 D = some (.lst ys) ∧ ys.length < sizeLine ∧ ∃ m', m' < m ∧ W (i + 1) m' (ys ++ [y]) (upd H4 D (.lst (ys ++ [y])))
      else ∃ m', m' < m ∧ W (i + 1) m' ys H3))
def tLN (n : Nat) (wi : TI) (g : TG) (tc : TT) (te : TE) : TE := fun σ H Q => wi σ H fun J H1 => ∀ D, H1 D = none → lcGoN n g tc te σ J D (fun H2 => Q (.ref D) H2) H1
section
variable {X : Cx} {xs Ns : List Str} {sc : Scope} {elt iter tg : Expr} {ifs : List Expr} {pos : Pos} {wi : TI} {g : TG} {tc : TT} {te : TE}
theorem ln_block {pins : List (Addr × Obj)} {σ : St} {H : Hp} {s : Shared} {it : Addr} {fp : List Addr} {tn : Nat → Heap → Prop} {J : It} {Fin : Addr → Hp → Prop} {RR : Value → Addr → Result → Shared → Prop} {E : Value → Shared → Prop}
    (hc : X.calm = true) (S : LnScope X xs Ns sc) (I : Inv X pins σ H s) (T : Turn X.prog X.w X.K tg J fp it tn) (st : tn 0 s.heap) (hf : ∀ b ∈ fp, FpOk X pins H b) (hg : ∀ C s0 H0, PG (cxLN X xs Ns sc C fp s0 H0) tg g)
    (ht : ∀ C s0 H0, PTs (cxLN X xs Ns sc C fp s0 H0) ifs tc) (he : ∀ C s0 H0, PE (cxLN X xs Ns sc C fp s0 H0) elt te) (q : ∀ D, H D = none → lcGoN xs.length g tc te σ J D (Fin D) H)
    (hR : ∀ D C H2 s2 m, s.heap.objs.size ≤ C → Inv X pins σ H2 s2 → H2 C = none → s2.heap.Ns C m → Fin D H2 → RR (.ref D) C (.ok .next) s2) :
    wpAny (model X.prog X.w) X.A (newList []) (fun acc s3 => wpAny (model X.prog X.w) X.A (newFunctionEnv sc X.env.globals (clOf sc X.env.cells) [] X.env.qual none .none (some X.env)) (fun cenv s4 =>
      codeAny (model X.prog X.w) X.A (.compStart (.ListComp elt [⟨tg, iter, ifs, 0⟩] sc pos) 0 (.ref it) acc { cenv with scope := relabel sc X.env }) (RR acc cenv.locals) s4) E s3) E s := by
  have hlt : ∀ b ∈ fp, b < s.heap.objs.size := fun b hb => by
    obtain ⟨o, e, _⟩ := T.obj 0 _ st b hb
    exact Heap.lt_size e
  refine wpAny_newObj_type (wpAny_newFunctionEnv S.nocell (by intro y hy; simp at hy) (fun h1 hns1 hsb1 => ?_) S.kind)
  dsimp only at hns1 hsb1 ⊢
  generalize hH2 : s.heap.push { cls := .type "list", dict := none, data := .seq ([] : List Value).toArray } = G at hns1 hsb1 ⊢
  have hC : G.objs.size = s.heap.objs.size + 1 := by rw [← hH2, Heap.size_push]
  have hCle : s.heap.objs.size ≤ G.objs.size := by rw [hC]; exact Nat.le_succ _
  have hDC : G.objs.size ≠ s.heap.objs.size := by rw [hC]; exact Nat.succ_ne_self _
  have old : ∀ b o, s.heap.get? b = some o → h1.get? b = some o := fun b o e => hsb1.extBut b o (Nat.ne_of_lt (Nat.lt_of_lt_of_le (Heap.lt_size e) hCle)) (Heap.get?_push_of_some _ (hH2 ▸ Heap.get?_push_of_some _ e))
  have hacc : h1.get? s.heap.objs.size = some { cls := .type "list", data := .seq ([] : List Value).toArray 0 } := hsb1.extBut _ _ (Ne.symm hDC) (Heap.get?_push_of_some _ (hH2 ▸ Heap.get?_push_size _ rfl))
  have hDn : H s.heap.objs.size = none := I.hok.fresh (Nat.le_refl _)
  obtain ⟨W, ⟨m0, w0⟩, turn⟩ := q s.heap.objs.size hDn
  have st1 : tn 0 h1 := T.keep _ _ _ st fun b _ o e => old b o e
  have I1 := fun tk => I.startLN (tk := tk) (w := xs.map fun _ => none) S hf hlt rfl rfl hCle hDC old hns1 hacc
  have fr1 : ∀ b ∈ fp, upd H s.heap.objs.size (.lst []) b = none := fun b hb => by rw [upd_ne (Nat.ne_of_lt (hlt b hb))]; exact (hf b hb).1
  have loop : ∀ s3 : Shared, s3 = { s with heap := h1, toks := s.toks + ([] : List (Str × Value)).length } →
      codeAny (model X.prog X.w) X.A (.compLoop (.ListComp elt [⟨tg, iter, ifs, 0⟩] sc pos) 0 (.ref it) (.ref s.heap.objs.size) (compEnvC sc (clOf sc X.env.cells) G.objs.size X.env))
        (RR (.ref s.heap.objs.size) G.objs.size) s3 := by
    rintro s3 rfl
    have fpk : ∀ {H' : Hp}, (∀ b ∈ fp, H' b = none) → ∀ b ∈ fp, FpOk (cxLN X xs Ns sc G.objs.size fp s H) [] H' b := fun hn b hb =>
      ⟨hn b hb, Nat.ne_of_lt (Nat.lt_of_lt_of_le (hlt b hb) hCle), (I.okLN (C := G.objs.size) S hCle hf hlt).exfs b hb, .inl hb, fun y c e => (hf b hb).2.2.2.2.1 y c (clOf_sub sc X.env.cells e), fun p hp => absurd (show p ∈ ([] : List (Addr × Obj)) from hp) (by simp)⟩
    refine compLoop_own (fun n s' => ∃ i w ys H', w.length = xs.length ∧ Inv (cxLN X xs Ns sc G.objs.size fp s H) [] (w ++ σ) H' s' ∧ tn i s'.heap ∧ (∀ b ∈ fp, H' b = none) ∧ W i n ys H') ?_ m0 ⟨0, _, [], _, List.length_map _, I1 _, st1, fr1, w0⟩
    rintro n s3 ⟨i, v0, ys, H3, hv0, I3, st3, fr3, w3⟩
    obtain ⟨hD3, turn3⟩ := turn i n ys H3 w3
    rcases turn3 with ⟨stop, fin⟩ | ⟨go, step⟩
    · refine thn (T.done (cxLN X xs Ns sc G.objs.size fp s H) rfl rfl rfl hc i [] s3 _ H3 _ I3 (fpk fr3) st3 stop) fun r s4 ⟨hr, I4⟩ => ?_
      subst hr
      obtain ⟨m4, hn4, _⟩ := I4.loc
      exact hR _ _ H3 s4 m4 hCle (I.endLN I4 hf) I4.free hn4 fin
    · refine thn (T.item (cxLN X xs Ns sc G.objs.size fp s H) rfl rfl rfl hc i [] s3 _ H3 _ I3 (fpk fr3) st3 go) fun r s4 ⟨u, hr, h4⟩ => ?_
      subst hr
      refine thn h4 fun _ s5 ⟨y, H5, I5, r5, y5, st5, fr5⟩ => ?_
      have I5' := I5.pinned (fpk fr5) (T.obj _ _ st5)
      refine thn (hg G.objs.size s H _ s5 _ H5 y u _ I5' r5 (step y H5 v0 hv0 y5)) fun _ s6 ⟨σ6, H6, I6, ⟨w6, hw6, e6⟩, q6⟩ => ?_
      subst e6
      refine thn (ht G.objs.size s H _ s6 _ H6 _ I6 q6) fun ok s7 ⟨H7, I7, q7⟩ => ?_
      have again : ∀ {H8 : Hp} {s8 : Shared} {zs : List V}, Inv (cxLN X xs Ns sc G.objs.size fp s H) ([] ++ pinsAt fp s5.heap) (w6 ++ σ) H8 s8 → (∃ m', m' < n ∧ W (i + 1) m' zs H8) → ∃ m, m < n ∧ ∃ i w ys H', w.length = xs.length ∧ Inv (cxLN X xs Ns sc G.objs.size fp s H) [] (w ++ σ) H' s8 ∧ tn i s8.heap ∧ (∀ b ∈ fp, H' b = none) ∧ W i m ys H' := fun {H8 s8 zs} I8 ⟨m', hm, w8⟩ => by
        refine ⟨m', hm, i + 1, w6, zs, H8, hw6, I8.unpinned, T.keep _ _ _ st5 fun b hb o e => (I8.pin (b, o) (List.mem_append_right _ (List.mem_append_right _ (mem_pinsAt hb e)))).1, fun b hb => ?_, w8⟩
        obtain ⟨o, e, d⟩ := T.obj _ _ st5 b hb
        exact (I8.pin (b, o) (List.mem_append_right _ (List.mem_append_right _ (mem_pinsAt hb e)))).2.1
      cases ok with
      | false =>
        rw [if_neg Bool.false_ne_true] at q7 ⊢
        exact again I7 q7
      | true =>
        rw [if_pos rfl] at q7 ⊢
        refine thn (he G.objs.size s H _ s7 _ H7 _ I7 q7) fun z s8 ⟨zv, H8, I8, r8, hD8, hz8, w8⟩ => ?_
        refine thn (mt_append _ s8 _ H8 (.ref s.heap.objs.size) [zv] (.ref s.heap.objs.size) [z] (fun _ H9 => ∃ m', m' < n ∧ W (i + 1) m' (ys ++ [zv]) H9) I8 rfl (.cons r8 .nil) ⟨_, ys, zv, rfl, rfl, hD8, hz8, w8⟩) fun _ s9 ⟨_, H9, I9, _, w9⟩ => ?_
        exact again I9 w9
  exact codeAny_compStart_list (loop _ rfl) (T.self X.A 0 _ _ _ st1 (loop _ rfl))
theorem pe_ln (hc : X.calm = true) (S : LnScope X xs Ns sc) (hi : PI X tg iter wi) (hg : ∀ C fp s0 H0, PG (cxLN X xs Ns sc C fp s0 H0) tg g) (ht : ∀ C fp s0 H0, PTs (cxLN X xs Ns sc C fp s0 H0) ifs tc) (he : ∀ C fp s0 H0, PE (cxLN X xs Ns sc C fp s0 H0) elt te)
    (hs : ∀ v, foldedSetIterable iter X.env v = pure v := by intro _; rfl) : PE X (.ListComp elt [⟨tg, iter, ifs, 0⟩] sc pos) (tLN xs.length wi g tc te) := by
  refine ⟨?_⟩
  intro pins s σ H Q I h
  rw [eval_ListComp]
  refine wpAny_comprehension_free (use := none) rfl hs (closure_eq (S.cells I.ok)) S.kind S.names (thn (hi pins s σ H _ I h) fun v s1 h1 => thn h1 fun itv s2 h2 => ?_)
  obtain ⟨it, fp, tn, J, H2, e, I2, T, st2, f2, q2⟩ := h2
  subst e
  refine ln_block (RR := fun acc C => compPost (model X.prog X.w) X.A X.xe none (EP X pins σ Q) acc C) (Fin := fun D H3 => Q (.ref D) H3) hc S I2 T st2 f2 (fun C s0 H0 => hg C fp s0 H0) (fun C s0 H0 => ht C fp s0 H0) (fun C s0 H0 => he C fp s0 H0) q2 ?_
  intro D C H3 s3 m hC I3 hn hN q3
  refine ⟨m, hN, fun h' hs' => ⟨.ref D, H3, I3.butC hs' (Nat.le_trans I2.sz hC) hn (Nat.ne_of_gt (Nat.lt_of_lt_of_le I2.lt hC)) (fun y c e => ?_) (fun p hp => ?_), rfl, q3⟩⟩
  · obtain ⟨v, z⟩ := I2.cell y c e
    exact Nat.ne_of_lt (Nat.lt_of_lt_of_le z.lt hC)
  · exact Nat.ne_of_lt (Nat.lt_of_lt_of_le (Heap.lt_size (I2.pin p hp).1) hC)
/-- the target a, b -/
theorem pg_pair {x y : Str} {p1 p2 p3 : Pos} {k : Nat} (hc : X.calm = true) (S : LnScope X [x, y] Ns sc) : ∀ C fp s0 H0, PG (cxLN X [x, y] Ns sc C fp s0 H0) (.Tuple [.Name x p1, .Name y p2] k p3) (gTup X.K 2 (gCons (gName 0) (gCons (gName 1) gNil))) := fun C fp s0 H0 => by
  have lx : (relabel sc X.env).names.lookup x = some .local := lookup_relabel_local (S.loc x (by simp))
  have ly : (relabel sc X.env).names.lookup y = some .local := lookup_relabel_local (S.loc y (by simp))
  exact pg_tup (X := cxLN X [x, y] Ns sc C fp s0 H0) hc (pgs_cons (pg_name (i := 0) S.all rfl (.inl lx) (.inr lx)) (pgs_cons (pg_name (i := 1) S.all rfl (.inl ly) (.inr ly)) pgs_nil))
/-- the target a -/
theorem pg_one {x : Str} {p1 : Pos} (S : LnScope X [x] Ns sc) : ∀ C fp s0 H0, PG (cxLN X [x] Ns sc C fp s0 H0) (.Name x p1) (gName 0) := fun C fp s0 H0 => by
  have lx : (relabel sc X.env).names.lookup x = some .local := lookup_relabel_local (S.loc x (by simp))
  exact pg_name (X := cxLN X [x] Ns sc C fp s0 H0) (i := 0) S.all rfl (.inl lx) (.inr lx)
end
theorem lcN_go {tc : TT} {te : TE} {g : TG} {k : Nat} {σ : St} {J : It} {D : Addr} {Fin : Hp → Prop} {H : Hp} {n : Nat} (Pv : Nat → List V → Hp → Prop) (h0 : Pv 0 [] (upd H D (.lst [])))
    (hD : ∀ i ys H, Pv i ys H → H D = some (.lst ys)) (hend : ∀ ys H, Pv n ys H → J.stop n H ∧ Fin H)
    (hgo : ∀ i ys H, i < n → Pv i ys H → J.go i H ∧ ∀ x H' (u : St), u.length = k → J.yld i H x H' → g x (u ++ σ) H' fun σ2 H2 => (∃ u2 : St, u2.length = k ∧ σ2 = u2 ++ σ) ∧ tc σ2 H2 fun b H3 => if b = true then te σ2 H3 (LcNx n i D ys Pv) else LcNo n i ys Pv H3) : lcGoN k g tc te σ J D Fin H := by
  refine ⟨fun i m ys H => m = n - i ∧ i ≤ n ∧ Pv i ys H, ⟨n, rfl, Nat.zero_le _, h0⟩, ?_⟩
  rintro i m ys H ⟨rfl, hi, p⟩
  refine ⟨hD i ys H p, ?_⟩
  by_cases hlt : i < n
  · exact .inr (hgo i ys H hlt p)
  · have e : i = n := by omega
    subst e
    exact .inl (hend ys H p)
theorem lcN_list {K : PySem.W.Frag} {a : Addr} {xs : List V} {tc : TT} {te : TE} {g : TG} {k : Nat} {σ : St} {D : Addr} {Fin : Hp → Prop} {H : Hp} (Pv : Nat → List V → Hp → Prop) (h0 : Pv 0 [] (upd H D (.lst [])))
    (hD : ∀ i ys H, Pv i ys H → H D = some (.lst ys) ∧ SqL K H a xs) (hend : ∀ ys H, Pv xs.length ys H → Fin H)
    (hgo : ∀ i x ys H (u : St), u.length = k → i < xs.length → xs[i]? = some x → Pv i ys H → g x (u ++ σ) H fun σ2 H2 => (∃ u2 : St, u2.length = k ∧ σ2 = u2 ++ σ) ∧ tc σ2 H2 fun b H3 => if b = true then te σ2 H3 (LcNx xs.length i D ys Pv) else LcNo xs.length i ys Pv H3) : lcGoN k g tc te σ (Itl K a) D Fin H := by
  refine lcN_go Pv h0 (fun i ys H p => (hD i ys H p).1) (fun ys H p => ⟨⟨xs, (hD _ _ _ p).2, Nat.le_refl _⟩, hend ys H p⟩) fun i ys H hi p => ?_
  refine ⟨⟨xs, xs[i], (hD _ _ _ p).2, List.getElem?_eq_getElem hi⟩, fun x H' u hu y => ?_⟩
  obtain ⟨e, y⟩ := y
  subst e
  exact hgo i x ys _ u hu hi (y xs (hD _ _ _ p).2) p
theorem len2 {α : Type} : ∀ {u : List α}, u.length = 2 → ∃ a b, u = [a, b]
  | [a, b], _ => ⟨a, b, rfl⟩
theorem lcN_range {lo : Int} {n : Nat} {tc : TT} {te : TE} {g : TG} {k : Nat} {σ : St} {D : Addr} {Fin : Hp → Prop} {H : Hp} (Pv : Nat → List V → Hp → Prop) (h0 : Pv 0 [] (upd H D (.lst [])))
    (hD : ∀ i ys H, Pv i ys H → H D = some (.lst ys)) (hend : ∀ ys H, Pv n ys H → Fin H)
    (hgo : ∀ i ys H (u : St), u.length = k → i < n → Pv i ys H → g (.int (lo + i)) (u ++ σ) H fun σ2 H2 => (∃ u2 : St, u2.length = k ∧ σ2 = u2 ++ σ) ∧ tc σ2 H2 fun b H3 => if b = true then te σ2 H3 (LcNx n i D ys Pv) else LcNo n i ys Pv H3) : lcGoN k g tc te σ (Itr lo n) D Fin H := by
  refine lcN_go Pv h0 hD (fun ys H p => ⟨Nat.le_refl _, hend ys H p⟩) fun i ys H hi p => ?_
  refine ⟨hi, fun x H' u hu y => ?_⟩
  obtain ⟨e, y⟩ := y
  subst e y
  exact hgo i ys _ u hu hi p
theorem len1 {α : Type} : ∀ {u : List α}, u.length = 1 → ∃ a, u = [a]
  | [a], _ => ⟨a, rfl⟩
theorem sub_of {N Ns : List Str} {sc : Scope} (h : (Ns.zip N).all (fun p => decide (p.1 = p.2) || !(sc.names.lookup p.1 == some NameKind.free)) = true) (hl : Ns.length = N.length) : ∀ (i : Nat) (y : Str), Ns[i]? = some y → sc.names.lookup y = some .free → N[i]? = some y := fun i y e f => by
  have hi : i < Ns.length := (List.getElem?_eq_some_iff.mp e).1
  have hN : N[i]? = some (N[i]'(by omega)) := List.getElem?_eq_getElem (by omega)
  have hm : (y, N[i]'(by omega)) ∈ Ns.zip N := by
    refine List.mem_of_getElem? (i := i) ?_
    rw [List.getElem?_zip_eq_some]
    exact ⟨e, hN⟩
  have := List.all_eq_true.mp h _ hm
  dsimp only at this
  rw [f] at this
  have z : y = N[i]'(by omega) := by simpa using this
  rw [hN, ← z]
theorem lnS {X : Cx} {xs : List Str} (Ns : List Str) {sc scp : Scope} {N ps : List Str} (S : FnScope N ps scp) (hN : X.N = N := by rfl) (hs : X.env.scope = scp := by rfl) (h1 : sc.kind = .function := by rfl) (h2 : ∀ p ∈ sc.names, p.2 ≠ .cell := by decide +kernel) (h3 : ∀ x ∈ xs, sc.names.lookup x = some .local := by decide +kernel)
    (h4 : ∀ p ∈ sc.names, p.2 = .local → sc.names.lookup p.1 = some .local := by decide +kernel) (h5 : ∀ y ∈ Ns, sc.names.lookup y ≠ some .local := by decide +kernel) (h6 : (Ns.zip N).all (fun p => decide (p.1 = p.2) || !(sc.names.lookup p.1 == some NameKind.free)) = true := by decide +kernel) (hl : Ns.length = N.length := by rfl) (hall : (xs ++ Ns).Nodup := by decide +kernel)
    (h7 : ∀ p ∈ sc.names, p.2 = .free → scp.names.lookup p.1 = some .cell ∨ scp.names.lookup p.1 = some .free := by decide +kernel) : LnScope X xs Ns sc :=
  ⟨h1, h2, h3, h4, h5, by rw [hN]; exact sub_of h6 hl, by rw [hN]; exact hl, hall, fun p hp e => by
    show X.env.scope.names.lookup p.1 = _ ∨ X.env.scope.names.lookup p.1 = _
    rw [hs]
    exact h7 p hp e⟩
end L2
set_option Elab.async false
set_option linter.all false
set_option maxRecDepth 100000
namespace HT
open PySem PyProof.Rows
section
variable {prog : Program} {w : World} {A : Around} {E : Value → Shared → Prop} {s : Shared}
theorem getItem_tuple_whole {t sl : Addr} {items : Array Value} {vl vu : Value} {lo hi : Option Int} {Q : Value → Shared → Prop} (ht : IsTup s.heap t items) (hs : s.heap.IsSliceOf sl vl vu .none) (pl : IsPart vl lo) (pu : IsPart vu hi)
    (hw : sIx items.size 0 lo = 0 ∧ sIx items.size items.size hi = items.size)
    (h : Q (.ref t) s) : wpAny (model prog w) A (getItem (.ref t) (.ref sl)) Q E s := by
  obtain ⟨os, hos, hcs, hds⟩ := id hs
  have hTs : s.TypeIs (.ref sl) "slice" := ⟨os, hos, hcs⟩
  unfold getItem
  try with_reducible refine wpAny_holding ?_
  first | refine wpAny_bind (wpAny_pure ?_) | skip
  refine wpAny_bind (wpAny_sequenceKey ht.typeIs (by decide) ?_)
  refine wpAny_bind (wpAny_callSpecial?_slot (name := Str.ofString "__getitem__") ht.typeIs PyProof.Rows.slot_tuple_getitem
    (wpAny_call_entry PyProof.Rows.slot_tuple_getitem ht.typeIs entry_tuple_getitem ?_ (args_tuple_getitem _ _)))
  show wpAny _ _ (Builtin.Tuple.tupleItemsOf (.ref t) >>= _) _ _ s
  refine wpAny_bind (tupleItemsOf_ ht ?_)
  refine wpAny_bind (wpAny_typeOf hTs ?_)
  rw [if_pos (by decide)]
  refine wpAny_bind (sliceApplied_gen hs pl pu ?_)
  have hyes : (((sIx items.size 0 lo : Nat) : Int) == 0 && (1 : Int) == 1 && (sIx items.size items.size hi - sIx items.size 0 lo) == items.size) = true := by
    rw [hw.1, hw.2]
    simp
  show wpAny _ _ (if (((sIx items.size 0 lo : Nat) : Int) == 0 && (1 : Int) == 1 && (sIx items.size items.size hi - sIx items.size 0 lo) == items.size) = true then _ else _) _ _ s
  rw [if_pos hyes]
  wp_walk
  obtain ⟨ot, hot, hct, _⟩ := id ht
  refine wpAny_loadPart hot (wpAny_pure (wpAny_pure ?_))
  rw [hct, if_pos (by decide)]
  exact wpAny_bind (wpAny_rule (wpAny_pure ⟨_, rfl, wpAny_pure h⟩))
end
end HT
namespace L2
open PySem PySem.Spec PyProof.Rows
section
variable {X : Cx} {e : Expr} {te : TE} {pos p2 : Pos}
/-- t[lo:hi], the whole of it -/
def rSlW (K : PySem.W.Frag) : V → Option Int → Option Int → Hp → VK → Prop := fun x lo hi H Q => ∃ a xs, x = .ref a ∧ SqT K H a xs ∧
  (HT.sIx xs.length 0 lo = 0 ∧ HT.sIx xs.length xs.length hi = xs.length) ∧ Q (.ref a) H
theorem sl_tupW : SlR X (rSlW X.K) := by
  intro pins s σ H x v vl vu lo hi sl Q I rx hs pl pu h
  obtain ⟨a, xs, rfl, hx, hw, q⟩ := h
  cases rx
  obtain ⟨its, r, ht, hz⟩ := I.tuple hx
  have hlen : its.toArray.size = xs.length := by rw [List.size_toArray]; exact r.length.symm
  refine ⟨"tuple", _, PyProof.Rows.slot_tuple_getitem.lookup, ht.typeIs, ?_⟩
  exact HT.getItem_tuple_whole ht hs pl pu (by rw [hlen]; exact hw) ⟨.ref a, H, I, rfl, q⟩
theorem sl_tupA : SlR X (fun x lo hi H Q => ∃ a xs, x = .ref a ∧ SqT X.K H a xs ∧ ((HT.sIx xs.length 0 lo = 0 ∧ HT.sIx xs.length xs.length hi = xs.length) → Q (.ref a) H) ∧ ∀ p, H p = none → Q (.ref p) (upd H p (.tup (cutV xs lo hi)))) := by
  intro pins s σ H x v vl vu lo hi sl Q I rx hs pl pu h
  obtain ⟨a, xs, ex, hx, q1, q2⟩ := h
  by_cases hw : HT.sIx xs.length 0 lo = 0 ∧ HT.sIx xs.length xs.length hi = xs.length
  · exact sl_tupW pins s σ H x v vl vu lo hi sl Q I rx hs pl pu ⟨a, xs, ex, hx, hw, q1 hw⟩
  · exact sl_tup pins s σ H x v vl vu lo hi sl Q I rx hs pl pu ⟨a, xs, ex, hx, hw, q2⟩
end
end L2
set_option Elab.async false
set_option linter.all false
set_option maxRecDepth 100000
/-! The rules once more, with K named: a reading then does not bear the whole context. -/
namespace L2
open PySem PySem.Spec PyProof.Rows
section
variable {X : Cx} {tg : Expr}
theorem pi_listK (K : PySem.W.Frag) {l : Expr} {tl : TE} (hl : PE X l tl) (e : X.K = K := by rfl) : PI X tg l (iList K tl) := by subst e; exact pi_list hl
inductive cLen (K : PySem.W.Frag) (xs : List V) (H : Hp) (Q : VK) : Prop
  | mk (p : Addr) (ys : List V) (e : xs = [.ref p]) (h : SqL K H p ys ∨ SqT K H p ys) (q : Q (.int ys.length) H) : cLen K xs H Q
theorem call_lenK (K : PySem.W.Frag) (e : X.K = K := by rfl) : CallR X (.builtin "len") (cLen K) := by
  subst e
  intro pins s σ H xs us Q I r h
  obtain ⟨p, ys, e, h, q⟩ := h
  exact call_len_seq pins s σ H xs us Q I r ⟨p, ys, e, h, q⟩
theorem call_list_ofK (K : PySem.W.Frag) (e : X.K = K := by rfl) : CallR X (.type "list") (fun xs H Q => ∃ p ys, xs = [.ref p] ∧ (SqL K H p ys ∨ SqT K H p ys) ∧ ∀ l, H l = none → Q (.ref l) (upd H l (.lst ys))) := by subst e; exact call_list_of
theorem pe_fldK (K : PySem.W.Frag) {e : Expr} {f : Str} {ta : TE} {pos : Pos} (he : PE X e ta) (hb : attributeBase e f X.env (eval e X.env) = eval e X.env) (ek : X.K = K := by rfl) : PE X (.Attribute e f pos) (tFld K ta f) := by subst ek; exact pe_fld he hb
theorem pe_bmK (K : PySem.W.Frag) {o e : Expr} {es : List Expr} {to : TE} {t : TA} {name : Str} {apos cpos : Pos} {T id : String} {r : V → List V → Hp → VK → Prop} (pa : PlainAttrs T) (slot : Slot T name id) (hty : typeOf (.builtin id) = pure (.type "method_descriptor")) (hm : MtR X id r) (ho : PE X o to) (ha : PA X (e :: es) t)
    (hbase : attributeBase o name X.env (eval o X.env) = eval o X.env := by rfl)
    (hfew : ((backTo cpos (starEach (e :: es) X.env)).all (fun x => !x.1) && (backToKw cpos (keywordEach [] X.env)).all (fun x => x.1.isSome) && decide ((e :: es).length + ([] : List Keyword).length + (if ([] : List Keyword).isEmpty then 0 else 1) < 30)) = true := by rfl)
    (hline : (apos.endLine == cpos.line) = true := by rfl) (hs : starEach (e :: es) X.env = (false, eval e X.env) :: starEach es X.env := by rfl) (hplain : (backTo cpos (starEach es X.env)).any (·.1) = false := by rfl) (ek : X.K = K := by rfl) :
    PE X (.Call (.Attribute o name apos) (e :: es) [] cpos) (tBM K T r to t) := by subst ek; exact pe_bm pa slot hty hm ho ha hbase hfew hline hs hplain
end
end L2
set_option Elab.async false
set_option linter.all false
set_option maxRecDepth 100000
/-! enumerate of a list, walked by a for or a comprehension with a pair of names. -/
namespace L2
open PySem PySem.Spec PyProof.Rows
section
variable {X : Cx} {pins : List (Addr × Obj)} {σ : St} {H : Hp} {s : Shared}
end
section
variable {X : Cx}
end
end L2
set_option Elab.async false
set_option linter.all false
set_option maxRecDepth 100000
/-! zip(l1, l2) -/
namespace L2
open PySem PySem.Spec PyProof.Rows
section
variable {X : Cx} {pins : List (Addr × Obj)} {σ : St} {H : Hp} {s : Shared}
end
section
variable {X : Cx}
end
end L2
set_option Elab.async false
set_option linter.all false
set_option maxRecDepth 100000
namespace Pr
open PySem L2 PyProof.Rows
/-- a list or a tuple of ours -/
def Sq (H : Hp) (a : Addr) (xs : List V) : Prop := H a = some (.lst xs) ∨ H a = some (.tup xs)
theorem Sq.same {H H' : Hp} {a : Addr} {xs : List V} (h : Sq H a xs) (s : Same H H') : Sq H' a xs := by
  rcases h with h | h
  · exact .inl (s _ _ h)
  · exact .inr (s _ _ h)
theorem Sq.or {K : PySem.W.Frag} {H : Hp} {a : Addr} {xs : List V} (h : Sq H a xs) : SqL K H a xs ∨ SqT K H a xs := by
  rcases h with h | h
  · exact .inl (.of h)
  · exact .inr (.of h)
theorem two_line : 2 ≤ sizeLine := by decide
theorem three_line : 3 ≤ sizeLine := by decide
theorem cut_take (xs : List V) {k : Int} (h : 0 ≤ k) : cutV xs none (some k) = xs.take k.toNat := by
  unfold cutV
  obtain ⟨n, rfl⟩ : ∃ n : Nat, k = n := ⟨k.toNat, by omega⟩
  rw [HT.sIx_none, HT.sIx_nat, List.drop_zero, Nat.sub_zero, Int.toNat_natCast, List.take_eq_take_iff]
  omega
theorem iteB {c : Bool} {A B : Prop} (h1 : c = true → A) (h2 : c = false → B) : if c = true then A else B := by
  cases c with
  | true => rw [if_pos rfl]; exact h1 rfl
  | false => rw [if_neg Bool.false_ne_true]; exact h2 rfl
section
variable {P : Program} {w : World} {K : PySem.W.Frag} {mg : Str → Option Value} {base : Heap} {C : Addr}
/-! ### checks -/
theorem kit_int (K : PySem.W.Frag) : PySem.W.kitOne K (.type "int") (.type "int") = some true := by rfl
theorem kit_int_bool (K : PySem.W.Frag) : PySem.W.kitOne K (.type "int") (.type "bool") = some false := by rfl
theorem kit_lst (K : PySem.W.Frag) : PySem.W.kitAny K (.type "list") [.type "list", .type "tuple"] = some true := by rfl
theorem kit_tup (K : PySem.W.Frag) : PySem.W.kitAny K (.type "tuple") [.type "list", .type "tuple"] = some true := by rfl
/-- is_whole(an int) -/
inductive sp_is_whole (vs : List V) (H : Hp) (Q : VK) (E : XK) : Prop
  | mk (i : Int) (h0_ : vs = [.int i]) (h1_ : Q (.bl true) H) : sp_is_whole vs H Q E
theorem sc_is_whole : FnScope ["value"] ["value"] (defScope s_is_whole) := ⟨rfl, rfl, rfl, by decide +kernel, rfl, by decide +kernel, by decide +kernel⟩
theorem is_whole (T : Txt K mg C) : Can P w K mg base 1 "is_whole" ["value"] sp_is_whole := by
  refine fn_can T.f_is_whole sc_is_whole (fun vs H Q E h => ?_) (fun f cdv A outer s H vs Q E hr h => ?_)
  · obtain ⟨i, rfl, _⟩ := h
    rfl
  · obtain ⟨i, rfl, k⟩ := h
    refine ⟨_, pss_one (ps_ret (pe_and (pe_b call_isi1 T.b_isinstance boot_isinstance (pa2 (pv 0) (pe_ty rfl T.b_int boot_int))) (pe_one (pe_not (pe_b call_isi1 T.b_isinstance boot_isinstance (pa2 (pv 0) (pe_ty rfl T.b_bool boot_bool))))))), ?_⟩
    refine ⟨_, rfl, _, _, _, _, rfl, .int i, kit_int _, _, rfl, iteT ?_⟩
    exact ⟨_, rfl, _, _, _, _, rfl, .int i, kit_int_bool _, _, rfl, k⟩
/-- is_whole_from(ints) -/
inductive sp_is_whole_from (vs : List V) (H : Hp) (Q : VK) (E : XK) : Prop
  | mk (i : Int) (a : Int) (b : Int) (h0_ : vs = [.int i, .int a, .int b]) (h1_ : Q (.bl (decide (a ≤ i) && decide (i ≤ b))) H) : sp_is_whole_from vs H Q E
theorem sc_is_whole_from : FnScope ["value", "least", "greatest"] ["value", "least", "greatest"] (defScope s_is_whole_from) := ⟨rfl, rfl, rfl, by decide +kernel, rfl, by decide +kernel, by decide +kernel⟩
theorem is_whole_from (T : Txt K mg C) : Can P w K mg base 2 "is_whole_from" ["value", "least", "greatest"] sp_is_whole_from := by
  refine fn_can T.f_is_whole_from sc_is_whole_from (fun vs H Q E h => ?_) (fun f cdv A outer s H vs Q E hr h => ?_)
  · obtain ⟨i, a, b, rfl, _⟩ := h
    rfl
  · obtain ⟨i, a, b, rfl, k⟩ := h
    refine ⟨_, pss_one (ps_ret (pe_and (pe_can (is_whole T) hr (pa1 (pv 0))) (pe_one (pe_chain op_le op_le (pv 1) (pv 0) (pv 2))))), ?_⟩
    refine ⟨_, rfl, i, rfl, _, rfl, iteT ?_⟩
    refine ⟨_, rfl, _, rfl, _, _, rfl, rfl, _, rfl, ?_⟩
    refine iteB (fun h => ?_) (fun h => ?_)
    · rw [h, Bool.true_and] at k
      exact ⟨_, rfl, _, _, rfl, rfl, k⟩
    · rw [h, Bool.false_and] at k
      exact k
/-- is_wide(an int) -/
abbrev W30 : Int := 1000000000000000000000000000000
abbrev W40 : Int := 10000000000000000000000000000000000000000
inductive sp_is_wide (vs : List V) (H : Hp) (Q : VK) (E : XK) : Prop
  | mk (i : Int) (h0_ : vs = [.int i]) (h1_ : Q (.bl (decide (-W30 < i) && decide (i < W30))) H) : sp_is_wide vs H Q E
theorem sc_is_wide : FnScope ["value"] ["value"] (defScope s_is_wide) := ⟨rfl, rfl, rfl, by decide +kernel, rfl, by decide +kernel, by decide +kernel⟩
theorem is_wide (T : Txt K mg C) : Can P w K mg base 2 "is_wide" ["value"] sp_is_wide := by
  refine fn_can T.f_is_wide sc_is_wide (fun vs H Q E h => ?_) (fun f cdv A outer s H vs Q E hr h => ?_)
  · obtain ⟨i, rfl, _⟩ := h
    rfl
  · obtain ⟨i, rfl, k⟩ := h
    refine ⟨_, pss_one (ps_ret (pe_and (pe_can (is_whole T) hr (pa1 (pv 0))) (pe_one (pe_chain op_lt op_lt (pe_un un_neg (pe_gi T.c_WIDE_END)) (pv 0) (pe_gi T.c_WIDE_END))))), ?_⟩
    refine ⟨_, rfl, i, rfl, _, rfl, iteT ?_⟩
    refine ⟨_, rfl, _, rfl, _, _, rfl, rfl, _, rfl, ?_⟩
    refine iteB (fun h => ?_) (fun h => ?_)
    · rw [h, Bool.true_and] at k
      exact ⟨_, _, rfl, rfl, k⟩
    · rw [h, Bool.false_and] at k
      exact k
/-- is_list(a list, a tuple) -/
inductive sp_is_list (vs : List V) (H : Hp) (Q : VK) (E : XK) : Prop
  | mk (a : Addr) (xs : List V) (h0_ : vs = [.ref a]) (h1_ : Sq H a xs) (h2_ : ∀ H', Same H H' → Q (.bl true) H') : sp_is_list vs H Q E
theorem sc_is_list : FnScope ["value"] ["value"] (defScope s_is_list) := ⟨rfl, rfl, rfl, by decide +kernel, rfl, by decide +kernel, by decide +kernel⟩
theorem is_list (T : Txt K mg C) : Can P w K mg base 1 "is_list" ["value"] sp_is_list := by
  refine fn_can T.f_is_list sc_is_list (fun vs H Q E h => ?_) (fun f cdv A outer s H vs Q E hr h => ?_)
  · obtain ⟨a, xs, rfl, _⟩ := h
    rfl
  · obtain ⟨a, xs, rfl, hq, k⟩ := h
    refine ⟨_, pss_one (ps_ret (pe_b call_isi2 T.b_isinstance boot_isinstance (pa2 (pv 0) (pe_tup (pa2 (pe_ty rfl T.b_list boot_list) (pe_ty rfl T.b_tuple boot_tuple)))))), ?_⟩
    refine ⟨_, rfl, two_line, fun p hp => ?_⟩
    have s1 : ∀ o, Same H (upd H p o) := fun o => Same.upd hp
    rcases hq.same (s1 _) with hq | hq
    · exact ⟨_, _, p, _, _, _, rfl, .of upd_same, .lst hq, kit_lst _, k _ (s1 _)⟩
    · exact ⟨_, _, p, _, _, _, rfl, .of upd_same, .tup hq, kit_tup _, k _ (s1 _)⟩
/-- is_list_from(a list, a tuple; ints) -/
inductive sp_is_list_from (vs : List V) (H : Hp) (Q : VK) (E : XK) : Prop
  | mk (a : Addr) (xs : List V) (lo : Int) (hi : Int) (h0_ : vs = [.ref a, .int lo, .int hi]) (h1_ : Sq H a xs) (h2_ : ∀ H', Same H H' → Q (.bl (decide (lo ≤ (xs.length : Int)) && decide ((xs.length : Int) ≤ hi))) H') : sp_is_list_from vs H Q E
theorem sc_is_list_from : FnScope ["value", "fewest", "most"] ["value", "fewest", "most"] (defScope s_is_list_from) := ⟨rfl, rfl, rfl, by decide +kernel, rfl, by decide +kernel, by decide +kernel⟩
theorem is_list_from (T : Txt K mg C) : Can P w K mg base 2 "is_list_from" ["value", "fewest", "most"] sp_is_list_from := by
  refine fn_can T.f_is_list_from sc_is_list_from (fun vs H Q E h => ?_) (fun f cdv A outer s H vs Q E hr h => ?_)
  · obtain ⟨a, xs, lo, hi, rfl, _⟩ := h
    rfl
  · obtain ⟨a, xs, lo, hi, rfl, hq, k⟩ := h
    refine ⟨_, pss_one (ps_ret (pe_and (pe_can (is_list T) hr (pa1 (pv 0))) (pe_one (pe_chain op_le op_le (pv 1) (pe_b call_len_seq T.b_len boot_len (pa1 (pv 0))) (pv 2))))), ?_⟩
    refine ⟨_, rfl, a, xs, rfl, hq, fun H1 s1 => ⟨_, rfl, iteT ?_⟩⟩
    refine ⟨_, rfl, _, rfl, a, xs, rfl, (hq.same s1).or, _, _, rfl, rfl, _, rfl, ?_⟩
    have k1 := k H1 s1
    refine iteB (fun h => ?_) (fun h => ?_)
    · rw [h, Bool.true_and] at k1
      exact ⟨_, rfl, _, _, rfl, rfl, k1⟩
    · rw [h, Bool.false_and] at k1
      exact k1
/-- need_roll, need_number where there is nothing to refuse -/
inductive sp_need_roll (vs : List V) (H : Hp) (Q : VK) (E : XK) : Prop
  | mk (i : Int) (a : Int) (b : Int) (h0_ : vs = [.int i, .int a, .int b]) (h1_ : a ≤ i) (h2_ : i ≤ b) (h3_ : Q .non H) : sp_need_roll vs H Q E
theorem sc_need_roll : FnScope ["value", "least", "greatest"] ["value", "least", "greatest"] (defScope s_need_roll) := ⟨rfl, rfl, rfl, by decide +kernel, rfl, by decide +kernel, by decide +kernel⟩
theorem need_roll (T : Txt K mg C) : Can P w K mg base 3 "need_roll" ["value", "least", "greatest"] sp_need_roll := by
  refine fn_can T.f_need_roll sc_need_roll (fun vs H Q E h => ?_) (fun f cdv A outer s H vs Q E hr h => ?_)
  · obtain ⟨i, a, b, rfl, _⟩ := h
    rfl
  · obtain ⟨i, a, b, rfl, h1, h2, k⟩ := h
    refine ⟨_, pss_one (ps_if (pt_not (pt_val (pe_can (is_whole_from T) hr (pa3 (pv 0) (pv 1) (pv 2))))) pss_never pss_nil), ?_⟩
    refine ⟨_, rfl, _, rfl, _, rfl, i, a, b, rfl, _, rfl, ?_⟩
    rw [decide_eq_true h1, decide_eq_true h2]
    exact iteF k
inductive sp_need_number (vs : List V) (H : Hp) (Q : VK) (E : XK) : Prop
  | mk (i : Int) (h0_ : vs = [.int i]) (h1_ : -W40 < i) (h2_ : i < W40) (h3_ : Q .non H) : sp_need_number vs H Q E
theorem sc_need_number : FnScope ["value"] ["value"] (defScope s_need_number) := ⟨rfl, rfl, rfl, by decide +kernel, rfl, by decide +kernel, by decide +kernel⟩
theorem need_number (T : Txt K mg C) : Can P w K mg base 2 "need_number" ["value"] sp_need_number := by
  refine fn_can T.f_need_number sc_need_number (fun vs H Q E h => ?_) (fun f cdv A outer s H vs Q E hr h => ?_)
  · obtain ⟨i, rfl, _⟩ := h
    rfl
  · obtain ⟨i, rfl, h1, h2, k⟩ := h
    refine ⟨_, pss_one (ps_if (pw_or (pt_not (pt_val (pe_can (is_whole T) hr (pa1 (pv 0))))) (pw_or1 (pt_not (pt_chain op_lt op_lt (pe_un un_neg (pe_gi T.c_NUMBER_END)) (pv 0) (pe_gi T.c_NUMBER_END))))).pt pss_never pss_nil), ?_⟩
    refine ⟨_, rfl, i, rfl, _, rfl, iteF ?_⟩
    refine ⟨_, rfl, _, rfl, _, _, rfl, rfl, _, rfl, ?_⟩
    rw [decide_eq_true h1]
    refine iteT ⟨_, _, rfl, rfl, _, rfl, ?_⟩
    rw [decide_eq_true h2]
    exact iteF k
/-! ### rounds -/
/-- sizes that are reckoned with: good, few, not too large -/
structure SzOk (S : List Int) : Prop where
  g : Lad.Good S
  n : S.length ≤ 1000
  s : S.sum < 2 ^ 60
theorem atI_ints {S : List Int} {i : Int} (h0 : 0 ≤ i) (h1 : i < (S.length : Int)) : atI (S.map V.int) i = some (.int (S.getD i.toNat 0)) := by
  obtain ⟨n, rfl⟩ : ∃ n : Nat, i = n := ⟨i.toNat, by omega⟩
  refine atI_nat ?_
  rw [Int.toNat_natCast, List.getElem?_map, List.getElem?_eq_getElem (by omega), List.getD_eq_getElem?_getD, List.getElem?_eq_getElem (by omega)]
  rfl
inductive sp_number_of (vs : List V) (H : Hp) (Q : VK) (E : XK) : Prop
  | mk (b : Int) (a : Addr) (S : List Int) (p : Int) (h0_ : vs = [.int b, .ref a, .int p]) (h1_ : H a = some (.tup (S.map V.int))) (h2_ : SzOk S) (h3_ : ∀ H', Same H H' → Q (.int (Lad.num b S p)) H') : sp_number_of vs H Q E
theorem sc_number_of : FnScope ["begin", "sizes", "place", "turns", "rest", "at"] ["begin", "sizes", "place"] (defScope s_number_of) := ⟨rfl, rfl, rfl, by decide +kernel, rfl, by decide +kernel, by decide +kernel⟩
/-- one step of the walk -/
theorem walk_step (S : List Int) : ∀ (n : Nat) (x : Int), n < S.length → S.getD n 0 ≤ x → Lad.walk (S.drop n) x = Lad.walk (S.drop (n + 1)) (x - S.getD n 0) + 1 := by
  intro n x hn h
  rw [List.drop_eq_getElem_cons hn]
  have e : S.getD n 0 = S[n] := by rw [List.getD_eq_getElem?_getD, List.getElem?_eq_getElem hn]; rfl
  rw [e] at h ⊢
  show (if x < S[n] then 0 else _) = _
  rw [if_neg (by omega)]
theorem walk_stop (S : List Int) {n : Nat} {x : Int} (hn : n < S.length) (h : x < S.getD n 0) : Lad.walk (S.drop n) x = 0 := by
  rw [List.drop_eq_getElem_cons hn]
  have e : S.getD n 0 = S[n] := by rw [List.getD_eq_getElem?_getD, List.getElem?_eq_getElem hn]; rfl
  rw [e] at h
  show (if x < S[n] then 0 else _) = _
  rw [if_pos h]
theorem sum_drop (S : List Int) (n : Nat) (hn : n < S.length) : (S.drop n).sum = S.getD n 0 + (S.drop (n + 1)).sum := by
  rw [List.drop_eq_getElem_cons hn, List.sum_cons, List.getD_eq_getElem?_getD, List.getElem?_eq_getElem hn]
  rfl
theorem number_of (T : Txt K mg C) : Can P w K mg base 1 "number_of" ["begin", "sizes", "place"] sp_number_of := by
  refine fn_can T.f_number_of sc_number_of (fun vs H Q E h => ?_) (fun f cdv A outer s H vs Q E hr h => ?_)
  · obtain ⟨b, a, S, p, rfl, _⟩ := h
    rfl
  · obtain ⟨b, a, S, p, rfl, ha, ⟨g, hn, hs⟩, q⟩ := h
    refine ⟨_, pss_cons (ps_asg (pe_b call_divmodB T.b_divmod boot_divmod (pa2 (pe_op op_sub (pv 2) (pv 0)) (pe_b (call_sum_seq rfl) T.b_sum boot_sum (pa1 (pv 1))))) (pg_tup rfl (pgs_cons (pg_name (i := 3) sc_number_of.nd rfl (Or.inl rfl)) (pgs_cons (pg_name (i := 4) sc_number_of.nd rfl (Or.inl rfl)) pgs_nil))))
      (pss_cons (ps_set (i := 5) sc_number_of.nd rfl (Or.inl rfl) pe_int)
      (pss_cons (ps_while PassesOwn.never (pt_cmpR op_ge (pv 4) (pe_ix ix_tup (pv 1) (pv 5) (fun _ _ => rfl)) (nomark _))
        (pss_cons (ps_aug (i := 4) sc_number_of.nd rfl (Or.inl rfl) (pe_ix ix_tup (pv 1) (pv 5) (fun _ _ => rfl)) ip_sub)
          (pss_one (ps_aug (i := 5) sc_number_of.nd rfl (Or.inl rfl) pe_int ip_add))))
      (pss_one (ps_ret (pe_op op_add (pe_op op_mul (pv 3) (pe_b call_len_seq T.b_len boot_len (pa1 (pv 1)))) (pv 5)))))), ?_⟩
    have h1 := g.len
    have h2 := g.sum
    have hl : (((S.map V.int).length : Nat) : Int) = (S.length : Int) := by rw [List.length_map]
    refine ⟨_, rfl, _, rfl, _, _, rfl, rfl, _, rfl, a, S, rfl, .inr (.of ha), _, _, rfl, ⟨by omega, by omega⟩, fun p1 hp1 => ?_⟩
    have s1 : ∀ o, Same H (upd H p1 o) := fun o => Same.upd hp1
    refine ⟨p1, _, rfl, .of upd_same, rfl, _, _, rfl, _, _, rfl, rfl, ?_⟩
    have hr0 : 0 ≤ (p - b) % S.sum := Int.emod_nonneg _ (by omega)
    have hr1 : (p - b) % S.sum < S.sum := Int.emod_lt_of_pos _ (by omega)
    refine ⟨fun m σ H2 => ∃ (n : Nat) (x : Int), m = S.length - n ∧ n < S.length ∧ 0 ≤ x ∧ x < (S.drop n).sum ∧ Lad.walk S ((p - b) % S.sum) = n + Lad.walk (S.drop n) x ∧ Same H H2 ∧
      σ = [some (.int b), some (.ref a), some (.int p), some (.int ((p - b) / S.sum)), some (.int x), some (.int n)], ⟨_, 0, (p - b) % S.sum, rfl, by omega, hr0, by simpa using hr1, by simp, s1 _, rfl⟩, ?_⟩
    rintro m σ H2 ⟨n, x, rfl, hnl, hx0, hx1, hw, s2, rfl⟩
    refine ⟨_, rfl, _, rfl, _, rfl, a, _, _, _, rfl, rfl, .of (s2 _ _ ha), atI_ints (i := (n : Int)) (by omega) (by omega), _, _, rfl, rfl, _, rfl, ?_⟩
    rw [Int.toNat_natCast]
    have hd := sum_drop S n hnl
    have hpos := Lad.getD_pos g.2 hnl
    refine ite2 (fun hc => ?_) (fun hc => ?_)
    · have hc : S.getD n 0 ≤ x := of_decide_eq_true hc
      have hn1 : n + 1 < S.length := by
        rcases Nat.lt_or_ge (n + 1) S.length with z | z
        · exact z
        · rw [List.drop_eq_nil_of_le z, List.sum_nil] at hd
          omega
      refine ⟨fun σ' H' => ∃ (n' : Nat) (x' : Int), S.length - n' < S.length - n ∧ n' < S.length ∧ 0 ≤ x' ∧ x' < (S.drop n').sum ∧ Lad.walk S ((p - b) % S.sum) = n' + Lad.walk (S.drop n') x' ∧ Same H H' ∧
        σ' = [some (.int b), some (.ref a), some (.int p), some (.int ((p - b) / S.sum)), some (.int x'), some (.int n')], fun σ' H' ⟨n', x', l, r⟩ => ⟨_, l, n', x', rfl, r⟩, ?_⟩
      refine ⟨_, rfl, _, rfl, _, rfl, a, _, _, _, rfl, rfl, .of (s2 _ _ ha), atI_ints (i := (n : Int)) (by omega) (by omega), _, _, rfl, rfl, ?_⟩
      refine ⟨_, rfl, _, _, rfl, rfl, ?_⟩
      rw [Int.toNat_natCast]
      refine ⟨n + 1, x - S.getD n 0, by omega, hn1, by omega, by omega, ?_, s2, rfl⟩
      rw [hw, walk_step S n x hnl hc]
      omega
    · have hc : ¬ S.getD n 0 ≤ x := fun z => hc (decide_eq_true z)
      refine ⟨_, rfl, _, rfl, a, _, rfl, .inr (.of (s2 _ _ ha)), _, _, rfl, rfl, .inr ⟨by omega, by omega⟩, _, rfl, _, _, rfl, rfl, ?_⟩
      have e : (p - b) / S.sum * (((S.map V.int).length : Nat) : Int) + (n : Int) = Lad.num b S p := by
        unfold Lad.num
        rw [hw, walk_stop S hnl (by omega), hl]
        omega
      show Q (.int ((p - b) / S.sum * (((S.map V.int).length : Nat) : Int) + (n : Int))) H2
      rw [e]
      exact q _ s2
end
end Pr
set_option Elab.async false
set_option linter.all false
set_option maxRecDepth 100000
namespace L2
open PySem PySem.Spec PyProof.Rows
section
variable {X : Cx}
/-- o[i] of a list or a tuple -/
def rIxO : R2 := fun x y H Q => ∃ p o xs i v, x = .ref p ∧ y = .int i ∧ H p = some o ∧ Ob o xs ∧ atI xs i = some v ∧ Q v H
theorem ix_ob : IxR X rIxO := by
  intro value slice pins s σ H x y v u Q I rx ry h hs
  obtain ⟨p, o, xs, i, z, e1, e2, hp, ho, he, q⟩ := h
  exact ix_sq value slice pins s σ H x y v u Q I rx ry ⟨p, xs, i, z, e1, e2, ho.sq hp, he, q⟩ hs
/-- tuple(..) of a list or a tuple -/
theorem call_tup_ob : CallR X (.type "tuple") (fun xs H Q => ∃ a o ys, xs = [.ref a] ∧ H a = some o ∧ Ob o ys ∧ ∀ l H', Same H H' → H' l = some (.tup ys) → Q (.ref l) H') := by
  intro pins s σ H xs us Q I r h
  obtain ⟨a, o, ys, e1, ha, ho, q⟩ := h
  refine call_tuple_of pins s σ H xs us Q I r ⟨a, ys, e1, ?_⟩
  rcases ho with ho | ho
  · subst ho
    exact .inl ⟨.of ha, fun l hl => q l _ (Same.upd hl) upd_same⟩
  · subst ho
    exact .inr ⟨.of ha, q a H (Same.refl _) ha⟩
end
end L2
set_option Elab.async false
set_option linter.all false
set_option maxRecDepth 100000
namespace Pr
open PySem L2 PyProof.Rows
theorem _root_.L2.Ob.to {H : Hp} {a : Addr} {o : HO} {xs : List V} (h : Ob o xs) (e : H a = some o) : Sq H a xs := by
  rcases h with h | h
  · subst h; exact .inl e
  · subst h; exact .inr e
theorem _root_.L2.Ob.ne {H : Hp} {a p C dx : Addr} {o : HO} {xs : List V} {fs : List (Str × V)} (h : Ob o xs) (e : H a = some o) (hp : H p = some (.ins C dx fs)) : a ≠ p := by
  rcases h with h | h
  · subst h; exact ne_of e hp (by intro z; cases z)
  · subst h; exact ne_of e hp (by intro z; cases z)
def partB (i : Int) : Bool := (decide (-1000000000 ≤ i) && decide (i ≤ 1000000000)) && !decide (i = 0)
def sizeB (i : Int) : Bool := decide (1 ≤ i) && decide (i ≤ 1000)
def wideB (i : Int) : Bool := decide (-W30 < i) && decide (i < W30)
def lenB (lo hi : Int) (n : Nat) : Bool := decide (lo ≤ (n : Int)) && decide ((n : Int) ≤ hi)
def headB (ps : List Int) : Bool := decide (0 < ps.headD 0)
def partsB (ps : List Int) : Bool := lenB 1 12 ps.length && (ps.all partB && headB ps)
def sizesB (S : List Int) : Bool := lenB 1 12 S.length && S.all sizeB
def rowB (s : Lad.Step) : Bool := wideB s.1 && sizesB s.2
def rowsB (rows : List Lad.Step) : Bool := lenB 0 4 rows.length && rows.all rowB
section
variable {P : Program} {w : World} {K : PySem.W.Frag} {mg : Str → Option Value} {base : Heap} {C : Addr}
inductive sp_is_part (vs : List V) (H : Hp) (Q : VK) (E : XK) : Prop
  | mk (i : Int) (h0_ : vs = [.int i]) (h1_ : Q (.bl (partB i)) H) : sp_is_part vs H Q E
theorem sc_is_part : FnScope ["value"] ["value"] (defScope s_is_part) := ⟨rfl, rfl, rfl, by decide +kernel, rfl, by decide +kernel, by decide +kernel⟩
theorem is_part (T : Txt K mg C) : Can P w K mg base 3 "is_part" ["value"] sp_is_part := by
  refine fn_can T.f_is_part sc_is_part (fun vs H Q E h => ?_) (fun f cdv A outer s H vs Q E hr h => ?_)
  · obtain ⟨i, rfl, _⟩ := h
    rfl
  · obtain ⟨i, rfl, k⟩ := h
    refine ⟨_, pss_one (ps_ret (pe_and (pe_can (is_whole_from T) hr (pa3 (pv 0) (pe_un un_neg (pe_gi T.c_MOST_LENGTH)) (pe_gi T.c_MOST_LENGTH))) (pe_one (pe_cmpR op_ne (pv 0) pe_int (nomark _))))), ?_⟩
    refine ⟨_, rfl, _, rfl, _, _, _, rfl, _, rfl, ?_⟩
    have e : decide (V.int i = V.int 0) = decide (i = 0) := by rw [dec_int]; exact Bool.beq_eq_decide_eq i 0
    unfold partB at k
    refine iteB (fun h => ?_) (fun h => ?_)
    · have h' : (decide (-1000000000 ≤ i) && decide (i ≤ 1000000000)) = true := h
      rw [h', Bool.true_and, ← e] at k
      exact ⟨_, rfl, rfl, k⟩
    · have h' : (decide (-1000000000 ≤ i) && decide (i ≤ 1000000000)) = false := h
      rw [h', Bool.false_and] at k
      exact k
/-- all([f(x) for x in value]) over a list -/
theorem all_map (f : Int → Bool) (S : List Int) : ((S.map f).all id) = S.all f := by rw [List.all_map]; rfl
inductive sp_are_parts (vs : List V) (H : Hp) (Q : VK) (E : XK) : Prop
  | mk (a : Addr) (o : HO) (ps : List Int) (h0_ : vs = [.ref a]) (h1_ : H a = some o) (h2_ : Ob o (ps.map V.int)) (h3_ : ps.length ≤ 1000) (h4_ : ∀ H', Same H H' → Q (.bl (partsB ps)) H') : sp_are_parts vs H Q E
theorem sc_are_parts : FnScope ["value"] ["value"] (defScope s_are_parts) := ⟨rfl, rfl, rfl, by decide +kernel, rfl, by decide +kernel, by decide +kernel⟩
theorem int_of_map {S : List Int} {i : Nat} {x : V} (e : (S.map V.int)[i]? = some x) : ∃ n, S[i]? = some n ∧ x = .int n := by
  rw [List.getElem?_map] at e
  cases q : S[i]? with
  | none => rw [q] at e; cases e
  | some n => rw [q] at e; exact ⟨n, rfl, (Option.some.inj e).symm⟩
theorem take_map_snoc {α β : Type} {S : List α} {i : Nat} {n : α} (f : α → β) (e : S[i]? = some n) : (S.take i).map f ++ [f n] = (S.take (i + 1)).map f := by
  rw [List.take_add_one, e, List.map_append]
  rfl
theorem are_parts (T : Txt K mg C) : Can P w K mg base 4 "are_parts" ["value"] sp_are_parts := by
  refine fn_can T.f_are_parts sc_are_parts (fun vs H Q E h => ?_) (fun f cdv A outer s H vs Q E hr h => ?_)
  · obtain ⟨a, o, ps, rfl, _⟩ := h
    rfl
  · obtain ⟨a, o, ps, rfl, ha, ho, hlen, k⟩ := h
    refine ⟨_, pss_one (ps_ret (pe_and (pe_can (is_list_from T) hr (pa3 (pv 0) pe_int (pe_gi T.c_MOST_PARTS)))
      (pe_and (pe_b (call_all_seq rfl) T.b_all boot_all (pa1 (pe_lc rfl (lcS sc_are_parts) (pi_seq (pv 0)) (fun _ _ _ _ => pts_nil) (fun _ _ _ _ => pe_can (is_part T) hr (pa1 (pv 0))))))
      (pe_one (pe_cmpR op_gt (pe_ix ix_ob (pv 0) pe_int (fun _ _ => rfl)) pe_int (nomark _)))))), ?_⟩
    refine ⟨_, rfl, a, _, _, _, rfl, ho.to ha, fun H1 s1 => ⟨_, rfl, ?_⟩⟩
    have ha1 := s1 _ _ ha
    refine iteB (fun h => ?_) (fun h => ?_)
    · have h' : lenB 1 12 ps.length = true := by unfold lenB; rw [List.length_map] at h; exact h
      refine ⟨_, rfl, a, o, _, rfl, ha1, ho, fun J hJ D hD => ?_⟩
      refine lc_it hJ (fun i ys H2 => ys = ((ps.take i).map partB).map V.bl ∧ Same H1 H2 ∧ H2 D = some (.lst ys)) ⟨rfl, Same.upd hD, upd_same⟩ (fun i ys H2 ⟨_, s2, d⟩ => ⟨d, s2 _ _ ha1⟩) (fun ys H2 ⟨e, s2, d⟩ => ?_) (fun i x ys H2 hi hx ⟨e, s2, d⟩ => ?_)
      · rw [List.length_map, List.take_length] at e
        subst e
        refine ⟨D, ps.map partB, rfl, .of d, _, rfl, ?_⟩
        rw [all_map]
        have k2 := k _ (s1.trans s2)
        unfold partsB at k2
        rw [h', Bool.true_and] at k2
        refine iteB (fun h2 => ?_) (fun h2 => ?_)
        · rw [h2, Bool.true_and] at k2
          have hne : 1 ≤ ps.length := by
            unfold lenB at h'
            rw [Bool.and_eq_true, decide_eq_true_eq] at h'
            omega
          refine ⟨_, rfl, a, o, _, _, _, rfl, rfl, s2 _ _ ha1, ho, atI_ints (i := 0) (by omega) (by omega), _, _, rfl, rfl, ?_⟩
          have e : headB ps = decide (0 < ps.getD 0 0) := by
            unfold headB
            cases ps <;> rfl
          rw [e] at k2
          exact k2
        · rw [h2, Bool.false_and] at k2
          exact k2
      · obtain ⟨n, hn, rfl⟩ := int_of_map hx
        rw [List.length_map] at hi
        refine yesI ⟨_, rfl, n, rfl, LcNx.mk (by rw [List.length_map]; exact hi) (by rw [List.length_map]; exact hlen) (by rw [e, List.length_map, List.length_map, List.length_take]; omega) d ⟨?_, ?_, upd_same⟩⟩
        · rw [e, ← take_map_snoc partB hn, List.map_append]
          rfl
        · exact fun b o z => by rw [upd_ne (ne_of_none z hD)]; exact s2 b o z
    · have h' : lenB 1 12 ps.length = false := by unfold lenB; rw [List.length_map] at h; exact h
      have k2 := k _ s1
      unfold partsB at k2
      rw [h', Bool.false_and] at k2
      exact k2
inductive sp_are_sizes (vs : List V) (H : Hp) (Q : VK) (E : XK) : Prop
  | mk (a : Addr) (o : HO) (S : List Int) (h0_ : vs = [.ref a]) (h1_ : H a = some o) (h2_ : Ob o (S.map V.int)) (h3_ : S.length ≤ 1000) (h4_ : ∀ H', Same H H' → Q (.bl (sizesB S)) H') : sp_are_sizes vs H Q E
theorem sc_are_sizes : FnScope ["value"] ["value"] (defScope s_are_sizes) := ⟨rfl, rfl, rfl, by decide +kernel, rfl, by decide +kernel, by decide +kernel⟩
theorem are_sizes (T : Txt K mg C) : Can P w K mg base 3 "are_sizes" ["value"] sp_are_sizes := by
  refine fn_can T.f_are_sizes sc_are_sizes (fun vs H Q E h => ?_) (fun f cdv A outer s H vs Q E hr h => ?_)
  · obtain ⟨a, o, S, rfl, _⟩ := h
    rfl
  · obtain ⟨a, o, S, rfl, ha, ho, hlen, k⟩ := h
    refine ⟨_, pss_one (ps_ret (pe_and (pe_can (is_list_from T) hr (pa3 (pv 0) pe_int (pe_gi T.c_MOST_SIZES)))
      (pe_one (pe_b (call_all_seq rfl) T.b_all boot_all (pa1 (pe_lc rfl (lcS sc_are_sizes) (pi_seq (pv 0)) (fun _ _ _ _ => pts_nil) (fun _ _ _ _ => pe_can (is_whole_from T) hr (pa3 (pv 0) pe_int (pe_gi T.c_MOST_SIZE))))))))), ?_⟩
    refine ⟨_, rfl, a, _, _, _, rfl, ho.to ha, fun H1 s1 => ⟨_, rfl, ?_⟩⟩
    have ha1 := s1 _ _ ha
    refine iteB (fun h => ?_) (fun h => ?_)
    · have h' : lenB 1 12 S.length = true := by unfold lenB; rw [List.length_map] at h; exact h
      refine ⟨_, rfl, a, o, _, rfl, ha1, ho, fun J hJ D hD => ?_⟩
      refine lc_it hJ (fun i ys H2 => ys = ((S.take i).map sizeB).map V.bl ∧ Same H1 H2 ∧ H2 D = some (.lst ys)) ⟨rfl, Same.upd hD, upd_same⟩ (fun i ys H2 ⟨_, s2, d⟩ => ⟨d, s2 _ _ ha1⟩) (fun ys H2 ⟨e, s2, d⟩ => ?_) (fun i x ys H2 hi hx ⟨e, s2, d⟩ => ?_)
      · rw [List.length_map, List.take_length] at e
        subst e
        refine ⟨D, S.map sizeB, rfl, .of d, ?_⟩
        rw [all_map]
        have k2 := k _ (s1.trans s2)
        unfold sizesB at k2
        rw [h', Bool.true_and] at k2
        exact k2
      · obtain ⟨n, hn, rfl⟩ := int_of_map hx
        rw [List.length_map] at hi
        refine yesI ⟨_, rfl, _, _, _, rfl, LcNx.mk (by rw [List.length_map]; exact hi) (by rw [List.length_map]; exact hlen) (by rw [e, List.length_map, List.length_map, List.length_take]; omega) d ⟨?_, ?_, upd_same⟩⟩
        · rw [e, ← take_map_snoc sizeB hn, List.map_append]
          rfl
        · exact fun b o z => by rw [upd_ne (ne_of_none z hD)]; exact s2 b o z
    · have h' : lenB 1 12 S.length = false := by unfold lenB; rw [List.length_map] at h; exact h
      have k2 := k _ s1
      unfold sizesB at k2
      rw [h', Bool.false_and] at k2
      exact k2
/-- a row as it is handed in: a pair, its sizes, each a list or a tuple -/
inductive RowG (H : Hp) (v : V) (s : Lad.Step) : Prop
  | mk (r : Addr) (l : Addr) (o1 : HO) (o2 : HO) (h0_ : v = .ref r) (h1_ : H r = some o1) (h2_ : Ob o1 [.int s.1, .ref l]) (h3_ : H l = some o2) (h4_ : Ob o2 (s.2.map V.int)) (h5_ : s.2.length ≤ 1000) : RowG H v s
theorem RowG.same {H H' : Hp} (e : Same H H') {v : V} {s : Lad.Step} (h : RowG H v s) : RowG H' v s := by
  obtain ⟨r, l, o1, o2, e1, h1, h2, h3, h4, h5⟩ := h
  exact ⟨r, l, o1, o2, e1, e _ _ h1, h2, e _ _ h3, h4, h5⟩
inductive sp_is_row (vs : List V) (H : Hp) (Q : VK) (E : XK) : Prop
  | mk (v : V) (st : Lad.Step) (h0_ : vs = [v]) (h1_ : RowG H v st) (h2_ : ∀ H', Same H H' → Q (.bl (rowB st)) H') : sp_is_row vs H Q E
theorem sc_is_row : FnScope ["value"] ["value"] (defScope s_is_row) := ⟨rfl, rfl, rfl, by decide +kernel, rfl, by decide +kernel, by decide +kernel⟩
theorem is_row (T : Txt K mg C) : Can P w K mg base 4 "is_row" ["value"] sp_is_row := by
  refine fn_can T.f_is_row sc_is_row (fun vs H Q E h => ?_) (fun f cdv A outer s H vs Q E hr h => ?_)
  · obtain ⟨v, st, rfl, _⟩ := h
    rfl
  · obtain ⟨v, st, rfl, ⟨r, l, o1, o2, rfl, hr1, ho1, hl1, ho2, hlen⟩, k⟩ := h
    refine ⟨_, pss_one (ps_ret (pe_and (pe_can (is_list_from T) hr (pa3 (pv 0) pe_int pe_int))
      (pe_and (pe_can (is_wide T) hr (pa1 (pe_ix ix_ob (pv 0) pe_int (fun _ _ => rfl)))) (pe_one (pe_can (are_sizes T) hr (pa1 (pe_ix ix_ob (pv 0) pe_int (fun _ _ => rfl)))))))), ?_⟩
    refine ⟨_, rfl, r, _, _, _, rfl, ho1.to hr1, fun H1 s1 => ⟨_, rfl, iteT ?_⟩⟩
    have hr2 := s1 _ _ hr1
    have hl2 := s1 _ _ hl1
    refine ⟨_, rfl, r, o1, _, _, _, rfl, rfl, hr2, ho1, rfl, _, rfl, _, rfl, ?_⟩
    refine iteB (fun h => ?_) (fun h => ?_)
    · refine ⟨_, rfl, r, o1, _, _, _, rfl, rfl, hr2, ho1, rfl, l, o2, st.2, rfl, hl2, ho2, hlen, fun H2 s2 => ?_⟩
      have k2 := k _ (s1.trans s2)
      unfold rowB wideB at k2
      rw [h, Bool.true_and] at k2
      exact k2
    · have k2 := k _ s1
      unfold rowB wideB at k2
      rw [h, Bool.false_and] at k2
      exact k2
inductive sp_are_rows (vs : List V) (H : Hp) (Q : VK) (E : XK) : Prop
  | mk (a : Addr) (o : HO) (us : List V) (rows : List Lad.Step) (h0_ : vs = [.ref a]) (h1_ : H a = some o) (h2_ : Ob o us) (h3_ : Paired (RowG H) us rows) (h4_ : rows.length ≤ 1000) (h5_ : ∀ H', Same H H' → Q (.bl (rowsB rows)) H') : sp_are_rows vs H Q E
theorem sc_are_rows : FnScope ["value"] ["value"] (defScope s_are_rows) := ⟨rfl, rfl, rfl, by decide +kernel, rfl, by decide +kernel, by decide +kernel⟩
theorem all_mapS (f : Lad.Step → Bool) (S : List Lad.Step) : ((S.map f).all id) = S.all f := by rw [List.all_map]; rfl
theorem are_rows (T : Txt K mg C) : Can P w K mg base 5 "are_rows" ["value"] sp_are_rows := by
  refine fn_can T.f_are_rows sc_are_rows (fun vs H Q E h => ?_) (fun f cdv A outer s H vs Q E hr h => ?_)
  · obtain ⟨a, o, us, rows, rfl, _⟩ := h
    rfl
  · obtain ⟨a, o, us, rows, rfl, ha, ho, hp, hlen, k⟩ := h
    refine ⟨_, pss_one (ps_ret (pe_and (pe_can (is_list_from T) hr (pa3 (pv 0) pe_int (pe_gi T.c_MOST_ROWS)))
      (pe_one (pe_b (call_all_seq rfl) T.b_all boot_all (pa1 (pe_lc rfl (lcS sc_are_rows) (pi_seq (pv 0)) (fun _ _ _ _ => pts_nil) (fun _ _ _ _ => pe_can (is_row T) hr (pa1 (pv 0))))))))), ?_⟩
    have hl : us.length = rows.length := Paired.length hp
    refine ⟨_, rfl, a, _, _, _, rfl, ho.to ha, fun H1 s1 => ⟨_, rfl, ?_⟩⟩
    have ha1 := s1 _ _ ha
    refine iteB (fun h => ?_) (fun h => ?_)
    · have h' : lenB 0 4 rows.length = true := by unfold lenB; rw [hl] at h; exact h
      refine ⟨_, rfl, a, o, _, rfl, ha1, ho, fun J hJ D hD => ?_⟩
      refine lc_it hJ (fun i ys H2 => ys = ((rows.take i).map rowB).map V.bl ∧ Same H1 H2 ∧ H2 D = some (.lst ys)) ⟨rfl, Same.upd hD, upd_same⟩ (fun i ys H2 ⟨_, s2, d⟩ => ⟨d, s2 _ _ ha1⟩) (fun ys H2 ⟨e, s2, d⟩ => ?_) (fun i x ys H2 hi hx ⟨e, s2, d⟩ => ?_)
      · rw [hl, List.take_length] at e
        subst e
        refine ⟨D, rows.map rowB, rfl, .of d, ?_⟩
        rw [all_mapS]
        have k2 := k _ (s1.trans s2)
        unfold rowsB at k2
        rw [h', Bool.true_and] at k2
        exact k2
      · obtain ⟨st, hn, hst⟩ := Paired.get hp hx
        refine yesI ⟨_, rfl, _, st, rfl, (hst.same s1).same s2, fun H3 s3 => LcNx.mk hi (by omega) (by rw [e, List.length_map, List.length_map, List.length_take]; omega) (s3 _ _ d) ⟨?_, ?_, upd_same⟩⟩
        · rw [e, ← take_map_snoc rowB hn, List.map_append]
          rfl
        · exact fun b o z => by rw [upd_ne (ne_of_none z hD)]; exact s3 b o (s2 b o z)
    · have h' : lenB 0 4 rows.length = false := by unfold lenB; rw [hl] at h; exact h
      have k2 := k _ s1
      unfold rowsB at k2
      rw [h', Bool.false_and] at k2
      exact k2
/-! ### bar_lengths -/
inductive sp_bar_lengths (vs : List V) (H : Hp) (Q : VK) (E : XK) : Prop
  | mk (a : Addr) (o : HO) (ps : List Int) (h0_ : vs = [.ref a]) (h1_ : H a = some o) (h2_ : Ob o (ps.map V.int)) (h3_ : Lad.PartsOk ps) (h4_ : ps.length ≤ 1000) (h5_ : ∀ l H', Same H H' → H l = none → H' l = some (.lst ((Lad.bars ps).map V.int)) → Q (.ref l) H') : sp_bar_lengths vs H Q E
theorem sc_bar_lengths : FnScope ["parts", "lengths", "part"] ["parts"] (defScope s_bar_lengths) := ⟨rfl, rfl, rfl, by decide +kernel, rfl, by decide +kernel, by decide +kernel⟩
theorem addPart_len (acc : List Int) (p : Int) : (Lad.addPart acc p).length ≤ acc.length + 1 := by
  unfold Lad.addPart
  split
  · simp
  · rw [List.length_append, List.length_dropLast, List.length_singleton]; omega
theorem foldl_len : ∀ (ps acc : List Int), (ps.foldl Lad.addPart acc).length ≤ acc.length + ps.length
  | [], acc => by simp
  | p :: r, acc => by
    rw [List.foldl_cons, List.length_cons]
    have h1 := foldl_len r (Lad.addPart acc p)
    have h2 := addPart_len acc p
    omega
theorem foldl_ne : ∀ (ps acc : List Int), acc ≠ [] → ps.foldl Lad.addPart acc ≠ []
  | [], acc, h => h
  | p :: r, acc, h => by
    rw [List.foldl_cons]
    refine foldl_ne r _ ?_
    unfold Lad.addPart
    split <;> simp
theorem bar_lengths (T : Txt K mg C) : Can P w K mg base 1 "bar_lengths" ["parts"] sp_bar_lengths := by
  refine fn_can T.f_bar_lengths sc_bar_lengths (fun vs H Q E h => ?_) (fun f cdv A outer s H vs Q E hr h => ?_)
  · obtain ⟨a, o, ps, rfl, _⟩ := h
    rfl
  · obtain ⟨a, o, ps, rfl, ha, ho, hok, hlen, k⟩ := h
    refine ⟨_, pss_cons (ps_set (i := 1) sc_bar_lengths.nd rfl (Or.inl rfl) (pe_lst pa_nil))
      (pss_cons (ps_for PassesOwn.never rfl (pi_seq (pv 0)) (pg_name (i := 2) sc_bar_lengths.nd rfl (Or.inl rfl))
        (pss_one (ps_if (pt_cmpR op_gt (pv 2) pe_int (nomark _))
          (pss_one (ps_expr (pe_bm PySem.F.plainAttrs_list PySem.F.slot_list_append PySem.F.type_list_append mt_append (pv 1) (pa1 (pv 2)))))
          (pss_one (ps_augS (pv 1) (pe_un un_neg pe_int) pget_list (pv 2) ip_sub set_list)))))
      (pss_one (ps_ret (pv 1)))), ?_⟩
    refine ⟨Nat.zero_le _, fun l hl => ?_⟩
    have s1 : ∀ o, Same H (upd H l o) := fun o => Same.upd hl
    refine ⟨_, rfl, a, o, _, rfl, s1 _ _ _ ha, ho, fun J hJ => for_it hJ (fun i σ H2 => ∃ v, σ = [some (.ref a), some (.ref l), v] ∧ Same H H2 ∧ H2 l = some (.lst (((ps.take i).foldl Lad.addPart []).map V.int)))
      ⟨none, rfl, s1 _, upd_same⟩ (fun i σ H2 _ ⟨_, _, s2, _⟩ => s2 _ _ ha) ?_ ?_⟩
    · rintro i x σ H2 hx ⟨v, rfl, s2, d⟩
      obtain ⟨n, hn, rfl⟩ := int_of_map hx
      have hi : i < ps.length := (List.getElem?_eq_some_iff.mp hn).1
      have hfl := foldl_len (ps.take i) []
      rw [List.length_take, List.length_nil] at hfl
      have e1 : (ps.take (i + 1)).foldl Lad.addPart [] = Lad.addPart ((ps.take i).foldl Lad.addPart []) n := by
        rw [List.take_add_one, hn, List.foldl_append]
        rfl
      refine ⟨_, rfl, _, _, rfl, rfl, _, rfl, ?_⟩
      refine ite2 (fun hc => ?_) (fun hc => ?_)
      · have hc : 0 < n := of_decide_eq_true hc
        refine ⟨_, rfl, .inl ⟨rfl, _, .of d⟩, _, rfl, l, _, _, rfl, rfl, d, small1000 (by rw [List.length_map]; omega), _, rfl, ?_, ?_⟩
        · exact fun b o z => by rw [upd_ne (ne_of_none z hl)]; exact s2 b o z
        · rw [upd_same, e1]
          unfold Lad.addPart
          rw [if_pos hc, List.map_append]
          rfl
      · have hc : ¬ 0 < n := fun z => hc (decide_eq_true z)
        have hi0 : i ≠ 0 := by
          rintro rfl
          obtain ⟨_, p, r, rfl, hp⟩ := hok
          have : n = p := by simpa using hn.symm
          omega
        have hne : (ps.take i).foldl Lad.addPart [] ≠ [] := by
          obtain ⟨hz, p, r, rfl, hp⟩ := hok
          obtain ⟨j, rfl⟩ : ∃ j, i = j + 1 := ⟨i - 1, by omega⟩
          rw [List.take_succ_cons, List.foldl_cons]
          refine foldl_ne _ _ ?_
          unfold Lad.addPart
          rw [if_pos hp]
          simp
        generalize hL : (ps.take i).foldl Lad.addPart [] = L at *
        obtain ⟨L0, z, rfl⟩ : ∃ L0 z, L = L0 ++ [z] := ⟨L.dropLast, L.getLast hne, (List.dropLast_concat_getLast hne).symm⟩
        have ez : (L0 ++ [z]).map V.int = L0.map V.int ++ [V.int z] := by rw [List.map_append]; rfl
        rw [ez] at d
        have eix : ixN (L0.map V.int ++ [V.int z]).length (-1) = some L0.length := by
          unfold ixN
          rw [if_neg (by omega), List.length_append, List.length_map, List.length_singleton, if_pos (by omega)]
          congr 1
          omega
        refine ⟨_, rfl, _, rfl, l, _, _, _, rfl, rfl, .of d, atI_last _ _, _, rfl, _, _, rfl, rfl, l, _, _, _, rfl, rfl, d, eix, _, rfl, ?_, ?_⟩
        · exact fun b o q => by rw [upd_ne (ne_of_none q hl)]; exact s2 b o q
        · rw [upd_same, e1]
          unfold Lad.addPart
          rw [if_neg hc]
          congr 2
          rw [List.map_append, List.dropLast_concat, List.getLastD_concat, List.set_append_right _ _ (by rw [List.length_map]; exact Nat.le_refl _), List.length_map, Nat.sub_self]
          rfl
    · rintro σ H2 ⟨v, rfl, s2, d⟩
      rw [List.length_map, List.take_length, Lad.foldl_bars hok] at d
      exact ⟨_, rfl, k l H2 s2 hl d⟩
end
end Pr
set_option Elab.async false
set_option linter.all false
set_option maxRecDepth 100000
namespace Pr
open PySem L2 PyProof.Rows
/-! ### a ladder -/
def flds (a o c : Addr) : List (Str × V) := putF "steps" (.ref c) (putF "open_lengths" (.ref o) (putF "part_lengths" (.ref a) []))
theorem flds_steps (a o c : Addr) : (flds a o c).lookup ("steps" : Str) = some (.ref c) := by
  unfold flds; rw [lookup_putF, if_pos rfl]
theorem flds_no (a o c : Addr) {m : Str} (h1 : ¬ m = "steps") (h2 : ¬ m = "open_lengths") (h3 : ¬ m = "part_lengths") : (flds a o c).lookup m = none := by
  unfold flds
  rw [lookup_putF, if_neg h1, lookup_putF, if_neg h2, lookup_putF, if_neg h3]
  rfl
inductive StepAt (H : Hp) (v : V) (s : Lad.Step) : Prop
  | mk (r : Addr) (l : Addr) (h0_ : v = .ref r) (h1_ : H r = some (.tup [.int s.1, .ref l])) (h2_ : H l = some (.tup (s.2.map V.int))) : StepAt H v s
theorem StepAt.same {H H' : Hp} (e : Same H H') {v : V} {s : Lad.Step} (h : StepAt H v s) : StepAt H' v s := by
  obtain ⟨r, l, e1, h1, h2⟩ := h
  exact ⟨r, l, e1, e _ _ h1, e _ _ h2⟩
theorem RowG.but {p : Addr} {H H' : Hp} (e : But p H H') {C dx : Addr} {fs : List (Str × V)} (hp : H p = some (.ins C dx fs)) {v : V} {s : Lad.Step} (h : RowG H v s) : RowG H' v s := by
  obtain ⟨r, l, o1, o2, e1, h1, h2, h3, h4, h5⟩ := h
  exact ⟨r, l, o1, o2, e1, e _ _ h1 (h2.ne h1 hp), h2, e _ _ h3 (h4.ne h3 hp), h4, h5⟩
theorem StepAt.but {p : Addr} {H H' : Hp} (e : But p H H') {C dx : Addr} {fs : List (Str × V)} (hp : H p = some (.ins C dx fs)) {v : V} {s : Lad.Step} (h : StepAt H v s) : StepAt H' v s := by
  obtain ⟨r, l, e1, h1, h2⟩ := h
  exact ⟨r, l, e1, e _ _ h1 (ne_of h1 hp (by intro z; cases z)), e _ _ h2 (ne_of h2 hp (by intro z; cases z))⟩
/-- a ladder stands at p -/
inductive LadAt (C : Addr) (H : Hp) (p : Addr) (b : Int) (ps : List Int) (rows : List Lad.Step) : Prop
  | mk (dx : Addr) (a : Addr) (o : Addr) (c : Addr) (us : List V) (h0_ : H p = some (.ins C dx (flds a o c))) (h1_ : H a = some (.tup (ps.map V.int))) (h2_ : H o = some (.tup ((Lad.opens ps).map V.int))) (h3_ : H c = some (.tup us)) (h4_ : Paired (StepAt H) us ((b, Lad.bars ps) :: rows)) : LadAt C H p b ps rows
theorem LadAt.same {C : Addr} {H H' : Hp} {p : Addr} {b : Int} {ps : List Int} {rows : List Lad.Step} (h : LadAt C H p b ps rows) (e : Same H H') : LadAt C H' p b ps rows := by
  obtain ⟨dx, a, o, c, us, h1, h2, h3, h4, h5⟩ := h
  exact ⟨dx, a, o, c, us, e _ _ h1, e _ _ h2, e _ _ h3, e _ _ h4, Paired.mono (fun _ _ x => x.same e) h5⟩
/-- what a ladder is made of -/
structure LadOk (b : Int) (ps : List Int) (rows : List Lad.Step) : Prop where
  b : wideB b = true
  p : partsB ps = true
  r : rowsB rows = true
theorem partsB_ok {ps : List Int} (h : partsB ps = true) : Lad.PartsOk ps ∧ ps.length ≤ 12 ∧ ∀ p ∈ ps, -1000000000 ≤ p ∧ p ≤ 1000000000 := by
  unfold partsB lenB at h
  simp only [Bool.and_eq_true, decide_eq_true_eq, List.all_eq_true] at h
  obtain ⟨⟨h1, h2⟩, h3, h4⟩ := h
  have hp : ∀ p ∈ ps, (-1000000000 ≤ p ∧ p ≤ 1000000000) ∧ p ≠ 0 := fun p hp => by
    have := h3 p hp
    unfold partB at this
    simpa using this
  refine ⟨⟨fun p hq => (hp p hq).2, ?_⟩, by omega, fun p hq => (hp p hq).1⟩
  unfold headB at h4
  cases ps with
  | nil => simp at h1
  | cons p r => exact ⟨p, r, rfl, by simpa using h4⟩
theorem sizesB_ok {S : List Int} (h : sizesB S = true) : Lad.Good S ∧ S.length ≤ 12 ∧ ∀ v ∈ S, v ≤ 1000 := by
  unfold sizesB lenB at h
  simp only [Bool.and_eq_true, decide_eq_true_eq, List.all_eq_true] at h
  obtain ⟨⟨h1, h2⟩, h3⟩ := h
  have hp : ∀ p ∈ S, 1 ≤ p ∧ p ≤ 1000 := fun p hp => by
    have := h3 p hp
    unfold sizeB at this
    simpa using this
  refine ⟨⟨fun e => ?_, fun v hv => (hp v hv).1⟩, by omega, fun v hv => (hp v hv).2⟩
  rw [e] at h1
  simp at h1
theorem wideB_ok {i : Int} (h : wideB i = true) : -W30 < i ∧ i < W30 := by
  unfold wideB at h
  simpa using h
theorem rowsB_ok {rows : List Lad.Step} (h : rowsB rows = true) : rows.length ≤ 4 ∧ ∀ s ∈ rows, rowB s = true := by
  unfold rowsB lenB at h
  simp only [Bool.and_eq_true, decide_eq_true_eq, List.all_eq_true] at h
  exact ⟨by omega, h.2⟩
theorem sum_le : ∀ {S : List Int} {B : Int}, (∀ v ∈ S, v ≤ B) → S.sum ≤ B * (S.length : Int)
  | [], B, _ => by simp
  | v :: r, B, h => by
    have h1 := sum_le (S := r) (B := B) fun x hx => h x (List.mem_cons_of_mem _ hx)
    have h2 := h v List.mem_cons_self
    rw [List.sum_cons, List.length_cons, Int.natCast_add, Int.mul_add]
    omega
theorem szOk_sizes {S : List Int} (h : sizesB S = true) : SzOk S := by
  obtain ⟨g, n, v⟩ := sizesB_ok h
  refine ⟨g, by omega, ?_⟩
  have := sum_le v
  omega
theorem total_le {ps : List Int} (h : ∀ p ∈ ps, -1000000000 ≤ p ∧ p ≤ 1000000000) : Lad.total ps ≤ 1000000000 * (ps.length : Int) := by
  have : ∀ v ∈ ps.map Lad.absI, v ≤ 1000000000 := fun v hv => by
    obtain ⟨p, hp, rfl⟩ := List.mem_map.mp hv
    have := h p hp
    unfold Lad.absI
    split <;> omega
  have := sum_le this
  rw [List.length_map] at this
  exact this
theorem opens_len (ps : List Int) : (Lad.opens ps).length ≤ ps.length := List.length_filter_le _ _
theorem szOk_bars {ps : List Int} (h : partsB ps = true) : SzOk (Lad.bars ps) := by
  obtain ⟨ok, n, v⟩ := partsB_ok h
  have h1 := total_le v
  have h2 := opens_len ps
  refine ⟨Lad.bars_good ok, ?_, ?_⟩
  · rw [Lad.bars_len ok]; omega
  · rw [Lad.bars_sum ok]; omega
theorem LadOk.steps {b : Int} {ps : List Int} {rows : List Lad.Step} (h : LadOk b ps rows) : ∀ s ∈ (b, Lad.bars ps) :: rows, SzOk s.2 ∧ -W30 < s.1 ∧ s.1 < W30 := fun s hs => by
  rcases List.mem_cons.mp hs with e | hs
  · rw [e]
    exact ⟨szOk_bars h.p, wideB_ok h.b⟩
  · have := (rowsB_ok h.r).2 s hs
    unfold rowB at this
    rw [Bool.and_eq_true] at this
    exact ⟨szOk_sizes this.2, wideB_ok this.1⟩
theorem But.same {p : Addr} {H H1 H2 : Hp} (a : But p H H1) (b : Same H1 H2) : But p H H2 := fun c o h n => b c o (a c o h n)
theorem But.upd {p : Addr} {H : Hp} {o : HO} : But p H (upd H p o) := fun c u h n => by rw [upd_ne n]; exact h
theorem filter_snoc {S : List Int} {i : Nat} {n : Int} (f : Int → Bool) (e : S[i]? = some n) : (S.take (i + 1)).filter f = (S.take i).filter f ++ (if f n then [n] else []) := by
  rw [List.take_add_one, e, List.filter_append]
  cases h : f n <;> simp [h]
section
variable {P : Program} {w : World} {K : PySem.W.Frag} {mg : Str → Option Value} {base : Heap} {C : Addr}
/-- Ladder(..) of what makes one -/
inductive sp_init (C : Addr) (vs : List V) (H : Hp) (Q : VK) (E : XK) : Prop
  | mk (p : Addr) (dx : Addr) (b : Int) (pa : Addr) (po : HO) (ps : List Int) (ra : Addr) (ro : HO) (us : List V) (rows : List Lad.Step) (h0_ : vs = [.ref p, .int b, .ref pa, .ref ra]) (h1_ : H p = some (.ins C dx [])) (h2_ : H pa = some po) (h3_ : Ob po (ps.map V.int)) (h4_ : H ra = some ro) (h5_ : Ob ro us) (h6_ : Paired (RowG H) us rows) (h7_ : LadOk b ps rows) (h8_ : ∀ H', But p H H' → LadAt C H' p b ps rows → Q .non H') : sp_init C vs H Q E
theorem sc_init : FnScope ["self", "begin", "parts", "rows", "lowest"] ["self", "begin", "parts", "rows"] (defScope sm_init) := ⟨rfl, rfl, rfl, by decide +kernel, rfl, by decide +kernel, by decide +kernel⟩
theorem init_ok (T : Txt K mg C) {f : Addr} {fd : FuncData} (F : Fun K "__init__" "Ladder.__init__" sm_init f fd) : FnOk P w K mg base CX0 6 f fd ["self", "begin", "parts", "rows"] (sp_init C) := by
  refine F.ok sc_init (fun vs H Q E h => ?_) (fun cdv A outer s H vs Q E hr h => ?_)
  · obtain ⟨p, dx, b, pa, po, ps, ra, ro, us, rows, rfl, _⟩ := h
    rfl
  · obtain ⟨p, dx, b, pa, po, ps, ra, ro, us, rows, rfl, hp, hpa, hpo, hra, hro, hrows, ok, k⟩ := h
    obtain ⟨pok, plen, _⟩ := partsB_ok ok.p
    obtain ⟨rlen, _⟩ := rowsB_ok ok.r
    have hul : us.length = rows.length := Paired.length hrows
    refine ⟨_, pss_cons (ps_if (pt_not (pw_and (pt_val (pe_can (is_wide T) hr (pa1 (pv 1)))) (pw_and (pt_val (pe_can (are_parts T) hr (pa1 (pv 2)))) (pw_and1 (pt_val (pe_can (are_rows T) hr (pa1 (pv 3))))))).pt) pss_never pss_nil)
      (pss_cons (ps_fld (pv 0) (pe_t call_tup_ob T.b_tuple boot_tuple (pa1 (pv 2))) rfl)
      (pss_cons (ps_fld (pv 0) (pe_t call_tup_ob T.b_tuple boot_tuple (pa1 (pe_lc rfl (lcS sc_init) (pi_seq (pv 2)) (fun _ _ _ _ => pts_one (pt_cmpR op_gt (pv 0) pe_int (nomark _))) (fun _ _ _ _ => pv 0)))) rfl)
      (pss_cons (ps_set (i := 4) sc_init.nd rfl (Or.inl rfl) (pe_tup (pa2 (pv 1) (pe_t call_tup_ob T.b_tuple boot_tuple (pa1 (pe_can (bar_lengths T) hr (pa1 (pv 2))))))))
      (pss_one (ps_fld (pv 0) (pe_t call_tup_ob T.b_tuple boot_tuple (pa1 (pe_op op_cat (pe_lst (pa1 (pv 4)))
        (pe_lc rfl (lcS sc_init) (pi_seq (pv 3)) (fun _ _ _ _ => pts_nil) (fun _ _ _ _ => pe_tup (pa2 (pe_ix ix_ob (pv 0) pe_int (fun _ _ => rfl)) (pe_t call_tup_ob T.b_tuple boot_tuple (pa1 (pe_ix ix_ob (pv 0) pe_int (fun _ _ => rfl)))))))))) rfl))))), ?_⟩
    have wb : (decide (-W30 < b) && decide (b < W30)) = true := ok.b
    refine ⟨_, rfl, b, rfl, _, rfl, ?_⟩
    rw [wb]
    refine iteT ⟨_, rfl, pa, po, ps, rfl, hpa, hpo, by omega, fun H0 s0 => ⟨_, rfl, ?_⟩⟩
    rw [ok.p]
    refine iteT ⟨_, rfl, ra, ro, us, rows, rfl, s0 _ _ hra, hro, Paired.mono (fun _ _ x => x.same s0) hrows, by omega, fun H1 s1' => ⟨_, rfl, ?_⟩⟩
    rw [ok.r]
    refine iteF ?_
    have s1 : Same H H1 := s0.trans s1'
    have hp1 := s1 _ _ hp
    have hpa1 := s1 _ _ hpa
    refine ⟨_, rfl, pa, po, _, rfl, hpa1, hpo, fun l1 H2 s2 hl1 => ?_⟩
    have hp2 := s2 _ _ hp1
    have n1 : p ≠ l1 := ne_of hp2 hl1 (by intro z; cases z)
    refine ⟨_, rfl, p, C, dx, _, rfl, hp2, T.cl, T.n_part_lengths, (by show 0 < 1000; decide), ?_⟩
    generalize hH3 : upd H2 p _ = H3
    have b3 : But p H1 H3 := by rw [← hH3]; exact s2.but.trans But.upd
    have hp3 : H3 p = some (.ins C dx (putF "part_lengths" (.ref l1) [])) := by rw [← hH3]; exact upd_same
    have hl13 : H3 l1 = some (.tup (ps.map V.int)) := by rw [← hH3, upd_ne (Ne.symm n1)]; exact hl1
    have hpa3 : H3 pa = some po := b3 _ _ hpa1 (hpo.ne hpa1 hp1)
    clear hH3
    refine ⟨_, rfl, pa, po, _, rfl, hpa3, hpo, fun J hJ D hD => ?_⟩
    refine lc_it hJ (fun i ys H4 => ys = ((ps.take i).filter fun q => decide (0 < q)).map V.int ∧ Same H3 H4 ∧ H4 D = some (.lst ys)) ⟨rfl, Same.upd hD, upd_same⟩ (fun i ys H4 ⟨_, s4, d⟩ => ⟨d, s4 _ _ hpa3⟩) (fun ys H4 ⟨e, s4, d⟩ => ?_) (fun i x ys H4 hi hx ⟨e, s4, d⟩ => ?_)
    case refine_2 =>
      obtain ⟨n, hn, rfl⟩ := int_of_map hx
      rw [List.length_map] at hi
      refine ⟨_, rfl, _, _, rfl, rfl, _, rfl, ?_⟩
      have e2 := filter_snoc (fun q => decide (0 < q)) hn
      refine iteB (fun hc => ?_) (fun hc => ?_)
      · refine ⟨_, rfl, LcNx.mk (by rw [List.length_map]; exact hi) (by rw [List.length_map]; omega) (by rw [e, List.length_map]; exact Nat.le_trans (List.length_filter_le _ _) (by rw [List.length_take]; omega)) d ⟨?_, ?_, upd_same⟩⟩
        · rw [e2, if_pos hc, e, List.map_append]
          rfl
        · exact fun b o z => by rw [upd_ne (ne_of_none z hD)]; exact s4 b o z
      · refine LcNo.mk (by rw [List.length_map]; exact hi) ⟨?_, s4, d⟩
        rw [e2, if_neg (by rw [hc]; exact Bool.false_ne_true), e, List.append_nil]
    rw [List.length_map, List.take_length] at e
    subst e
    refine ⟨D, _, _, rfl, d, .inl rfl, fun l2 H4' s4' hl2 => ?_⟩
    have hp4 := s4' _ _ (s4 _ _ hp3)
    have n2 : p ≠ l2 := ne_of hp4 hl2 (by intro z; cases z)
    refine ⟨_, rfl, p, C, dx, _, rfl, hp4, T.cl, T.n_open_lengths, (by show 1 < 1000; decide), ?_⟩
    generalize hH5 : upd H4' p _ = H5
    have b5 : But p H4 H5 := by rw [← hH5]; exact s4'.but.trans But.upd
    have hp5 : H5 p = some (.ins C dx (putF "open_lengths" (.ref l2) (putF "part_lengths" (.ref l1) []))) := by rw [← hH5]; exact upd_same
    have hl25 : H5 l2 = some (.tup ((Lad.opens ps).map V.int)) := by rw [← hH5, upd_ne (Ne.symm n2)]; exact hl2
    have hl15 : H5 l1 = some (.tup (ps.map V.int)) := b5 _ _ (s4 _ _ hl13) (Ne.symm n1)
    have hpa5 : H5 pa = some po := b5 _ _ (s4 _ _ hpa3) (hpo.ne hpa1 hp1)
    have b15 : But p H1 H5 := (b3.trans s4.but).trans b5
    clear hH5
    refine ⟨_, rfl, _, rfl, pa, po, ps, rfl, hpa5, hpo, pok, by omega, fun l3 H6 s6 hl3 h6 => ?_⟩
    refine ⟨l3, _, _, rfl, h6, .inl rfl, fun l4 H6' s6' hl4 => ⟨two_line, fun l5 hl5 => ?_⟩⟩
    generalize hH7 : upd H6' l5 _ = H7
    have s7 : Same H6 H7 := by rw [← hH7]; exact s6'.trans (Same.upd hl5)
    have hl47 : H7 l4 = some (.tup ((Lad.bars ps).map V.int)) := by rw [← hH7]; exact Same.upd hl5 _ _ hl4
    have hl57 : H7 l5 = some (.tup [.int b, .ref l4]) := by rw [← hH7]; exact upd_same
    have s57 : Same H5 H7 := s6.trans s7
    have b17 : But p H1 H7 := But.same b15 s57
    have hra7 : H7 ra = some ro := b17 _ _ (s1 _ _ hra) (hro.ne hra hp)
    have hrows7 : Paired (RowG H7) us rows := Paired.mono (fun _ _ x => RowG.but b17 hp1 (x.same s1)) hrows
    clear hH7
    refine ⟨_, rfl, Nat.succ_le_of_lt (small1000 (by decide)), fun l6 hl6 => ?_⟩
    have s8 : ∀ o, Same H7 (upd H7 l6 o) := fun o => Same.upd hl6
    generalize hH8 : upd H7 l6 _ = H8
    have s78 : Same H7 H8 := by rw [← hH8]; exact s8 _
    have hl68 : H8 l6 = some (.lst [.ref l5]) := by rw [← hH8]; exact upd_same
    clear hH8
    have hra8 := s78 _ _ hra7
    refine ⟨_, rfl, ra, ro, _, rfl, hra8, hro, fun J2 hJ2 D2 hD2 => ?_⟩
    refine lc_it hJ2 (fun i ys H9 => Paired (StepAt H9) ys (rows.take i) ∧ Same H8 H9 ∧ H9 D2 = some (.lst ys)) ⟨.nil, Same.upd hD2, upd_same⟩ (fun i ys H9 ⟨_, s9, d⟩ => ⟨d, s9 _ _ hra8⟩) (fun ys H9 ⟨e, s9, d9⟩ => ?_) (fun i x ys H9 hi hx ⟨e, s9, d9⟩ => ?_)
    case refine_2 =>
      obtain ⟨st, hn, r, l, o1, o2, rfl, hr1, ho1, hl1', ho2, _⟩ := Paired.get hrows7 hx
      have hr9 := s9 _ _ (s78 _ _ hr1)
      have hl9 := s9 _ _ (s78 _ _ hl1')
      have hyl : ys.length = (rows.take i).length := Paired.length e
      rw [List.length_take] at hyl
      refine yesI ⟨_, rfl, r, o1, _, _, _, rfl, rfl, hr9, ho1, rfl, _, rfl, r, o1, _, _, _, rfl, rfl, hr9, ho1, rfl, l, o2, _, rfl, hl9, ho2, fun m1 H10 t1 hm1 => ⟨two_line, fun m2 hm2 => ?_⟩⟩
      have t2 : ∀ o', Same H9 (upd H10 m2 o') := fun o' => t1.trans (Same.upd hm2)
      have d10 := t1 _ _ d9
      have nD1 : D2 ≠ m1 := ne_of d10 hm1 (by intro z; cases z)
      have nD2 : D2 ≠ m2 := ne_of_none d10 hm2
      refine LcNx.mk hi (by omega) (by omega) (t2 _ _ _ d9) ⟨?_, ?_, upd_same⟩
      · have e3 : rows.take (i + 1) = rows.take i ++ [st] := by rw [List.take_add_one, hn]; rfl
        rw [e3]
        have up : ∀ {v : V} {s' : Lad.Step}, StepAt H9 v s' → StepAt (upd (upd H10 m2 (.tup [.int st.1, .ref m1])) D2 (.lst (ys ++ [.ref m2]))) v s' := fun {v s'} ⟨r', l', e', q1, q2⟩ =>
          ⟨r', l', e', by rw [upd_ne (ne_of q1 d9 (by intro z; cases z))]; exact t2 _ _ _ q1, by rw [upd_ne (ne_of q2 d9 (by intro z; cases z))]; exact t2 _ _ _ q2⟩
        refine Paired.snoc (Paired.mono (fun _ _ x => up x) e) ⟨m2, m1, rfl, ?_, ?_⟩
        · rw [upd_ne (Ne.symm nD2), upd_same]
        · rw [upd_ne (Ne.symm nD1)]; exact Same.upd hm2 _ _ hm1
      · exact fun b o z => by rw [upd_ne (ne_of_none z hD2)]; exact t2 _ _ _ (s9 b o z)
    rw [hul, List.take_length] at e
    have hyl : ys.length = rows.length := Paired.length e
    have hl69 := s9 _ _ hl68
    refine ⟨l6, D2, _, _, rfl, rfl, hl69, d9, Nat.le_of_lt (small1000 (by rw [List.length_singleton]; omega)), fun l7 hl7 => ?_⟩
    refine ⟨l7, _, _, rfl, upd_same, .inl rfl, fun l8 H10 s10' hl8 => ?_⟩
    have s10 : Same H9 H10 := (Same.upd hl7).trans s10'
    have s59 : Same H5 H9 := (s57.trans s78).trans s9
    have hp9 : H9 p = some (.ins C dx (putF "open_lengths" (.ref l2) (putF "part_lengths" (.ref l1) []))) := s59 _ _ hp5
    have n8 : p ≠ l8 := ne_of (s10 _ _ hp9) hl8 (by intro z; cases z)
    refine ⟨_, rfl, p, C, dx, _, rfl, s10 _ _ hp9, T.cl, T.n_steps, (by show 2 < 1000; decide), ?_⟩
    generalize hH11 : upd H10 p _ = H11
    have b11 : But p H9 H11 := by rw [← hH11]; exact s10.but.trans But.upd
    have hp11 : H11 p = some (.ins C dx (flds l1 l2 l8)) := by rw [← hH11]; exact upd_same
    have hl811 : H11 l8 = some (.tup (.ref l5 :: ys)) := by rw [← hH11, upd_ne (Ne.symm n8)]; exact hl8
    have b511 : ∀ c o, H5 c = some o → c ≠ p → H11 c = some o := fun c o h n => b11 _ _ (s59 _ _ h) n
    have nl : ∀ {c : Addr} {xs : List V}, H9 c = some (.tup xs) → c ≠ p := fun h => ne_of h hp9 (by intro z; cases z)
    refine k H11 (fun c o h n => b511 c o (b15 c o (s1 c o h) n) n) ⟨dx, l1, l2, l8, _, hp11, b511 _ _ hl15 (Ne.symm n1), b511 _ _ hl25 (Ne.symm n2), hl811, .cons ⟨l5, l4, rfl, ?_, ?_⟩ (Paired.mono (fun _ _ x => StepAt.but b11 hp9 x) e)⟩
    · have z := s9 _ _ (s78 _ _ hl57)
      exact b11 _ _ z (nl z)
    · have z := s9 _ _ (s78 _ _ hl47)
      exact b11 _ _ z (nl z)
end
end Pr
set_option Elab.async false
set_option linter.all false
set_option maxRecDepth 100000
namespace Pr
open PySem L2 PyProof.Rows
theorem take_whole {α : Type} {xs : List α} {k : Int} (h0 : 0 ≤ k) (h : HT.sIx xs.length xs.length (some k) = xs.length) : xs.take k.toNat = xs := by
  obtain ⟨n, rfl⟩ : ∃ n : Nat, k = n := ⟨k.toNat, by omega⟩
  rw [HT.sIx_nat] at h
  rw [Int.toNat_natCast, List.take_of_length_le (by omega)]
/-- t[:n], in short -/
theorem sl_tupN {X : Cx} : SlR X (fun x lo hi H Q => ∃ a us n, x = .ref a ∧ H a = some (.tup us) ∧ lo = none ∧ hi = some n ∧ 0 ≤ n ∧ ∀ t H1, Same H H1 → H1 t = some (.tup (us.take n.toNat)) → Q (.ref t) H1) := by
  intro pins s σ H x v vl vu lo hi sl Q I rx hs pl pu h
  obtain ⟨a, us, n, rfl, ha, rfl, rfl, hn, k⟩ := h
  refine sl_tupA pins s σ H _ v vl vu none (some n) sl Q I rx hs pl pu ⟨a, us, rfl, .of ha, fun hw => ?_, fun t ht => ?_⟩
  · refine k a H (Same.refl _) ?_
    rw [take_whole hn hw.2]
    exact ha
  · refine k t _ (Same.upd ht) ?_
    rw [upd_same, cut_take _ hn]
section
variable {P : Program} {w : World} {K : PySem.W.Frag} {mg : Str → Option Value} {base : Heap} {C : Addr}
inductive sp_rolls (C : Addr) (vs : List V) (H : Hp) (Q : VK) (E : XK) : Prop
  | mk (p : Addr) (b : Int) (ps : List Int) (rows : List Lad.Step) (h0_ : vs = [.ref p]) (h1_ : LadAt C H p b ps rows) (h2_ : Q (.int ((rows.length + 1 : Nat) : Int)) H) : sp_rolls C vs H Q E
theorem sc_rolls : FnScope ["self"] ["self"] (defScope sm_rolls) := ⟨rfl, rfl, rfl, by decide +kernel, rfl, by decide +kernel, by decide +kernel⟩
theorem rolls (T : Txt K mg C) : CanM P w K mg base C 1 "rolls" ["self"] (sp_rolls C) := by
  refine fm_can T.m_rolls sc_rolls (fun vs H Q E h => ?_) (fun f cdv A outer s H vs Q E hr h => ?_)
  · obtain ⟨p, b, ps, rows, rfl, _⟩ := h
    rfl
  · obtain ⟨p, b, ps, rows, rfl, ⟨dx, a, o, c, us, h1, h2, h3, h4, h5⟩, k⟩ := h
    refine ⟨_, pss_one (ps_ret (pe_b call_len_seq T.b_len boot_len (pa1 (pe_fld (pv 0) rfl)))), ?_⟩
    refine ⟨_, rfl, p, C, dx, _, _, rfl, h1, T.cl, T.n_steps, flds_steps _ _ _, c, us, rfl, .inr (.of h4), ?_⟩
    have e : us.length = rows.length + 1 := Paired.length h5
    rw [e]
    exact k
/-- the steps of a roll -/
def stepsTo (b : Int) (ps : List Int) (rows : List Lad.Step) (r : Int) : List Lad.Step := ((b, Lad.bars ps) :: rows).take (r + 1).toNat
end
end Pr
set_option Elab.async false
set_option linter.all false
set_option maxRecDepth 100000
namespace Pr
open PySem L2 PyProof.Rows
section
variable {P : Program} {w : World} {K : PySem.W.Frag} {mg : Str → Option Value} {base : Heap} {C : Addr}
/-- need_moment where there is nothing to refuse -/
def sp_need_moment : Sp := fun vs H Q _ => ∃ i, vs = [.int i] ∧ -W30 < i ∧ i < W30 ∧ Q .non H
theorem sc_need_moment : FnScope ["value"] ["value"] (defScope s_need_moment) := ⟨rfl, rfl, rfl, by decide +kernel, rfl, by decide +kernel, by decide +kernel⟩
theorem need_moment (T : Txt K mg C) : Can P w K mg base 3 "need_moment" ["value"] sp_need_moment := by
  refine fn_can T.f_need_moment sc_need_moment (fun vs H Q E h => ?_) (fun f cdv A outer s H vs Q E hr h => ?_)
  · obtain ⟨i, rfl, _⟩ := h
    rfl
  · obtain ⟨i, rfl, h1, h2, k⟩ := h
    refine ⟨_, pss_one (ps_if (pt_not (pt_val (pe_can (is_wide T) hr (pa1 (pv 0))))) pss_never pss_nil), ?_⟩
    refine ⟨_, rfl, i, rfl, _, rfl, ?_⟩
    rw [decide_eq_true h1, decide_eq_true h2]
    exact iteF k
end
end Pr
set_option Elab.async false
set_option linter.all false
set_option maxRecDepth 100000
namespace Pr
open PySem L2 PyProof.Rows
theorem up_snoc (st : List Lad.Step) (s : Lad.Step) (m : Int) : Lad.up (st ++ [s]) m = Lad.num s.1 s.2 (Lad.up st m) := by
  unfold Lad.up
  rw [List.foldl_append]
  rfl
section
variable {P : Program} {w : World} {K : PySem.W.Frag} {mg : Str → Option Value} {base : Heap} {C : Addr}
def sp_bar_at (C : Addr) : Sp := fun vs H Q _ => ∃ p r m b ps rows, vs = [.ref p, .int r, .int m] ∧ LadAt C H p b ps rows ∧ LadOk b ps rows ∧ 0 ≤ r ∧ r ≤ (rows.length : Int) ∧ -W30 < m ∧ m < W30 ∧ ∀ H', Same H H' → Q (.int (Lad.up (stepsTo b ps rows r) m)) H'
theorem sc_bar_at : FnScope ["self", "roll", "moment", "number", "begin", "sizes"] ["self", "roll", "moment"] (defScope sm_bar_at) := ⟨rfl, rfl, rfl, by decide +kernel, rfl, by decide +kernel, by decide +kernel⟩
theorem bar_at (T : Txt K mg C) : CanM P w K mg base C 4 "bar_at" ["self", "roll", "moment"] (sp_bar_at C) := by
  refine fm_can T.m_bar_at sc_bar_at (fun vs H Q E h => ?_) (fun f cdv A outer s H vs Q E hr h => ?_)
  · obtain ⟨p, r, m, b, ps, rows, rfl, _⟩ := h
    rfl
  · obtain ⟨p, r, m, b, ps, rows, rfl, L, ok, r0, r1, m0, m1, k⟩ := h
    obtain ⟨dx, a, o, c, us, h1, h2, h3, h4, h5⟩ := id L
    refine ⟨_, pss_cons (ps_expr (pe_can (need_roll T) hr (pa3 (pv 1) pe_int (pe_op op_sub (pe_canM0 (pv 0) T.cl (rolls T) hr) pe_int))))
      (pss_cons (ps_expr (pe_can (need_moment T) hr (pa1 (pv 2))))
      (pss_cons (ps_set (i := 3) sc_bar_at.nd rfl (Or.inl rfl) (pv 2))
      (pss_cons (ps_for PassesOwn.never rfl (pi_tup (pe_slice sl_tupN (pe_fld (pv 0) rfl) po_none (po_some (pe_op op_add (pv 1) pe_int))))
          (pg_tup rfl (pgs_cons (pg_name (i := 4) sc_bar_at.nd rfl (Or.inl rfl)) (pgs_cons (pg_name (i := 5) sc_bar_at.nd rfl (Or.inl rfl)) pgs_nil)))
          (pss_one (ps_set (i := 3) sc_bar_at.nd rfl (Or.inl rfl) (pe_can (number_of T) hr (pa3 (pv 4) (pv 5) (pv 3))))))
      (pss_one (ps_ret (pv 3)))))), ?_⟩
    refine ⟨_, rfl, _, rfl, p, dx, _, rfl, h1, flds_no _ _ _ (by decide +kernel) (by decide +kernel) (by decide +kernel), p, b, ps, rows, rfl, L, _, _, rfl, rfl, _, _, _, rfl, r0, by omega, ?_⟩
    refine ⟨_, rfl, m, rfl, m0, m1, _, rfl, ?_⟩
    refine ⟨_, rfl, p, C, dx, _, _, rfl, h1, T.cl, T.n_steps, flds_steps _ _ _, _, rfl, _, _, rfl, rfl, _, rfl, c, us, _, rfl, h4, rfl, rfl, by omega, fun t H1 s1 ht => ?_⟩
    refine ⟨t, rfl, ⟨_, .of ht⟩, for_tup (K := K) (a := t) (xs := us.take (r + 1).toNat) (fun i σ H2 => ∃ x y, σ = [some (.ref p), some (.int r), some (.int m), some (.int (Lad.up ((((b, Lad.bars ps) :: rows).take (r + 1).toNat).take i) m)), x, y] ∧ Same H1 H2)
        ⟨none, none, rfl, Same.refl _⟩ (fun i σ H2 _ ⟨_, _, _, s2⟩ => .of (s2 _ _ ht)) ?_ ?_⟩
    · rintro i x σ H2 hx ⟨x0, y0, rfl, s2⟩
      obtain ⟨st, hst, r', l', rfl, hr', hl'⟩ := Paired.get (Paired.take (r + 1).toNat h5) hx
      have hr2 := s2 _ _ (s1 _ _ hr')
      have hl2 := s2 _ _ (s1 _ _ hl')
      have hmem : st ∈ (b, Lad.bars ps) :: rows := List.mem_of_mem_take (List.mem_of_getElem? hst)
      refine ⟨r', _, rfl, .of hr2, rfl, _, _, rfl, _, _, rfl, rfl, ?_⟩
      refine ⟨_, rfl, _, rfl, _, rfl, _, l', st.2, _, rfl, hl2, (ok.steps st hmem).1, fun H3 s3 => ?_⟩
      refine ⟨some (.int st.1), some (.ref l'), ?_, s2.trans s3⟩
      have e : (((b, Lad.bars ps) :: rows).take (r + 1).toNat).take (i + 1) = (((b, Lad.bars ps) :: rows).take (r + 1).toNat).take i ++ [st] := by rw [List.take_add_one, hst]; rfl
      rw [e, up_snoc]
      rfl
    · rintro σ H2 ⟨x0, y0, rfl, s2⟩
      refine ⟨_, rfl, ?_⟩
      have hl : (us.take (r + 1).toNat).length = (((b, Lad.bars ps) :: rows).take (r + 1).toNat).length := Paired.length (Paired.take _ h5)
      rw [hl, List.take_length]
      exact k H2 (s1.trans s2)
end
end Pr
set_option Elab.async false
set_option linter.all false
set_option maxRecDepth 100000
namespace Pr
open PySem L2 PyProof.Rows
end Pr
set_option Elab.async false
set_option linter.all false
set_option maxRecDepth 100000
/-! covers: the mathematics -/
namespace Lad
def ur (st : List Step) (r : Nat) (m : Int) : Int := up (st.take (r + 1)) m
theorem goods_take {st : List Step} (g : Goods st) (r : Nat) : Goods (st.take r) := fun s hs => g s (List.mem_of_mem_take hs)
section
variable {st : List Step} (g : Goods st)
include g
end
section
variable {st : List Step} (g : Goods st)
include g
end
end Lad
set_option Elab.async false
set_option linter.all false
set_option maxRecDepth 100000
namespace Pr
open PySem L2 PyProof.Rows
abbrev allSt (b : Int) (ps : List Int) (rows : List Lad.Step) : List Lad.Step := (b, Lad.bars ps) :: rows
theorem LadOk.goods {b : Int} {ps : List Int} {rows : List Lad.Step} (h : LadOk b ps rows) : Lad.Goods (allSt b ps rows) := fun s hs => (h.steps s hs).1.g
theorem ur_allSt (b : Int) (ps : List Int) (rows : List Lad.Step) (r : Nat) (m : Int) : Lad.up (stepsTo b ps rows (r : Int)) m = Lad.ur (allSt b ps rows) r m := by
  unfold stepsTo Lad.ur
  rw [show ((r : Int) + 1).toNat = r + 1 by omega]
theorem ur_far {b : Int} {ps : List Int} {rows : List Lad.Step} (h : LadOk b ps rows) (r : Nat) {m : Int} (m0 : -W30 < m) (m1 : m < W30) : -(6 * W30) < Lad.ur (allSt b ps rows) r m ∧ Lad.ur (allSt b ps rows) r m < 6 * W30 := by
  have hb := Lad.up_bound (B := W30) (by decide) ((allSt b ps rows).take (r + 1)) (Lad.goods_take h.goods _) (fun s hs => by have := (h.steps s (List.mem_of_mem_take hs)).2; omega) m
  have hl : ((allSt b ps rows).take (r + 1)).length ≤ 5 := by
    have := (rowsB_ok h.r).1
    rw [List.length_take, List.length_cons]
    omega
  have hW : W30 = 1000000000000000000000000000000 := rfl
  have h5 : W30 * (((allSt b ps rows).take (r + 1)).length : Int) ≤ W30 * 5 := Int.mul_le_mul_of_nonneg_left (by omega) (by decide)
  have : Lad.ur (allSt b ps rows) r m = Lad.up ((allSt b ps rows).take (r + 1)) m := rfl
  split at hb <;> omega
theorem line1 {n : Nat} (h : n ≤ 1000) : n ≤ sizeLine := by rw [sizeLine_eq]; omega
theorem iteC {c : Bool} {A B : Prop} (hc : c = true) (h : A) : if c = true then A else B := by rw [hc]; exact iteT h
theorem iteN {c : Bool} {A B : Prop} (hc : c = false) (h : B) : if c = true then A else B := by rw [hc]; exact iteF h
theorem lad_ins {C : Addr} {H : Hp} {p : Addr} {b : Int} {ps : List Int} {rows : List Lad.Step} (h : LadAt C H p b ps rows) : ∃ dx a o c, H p = some (.ins C dx (flds a o c)) := by
  obtain ⟨dx, a, o, c, us, h, _⟩ := h
  exact ⟨dx, a, o, c, h⟩
end Pr
set_option Elab.async false
set_option linter.all false
set_option maxRecDepth 100000
namespace L2
open PySem PySem.Spec PyProof.Rows

/-! ### lists of pairs as tables -/
section
variable {κ : Type} [DecidableEq κ]
def valV (kvs : List (κ × V)) (k : κ) : Option V := (kvs.find? fun kv => decide (kv.1 = k)).map (·.2)
/-- in its place, or at the end -/
def putK (kvs : List (κ × V)) (k : κ) (v : V) : List (κ × V) :=
  if (kvs.any fun kv => decide (kv.1 = k)) = true then kvs.map (fun kv => if kv.1 = k then (kv.1, v) else kv) else kvs ++ [(k, v)]

theorem valV_pos {p : κ × V} {r : List (κ × V)} {k : κ} (e : p.1 = k) : valV (p :: r) k = some p.2 := by simp [valV, List.find?_cons, e]
theorem valV_neg {p : κ × V} {r : List (κ × V)} {k : κ} (e : ¬ p.1 = k) : valV (p :: r) k = valV r k := by simp [valV, List.find?_cons, e]
theorem valV_any (k : κ) : ∀ kvs : List (κ × V), (kvs.any fun kv => decide (kv.1 = k)) = (valV kvs k).isSome
  | [] => rfl
  | p :: r => by
    rw [List.any_cons]
    by_cases e : p.1 = k
    · simp only [valV_pos e, decide_eq_true e, Bool.true_or, Option.isSome_some]
    · rw [valV_neg e, decide_eq_false e, Bool.false_or]; exact valV_any k r
theorem length_putK (kvs : List (κ × V)) (k : κ) (v : V) : (putK kvs k v).length ≤ kvs.length + 1 := by
  unfold putK
  split
  · rw [List.length_map]; omega
  · rw [List.length_append, List.length_cons, List.length_nil]; omega

theorem RelO.isSome_eq {o : Option V} {u : Option Value} (r : RelO o u) : o.isSome = u.isSome := by
  cases o with
  | none => cases u with
    | none => rfl
    | some _ => exact (show False from r).elim
  | some _ => cases u with
    | none => exact (show False from r).elim
    | some _ => rfl

/-- raw tables of the same keys -/
theorem KV.val {kvs : List (κ × V)} {vs : List (κ × Value)} (r : KV kvs vs) (k : κ) : RelO (valV kvs k) (valueAt vs k) := by
  unfold KV at r
  induction r with
  | nil => exact True.intro
  | @cons p q ps qs h t ih =>
    obtain ⟨h1, h2⟩ := h
    by_cases e : p.1 = k
    · have e' : q.1 = k := h1.symm.trans e
      have b : valueAt (q :: qs) k = some q.2 := by simp [valueAt, List.find?_cons, e']
      rw [valV_pos e, b]; exact h2
    · have e' : ¬ q.1 = k := fun z => e (h1.trans z)
      have b : valueAt (q :: qs) k = valueAt qs k := by simp [valueAt, List.find?_cons, e']
      rw [valV_neg e, b]; exact ih
theorem KV.any {kvs : List (κ × V)} {vs : List (κ × Value)} (r : KV kvs vs) (k : κ) : (kvs.any fun kv => decide (kv.1 = k)) = vs.any fun kv => decide (kv.1 = k) := by
  unfold KV at r
  induction r with
  | nil => rfl
  | cons h t ih => rw [List.any_cons, List.any_cons, ih, h.1]
theorem KV.repl {kvs : List (κ × V)} {vs : List (κ × Value)} (r : KV kvs vs) (k : κ) {y : V} {u : Value} (ry : RelV y u) :
    KV (kvs.map fun kv => if kv.1 = k then (kv.1, y) else kv) (vs.map fun kv => if kv.1 = k then (kv.1, u) else kv) := by
  unfold KV at r ⊢
  induction r with
  | nil => exact .nil
  | @cons p q ps qs h t ih =>
    rw [List.map_cons, List.map_cons]
    refine .cons ?_ ih
    obtain ⟨h1, h2⟩ := h
    by_cases e : p.1 = k
    · rw [if_pos e, if_pos (h1.symm.trans e)]; exact ⟨h1, ry⟩
    · rw [if_neg e, if_neg (fun z => e (h1.trans z))]; exact ⟨h1, h2⟩
theorem KV.put {kvs : List (κ × V)} {vs : List (κ × Value)} (r : KV kvs vs) (k : κ) {y : V} {u : Value} (ry : RelV y u) : KV (putK kvs k y) (stored vs k u) := by
  unfold putK stored
  rw [r.any k]
  by_cases e : (vs.any fun kv => decide (kv.1 = k)) = true
  · rw [if_pos e, if_pos e]; exact r.repl k ry
  · rw [if_neg e, if_neg e]; exact PySem.Paired.snoc r ⟨rfl, ry⟩
theorem KV.length {kvs : List (κ × V)} {vs : List (κ × Value)} (r : KV kvs vs) : kvs.length = vs.length := Paired.length r
end


/-! ### a tracked dict, its keys ints and texts or tuples of these -/
theorem kV_is {P : Program} {w : World} {k : Key} {u : Value} (r : RelV (kV k) u) : (mixKind P w).is k u = true := by
  cases k with
  | inl i => obtain ⟨t, e⟩ := (show ∃ t, u = Value.int i t from r); subst e; exact mixKind_int P w i t
  | inr x => obtain ⟨t, e⟩ := (show ∃ t, u = Value.str x t from r); subst e; exact mixKind_str P w x t
theorem items_are {P : Program} {w : World} : ∀ {ks : List Key} {us : List Value}, Vals (ks.map kV) us → ItemsAre (mixKind P w) ks us
  | [], _, r => by rw [List.map_nil] at r; cases r; exact .nil
  | k :: ks, _, r => by
    rw [List.map_cons] at r
    cases r with
    | cons h t => exact .cons (kV_is h) (items_are t)

/-- raw entries of a dict with tuple keys -/
abbrev KT (H : Hp) : List (List Key × V) → List (List Key × Addr × Value) → Prop := Paired fun p q => p.1 = q.1 ∧ H q.2.1 = some (.tup (p.1.map kV)) ∧ RelV p.2 q.2.2
theorem KT.val {H : Hp} {kvs : List (List Key × V)} {xs : List (List Key × Addr × Value)} (r : KT H kvs xs) (k : List Key) : RelO (valV kvs k) ((atKey xs k).map (·.2)) := by
  induction r with
  | nil => exact True.intro
  | @cons p q ps qs h t ih =>
    obtain ⟨h1, _, h2⟩ := h
    by_cases e : p.1 = k
    · have e' : q.1 = k := h1.symm.trans e
      have b : atKey (q :: qs) k = some q.2 := by simp [atKey, List.find?_cons, e']
      rw [valV_pos e, b]; exact h2
    · have e' : ¬ q.1 = k := fun z => e (h1.trans z)
      have b : atKey (q :: qs) k = atKey qs k := by simp [atKey, List.find?_cons, e']
      rw [valV_neg e, b]; exact ih
theorem KT.repl {H : Hp} {kvs : List (List Key × V)} {xs : List (List Key × Addr × Value)} (r : KT H kvs xs) (k : List Key) {y : V} {u : Value} (ry : RelV y u) :
    KT H (kvs.map fun kv => if kv.1 = k then (kv.1, y) else kv) (xs.map (putAt k u)) := by
  induction r with
  | nil => exact .nil
  | @cons p q ps qs h t ih =>
    rw [List.map_cons, List.map_cons]
    refine .cons ?_ ih
    obtain ⟨h1, h2, h3⟩ := h
    unfold putAt
    by_cases e : p.1 = k
    · rw [if_pos e, if_pos (h1.symm.trans e)]; exact ⟨h1, h2, ry⟩
    · rw [if_neg e, if_neg (fun z => e (h1.trans z))]; exact ⟨h1, h2, h3⟩
theorem KT.put {H : Hp} {kvs : List (List Key × V)} {xs : List (List Key × Addr × Value)} (r : KT H kvs xs) (k : List Key) {b : Addr} {y : V} {u : Value} (hb : H b = some (.tup (k.map kV))) (ry : RelV y u) :
    KT H (putK kvs k y) (storedH xs k b u) := by
  have e : (kvs.any fun kv => decide (kv.1 = k)) = (atKey xs k).isSome := by
    rw [valV_any, (r.val k).isSome_eq, Option.isSome_map]
  unfold putK storedH
  rw [e]
  by_cases q : (atKey xs k).isSome = true
  · rw [if_pos q, if_pos q]; exact r.repl k ry
  · rw [if_neg q, if_neg q]; exact PySem.Paired.snoc r ⟨rfl, hb, ry⟩
theorem KT.keeps {H H' : Hp} {kvs : List (List Key × V)} {xs : List (List Key × Addr × Value)} (r : KT H kvs xs) (ht : ∀ b ys, H b = some (.tup ys) → H' b = some (.tup ys)) : KT H' kvs xs :=
  Paired.mapP r fun _ _ z => ⟨z.1, ht _ _ z.2.1, z.2.2⟩

section
variable {P : Program} {w : World} {H : Hp} {h : Heap} {a : Addr}
theorem rd_of {u : HO} (ok : HOk P w H h) (e : Rd H a u) : ObjOk P w H h a u := e.ok ok
theorem dk_rd {kvs : List (Key × V)} (ok : HOk P w H h) (e : Rd H a (.dK kvs)) : kvs.length ≤ sizeLine ∧ (a == sysModules) = false ∧ ∃ vs, KV kvs vs ∧ h.DictOf (mixKind P w) a vs :=
  show ObjOk P w H h a (.dK kvs) from rd_of ok e
theorem dk_of {kvs : List (Key × V)} (ok : HOk P w H h) (e : H a = some (.dK kvs)) : kvs.length ≤ sizeLine ∧ (a == sysModules) = false ∧ ∃ vs, KV kvs vs ∧ h.DictOf (mixKind P w) a vs := dk_rd ok (.inl e)
/-- a tracked tuple of ints and texts is a key -/
theorem key_of {ks : List Key} (ok : HOk P w H h) (e : H a = some (.tup (ks.map kV))) : (tupleKind (mixKind P w)).is h ks a := by
  obtain ⟨_, its, r, o, h1, h2, n, h3⟩ := (show ObjOk P w H h a (.tup (ks.map kV)) from ok a _ e)
  exact ⟨o, its.toArray, n, h1, h2, h3, by simpa using items_are r⟩
theorem dt_rd {kvs : List (List Key × V)} (ok : HOk P w H h) (e : Rd H a (.dT kvs)) : kvs.length ≤ sizeLine ∧ (a == sysModules) = false ∧
    ∃ xs, KT H kvs xs ∧ h.DictOfH (tupleKind (mixKind P w)) a xs := by
  obtain ⟨z, y, xs, r, o, es, ep, h1, h2, h3, h4, h5⟩ := (show ObjOk P w H h a (.dT kvs) from rd_of ok e)
  refine ⟨z, y, xs, r, o, es, ep, h1, h2, h3, h4, fun x hx => ?_, h5⟩
  have all : ∀ {l : List (List Key × V)} {m : List (List Key × Addr × Value)}, KT H l m → ∀ x ∈ m, (tupleKind (mixKind P w)).is h x.1 x.2.1 := by
    intro l m q
    induction q with
    | nil => intro x hx; exact nomatch hx
    | @cons p q ps qs hq t ih =>
      intro x hx
      rcases List.mem_cons.mp hx with e | hx
      · subst e
        exact key_of ok (by rw [← hq.1]; exact hq.2.1)
      · exact ih x hx
  exact all r x hx
theorem dt_of {kvs : List (List Key × V)} (ok : HOk P w H h) (e : H a = some (.dT kvs)) : kvs.length ≤ sizeLine ∧ (a == sysModules) = false ∧
    ∃ xs, KT H kvs xs ∧ h.DictOfH (tupleKind (mixKind P w)) a xs := dt_rd ok (.inl e)
end

/-- what the dict at a holds at the key y -/
def DGet (H : Hp) (a : Addr) (y : V) (r : Option V) : Prop :=
  (∃ kvs k, Rd H a (.dK kvs) ∧ y = kV k ∧ r = valV kvs k) ∨ ∃ kvs k b, Rd H a (.dT kvs) ∧ y = .ref b ∧ H b = some (.tup (k.map kV)) ∧ r = valV kvs k
/-- the heap behind a[y] = v -/
def DPut (H : Hp) (a : Addr) (y v : V) (H' : Hp) : Prop :=
  (∃ kvs k, H a = some (.dK kvs) ∧ y = kV k ∧ kvs.length < sizeLine ∧ H' = upd H a (.dK (putK kvs k v))) ∨
  ∃ kvs k b, H a = some (.dT kvs) ∧ y = .ref b ∧ H b = some (.tup (k.map kV)) ∧ kvs.length < sizeLine ∧ H' = upd H a (.dT (putK kvs k v))
theorem DGet.t {H : Hp} {a b : Addr} {kvs : List (List Key × V)} {k : List Key} (e : H a = some (.dT kvs)) (eb : H b = some (.tup (k.map kV))) : DGet H a (.ref b) (valV kvs k) := .inr ⟨kvs, k, b, .inl e, rfl, eb, rfl⟩
theorem DPut.t {H : Hp} {a b : Addr} {kvs : List (List Key × V)} {k : List Key} {v : V} (e : H a = some (.dT kvs)) (eb : H b = some (.tup (k.map kV))) (hl : kvs.length < sizeLine) :
    DPut H a (.ref b) v (upd H a (.dT (putK kvs k v))) := .inr ⟨kvs, k, b, e, rfl, eb, hl, rfl⟩


section
variable {X : Cx} {pins : List (Addr × Obj)} {σ : St} {H : Hp} {s : Shared} {a : Addr} {y v : V} {u r : Value} {o : Option V} {A : Around} {E : Value → Shared → Prop}

theorem Inv.big (I : Inv X pins σ H s) : sysModules < s.heap.objs.size := by
  have h : mainGlobals < s.heap.objs.size := (I.mod.glob.keeps I.bk).lt
  exact Nat.lt_trans (by decide) h

/-- y in d -/
theorem d_in {Q : Value → Shared → Prop} (hu : A.units + 1 < cLine) (I : Inv X pins σ H s) (g : DGet H a y o) (ry : RelV y u) (h : ∀ s', Inv X pins σ H s' → Q (.bool o.isSome) s') :
    wpAny (model X.prog X.w) A (compareOp .In u (.ref a)) Q E s := by
  rcases g with ⟨kvs, k, e, ey, l⟩ | ⟨kvs, k, b, e, ey, eb, l⟩
  · subst ey
    obtain ⟨z, hd, vs, rel, dd⟩ := dk_rd I.hok e
    refine wpAny_in_of (kV_is ry) hd dd.mapOf ?_
    rw [← (rel.val k).isSome_eq, ← l]
    exact h _ (I.tok _)
  · subst ey
    cases (show u = Value.ref b from ry)
    obtain ⟨z, hd, xs, rel, dd⟩ := dt_rd I.hok e
    refine wpAny_in_heap (tupleKind_room_in1 hu) (key_of I.hok eb) hd dd ?_
    have q := (rel.val k).isSome_eq
    rw [Option.isSome_map] at q
    rw [← q, ← l]
    exact h _ (I.tok _)
/-- a dict's object is replaced -/
theorem d_write {h' : Heap} {t' : Nat} {ob : HO} (I : Inv X pins σ H s) (mu : Mut (H a)) (hs : Heap.SameBut a s.heap h') (he : ∃ q, h'.get? a = some q) (new : ObjOk X.prog X.w (upd H a ob) h' a ob) :
    Inv X pins σ (upd H a ob) { s with heap := h', toks := t' } :=
  I.write (x := a) (e := a) mu (.inl rfl) (fun b q hb z => (hs.2 b hb).trans z) he new
theorem dk_new {P : Program} {w : World} {H' : Hp} {h' : Heap} {kvs : List (Key × V)} {vs : List (Key × Value)} (z : kvs.length ≤ sizeLine) (hd : (a == sysModules) = false) (rel : KV kvs vs) (dd : h'.DictOf (mixKind P w) a vs) :
    ObjOk P w H' h' a (.dK kvs) := ⟨z, hd, vs, rel, dd⟩
/-- d[y] = v -/
theorem d_setItem {H' : Hp} {Q : Unit → Shared → Prop} (hu : A.units + 1 < cLine) (I : Inv X pins σ H s) (g : DPut H a y v H') (ry : RelV y u) (rv : RelV v r) (h : ∀ s', Inv X pins σ H' s' → Q () s') :
    wpAny (model X.prog X.w) A (setItem (.ref a) u r) Q E s := by
  rcases g with ⟨kvs, k, e, ey, l, eH⟩ | ⟨kvs, k, b, e, ey, eb, l, eH⟩
  · subst ey eH
    obtain ⟨z, hd, vs, rel, dd⟩ := dk_of I.hok e
    have hz : vs.length ≤ sizeLine := by rw [← rel.length]; exact z
    have hl : (putK kvs k v).length ≤ sizeLine := by have := length_putK kvs k v; omega
    refine wpAny_setItem_pairs (hsz := hz) (kV_is ry) dd fun h' dd' hs => h _ ?_
    have he : ∃ q, h'.get? a = some q := let ⟨q, _, _, hq, _⟩ := dd'; ⟨q, hq⟩
    exact d_write I (by rw [e]; exact True.intro) hs he (dk_new hl hd (rel.put k rv) dd')
  · subst ey eH
    cases (show u = Value.ref b from ry)
    obtain ⟨z, hd, xs, rel, dd⟩ := dt_of I.hok e
    have hz : xs.length ≤ sizeLine := by rw [← Paired.length rel]; exact z
    have hl : (putK kvs k v).length ≤ sizeLine := by have := length_putK kvs k v; omega
    refine wpAny_setItem_heap (hsz := hz) (tupleKind_room_in1 hu) (key_of I.hok eb) dd fun h' dd' hs => h _ ?_
    obtain ⟨q, es, ep, hq, h2, h3, h4, _, h5⟩ := dd'
    refine d_write I (by rw [e]; exact True.intro) hs ⟨q, hq⟩ ⟨hl, hd, _, (rel.put k eb rv).keeps fun c ys ec => ?_, q, es, ep, hq, h2, h3, h4, h5⟩
    rw [upd_ne (ne_of ec e (fun z => nomatch z))]
    exact ec
end

section
variable {X : Cx} {pins : List (Addr × Obj)} {σ : St} {H : Hp} {s : Shared} {a : Addr} {kvs : List (Key × V)} {k : Key} {u : Value} {A : Around} {E : Value → Shared → Prop}
end


/-! ### readings and rules -/


/-- y in d, y not in d -/
def tDIn (ty td : TE) : TE := fun σ H Q => ty σ H fun y H1 => td σ H1 fun x H2 => ∃ a o, x = .ref a ∧ DGet H2 a y o ∧ Q (.bl o.isSome) H2
/-- d[y] = v -/
def sDPut (td ty tv : TE) : TS := fun D σ H => tv σ H fun v H1 => td σ H1 fun x H2 => ty σ H2 fun y H3 => ∃ a H4, x = .ref a ∧ DPut H3 a y v H4 ∧ D.nx σ H4

section
variable {X : Cx} {o i e value : Expr} {pos pos' tpos : Pos} {td ty tv : TE}
theorem pc_din (hu : X.A.units + 1 < cLine) (hi : PE X i ty) (ho : PE X o td) : PC X .In i o (tDIn ty td) := by
  intro pins s σ H Q I h
  refine thn (hi pins s σ H _ I h) fun iv s1 ⟨y, H1, I1, ry, q1⟩ => thn (ho pins s1 σ H1 _ I1 q1) fun u s2 ⟨x, H2, I2, rx, a, ov, ex, g, q2⟩ => ?_
  subst ex
  obtain rfl : u = Value.ref a := rx
  exact d_in hu I2 g ry fun s3 I3 => ⟨.bl ov.isSome, H2, I3, rfl, q2⟩
theorem ps_dput (hu : X.A.units + 1 < cLine) (ho : PE X o td) (hi : PE X i ty) (hv : PE X value tv) (hs : swapsWith value (some (.Subscript o i pos')) pos.line X.env = pure false) :
    PS X (.Assign [.Subscript o i pos'] value pos) (sDPut td ty tv) := by
  refine ⟨?_⟩
  intro pins s σ H D I h
  refine wpAny_Assign_Subscript (thn (hv pins s σ H _ I h) fun r s1 ⟨v, H1, I1, rv, q1⟩ => thn (ho pins s1 σ H1 _ I1 q1) fun u s2 ⟨x, H2, I2, rx, q2⟩ => thn (hi pins s2 σ H2 _ I2 q2) fun iv s3 ⟨y, H3, I3, ry, a, H4, ex, g, q3⟩ => ?_) hs
  subst ex
  obtain rfl : u = Value.ref a := rx
  exact d_setItem hu I3 g ry rv fun s4 I4 => ⟨σ, H4, I4, q3⟩
end


/-! ### displays -/
theorem dk_empty {P : Program} {w : World} {H : Hp} (h : Heap) (hb : sysModules < h.objs.size) : ObjOk P w H (h.push { cls := .type "dict", data := .dict #[] }) h.objs.size (.dK []) :=
  ⟨Nat.zero_le _, beq_eq_false_iff_ne.mpr (Ne.symm (Nat.ne_of_lt hb)), [], .nil, Heap.DictOf.new h⟩
theorem dt_empty {P : Program} {w : World} {H : Hp} (h : Heap) (hb : sysModules < h.objs.size) : ObjOk P w H (h.push { cls := .type "dict", data := .dict #[] }) h.objs.size (.dT []) :=
  ⟨Nat.zero_le _, beq_eq_false_iff_ne.mpr (Ne.symm (Nat.ne_of_lt hb)), [], .nil, _, #[], 0, Heap.get?_push_size _ rfl, ⟨rfl, rfl, rfl⟩, rfl, rfl, List.nodup_nil⟩
/-- {}, to be a dict of the kind that is wanted -/
def tDNewK : TE := fun _ H Q => ∀ p, H p = none → Q (.ref p) (upd H p (.dK []))
def tDNewT : TE := fun _ H Q => ∀ p, H p = none → Q (.ref p) (upd H p (.dT []))
section
variable {X : Cx} {pos : Pos}
theorem pe_dnewK : PE X (.Dict [] [] pos) tDNewK := .mk fun pins s σ H Q I h =>
  wpAny_Dict_empty ⟨.ref s.heap.objs.size, _, I.laid (a := s.heap.objs.size) (o := .dK []) (t' := s.toks) (fun _ _ q => Heap.get?_push_of_some _ q) (Nat.le_refl _) (dk_empty s.heap I.big), rfl, h _ (I.hok.fresh (Nat.le_refl _))⟩
theorem pe_dnewT : PE X (.Dict [] [] pos) tDNewT := .mk fun pins s σ H Q I h =>
  wpAny_Dict_empty ⟨.ref s.heap.objs.size, _, I.laid (a := s.heap.objs.size) (o := .dT []) (t' := s.toks) (fun _ _ q => Heap.get?_push_of_some _ q) (Nat.le_refl _) (dt_empty s.heap I.big), rfl, h _ (I.hok.fresh (Nat.le_refl _))⟩
end




/-! ### methods -/


section
variable {X : Cx} {pins : List (Addr × Obj)} {σ : St} {H : Hp} {s : Shared} {a : Addr} {y d : V} {u r : Value} {o : Option V} {A : Around} {E : Value → Shared → Prop}
end

section
variable {X : Cx} {o e f : Expr} {apos cpos : Pos} {td ty tx : TE}
end

/-! ### dict(d): a copy -/
section
variable {X : Cx} {pins : List (Addr × Obj)} {σ : St} {H : Hp} {s : Shared} {a : Addr} {kvs : List (Key × V)} {A : Around} {E : Value → Shared → Prop}
end


section
variable {X : Cx} {pins : List (Addr × Obj)} {σ : St} {H : Hp} {s : Shared} {a : Addr} {y : V} {u : Value} {A : Around} {E : Value → Shared → Prop}
end
end L2
set_option Elab.async false
set_option linter.all false
set_option maxRecDepth 100000
/-! a dict whatever its keys are: iter, next, list(d) -/
namespace Dx
open PySem PySem.Spec PySem.W PySem.Calls PyProof.Rows
/-- a dict's entries -/
def DE (h : Heap) (d : Addr) (es : Array DictEntry) (ep : Nat) : Prop := ∃ o, h.get? d = some o ∧ o.ExactDict ∧ o.data = .dict es ep
theorem DE.keep {h h' : Heap} {d : Addr} {es : Array DictEntry} {ep : Nat} (x : DE h d es ep) (k : ∀ o, h.get? d = some o → h'.get? d = some o) : DE h' d es ep := by
  obtain ⟨o, e, r⟩ := x
  exact ⟨o, k o e, r⟩
theorem DE.lt {h : Heap} {d : Addr} {es : Array DictEntry} {ep : Nat} (x : DE h d es ep) : d < h.objs.size := by
  obtain ⟨o, e, _⟩ := x
  exact Heap.lt_size e
theorem DE.ty {s : Shared} {d : Addr} {es : Array DictEntry} {ep : Nat} (x : DE s.heap d es ep) : s.TypeIs (.ref d) "dict" := by
  obtain ⟨o, e, r, _⟩ := x
  exact ⟨o, e, r.1⟩
section
variable {prog : Program} {w : World} {A : Around} {E : Value → Shared → Prop} {s : Shared} {d it : Addr} {es : Array DictEntry} {ep i : Nat}
theorem iter {Q : Value → Shared → Prop} (hd : (d == sysModules) = false) (hm : DE s.heap d es ep)
    (q : Q (.ref s.heap.objs.size) { s with heap := s.heap.push { cls := .type "dict_keyiterator", data := .fields #[.ref d, .int 0 0, .int es.size 0, .int ep 0] } }) : wpAny (model prog w) A (pyIter (.ref d)) Q E s := by
  have hT := hm.ty
  obtain ⟨o, ho, hc, hdat⟩ := hm
  refine wpAny_pyIter_slot hT PySem.F.slot_dict_iter (wpAny_call_entry PySem.F.slot_dict_iter hT PySem.F.entry_dict_iter ?_ (PySem.F.args_dict_iter_1 _))
  unfold Builtin.«dict.__iter__» Builtin.Dict.dictSlotNone
  refine wpAny_bind (wpAny_bind (wpAny_notOrdered_dict hT ?_))
  show wpAny _ _ (pure (Value.ref d)) _ _ s
  refine wpAny_pure ?_
  show wpAny _ _ (Builtin.Dict.showsAll d >>= _) _ _ s
  unfold Builtin.Dict.showsAll
  rw [if_neg (by rw [hd]; simp)]
  refine wpAny_bind (wpAny_pure (wpAny_bind (wpAny_dictEntries ho hdat (wpAny_bind (wpAny_dictEpoch ho hdat (wpAny_bind (wpAny_newObj_type (wpAny_pure ⟨_, rfl, "dict_keyiterator", _, ⟨_, Heap.get?_push_size _ rfl, rfl⟩, PySem.F.slot_dict_keyiterator_next.lookup, ?_⟩))))))))
  simpa [rawInt] using q
theorem next {e : DictEntry} {Q : Option Value → Shared → Prop} (hit : s.heap.IsKeyIter it d i es.size ep) (hm : DE s.heap d es ep) (hx : es[i]? = some e)
    (q : ∀ h', h'.IsKeyIter it d (i + 1) es.size ep → Heap.SameBut it s.heap h' → Q (some e.key) { s with heap := h' }) : wpAny (model prog w) A (pyNext (.ref it)) Q E s := by
  have hT := hit.typeIs
  obtain ⟨o, ho, hc, hd⟩ := hit
  obtain ⟨od, hod, hcd, hdd⟩ := hm
  have hown : Builtin.Dict_items.ownsTuple "dict_keyiterator" = false := by decide
  obtain ⟨hlt, he⟩ := Array.getElem?_eq_some_iff.mp hx
  unfold pyNext
  refine wpAny_bind (wpAny_attempt (wpAny_callSpecial?_slot (name := Str.ofString "__next__") hT PySem.F.slot_dict_keyiterator_next (wpAny_call_entry PySem.F.slot_dict_keyiterator_next hT PySem.F.entry_dict_keyiterator_next ?_ (PySem.F.args_dict_keyiterator_next_1 _))))
  refine wpAny_bind (wpAny_pure (wpAny_bind (wpAny_bind ?_)))
  first | refine wpAny_bind (wpAny_typeNameOfWhole_keyiter hT (wpAny_pure (wpAny_bind (wpAny_fieldsOf ho hd ?_)))) | refine wpAny_bind (wpAny_typeNameOf_keyiter hT (wpAny_pure (wpAny_bind (wpAny_fieldsOf ho hd ?_))))
  simp only [hown, Bool.false_eq_true, if_false]
  show wpAny _ _ (if (Value.ref d == Value.none) = true then _ else _) _ _ s
  rw [if_neg (show ¬ ((Value.ref d == Value.none) = true) by simp)]
  refine wpAny_bind (wpAny_pure (wpAny_bind (wpAny_dictEntries hod hdd ?_)))
  rw [if_neg (by simp)]
  refine wpAny_bind (wpAny_pure (wpAny_bind (wpAny_dictEpoch hod hdd ?_)))
  rw [if_neg (by simp)]
  refine wpAny_pure ?_
  simp only [show ¬ ((i : Int) < 0) by omega, if_false, Int.toNat_natCast, hx]
  refine wpAny_bind ?_
  first | refine wpAny_bind (wpAny_typeNameOfWhole_keyiter hT (wpAny_pure (wpAny_bind (wpAny_isOneOf_keyiter hT ?_)))) | refine wpAny_bind (wpAny_typeNameOf_keyiter hT (wpAny_pure (wpAny_bind (wpAny_isOneOf_keyiter hT ?_))))
  show wpAny _ _ (setField (.ref it) 1 (rawInt ((i : Int) + 1)) >>= _) _ _ s
  refine wpAny_bind (wpAny_setField ho hd (by simp) ?_)
  have hit' : (s.heap.update it (Obj.mapFields fun z => z.setIfInBounds 1 (rawInt ((i : Int) + 1)))).IsKeyIter it d (i + 1) es.size ep :=
    ⟨_, Heap.get?_update_self _ ho (Obj.isFreed_of_fields (Obj.data_mapFields hd _)), (Obj.cls_mapFields ..).trans hc, by rw [Obj.data_mapFields hd]; simp [rawInt]⟩
  refine wpAny_bind (wpAny_holding (wpAny_bind (wpAny_isOneOf_keyiter (s := { s with heap := s.heap.update it (Obj.mapFields fun z => z.setIfInBounds 1 (rawInt ((i : Int) + 1))) }) hit'.typeIs ?_)))
  show wpAny _ _ (pure e.key) _ _ _
  exact wpAny_pure (wpAny_pure ⟨_, rfl, wpAny_pure (q _ hit' (Heap.SameBut.update ..))⟩)
theorem stop {Q : Option Value → Shared → Prop} (hh : A.handled = none) (hge : es.size ≤ i) (hit : s.heap.IsKeyIter it d i es.size ep) (hm : DE s.heap d es ep)
    (q : ∀ h', Heap.ExtBut it s.heap h' → Q none { s with heap := h' }) : wpAny (model prog w) A (pyNext (.ref it)) Q E s := by
  have hT := hit.typeIs
  obtain ⟨o, ho, hc, hd⟩ := hit
  obtain ⟨od, hod, hcd, hdd⟩ := hm
  have hown : Builtin.Dict_items.ownsTuple "dict_keyiterator" = false := by decide
  unfold pyNext
  refine wpAny_bind (wpAny_attempt (wpAny_callSpecial?_slot (name := Str.ofString "__next__") hT PySem.F.slot_dict_keyiterator_next (wpAny_call_entry PySem.F.slot_dict_keyiterator_next hT PySem.F.entry_dict_keyiterator_next ?_ (PySem.F.args_dict_keyiterator_next_1 _))))
  refine wpAny_bind (wpAny_pure (wpAny_bind (wpAny_bind ?_)))
  first | refine wpAny_bind (wpAny_typeNameOfWhole_keyiter hT (wpAny_pure (wpAny_bind (wpAny_fieldsOf ho hd ?_)))) | refine wpAny_bind (wpAny_typeNameOf_keyiter hT (wpAny_pure (wpAny_bind (wpAny_fieldsOf ho hd ?_))))
  simp only [hown, Bool.false_eq_true, if_false]
  show wpAny _ _ (if (Value.ref d == Value.none) = true then _ else _) _ _ s
  rw [if_neg (show ¬ ((Value.ref d == Value.none) = true) by simp)]
  refine wpAny_bind (wpAny_pure (wpAny_bind (wpAny_dictEntries hod hdd ?_)))
  rw [if_neg (by simp)]
  refine wpAny_bind (wpAny_pure (wpAny_bind (wpAny_dictEpoch hod hdd ?_)))
  rw [if_neg (by simp)]
  refine wpAny_pure ?_
  simp only [show ¬ ((i : Int) < 0) by omega, if_false, Int.toNat_natCast, Array.getElem?_eq_none hge]
  refine wpAny_bind ?_
  first | refine wpAny_bind (wpAny_typeNameOfWhole_keyiter hT (wpAny_pure ?_)) | refine wpAny_bind (wpAny_typeNameOf_keyiter hT (wpAny_pure ?_))
  show wpAny _ _ (setField (.ref it) 0 .none >>= _) _ _ s
  refine wpAny_bind (wpAny_setField ho hd (by simp) ?_)
  show wpAny _ _ (newExc (.type "StopIteration") [] >>= _) _ _ _
  simp only [newExc, newTuple]
  refine wpAny_bind (wpAny_bind (wpAny_newObj_type (wpAny_bind (m := firstArgMember _ _) (wpAny_of_eq (a := Value.none) (by first | rfl | (simp only [firstArgMember]; rfl)) (wpAny_newObj_type ?_ (by size_fits)))) (by size_fits)))
  simp only [raiseNew]
  refine wpAny_bind (wpAny_handled ?_)
  rw [show A.in1.handled = none from hh]
  refine wpAny_bind (wpAny_pure (wpAny_throw ?thr))
  case thr => exact wpAny_bind (wpAny_isInstance (T := "StopIteration") (b := true) ⟨_, Heap.get?_push_size _ rfl, rfl⟩ isSubtype_stop (wpAny_pure (q _ (((Heap.SameBut.update ..).extBut.push _).push _))))
theorem walks (hh : A.handled = none) (I : Addr) (hne : d ≠ I) : Walks prog w A I [I, d] [I] es.size (fun i v => ∃ e, es[i]? = some e ∧ v = e.key) (fun i h => h.IsKeyIter I d i es.size ep ∧ DE h d es ep) where
  sub := fun b hb => by simp at hb; simp [hb]
  frame := fun _ _ _ st hk => ⟨st.1.at fun o e => hk I (by simp) o e, st.2.keep fun o e => hk d (by simp) o e⟩
  item := fun i s Q E hi st hQ => by
    obtain ⟨e, hx⟩ : ∃ e, es[i]? = some e := ⟨es[i], Array.getElem?_eq_getElem hi⟩
    refine next st.1 st.2 hx fun h' hit' hs' => hQ e.key h' s.toks ⟨e, hx, rfl⟩ ⟨hit', st.2.keep fun o z => ?_⟩ fun b o hb z => hs'.extBut b o (fun h => hb (by simp [h])) z
    exact hs'.extBut d o hne z
  done := fun s Q E st hQ => stop hh (Nat.le_refl _) st.1 st.2 fun h' he' => hQ h' s.toks fun b o hb e => he' b o (fun h => hb (by simp [h])) e
  self := fun _ _ _ _ st hQ => wpAny_pyIter_keyiter st.1 hQ
theorem src (lo : (d == sysModules) = false) : KdlSrc prog w "dict" d d es.size (fun i v => ∃ e, es[i]? = some e ∧ v = e.key) (fun h => DE h d es ep) where
  type := fun _ hm => hm.ty
  there := fun _ hm => ⟨hm.lt, hm.lt⟩
  keep := fun _ _ hm hk => hm.keep fun o e => hk d (.inl rfl) o e
  notList := by decide
  notTuple := by decide
  hint := fun _ _ _ _ hm hq => kdl_hint_dict hm.ty hq
  iter := fun _ s hh hm => ⟨_, _, (fun _ _ hq => iter lo hm hq), walks hh _ (Nat.ne_of_lt hm.lt), ⟨⟨_, Heap.get?_push_size _ rfl, rfl, rfl⟩, hm.keep fun o e => Heap.get?_push_of_some _ e⟩⟩
end
end Dx
set_option Elab.async false
set_option linter.all false
set_option maxRecDepth 100000
/-! del d[k], d.pop(k) of a dict with tuples for keys -/
namespace L2
open PySem PySem.Spec PyProof.Rows
section
variable {X : Cx} {pins : List (Addr × Obj)} {σ : St} {H : Hp} {s : Shared} {a b : Addr} {kvs : List (List Key × V)} {k : List Key} {A : Around} {E : Value → Shared → Prop}
end
section
variable {X : Cx} {o i : Expr} {td ty : TE} {pos tpos : Pos}
end
end L2
set_option Elab.async false
set_option linter.all false
set_option maxRecDepth 100000
/-! locks -/
namespace Pr
open PySem L2 PyProof.Rows
abbrev BP : Type := Int × Int
def keyOf (p : BP) : List Key := [.inl p.1, .inl p.2]
theorem keyOf_inj {p q : BP} (h : keyOf p = keyOf q) : p = q := by
  obtain ⟨a, b⟩ := p
  obtain ⟨c, d⟩ := q
  injection h with h1 h2
  injection h2 with h2 _
  cases h1
  cases h2
  rfl
/-- the dict of shut bars -/
def sd (prs : List BP) : List (List Key × V) := prs.map fun p => (keyOf p, .bl true)
theorem sd_len (prs : List BP) : (sd prs).length = prs.length := List.length_map _
theorem valV_sd (prs : List BP) (p : BP) : (valV (sd prs) (keyOf p)).isSome = decide (p ∈ prs) := by
  induction prs with
  | nil => rfl
  | cons q t ih =>
    show (valV ((keyOf q, V.bl true) :: sd t) (keyOf p)).isSome = _
    by_cases e : q = p
    · subst e
      rw [valV_pos rfl, decide_eq_true (List.mem_cons_self)]; rfl
    · rw [valV_neg (fun z => e (keyOf_inj z)), ih]
      by_cases m : p ∈ t
      · rw [decide_eq_true m, decide_eq_true (List.mem_cons_of_mem _ m)]
      · rw [decide_eq_false m, decide_eq_false (fun z => (List.mem_cons.mp z).elim (fun y => e y.symm) m)]
theorem putK_sd {prs : List BP} {p : BP} (h : p ∉ prs) : putK (sd prs) (keyOf p) (.bl true) = sd (prs ++ [p]) := by
  unfold putK
  rw [valV_any, valV_sd, decide_eq_false h, if_neg Bool.false_ne_true]
  unfold sd
  rw [List.map_append]
  rfl
/-- locks at p, of the ladder at x, with the dict at d -/
def lflds (x d : Addr) : List (Str × V) := [("ladder", .ref x), ("shut_pairs", .ref d)]
structure LockAt (Dc : Addr) (H : Hp) (p x d : Addr) (prs : List BP) : Prop where
  i : ∃ dx, H p = some (.ins Dc dx (lflds x d))
  s : H d = some (.dT (sd prs))
theorem LockAt.same {Dc : Addr} {H H' : Hp} {p x d : Addr} {prs : List BP} (s : Same H H') (h : LockAt Dc H p x d prs) : LockAt Dc H' p x d prs := by
  obtain ⟨⟨dx, h1⟩, h2⟩ := h
  exact ⟨⟨dx, s _ _ h1⟩, s _ _ h2⟩
section
variable {P : Program} {w : World} {K : PySem.W.Frag} {mg : Str → Option Value} {base : Heap} {C : Addr}
inductive sp_linit (Dc : Addr) (vs : List V) (H : Hp) (Q : VK) (E : XK) : Prop
  | mk (p dx x : Addr) (e0 : vs = [.ref p, .ref x]) (hp : H p = some (.ins Dc dx [])) (q : ∀ d H', But p H H' → H d = none → LockAt Dc H' p x d [] → Q .non H') : sp_linit Dc vs H Q E
theorem sc_linit : FnScope ["self", "ladder"] ["self", "ladder"] (defScope sm_Locks_init) := ⟨rfl, rfl, rfl, by decide +kernel, rfl, by decide +kernel, by decide +kernel⟩
theorem linit_ok (T : Txt K mg C) {f : Addr} {fd : FuncData} (F : Fun K "__init__" "Locks.__init__" sm_Locks_init f fd) : FnOk P w K mg base CX0 1 f fd ["self", "ladder"] (sp_linit (cOf mg "Locks")) := by
  refine F.ok sc_linit (fun vs H Q E h => ?_) (fun cdv A outer s H vs Q E hr h => ?_)
  · obtain ⟨p, dx, x, rfl, _⟩ := h
    rfl
  · obtain ⟨p, dx, x, rfl, hp, q⟩ := h
    refine ⟨_, (pss_cons (ps_fld (pv 0) (pv 1) rfl)
      (pss_one (ps_fld (pv 0) pe_dnewT rfl))), ?_⟩
    refine ⟨_, rfl, _, rfl, p, _, dx, _, rfl, hp, T.cl_Locks, T.n_Locks_ladder, by decide, ?_⟩
    intro kn hkn
    have nk : kn ≠ p := fun z => by rw [z, upd_same] at hkn; cases hkn
    have hk0 : H kn = none := by rw [upd_ne nk] at hkn; exact hkn
    refine ⟨_, rfl, p, _, dx, _, rfl, by rw [upd_ne (Ne.symm nk)]; exact upd_same, T.cl_Locks, T.n_Locks_shut_pairs, by show 1 < 1000; decide, ?_⟩
    refine q kn _ (fun c o h n => ?_) hk0 ⟨⟨dx, upd_same⟩, by rw [upd_ne nk]; exact upd_same⟩
    rw [upd_ne n, upd_ne (ne_of_none h hk0), upd_ne n]; exact h
inductive sp_is_shut (C Dc : Addr) (vs : List V) (H : Hp) (Q : VK) (E : XK) : Prop
  | mk (p x d : Addr) (r n b : Int) (ps : List Int) (rows : List Lad.Step) (prs : List BP) (e0 : vs = [.ref p, .int r, .int n]) (hK : LockAt Dc H p x d prs) (hL : LadAt C H x b ps rows) (r0 : 0 ≤ r) (r1 : r ≤ (rows.length : Int)) (n0 : -W40 < n) (n1 : n < W40) (q : ∀ H', Same H H' → Q (.bl (decide ((r, n) ∈ prs))) H') : sp_is_shut C Dc vs H Q E
theorem sc_is_shut : FnScope ["self", "roll", "number"] ["self", "roll", "number"] (defScope sm_Locks_is_shut) := ⟨rfl, rfl, rfl, by decide +kernel, rfl, by decide +kernel, by decide +kernel⟩
theorem is_shut (T : Txt K mg C) : CanM P w K mg base (cOf mg "Locks") 4 "is_shut" ["self", "roll", "number"] (sp_is_shut C (cOf mg "Locks")) := by
  refine fm_can T.m_Locks_is_shut sc_is_shut (fun vs H Q E h => ?_) (fun f cdv A outer s H vs Q E hr h => ?_)
  · obtain ⟨p, x, d, r, n, b, ps, rows, prs, rfl, _⟩ := h
    rfl
  · obtain ⟨p, x, d, r, n, b, ps, rows, prs, rfl, ⟨⟨dx, hp⟩, hd⟩, hL, r0, r1, n0, n1, q⟩ := h
    refine ⟨_, (pss_cons (ps_expr (pe_can (need_roll T) hr (pa3 (pv 1) pe_int (pe_op op_sub (pe_canM0 (pe_fldK K (pv 0) rfl) T.cl (rolls T) hr) pe_int))))
      (pss_cons (ps_expr (pe_can (need_number T) hr (pa1 (pv 2))))
      (pss_one (ps_ret (pe_cmp (pc_din (hu_of hr) (pe_tup (pa2 (pv 1) (pv 2))) (pe_fldK K (pv 0) rfl))))))), ?_⟩
    obtain ⟨ldx, fa, fo, fc, hi⟩ := lad_ins hL
    refine ⟨_, rfl, _, rfl, p, _, dx, _, _, rfl, hp, T.cl_Locks, T.n_Locks_ladder, rfl, x, ldx, _, rfl, hi, flds_no _ _ _ (by decide) (by decide) (by decide), x, b, ps, rows, rfl, hL, _, _, rfl, rfl, r, 0, _, rfl, r0, by omega, ?_⟩
    refine ⟨_, rfl, n, rfl, n0, n1, ?_⟩
    refine ⟨_, rfl, _, rfl, two_line, fun t ht => ?_⟩
    have s1 : Same H (upd H t (.tup [.int r, .int n])) := Same.upd ht
    refine ⟨_, rfl, p, _, dx, _, _, rfl, s1 _ _ hp, T.cl_Locks, T.n_Locks_shut_pairs, rfl, d, _, rfl, DGet.t (k := keyOf (r, n)) (s1 _ _ hd) upd_same, ?_⟩
    rw [valV_sd]
    exact q _ s1
inductive sp_shut (C Dc : Addr) (vs : List V) (H : Hp) (Q : VK) (E : XK) : Prop
  | mk (p x d : Addr) (r n b : Int) (ps : List Int) (rows : List Lad.Step) (prs : List BP) (e0 : vs = [.ref p, .int r, .int n]) (hK : LockAt Dc H p x d prs) (hL : LadAt C H x b ps rows) (r0 : 0 ≤ r) (r1 : r ≤ (rows.length : Int)) (n0 : -W40 < n) (n1 : n < W40) (hl : prs.length < 1000) (no : (r, n) ∉ prs) (q : ∀ H', But d H H' → LockAt Dc H' p x d (prs ++ [(r, n)]) → Q .non H') : sp_shut C Dc vs H Q E
theorem sc_shut : FnScope ["self", "roll", "number"] ["self", "roll", "number"] (defScope sm_Locks_shut) := ⟨rfl, rfl, rfl, by decide +kernel, rfl, by decide +kernel, by decide +kernel⟩
theorem shut (T : Txt K mg C) : CanM P w K mg base (cOf mg "Locks") 5 "shut" ["self", "roll", "number"] (sp_shut C (cOf mg "Locks")) := by
  refine fm_can T.m_Locks_shut sc_shut (fun vs H Q E h => ?_) (fun f cdv A outer s H vs Q E hr h => ?_)
  · obtain ⟨p, x, d, r, n, b, ps, rows, prs, rfl, _⟩ := h
    rfl
  · obtain ⟨p, x, d, r, n, b, ps, rows, prs, rfl, ⟨⟨dx, hp⟩, hd⟩, hL, r0, r1, n0, n1, hl, no, q⟩ := h
    refine ⟨_, (pss_cons (ps_if (pt_val (pe_canM (pv 0) T.cl_Locks (is_shut T) hr (pa2 (pv 1) (pv 2)))) pss_never pss_nil)
      (pss_one (ps_dput (hu_of hr) (pe_fldK K (pv 0) rfl) (pe_tup (pa2 (pv 1) (pv 2))) pe_bl rfl))), ?_⟩
    refine ⟨_, rfl, p, dx, _, rfl, hp, rfl, _, rfl, _, rfl, p, x, d, r, n, b, ps, rows, prs, rfl, ⟨⟨dx, hp⟩, hd⟩, hL, r0, r1, n0, n1, fun H1 s1 => ⟨_, rfl, iteN (decide_eq_false no) ?_⟩⟩
    refine ⟨_, rfl, p, _, dx, _, _, rfl, s1 _ _ hp, T.cl_Locks, T.n_Locks_shut_pairs, rfl, _, rfl, _, rfl, two_line, fun t ht => ?_⟩
    have s2 : Same H (upd H1 t (.tup [.int r, .int n])) := s1.trans (Same.upd ht)
    refine ⟨d, _, rfl, DPut.t (k := keyOf (r, n)) (s2 _ _ hd) upd_same (by rw [sd_len, sizeLine_eq]; omega), ?_⟩
    rw [putK_sd no]
    have pd : p ≠ d := fun z => by rw [z, hd] at hp; cases hp
    exact q _ (fun c o h n => by rw [upd_ne n]; exact s2 _ _ h) ⟨⟨dx, by rw [upd_ne pd]; exact s2 _ _ hp⟩, upd_same⟩
end
end Pr
set_option Elab.async false
set_option linter.all false
set_option maxRecDepth 100000
/-! repr, ==, != of data (numbers, texts, None, lists and tuples of these), min and max of a list of ints, over the hand layer. -/
namespace L2
open PySem PySem.Spec PyProof.Rows
/-! a thing that is read as that data -/
mutual
def Dat (H : Hp) : PyData → V → Prop
  | .none, v => v = .non
  | .bool b, v => v = .bl b
  | .int i, v => v = .int i
  | .str x, v => v = .str x
  | .list ds, v => ∃ a xs, v = .ref a ∧ H a = some (.lst xs) ∧ DatAll H ds xs
  | .tuple ds, v => ∃ a xs, v = .ref a ∧ H a = some (.tup xs) ∧ DatAll H ds xs
  | .dict _, _ => False
def DatAll (H : Hp) : List PyData → List V → Prop
  | [], xs => xs = []
  | d :: ds, xs => ∃ x r, xs = x :: r ∧ Dat H d x ∧ DatAll H ds r
end
section
variable {X : Cx} {pins : List (Addr × Obj)} {σ : St} {H : Hp} {s : Shared}
mutual
theorem Dat.reads (I : Inv X pins σ H s) : ∀ (d : PyData) (v : V) (u : Value), RelV v u → Dat H d v → ∃ as, Reads s.heap u d as
  | .none, v, u, r, h => by unfold Dat at h; subst h; cases r; exact ⟨_, .none⟩
  | .bool b, v, u, r, h => by unfold Dat at h; subst h; cases r; exact ⟨_, .bool b⟩
  | .int i, v, u, r, h => by unfold Dat at h; subst h; obtain ⟨t, rfl⟩ := r; exact ⟨_, .int i t⟩
  | .str x, v, u, r, h => by unfold Dat at h; subst h; obtain ⟨t, rfl⟩ := r; exact ⟨_, .str x t⟩
  | .list ds, v, u, r, h => by
    unfold Dat at h
    obtain ⟨a, xs, rfl, h1, h2⟩ := h
    cases r
    obtain ⟨_, its, n, rv, e⟩ := I.hok a _ h1
    obtain ⟨as, hr⟩ := DatAll.reads I ds xs its rv h2
    exact ⟨_, .list e rfl rfl (by simpa using hr)⟩
  | .tuple ds, v, u, r, h => by
    unfold Dat at h
    obtain ⟨a, xs, rfl, h1, h2⟩ := h
    cases r
    obtain ⟨_, its, rv, o, ho, hc, n, hd⟩ := I.hok a _ h1
    obtain ⟨as, hr⟩ := DatAll.reads I ds xs its rv h2
    exact ⟨_, .tuple ho hc hd (by simpa using hr)⟩
  | .dict _, v, u, r, h => by unfold Dat at h; exact h.elim
theorem DatAll.reads (I : Inv X pins σ H s) : ∀ (ds : List PyData) (xs : List V) (us : List Value), Vals xs us → DatAll H ds xs → ∃ as, ReadsAll s.heap us ds as
  | [], xs, us, r, h => by unfold DatAll at h; subst h; cases r; exact ⟨_, .nil⟩
  | d :: ds, xs, us, r, h => by
    unfold DatAll at h
    obtain ⟨x, rr, rfl, h1, h2⟩ := h
    cases r with
    | cons rx rt =>
      obtain ⟨as, q1⟩ := Dat.reads I d x _ rx h1
      obtain ⟨bs, q2⟩ := DatAll.reads I ds rr _ rt h2
      exact ⟨_, .cons q1 q2⟩
end
end
section
variable {X : Cx}
inductive rEqD (neg : Bool) (x y : V) (H : Hp) (Q : VK) : Prop
  | mk (d d' : PyData) (h : Dat H d x) (h' : Dat H d' y) (f : d.canLay0 = true) (f' : d'.canLay0 = true) (p : d.depth ≤ 8) (q : Q (.bl (if neg then !PyData.eqv d d' else PyData.eqv d d')) H) : rEqD neg x y H Q
theorem op_eqD {k : Nat} (hr : Room k X.A) : OpR X (compareOp .Eq) (rEqD false) := by
  intro pins s σ H x y v u Q I rx ry h
  obtain ⟨d, d', h1, h2, f, f', p, q⟩ := h
  obtain ⟨as, r1⟩ := Dat.reads I d _ _ rx h1
  obtain ⟨bs, r2⟩ := Dat.reads I d' _ _ ry h2
  exact SeqAt.eqOverData X.prog X.w X.A X.xe s v u d d' as bs _ r1 r2 f f' (by have := hr.un; omega) (fin_bl I q rfl)
theorem op_neD {k : Nat} (hr : Room k X.A) : OpR X (compareOp .NotEq) (rEqD true) := by
  intro pins s σ H x y v u Q I rx ry h
  obtain ⟨d, d', h1, h2, f, f', p, q⟩ := h
  obtain ⟨as, r1⟩ := Dat.reads I d _ _ rx h1
  obtain ⟨bs, r2⟩ := Dat.reads I d' _ _ ry h2
  exact SeqAt.compareNe_reads r1 r2 f f' (by have := hr.un; omega) (fin_bl I q rfl)
end
section
variable {X : Cx}
end
end L2
set_option Elab.async false
set_option linter.all false
set_option maxRecDepth 100000
/-! repr of a list whose things are data or flat dicts, over the hand layer. -/
namespace L2
open PySem PySem.Spec PyProof.Rows
/-- a thing that is no object, as data -/
inductive Flat : Value → PyData → Prop
  | none : Flat .none .none
  | bool (b : Bool) : Flat (.bool b) (.bool b)
  | int (i : Int) (t : Tok) : Flat (.int i t) (.int i)
  | str (x : Str) (t : Tok) : Flat (.str x t) (.str x)
/-- a dict at a whose keys and values are no objects -/
def LitP (a : Addr) (kvs : List (PyData × PyData)) (h : Heap) : Prop :=
  (a == sysModules) = false ∧ ∃ o es n, h.get? a = some o ∧ o.cls = .type "dict" ∧ o.data = .dict es n ∧ Paired Flat (es.toList.map (·.key)) (kvs.map (·.1)) ∧ Paired Flat (es.toList.map (·.val)) (kvs.map (·.2))
def LitO (a : Addr) (kvs : List (PyData × PyData)) : HO := .ext (LitP a kvs)
section
variable {X : Cx} {pins : List (Addr × Obj)} {σ : St} {H : Hp} {s : Shared}
end
section
variable {X : Cx}
end
end L2
set_option Elab.async false
set_option linter.all false
set_option maxRecDepth 100000
/-! isinstance of None, texts and dicts, too, over the hand layer. -/
namespace L2
open PySem PySem.Spec PyProof.Rows
inductive TyW (H : Hp) : V → Value → Prop
  | s {x : V} {t : Value} (h : TyS H x t) : TyW H x t
  | non : TyW H .non (.type "NoneType")
  | str (x : Str) : TyW H (.str x) (.type "str")
  | dK {a : Addr} {kvs : List (Key × V)} (h : H a = some (.dK kvs)) : TyW H (.ref a) (.type "dict")
  | lit {a : Addr} {kvs : List (PyData × PyData)} (h : H a = some (LitO a kvs)) : TyW H (.ref a) (.type "dict")
section
variable {X : Cx}
theorem tyw_kit {pins : List (Addr × Obj)} {σ : St} {H : Hp} {s : Shared} {x : V} {u t : Value} (I : Inv X pins σ H s) (rx : RelV x u) (ty : TyW H x t) : ∃ Hx : Heap → Prop, PySem.W.KitX X.K u t Hx ∧ Hx s.heap ∧ u ≠ .builtin "__main__.__loader__#opaque" := by
  cases ty with
  | s h => exact ty_kit I rx h
  | non => cases (show u = Value.none from rx); exact ⟨_, PySem.W.kitx_none, True.intro, fun z => nomatch z⟩
  | str y => obtain ⟨t, q⟩ := (show ∃ t, u = Value.str y t from rx); cases q; exact ⟨_, PySem.W.kitx_str, True.intro, fun z => nomatch z⟩
  | @dK a kvs h =>
    cases (show u = Value.ref a from rx)
    obtain ⟨_, _, _, _, o, _, _, e, c, _⟩ := (show ObjOk X.prog X.w H s.heap a (.dK kvs) from I.hok a _ h)
    exact ⟨_, PySem.W.kitx_dict, ⟨o, e, c.1⟩, fun z => nomatch z⟩
  | @lit a kvs h =>
    cases (show u = Value.ref a from rx)
    obtain ⟨⟨_, o, _, _, e, c, _⟩, _⟩ := (show ObjOk X.prog X.w H s.heap a (LitO a kvs) from I.hok a _ h)
    exact ⟨_, PySem.W.kitx_dict, ⟨o, e, c⟩, fun z => nomatch z⟩
inductive cIsW (K : PySem.W.Frag) (xs : List V) (H : Hp) (Q : VK) : Prop
  | mk (x : V) (t : Value) (T : String) (b : Bool) (e : xs = [x, .ty T]) (h : TyW H x t) (k : PySem.W.kitOne K t (.type T) = some b) (q : Q (.bl b) H) : cIsW K xs H Q
theorem call_isiW (K : PySem.W.Frag) (ek : X.K = K := by rfl) : CallR X (.builtin "isinstance") (cIsW K) := by
  subst ek
  intro pins s σ H xs us Q I r h
  obtain ⟨x, t, T, b, rfl, ty, e, q⟩ := h
  obtain ⟨u, w', rfl, rx, rt⟩ := vals2 r
  cases rt
  obtain ⟨Hx, Z, p, hx⟩ := tyw_kit I rx ty
  exact PySem.W.kia_one Z I.kIn p e hx fun tk => ⟨.bl b, H, I.tok tk, rfl, q⟩
end
end L2
set_option Elab.async false
set_option linter.all false
set_option maxRecDepth 100000
/-! displays of dicts whose keys are ints, texts and None, over the hand layer: flat dicts that are never written. -/
namespace L2
open PySem PySem.Spec PyProof.Rows
end L2
set_option Elab.async false
set_option linter.all false
set_option maxRecDepth 100000
/-! the checks, of any thing -/
namespace Pr
namespace Any
open PySem L2 PyProof.Rows
section
variable {P : Program} {w : World} {K : PySem.W.Frag} {mg : Str → Option Value} {base : Heap} {C : Addr}
/-- the whole number that a thing is -/
def wh : V → Option Int
  | .int i => some i
  | _ => none
/-- a thing of a known kind -/
def Kd (H : Hp) (v : V) : Prop := ∃ t, TyW H v t
theorem TyS.same {H H' : Hp} (s : Same H H') {v : V} {t : Value} (h : TyS H v t) : TyS H' v t := by
  cases h with
  | bl b => exact .bl b
  | int i => exact .int i
  | lst e => exact .lst (s _ _ e)
  | tup e => exact .tup (s _ _ e)
theorem TyW.same {H H' : Hp} (s : Same H H') {v : V} {t : Value} (h : TyW H v t) : TyW H' v t := by
  cases h with
  | s h => exact .s (TyS.same s h)
  | non => exact .non
  | str x => exact .str x
  | dK e => exact .dK (s _ _ e)
  | lit e => exact .lit (s _ _ e)
theorem Kd.same {H H' : Hp} {v : V} (s : Same H H') (h : Kd H v) : Kd H' v := let ⟨t, h⟩ := h; ⟨t, TyW.same s h⟩
/-- is it an int, is it a bool -/
theorem kd_int {H : Hp} {v : V} {t : Value} (K : PySem.W.Frag) (h : TyW H v t) : (∃ i, v = .int i ∧ t = .type "int") ∨ (∃ b, v = .bl b ∧ t = .type "bool") ∨ (wh v = none ∧ PySem.W.kitOne K t (.type "int") = some false) := by
  cases h with
  | s h =>
    cases h with
    | bl b => exact .inr (.inl ⟨b, rfl, rfl⟩)
    | int i => exact .inl ⟨i, rfl, rfl⟩
    | lst e => exact .inr (.inr ⟨rfl, by rfl⟩)
    | tup e => exact .inr (.inr ⟨rfl, by rfl⟩)
  | non => exact .inr (.inr ⟨rfl, by rfl⟩)
  | str x => exact .inr (.inr ⟨rfl, by rfl⟩)
  | dK e => exact .inr (.inr ⟨rfl, by rfl⟩)
  | lit e => exact .inr (.inr ⟨rfl, by rfl⟩)
theorem kit_bool_int (K : PySem.W.Frag) : PySem.W.kitOne K (.type "bool") (.type "int") = some true := by rfl
theorem kit_bool (K : PySem.W.Frag) : PySem.W.kitOne K (.type "bool") (.type "bool") = some true := by rfl
/-- is_whole -/
inductive sp_is_whole (vs : List V) (H : Hp) (Q : VK) (E : XK) : Prop
  | mk (v : V) (h0_ : vs = [v]) (k : Kd H v) (h1_ : Q (.bl (wh v).isSome) H) : sp_is_whole vs H Q E
theorem sc_is_whole : FnScope ["value"] ["value"] (defScope s_is_whole) := ⟨rfl, rfl, rfl, by decide +kernel, rfl, by decide +kernel, by decide +kernel⟩
theorem is_whole (T : Txt K mg C) : Can P w K mg base 1 "is_whole" ["value"] sp_is_whole := by
  refine fn_can T.f_is_whole sc_is_whole (fun vs H Q E h => ?_) (fun f cdv A outer s H vs Q E hr h => ?_)
  · obtain ⟨i, rfl, _⟩ := h
    rfl
  · obtain ⟨v, rfl, ⟨t, ty⟩, k⟩ := h
    refine ⟨_, pss_one (ps_ret (pe_and (pe_b (call_isiW K) T.b_isinstance boot_isinstance (pa2 (pv 0) (pe_ty rfl T.b_int boot_int))) (pe_one (pe_not (pe_b (call_isiW K) T.b_isinstance boot_isinstance (pa2 (pv 0) (pe_ty rfl T.b_bool boot_bool))))))), ?_⟩
    rcases kd_int K ty with ⟨i, rfl, rfl⟩ | ⟨b, rfl, rfl⟩ | ⟨e, kt⟩
    · exact ⟨_, rfl, ⟨_, _, _, _, rfl, ty, kit_int _, _, rfl, iteT ⟨_, rfl, ⟨_, _, _, _, rfl, ty, kit_int_bool _, _, rfl, k⟩⟩⟩⟩
    · exact ⟨_, rfl, ⟨_, _, _, _, rfl, ty, kit_bool_int _, _, rfl, iteT ⟨_, rfl, ⟨_, _, _, _, rfl, ty, kit_bool _, _, rfl, k⟩⟩⟩⟩
    · rw [e] at k
      exact ⟨_, rfl, ⟨_, _, _, _, rfl, ty, kt, _, rfl, iteF k⟩⟩
/-- is_whole_from -/
def whF (a b : Int) (v : V) : Bool := match wh v with | some i => decide (a ≤ i) && decide (i ≤ b) | none => false
inductive sp_is_whole_from (vs : List V) (H : Hp) (Q : VK) (E : XK) : Prop
  | mk (v : V) (a : Int) (b : Int) (h0_ : vs = [v, .int a, .int b]) (kd : Kd H v) (h1_ : Q (.bl (whF a b v)) H) : sp_is_whole_from vs H Q E
theorem sc_is_whole_from : FnScope ["value", "least", "greatest"] ["value", "least", "greatest"] (defScope s_is_whole_from) := ⟨rfl, rfl, rfl, by decide +kernel, rfl, by decide +kernel, by decide +kernel⟩
theorem wh_some {v : V} {i : Int} (h : wh v = some i) : v = .int i := by
  cases v <;> first | (cases h; rfl) | cases h
theorem is_whole_from (T : Txt K mg C) : Can P w K mg base 2 "is_whole_from" ["value", "least", "greatest"] sp_is_whole_from := by
  refine fn_can T.f_is_whole_from sc_is_whole_from (fun vs H Q E h => ?_) (fun f cdv A outer s H vs Q E hr h => ?_)
  · obtain ⟨i, a, b, rfl, _⟩ := h
    rfl
  · obtain ⟨v, a, b, rfl, kd, k⟩ := h
    refine ⟨_, pss_one (ps_ret (pe_and (pe_can (is_whole T) hr (pa1 (pv 0))) (pe_one (pe_chain op_le op_le (pv 1) (pv 0) (pv 2))))), ?_⟩
    refine ⟨_, rfl, v, rfl, kd, _, rfl, ?_⟩
    unfold whF at k
    cases e : wh v with
    | none => rw [e] at k; exact iteF k
    | some i =>
      rw [e] at k
      cases wh_some e
      refine iteT ?_
      refine ⟨_, rfl, _, rfl, _, _, rfl, rfl, _, rfl, ?_⟩
      refine iteB (fun h => ?_) (fun h => ?_)
      · rw [show (match some i with | some i => decide (a ≤ i) && decide (i ≤ b) | none => false) = (decide (a ≤ i) && decide (i ≤ b)) from rfl, h, Bool.true_and] at k
        exact ⟨_, rfl, _, _, rfl, rfl, k⟩
      · rw [show (match some i with | some i => decide (a ≤ i) && decide (i ≤ b) | none => false) = (decide (a ≤ i) && decide (i ≤ b)) from rfl, h, Bool.false_and] at k
        exact k
/-- is_wide -/
def whW (v : V) : Bool := match wh v with | some i => decide (-W30 < i) && decide (i < W30) | none => false
inductive sp_is_wide (vs : List V) (H : Hp) (Q : VK) (E : XK) : Prop
  | mk (v : V) (h0_ : vs = [v]) (kd : Kd H v) (h1_ : Q (.bl (whW v)) H) : sp_is_wide vs H Q E
theorem sc_is_wide : FnScope ["value"] ["value"] (defScope s_is_wide) := ⟨rfl, rfl, rfl, by decide +kernel, rfl, by decide +kernel, by decide +kernel⟩
theorem is_wide (T : Txt K mg C) : Can P w K mg base 2 "is_wide" ["value"] sp_is_wide := by
  refine fn_can T.f_is_wide sc_is_wide (fun vs H Q E h => ?_) (fun f cdv A outer s H vs Q E hr h => ?_)
  · obtain ⟨i, rfl, _⟩ := h
    rfl
  · obtain ⟨v, rfl, kd, k⟩ := h
    refine ⟨_, pss_one (ps_ret (pe_and (pe_can (is_whole T) hr (pa1 (pv 0))) (pe_one (pe_chain op_lt op_lt (pe_un un_neg (pe_gi T.c_WIDE_END)) (pv 0) (pe_gi T.c_WIDE_END))))), ?_⟩
    refine ⟨_, rfl, v, rfl, kd, _, rfl, ?_⟩
    unfold whW at k
    cases e : wh v with
    | none => rw [e] at k; exact iteF k
    | some i =>
      rw [e] at k
      cases wh_some e
      refine iteT ?_
      refine ⟨_, rfl, _, rfl, _, _, rfl, rfl, _, rfl, ?_⟩
      refine iteB (fun h => ?_) (fun h => ?_)
      · rw [show (match some i with | some i => decide (-W30 < i) && decide (i < W30) | none => false) = (decide (-W30 < i) && decide (i < W30)) from rfl, h, Bool.true_and] at k
        exact ⟨_, _, rfl, rfl, k⟩
      · rw [show (match some i with | some i => decide (-W30 < i) && decide (i < W30) | none => false) = (decide (-W30 < i) && decide (i < W30)) from rfl, h, Bool.false_and] at k
        exact k
end
end Any
end Pr
set_option Elab.async false
set_option linter.all false
set_option maxRecDepth 100000
/-! methods from which errors may leave -/
namespace L2
open PySem PySem.Spec PyProof.Rows
def CanMX (P : Program) (w : World) (K : PySem.W.Frag) (mg : Str → Option Value) (base : Heap) (C : Addr) (k : Nat) (x : Str) (ps : List Str) (sp : Sp) : Prop :=
  ∃ f fd, FnOk P w K mg base (CX1 P w) k f fd ps sp ∧ Meth K C x f ∧ Binds K fd ps []
section
variable {P : Program} {w : World} {K : PySem.W.Frag} {mg : Str → Option Value} {base : Heap}
theorem fm_canX {C : Addr} {x qual : Str} {st : Stmt} {N ps : List Str} {k : Nat} {sp : Sp} (h : ∃ f fd, Fm K C x qual st ps f fd) (S : FnScope N ps (defScope st)) (len : ∀ vs H Q E, sp vs H Q E → vs.length = ps.length)
    (hbody : ∀ (f : Addr) (cdv : Value) (A : Around) (outer : List Env) (s : Shared) (H : Hp) (vs : List V) (Q : VK) (E : XK), Room k (A.deeper (envOfC qual (defScope st) s.heap.objs.size f cdv)) → Wish (cxOf (CX1 P w) P w K mg base N qual (defScope st) f cdv A outer s H E) E → sp vs H Q E →
      ∃ t, PSs (cxOf (CX1 P w) P w K mg base N qual (defScope st) f cdv A outer s H E) (defBody st) t ∧ t { nx := fun _ H' => Q .non H', rt := Q } (start N vs) H) : CanMX P w K mg base C (k + 1) x ps sp := by
  obtain ⟨f, fd, F⟩ := h
  obtain ⟨oc, od, kV, doc, pm, an, cdv, ct, osl, e, lk, hcd⟩ := F.fn.ex
  refine ⟨f, fd, ?_, F.m, F.b⟩
  subst e
  exact fn_of lk hcd S len fun A outer s H vs Q E hr hsp => hbody f cdv A outer s H vs Q E hr wish_def hsp
end
section
variable {X : Cx} {k k' : Nat} {x m : Str} {ps : List Str} {sp : Sp} {p pos apos : Pos} {e o : Expr} {es : List Expr} {ta : TE} {t : TA} {C : Addr} {E : XK}
theorem pe_canMX {pl : Sem Bool} (ho : PE X o ta) (c : Cls X.K C) (h : CanMX X.prog X.w X.K X.mg X.base C k m ps sp) (W : Wish X E) (hr : Room k' X.A) (ha : PA X (e :: es) t) (hk : k ≤ k' := by decide)
    (hst : starEach (e :: es) X.env = (false, eval e X.env) :: starEach es X.env := by rfl) (hpl : (backTo pos (starEach es X.env)).any (·.1) = false := by rfl)
    (ht : eval (.Call (.Attribute o m apos) (e :: es) [] pos) X.env = (do
      let ov ← eval o X.env
      standAt apos.atName
      let (f, first) ← holding [ov] (getMethod ov m pl)
      callWith pos f first (backTo pos (starEach (e :: es) X.env)) (backToKw pos (keywordEach [] X.env))) := by rfl) : PE X (.Call (.Attribute o m apos) (e :: es) [] pos) (tMeth C m sp [] E ta t) := by
  obtain ⟨f, fd, F, hm, b⟩ := h
  exact pe_meth (pl := pl) ho c hm F (hr.mono hk) b .nil W.pass ha hst hpl ht
end
end L2
set_option Elab.async false
set_option linter.all false
set_option maxRecDepth 100000
/-! what is refused: rolls, numbers, moments -/
namespace Pr
namespace Any
open PySem L2 PyProof.Rows
theorem one_line : 1 ≤ sizeLine := by decide
def whN (v : V) : Bool := match wh v with | some i => decide (-W40 < i) && decide (i < W40) | none => false
section
variable {P : Program} {w : World} {K : PySem.W.Frag} {mg : Str → Option Value} {base : Heap} {C : Addr}
inductive sp_need_roll (mg : Str → Option Value) (vs : List V) (H : Hp) (Q : VK) (E : XK) : Prop
  | mk (v : V) (a b : Int) (e : vs = [v, .int a, .int b]) (kd : Kd H v) (q : whF a b v = true → Q .non H) (x : whF a b v = false → E (.ref (cOf mg "NoRoll")) none H) : sp_need_roll mg vs H Q E
theorem need_roll (T : Txt K mg C) : CanX P w K mg base 3 "need_roll" ["value", "least", "greatest"] (sp_need_roll mg) := by
  refine fn_canX T.f_need_roll sc_need_roll (fun vs H Q E h => ?_) (fun f cdv A outer s H vs Q E hr W h => ?_)
  · obtain ⟨v, a, b, rfl, _⟩ := h
    rfl
  · obtain ⟨v, a, b, rfl, kd, q, x⟩ := h
    refine ⟨_, pss_one (ps_if (pt_not (pt_val (pe_can (is_whole_from T) hr (pa3 (pv 0) (pv 1) (pv 2))))) (pss_one (ps_raise W rfl T.x_NoRoll.cls (pa1 pe_str))) pss_nil), ?_⟩
    refine ⟨_, rfl, _, rfl, _, rfl, v, a, b, rfl, kd, _, rfl, ?_⟩
    cases ho : whF a b v with
    | true => exact iteF (q ho)
    | false => exact iteT ⟨⟨one_line, x ho⟩⟩
inductive sp_need_moment (mg : Str → Option Value) (vs : List V) (H : Hp) (Q : VK) (E : XK) : Prop
  | mk (v : V) (e : vs = [v]) (kd : Kd H v) (q : whW v = true → Q .non H) (x : whW v = false → E (.ref (cOf mg "NoMoment")) none H) : sp_need_moment mg vs H Q E
theorem need_moment (T : Txt K mg C) : CanX P w K mg base 3 "need_moment" ["value"] (sp_need_moment mg) := by
  refine fn_canX T.f_need_moment sc_need_moment (fun vs H Q E h => ?_) (fun f cdv A outer s H vs Q E hr W h => ?_)
  · obtain ⟨v, rfl, _⟩ := h
    rfl
  · obtain ⟨v, rfl, kd, q, x⟩ := h
    refine ⟨_, pss_one (ps_if (pt_not (pt_val (pe_can (is_wide T) hr (pa1 (pv 0))))) (pss_one (ps_raise W rfl T.x_NoMoment.cls (pa1 pe_str))) pss_nil), ?_⟩
    refine ⟨_, rfl, v, rfl, kd, _, rfl, ?_⟩
    cases ho : whW v with
    | true => exact iteF (q ho)
    | false => exact iteT ⟨⟨one_line, x ho⟩⟩
inductive sp_need_number (mg : Str → Option Value) (vs : List V) (H : Hp) (Q : VK) (E : XK) : Prop
  | mk (v : V) (e : vs = [v]) (kd : Kd H v) (q : whN v = true → Q .non H) (x : whN v = false → E (.ref (cOf mg "NoNumber")) none H) : sp_need_number mg vs H Q E
theorem need_number (T : Txt K mg C) : CanX P w K mg base 2 "need_number" ["value"] (sp_need_number mg) := by
  refine fn_canX T.f_need_number sc_need_number (fun vs H Q E h => ?_) (fun f cdv A outer s H vs Q E hr W h => ?_)
  · obtain ⟨v, rfl, _⟩ := h
    rfl
  · obtain ⟨v, rfl, kd, q, x⟩ := h
    refine ⟨_, pss_one (ps_if (PW.pt (pw_or (pt_not (pt_val (pe_can (is_whole T) hr (pa1 (pv 0))))) (pw_or1 (pt_not (pt_chain op_lt op_lt (pe_un un_neg (pe_gi T.c_NUMBER_END)) (pv 0) (pe_gi T.c_NUMBER_END)))))) (pss_one (ps_raise W rfl T.x_NoNumber.cls (pa1 pe_str))) pss_nil), ?_⟩
    refine ⟨_, rfl, v, rfl, kd, _, rfl, ?_⟩
    unfold whN at q x
    cases e : wh v with
    | none =>
      rw [e] at x
      exact iteT ⟨⟨one_line, x rfl⟩⟩
    | some i =>
      cases wh_some e
      rw [e] at q x
      dsimp only at q x
      refine iteF ?_
      refine ⟨_, rfl, _, rfl, _, _, rfl, rfl, _, rfl, ?_⟩
      by_cases h1 : -W40 < i
      · rw [decide_eq_true h1, Bool.true_and] at q x
        rw [decide_eq_true h1]
        refine iteT ⟨_, _, rfl, rfl, _, rfl, ?_⟩
        by_cases h2 : i < W40
        · rw [decide_eq_true h2] at q ⊢
          exact iteF (q rfl)
        · rw [decide_eq_false h2] at x ⊢
          exact iteT ⟨⟨one_line, x rfl⟩⟩
      · rw [decide_eq_false h1, Bool.false_and] at x
        rw [decide_eq_false h1]
        exact iteF ⟨_, rfl, iteT ⟨⟨one_line, x rfl⟩⟩⟩
end
end Any
end Pr
set_option Elab.async false
set_option linter.all false
set_option maxRecDepth 100000
/-! x = [.. for a, b in ..]: a comprehension of several names, or with a name that hides one, stored at once. -/
namespace L2
open PySem PySem.Spec PyProof.Rows
section
variable {X : Cx} {xs Ns : List Str} {sc : Scope} {tg iter elt : Expr} {ifs : List Expr} {pos : Pos} {wi : TI} {g : TG} {tc : TT} {te : TE}
end
end L2
set_option Elab.async false
set_option linter.all false
set_option maxRecDepth 100000
/-! list comprehensions whose elements may raise -/
namespace L2
open PySem PySem.Spec PyProof.Rows
abbrev Cx.exC (X : Cx) (xe : Value → Shared → Prop) : Cx := { X with xe := xe }
section
variable {X : Cx} {pins : List (Addr × Obj)} {σ : St} {H : Hp} {s : Shared} {xe : Value → Shared → Prop}
theorem Inv.exC (I : Inv X pins σ H s) (xe : Value → Shared → Prop) : Inv (X.exC xe) pins σ H s :=
  ⟨⟨I.ok.mod, I.ok.kind, I.ok.glob, I.ok.blt, I.ok.above, I.ok.inj, I.ok.has, I.ok.cab, I.ok.hd, I.ok.frames, I.ok.stk, I.ok.exf, I.ok.bs, I.ok.bsz, I.ok.noex, I.ok.exfs, I.ok.funs, I.ok.frf⟩, I.os, I.bare, I.base, I.loc, I.cell, I.free, I.freeC, I.pin, I.hok, I.len⟩
theorem Inv.unexC (I : Inv (X.exC xe) pins σ H s) : Inv X pins σ H s :=
  ⟨⟨I.ok.mod, I.ok.kind, I.ok.glob, I.ok.blt, I.ok.above, I.ok.inj, I.ok.has, I.ok.cab, I.ok.hd, I.ok.frames, I.ok.stk, I.ok.exf, I.ok.bs, I.ok.bsz, I.ok.noex, I.ok.exfs, I.ok.funs, I.ok.frf⟩, I.os, I.bare, I.base, I.loc, I.cell, I.free, I.freeC, I.pin, I.hok, I.len⟩
end
theorem but_ex {h h' : Heap} {C : Addr} (ho : ∃ o, h.get? C = some o) : ∃ g, Heap.SameBut C h g ∧ g.get? C = h'.get? C := by
  obtain ⟨o, ho⟩ := ho
  cases q : h'.get? C with
  | some u =>
    exact ⟨h.update C fun _ => u, Heap.SameBut.update .., Heap.get?_update_self (fun _ => u) ho (Heap.get?_some_iff.mp q).2⟩
  | none =>
    refine ⟨h.update C fun o => { o with data := .freed }, Heap.SameBut.update .., ?_⟩
    cases z : (h.update C fun o => { o with data := .freed }).get? C with
    | none => rfl
    | some u =>
      obtain ⟨z1, z2⟩ := Heap.get?_some_iff.mp z
      obtain ⟨e1, _⟩ := Heap.get?_some_iff.mp ho
      have e3 : (h.update C fun o => { o with data := .freed }).objs[C]? = some { o with data := .freed } := by
        cases h; simp only [Heap.update, Array.getElem?_modify, if_true]; simp only at e1; rw [e1]; rfl
      rw [e3] at z1; cases z1; cases z2
section
variable {X : Cx} {pins : List (Addr × Obj)} {σ : St} {H H' : Hp} {s s₁ : Shared} {cls : Value} {a C : Addr} {new : Bool} {m : Str → Option Value} {cenv : Env} {E : XK} {use : Option (Value → Sem Unit)} {QQ : Value → Shared → Prop} {acc : Value}
/-- an error leaves a comprehension's block: its names go, it is passed on -/
theorem comp_err (W : Wish X E) (I : Inv X pins σ H s) (hst : X.stack = X.env :: X.outer) (hf : X.env.frame = some X.env.locals) (x : EX X.prog X.w X.stack H s new cls a H' s₁) (q : E cls none H') (hC : X.s₀.heap.objs.size ≤ C) (hn : H C = none) (hL : C ≠ X.env.locals) (hc : ∀ y c, X.env.cells.lookup y = some c → c ≠ C) (hp : ∀ p ∈ X.pn ++ pins, p.1 ≠ C)
    (hCf : C ∉ frs X.stack) (hN : s.heap.Ns C m) (hcf : cenv.frame = X.env.frame) : notedBy (model X.prog X.w) X.A cenv (fun e s' => compPost (model X.prog X.w) X.A X.xe use QQ acc C (.error e) s') (.ref a) s₁ := by
  refine note_fl I hst hf I.ok.frames hcf x fun h₃ x3 ⟨vs, oe, T, oT, ts, f, he, hd, h1, ht, hT, hdT, h3, hnT, hgT⟩ => ?_
  obtain ⟨oC, es, ep, hoC, rN⟩ := id hN
  have hC3 : h₃.get? C = some oC := x3.un.keep C oC hoC hn hCf (by simp)
  have aC : a ≠ C := fun z => by have := x3.rc.base.2; rw [z, hoC] at this; cases this
  have TC : T ≠ C := fun z => by rw [z, hoC] at hgT; cases hgT
  have key : ∃ m, h₃.Ns C m ∧ ∀ h', Heap.SameBut C h₃ h' → ∀ cenv : Env, cenv.locals = C → wpAny (model X.prog X.w) X.A (PySem.passOn "comprehension.variables-let-go" (.ref a) cenv : Sem Value) (fun _ _ => False) X.xe { s₁ with heap := h' } := by
    refine ⟨m, ⟨oC, es, ep, hC3, rN⟩, fun h' hs' cenv' _ => ?_⟩
    obtain ⟨g, hg, hgC⟩ := but_ex (h := s.heap) (h' := h') (C := C) ⟨oC, hoC⟩
    have Ig : Inv X pins σ H { s with heap := g } := I.butC hg hC hn hL hc hp
    have nC : H' C = none := x3.un.free C oC hoC hn (by simp)
    have xg : EX X.prog X.w X.stack H { s with heap := g } true cls a H' { s₁ with heap := h' } := by
      refine ⟨x3.os, x3.bare, ⟨fun b o e n hb hx => ?_, fun b o e n hb hx => ?_, fun b o e n hx => ?_, fun b o e hx => ?_, x3.un.tups, x3.un.frzs, x3.un.tbls⟩, fun b ob e => ?_, ?_⟩
      · by_cases hbC : b = C
        · subst hbC; exact hgC.symm.trans e
        · exact (hs'.2 b hbC).trans (x3.un.keep b o ((hg.2 b hbC).symm.trans e) n hb hx)
      · have hbC : b ≠ C := fun z => hCf (z ▸ hb)
        obtain ⟨sl, e1⟩ := x3.un.slot b o ((hg.2 b hbC).symm.trans e) n hb hx
        exact ⟨sl, (hs'.2 b hbC).trans e1⟩
      · by_cases hbC : b = C
        · subst hbC; exact nC
        · exact x3.un.free b o ((hg.2 b hbC).symm.trans e) n hx
      · by_cases hbC : b = C
        · subst hbC; exact ⟨o, hgC.symm.trans e⟩
        · obtain ⟨o', e1⟩ := x3.un.there b o ((hg.2 b hbC).symm.trans e) hx
          exact ⟨o', (hs'.2 b hbC).trans e1⟩
      · refine (x3.hok b ob e).stay (fun c u hc' z => (hs'.2 c fun zz => ?_).trans z) (fun _ z => z) fun _ _ z => z
        rcases hc' with rfl | hc'
        · rw [zz, nC] at e; cases e
        · rw [zz, nC] at hc'; cases hc'
      · cases x3.rc with
        | new oe' vs' he' hc' hd' hdi hn' hg' h1' => rw [he] at he'; cases he'; rw [hd] at hd'; cases hd'; rw [h1] at h1'; cases h1'
        | fl oe' vs' he' hc' hd' hdi hn' hg' T' oT' ts' h1' ht' hT' hdT' f' h3' hnT' hgT' =>
          have TC' : T' ≠ C := fun z => by rw [z, hoC] at hgT'; cases hgT'
          exact .fl oe' vs' ((hs'.2 a aC).trans he') hc' hd' hdi hn' ((hg.2 a aC).trans hg') T' oT' ts' h1' ht' ((hs'.2 T' TC').trans hT') hdT' f' h3' hnT' ((hg.2 T' TC').trans hgT')
    unfold PySem.passOn
    refine wpAny_bind (wpAny_field ((hs'.2 a aC).trans he) hd h1 ?_)
    rw [if_neg (show ¬ ((Value.ref T == Value.none) = true) by simp)]
    unfold setFlight
    refine wpAny_bind (wpAny_bind (wpAny_field ((hs'.2 a aC).trans he) hd h1 ?_))
    rw [if_pos (show (Value.ref T != Value.none) = true by simp)]
    refine wpAny_setField ((hs'.2 T TC).trans hT) hdT (Array.getElem?_eq_some_iff.mp h3).1 (wpAny_throw ?_)
    exact W.go pins σ H _ _ cls a H' _ Ig (xg.flight (fl := cenv'.frame) ((hs'.2 a aC).trans he) hd h1 ht ((hs'.2 T TC).trans hT) hdT h3 hnT ((hg.2 T TC).trans hgT)) q
  cases use with
  | none => exact key
  | some u => exact key
end
theorem compLoop_ownX {prog : Program} {w : World} {A : Around} {R : Result → Shared → Prop} {s : Shared} {elt target iter : Expr} {ifs : List Expr} {scope : Scope} {pos : Pos} {it acc : Value} {env : Env} (I : Nat → Shared → Prop)
    (turn : ∀ n s, I n s → wpAny (model prog w) A (pyNext it) (fun r s1 => match r with
      | none => R (.ok .next) s1
      | some v => wpAny (model prog w) A (letOwnedTupleGo target it v) (fun _ s1 => wpAny (model prog w) A (assign target env v) (fun _ s2 =>
          wpAny (model prog w) A (forIn ifs true fun c r => if r = true then do let ok ← isTrue c env (eval c env); pure (ForInStep.yield ok) else pure (ForInStep.yield r)) (fun ok s3 =>
            if ok = true then wpAny (model prog w) A (eval elt env) (fun x s4 =>
              wpAny (model prog w) A (call (.builtin "list.append") [acc, x]) (fun _ s5 => ∃ m, m < n ∧ I m s5) (fun _ _ => False) s4) (notedBy (model prog w) A env fun e s' => R (.error e) s') s3
            else ∃ m, m < n ∧ I m s3) (fun _ _ => False) s2) (fun _ _ => False) s1) (fun _ _ => False) s1) (fun _ _ => False) s)
    (n : Nat) (h : I n s) :
    codeAny (model prog w) A (.compLoop (.ListComp elt [⟨target, iter, ifs, 0⟩] scope pos) 0 it acc env) R s := by
  refine codeAny_loop rfl I (fun n s hI => ?_) n h
  show wpAny _ A ((compTurn (.ListComp elt [⟨target, iter, ifs, 0⟩] scope pos) 0 it acc env).onRaise (fun x => do noteFrame x env; theTreesLotGoes x)) _ _ s
  refine wpAny_noted ?_
  rw [compTurn_list]
  refine wpAny_bind (wpAny_standAt (wpAny_bind (wpAny_mono (turn n s hI) (fun r s1 h1 => ?_) fun _ _ h' => h'.elim)))
  cases r with
  | none => exact wpAny_pure h1
  | some v =>
    refine wpAny_bind (wpAny_mono h1 (fun _ s1 h1 => ?_) fun _ _ h' => h'.elim)
    refine wpAny_bind (wpAny_mono h1 (fun _ s2 h2 => wpAny_bind (wpAny_mono h2 (fun ok s3 h3 => ?_) fun _ _ h' => h'.elim)) fun _ _ h' => h'.elim)
    cases ok with
    | false => exact wpAny_pure ⟨rfl, h3⟩
    | true =>
      exact wpAny_bind (wpAny_bind (wpAny_mono h3 (fun x s4 h4 => wpAny_bind (wpAny_mono h4 (fun _ s5 h5 => wpAny_pure (wpAny_pure ⟨rfl, h5⟩)) fun _ _ h' => h'.elim)) fun _ _ h' => h'))
section
variable {X : Cx} {xs Ns : List Str} {sc : Scope} {elt iter tg : Expr} {ifs : List Expr} {pos : Pos} {wi : TI} {g : TG} {tc : TT} {te : TE}
theorem ln_blockX {pins : List (Addr × Obj)} {σ : St} {H : Hp} {s : Shared} {it : Addr} {fp : List Addr} {tn : Nat → Heap → Prop} {J : It} {Fin : Addr → Hp → Prop} {use : Option (Value → Sem Unit)} {QQ : Value → Shared → Prop} {E : XK}
    (W : Wish X E) (hst : X.stack = X.env :: X.outer) (hff : X.env.frame = some X.env.locals) (hc : X.calm = true) (S : LnScope X xs Ns sc) (I : Inv X pins σ H s) (T : Turn X.prog X.w X.K tg J fp it tn) (st : tn 0 s.heap) (hf : ∀ b ∈ fp, FpOk X pins H b) (hg : ∀ C s0 H0, PG (cxLN X xs Ns sc C fp s0 H0) tg g)
    (ht : ∀ C s0 H0, PTs (cxLN X xs Ns sc C fp s0 H0) ifs tc) (he : ∀ C s0 H0 xe, Wish ((cxLN X xs Ns sc C fp s0 H0).exC xe) E → PE ((cxLN X xs Ns sc C fp s0 H0).exC xe) elt te) (q : ∀ D, H D = none → lcGoN xs.length g tc te σ J D (Fin D) H)
    (hR : ∀ D C H2 s2 m, s.heap.objs.size ≤ C → Inv X pins σ H2 s2 → H2 C = none → s2.heap.Ns C m → Fin D H2 → compPost (model X.prog X.w) X.A X.xe use QQ (.ref D) C (.ok .next) s2) :
    wpAny (model X.prog X.w) X.A (newList []) (fun acc s3 => wpAny (model X.prog X.w) X.A (newFunctionEnv sc X.env.globals (clOf sc X.env.cells) [] X.env.qual none .none (some X.env)) (fun cenv s4 =>
      codeAny (model X.prog X.w) X.A (.compStart (.ListComp elt [⟨tg, iter, ifs, 0⟩] sc pos) 0 (.ref it) acc { cenv with scope := relabel sc X.env }) (compPost (model X.prog X.w) X.A X.xe use QQ acc cenv.locals) s4) X.xe s3) X.xe s := by
  have hlt : ∀ b ∈ fp, b < s.heap.objs.size := fun b hb => by
    obtain ⟨o, e, _⟩ := T.obj 0 _ st b hb
    exact Heap.lt_size e
  refine wpAny_newObj_type (wpAny_newFunctionEnv S.nocell (by intro y hy; simp at hy) (fun h1 hns1 hsb1 => ?_) S.kind)
  dsimp only at hns1 hsb1 ⊢
  generalize hH2 : s.heap.push { cls := .type "list", dict := none, data := .seq ([] : List Value).toArray } = G at hns1 hsb1 ⊢
  have hC : G.objs.size = s.heap.objs.size + 1 := by rw [← hH2, Heap.size_push]
  have hCle : s.heap.objs.size ≤ G.objs.size := by rw [hC]; exact Nat.le_succ _
  have hDC : G.objs.size ≠ s.heap.objs.size := by rw [hC]; exact Nat.succ_ne_self _
  have old : ∀ b o, s.heap.get? b = some o → h1.get? b = some o := fun b o e => hsb1.extBut b o (Nat.ne_of_lt (Nat.lt_of_lt_of_le (Heap.lt_size e) hCle)) (Heap.get?_push_of_some _ (hH2 ▸ Heap.get?_push_of_some _ e))
  have hacc : h1.get? s.heap.objs.size = some { cls := .type "list", data := .seq ([] : List Value).toArray 0 } := hsb1.extBut _ _ (Ne.symm hDC) (Heap.get?_push_of_some _ (hH2 ▸ Heap.get?_push_size _ rfl))
  have hDn : H s.heap.objs.size = none := I.hok.fresh (Nat.le_refl _)
  obtain ⟨Wv, ⟨m0, w0⟩, turn⟩ := q s.heap.objs.size hDn
  have st1 : tn 0 h1 := T.keep _ _ _ st fun b _ o e => old b o e
  have I1 := fun tk => I.startLN (tk := tk) (w := xs.map fun _ => none) S hf hlt rfl rfl hCle hDC old hns1 hacc
  have fr1 : ∀ b ∈ fp, upd H s.heap.objs.size (.lst []) b = none := fun b hb => by rw [upd_ne (Nat.ne_of_lt (hlt b hb))]; exact (hf b hb).1
  have loop : ∀ s3 : Shared, s3 = { s with heap := h1, toks := s.toks + ([] : List (Str × Value)).length } →
      codeAny (model X.prog X.w) X.A (.compLoop (.ListComp elt [⟨tg, iter, ifs, 0⟩] sc pos) 0 (.ref it) (.ref s.heap.objs.size) (compEnvC sc (clOf sc X.env.cells) G.objs.size X.env))
        (compPost (model X.prog X.w) X.A X.xe use QQ (.ref s.heap.objs.size) G.objs.size) s3 := by
    rintro s3 rfl
    have fpk : ∀ {H' : Hp}, (∀ b ∈ fp, H' b = none) → ∀ b ∈ fp, FpOk (cxLN X xs Ns sc G.objs.size fp s H) [] H' b := fun hn b hb =>
      ⟨hn b hb, Nat.ne_of_lt (Nat.lt_of_lt_of_le (hlt b hb) hCle), (I.okLN (C := G.objs.size) S hCle hf hlt).exfs b hb, .inl hb, fun y c e => (hf b hb).2.2.2.2.1 y c (clOf_sub sc X.env.cells e), fun p hp => absurd (show p ∈ ([] : List (Addr × Obj)) from hp) (by simp)⟩
    refine compLoop_ownX (fun n s' => ∃ i w ys H', w.length = xs.length ∧ Inv (cxLN X xs Ns sc G.objs.size fp s H) [] (w ++ σ) H' s' ∧ tn i s'.heap ∧ (∀ b ∈ fp, H' b = none) ∧ Wv i n ys H') ?_ m0 ⟨0, _, [], _, List.length_map _, I1 _, st1, fr1, w0⟩
    rintro n s3 ⟨i, v0, ys, H3, hv0, I3, st3, fr3, w3⟩
    obtain ⟨hD3, turn3⟩ := turn i n ys H3 w3
    rcases turn3 with ⟨stop, fin⟩ | ⟨go, step⟩
    · refine thn (T.done (cxLN X xs Ns sc G.objs.size fp s H) rfl rfl rfl hc i [] s3 _ H3 _ I3 (fpk fr3) st3 stop) fun r s4 ⟨hr, I4⟩ => ?_
      subst hr
      obtain ⟨m4, hn4, _⟩ := I4.loc
      exact hR _ _ H3 s4 m4 hCle (I.endLN I4 hf) I4.free hn4 fin
    · refine thn (T.item (cxLN X xs Ns sc G.objs.size fp s H) rfl rfl rfl hc i [] s3 _ H3 _ I3 (fpk fr3) st3 go) fun r s4 ⟨u, hr, h4⟩ => ?_
      subst hr
      refine thn h4 fun _ s5 ⟨y, H5, I5, r5, y5, st5, fr5⟩ => ?_
      have I5' := I5.pinned (fpk fr5) (T.obj _ _ st5)
      refine thn (hg G.objs.size s H _ s5 _ H5 y u _ I5' r5 (step y H5 v0 hv0 y5)) fun _ s6 ⟨σ6, H6, I6, ⟨w6, hw6, e6⟩, q6⟩ => ?_
      subst e6
      refine thn (ht G.objs.size s H _ s6 _ H6 _ I6 q6) fun ok s7 ⟨H7, I7, q7⟩ => ?_
      have again : ∀ {H8 : Hp} {s8 : Shared} {zs : List V}, Inv (cxLN X xs Ns sc G.objs.size fp s H) ([] ++ pinsAt fp s5.heap) (w6 ++ σ) H8 s8 → (∃ m', m' < n ∧ Wv (i + 1) m' zs H8) → ∃ m, m < n ∧ ∃ i w ys H', w.length = xs.length ∧ Inv (cxLN X xs Ns sc G.objs.size fp s H) [] (w ++ σ) H' s8 ∧ tn i s8.heap ∧ (∀ b ∈ fp, H' b = none) ∧ Wv i m ys H' := fun {H8 s8 zs} I8 ⟨m', hm, w8⟩ => by
        refine ⟨m', hm, i + 1, w6, zs, H8, hw6, I8.unpinned, T.keep _ _ _ st5 fun b hb o e => (I8.pin (b, o) (List.mem_append_right _ (List.mem_append_right _ (mem_pinsAt hb e)))).1, fun b hb => ?_, w8⟩
        obtain ⟨o, e, d⟩ := T.obj _ _ st5 b hb
        exact (I8.pin (b, o) (List.mem_append_right _ (List.mem_append_right _ (mem_pinsAt hb e)))).2.1
      cases ok with
      | false =>
        rw [if_neg Bool.false_ne_true] at q7 ⊢
        exact again I7 q7
      | true =>
        rw [if_pos rfl] at q7 ⊢
        refine wpAny_mono (he G.objs.size s H (notedBy (model X.prog X.w) X.A (compEnvC sc (clOf sc X.env.cells) G.objs.size X.env) fun e s' => compPost (model X.prog X.w) X.A X.xe use QQ (.ref s.heap.objs.size) G.objs.size (.error e) s') ⟨fun pl σl Hl sl new cls a H' s₁ Jl x qe => ?_⟩ _ s7 _ H7 _ (I7.exC _) q7) (fun z s8 ⟨zv, H8, I8x, r8, hD8, hz8, w8⟩ => ?_) fun _ _ y => y
        · have J := Jl.unexC
          have I9 := I.endLN J hf
          obtain ⟨m9, hn9, _⟩ := id J.loc
          refine comp_err W I9 hst hff x qe (Nat.le_trans I.sz hCle) J.free (Nat.ne_of_gt (Nat.lt_of_lt_of_le I.lt hCle)) (fun y c e => ?_) (fun p hp => ?_) (fun hm => ?_) hn9 rfl
          · obtain ⟨v, z⟩ := I.cell y c e
            exact Nat.ne_of_lt (Nat.lt_of_lt_of_le z.lt hCle)
          · exact Nat.ne_of_lt (Nat.lt_of_lt_of_le (Heap.lt_size (I.pin p hp).1) hCle)
          · obtain ⟨_, o, ho, _⟩ := I.stack.mem hm
            exact Nat.ne_of_lt (Nat.lt_of_lt_of_le (Heap.lt_size ho) hCle) rfl
        have I8 := I8x.unexC
        refine wpAny_mono (mt_append (X := cxLN X xs Ns sc G.objs.size fp s H) _ s8 _ H8 (.ref s.heap.objs.size) [zv] (.ref s.heap.objs.size) [z] (fun _ H9 => ∃ m', m' < n ∧ Wv (i + 1) m' (ys ++ [zv]) H9) I8 rfl (.cons r8 .nil) ⟨_, ys, zv, rfl, rfl, hD8, hz8, w8⟩) (fun _ s9 ⟨_, H9, I9, _, w9⟩ => ?_) fun _ _ y => y.elim
        exact again I9 w9
  exact codeAny_compStart_list (loop _ rfl) (T.self X.A 0 _ _ _ st1 (loop _ rfl))
theorem ps_setLNX {E : XK} (W : Wish X E) {i : Nat} {y : Str} {py spos : Pos} (hN0 : X.N.Nodup) (hc : X.calm = true) (hi' : X.N[i]? = some y) (hy : X.env.scope.names.lookup y = some .local) (S : LnScope X xs Ns sc) (hi : PI X tg iter wi) (hg : ∀ C fp s0 H0, PG (cxLN X xs Ns sc C fp s0 H0) tg g) (ht : ∀ C fp s0 H0, PTs (cxLN X xs Ns sc C fp s0 H0) ifs tc) (he : ∀ C fp s0 H0 xe, Wish ((cxLN X xs Ns sc C fp s0 H0).exC xe) E → PE ((cxLN X xs Ns sc C fp s0 H0).exC xe) elt te)
    (hsw : swapsWith (.ListComp elt [⟨tg, iter, ifs, 0⟩] sc pos) (some (.Name y py)) spos.line X.env = pure true := by rfl) (hs : ∀ v, foldedSetIterable iter X.env v = pure v := by intro _; rfl) (hst : X.stack = X.env :: X.outer := by rfl) (hff : X.env.frame = some X.env.locals := by rfl) :
    PS X (.Assign [.Name y py] (.ListComp elt [⟨tg, iter, ifs, 0⟩] sc pos) spos) (tAsg (tLN xs.length wi g tc te) (gName i)) := by
  refine ⟨?_⟩
  intro pins s σ H Dn I h
  rw [exec_Assign_Name_used _ _ _ _ hsw]
  refine wpAny_bind (wpAny_standAt (wpAny_bind ?_))
  show wpAny _ X.A (do let _ ← comprehension (.ListComp elt [⟨tg, iter, ifs, 0⟩] sc pos) sc X.env _ (newList []) false (eval iter X.env) (some (assign (.Name y py) X.env))) _ _ s
  refine wpAny_bind (wpAny_mono (wpAny_comprehension_free (use := some (assign (.Name y py) X.env)) (Q := fun _ s' => SP X pins Dn .next s') rfl hs (closure_eq (S.cells I.ok)) S.kind S.names
    (thn (hi pins s σ H _ I h) fun v s1 h1 => thn h1 fun itv s2 h2 => ?_)) (fun _ s' hq => wpAny_pure (wpAny_pure hq)) fun _ _ e => e)
  obtain ⟨it, fp, tn, J, H2, e, I2, T, st2, f2, q2⟩ := h2
  subst e
  refine ln_blockX (use := some (assign (.Name y py) X.env)) (QQ := fun _ s' => SP X pins Dn .next s') (Fin := fun D H3 => gName i (.ref D) σ H3 Dn.nx) W hst hff hc S I2 T st2 f2 (fun C s0 H0 => hg C fp s0 H0) (fun C s0 H0 => ht C fp s0 H0) (fun C s0 H0 => he C fp s0 H0) q2 ?_
  intro D C H3 s3 m hC I3 hn hN q3
  show wpAny _ _ (assign (.Name y py) X.env (.ref D)) _ _ s3
  have cne : ∀ y c, X.env.cells.lookup y = some c → c ≠ C := fun y c e => by
    obtain ⟨v, z⟩ := I2.cell y c e
    exact Nat.ne_of_lt (Nat.lt_of_lt_of_le z.lt hC)
  refine wpAny_assign_Name (store_ok2 I3 hN0 hi' (.inl hy) (show RelV (.ref D) (.ref D) from rfl) (fun s4 I4 ⟨a, hs4, ha⟩ => ?_) (.inr hy))
  have haC : C ≠ a := by
    rcases ha with e | e
    · rw [e]; exact Nat.ne_of_gt (Nat.lt_of_lt_of_le I2.lt hC)
    · exact Ne.symm (cne y a e)
  refine ⟨m, hN.sameBut hs4 haC, fun h' hs' => ⟨_, H3, I4.butC hs' (Nat.le_trans I2.sz hC) hn (Nat.ne_of_gt (Nat.lt_of_lt_of_le I2.lt hC)) cne (fun p hp => ?_), q3⟩⟩
  exact Nat.ne_of_lt (Nat.lt_of_lt_of_le (Heap.lt_size (I2.pin p hp).1) hC)
end
end L2
set_option Elab.async false
set_option linter.all false
set_option maxRecDepth 100000
/-! locks that refuse -/
namespace Pr
open PySem L2 PyProof.Rows Any
section
variable {P : Program} {w : World} {K : PySem.W.Frag} {mg : Str → Option Value} {base : Heap} {C : Addr}
/-- what is asked of locks is refused: no roll, or no number -/
inductive BadRN (mg : Str → Option Value) (H : Hp) (n : Nat) (v u : V) (cls : Value) : Prop
  | roll (kv : Kd H v) (b : whF 0 n v = false) (e : cls = .ref (cOf mg "NoRoll")) : BadRN mg H n v u cls
  | num (r : Int) (ev : v = .int r) (r0 : 0 ≤ r) (r1 : r ≤ n) (ku : Kd H u) (b : whN u = false) (e : cls = .ref (cOf mg "NoNumber")) : BadRN mg H n v u cls
inductive sp_lockX (mg : Str → Option Value) (C Dc : Addr) (vs : List V) (H : Hp) (Q : VK) (E : XK) : Prop
  | mk (p x d : Addr) (v u : V) (b : Int) (ps : List Int) (rows : List Lad.Step) (prs : List BP) (cls : Value) (e0 : vs = [.ref p, v, u]) (hK : LockAt Dc H p x d prs) (hL : LadAt C H x b ps rows) (bad : BadRN mg H rows.length v u cls) (er : ∀ H', Same H H' → E cls none H') : sp_lockX mg C Dc vs H Q E
theorem is_shutX (T : Txt K mg C) : CanMX P w K mg base (cOf mg "Locks") 4 "is_shut" ["self", "roll", "number"] (sp_lockX mg C (cOf mg "Locks")) := by
  refine fm_canX T.m_Locks_is_shut sc_is_shut (fun vs H Q E h => ?_) (fun f cdv A outer s H vs Q E hr W h => ?_)
  · obtain ⟨p, x, d, v, u, b, ps, rows, prs, cls, rfl, _⟩ := h
    rfl
  · obtain ⟨p, x, d, v, u, b, ps, rows, prs, cls, rfl, ⟨⟨dx, hp⟩, hd⟩, hL, bad, er⟩ := h
    refine ⟨_, (pss_cons (ps_expr (pe_canX (Any.need_roll T) W hr (pa3 (pv 1) pe_int (pe_op op_sub (pe_canM0 (pe_fldK K (pv 0) rfl) T.cl (rolls T) hr) pe_int))))
      (pss_cons (ps_expr (pe_canX (Any.need_number T) W hr (pa1 (pv 2))))
      (pss_one (ps_ret (pe_cmp (pc_din (hu_of hr) (pe_tup (pa2 (pv 1) (pv 2))) (pe_fldK K (pv 0) rfl))))))), ?_⟩
    obtain ⟨ldx, fa, fo, fc, hi⟩ := lad_ins hL
    refine ⟨_, rfl, _, rfl, p, _, dx, _, _, rfl, hp, T.cl_Locks, T.n_Locks_ladder, rfl, x, ldx, _, rfl, hi, flds_no _ _ _ (by decide) (by decide) (by decide), x, b, ps, rows, rfl, hL, _, _, rfl, rfl, ?_⟩
    have e1 : (((rows.length + 1 : Nat) : Int) - 1) = (rows.length : Int) := by omega
    cases bad with
    | roll kv bd e =>
      subst e
      refine .mk v 0 _ rfl kv (fun z => ?_) (fun _ => er H (Same.refl _))
      rw [e1, bd] at z; cases z
    | num r ev r0 r1 ku bd e =>
      subst e ev
      refine .mk _ 0 _ rfl ⟨_, .s (.int r)⟩ (fun _ => ?_) (fun z => ?_)
      · exact ⟨_, rfl, .mk u rfl ku (fun z => by rw [bd] at z; cases z) (fun _ => er H (Same.refl _))⟩
      · rw [e1] at z
        unfold whF wh at z
        simp only [Bool.and_eq_false_iff, decide_eq_false_iff_not] at z
        omega
theorem shutX (T : Txt K mg C) : CanMX P w K mg base (cOf mg "Locks") 5 "shut" ["self", "roll", "number"] (sp_lockX mg C (cOf mg "Locks")) := by
  refine fm_canX T.m_Locks_shut sc_shut (fun vs H Q E h => ?_) (fun f cdv A outer s H vs Q E hr W h => ?_)
  · obtain ⟨p, x, d, v, u, b, ps, rows, prs, cls, rfl, _⟩ := h
    rfl
  · obtain ⟨p, x, d, v, u, b, ps, rows, prs, cls, rfl, hK, hL, bad, er⟩ := h
    obtain ⟨⟨dx, hp⟩, hd⟩ := id hK
    refine ⟨_, (pss_cons (ps_if (pt_val (pe_canMX (pv 0) T.cl_Locks (is_shutX T) W hr (pa2 (pv 1) (pv 2)))) pss_never pss_nil) pss_never), ?_⟩
    exact ⟨_, rfl, p, dx, _, rfl, hp, rfl, _, rfl, _, rfl, p, x, d, v, u, b, ps, rows, prs, cls, rfl, hK, hL, bad, er⟩
theorem sc_open_bar : FnScope ["self", "roll", "number"] ["self", "roll", "number"] (defScope sm_Locks_open_bar) := ⟨rfl, rfl, rfl, by decide +kernel, rfl, by decide +kernel, by decide +kernel⟩
theorem open_barX (T : Txt K mg C) : CanMX P w K mg base (cOf mg "Locks") 5 "open_bar" ["self", "roll", "number"] (sp_lockX mg C (cOf mg "Locks")) := by
  refine fm_canX T.m_Locks_open_bar sc_open_bar (fun vs H Q E h => ?_) (fun f cdv A outer s H vs Q E hr W h => ?_)
  · obtain ⟨p, x, d, v, u, b, ps, rows, prs, cls, rfl, _⟩ := h
    rfl
  · obtain ⟨p, x, d, v, u, b, ps, rows, prs, cls, rfl, hK, hL, bad, er⟩ := h
    obtain ⟨⟨dx, hp⟩, hd⟩ := id hK
    refine ⟨_, (pss_cons (ps_if (pt_not (pt_val (pe_canMX (pv 0) T.cl_Locks (is_shutX T) W hr (pa2 (pv 1) (pv 2))))) pss_never pss_nil) pss_never), ?_⟩
    exact ⟨_, rfl, p, dx, _, rfl, hp, rfl, _, rfl, _, rfl, p, x, d, v, u, b, ps, rows, prs, cls, rfl, hK, hL, bad, er⟩
/-- bar_at of what is no moment -/
inductive sp_bar_atX (mg : Str → Option Value) (C : Addr) (vs : List V) (H : Hp) (Q : VK) (E : XK) : Prop
  | mk (p : Addr) (r : Int) (m : V) (b : Int) (ps : List Int) (rows : List Lad.Step) (e0 : vs = [.ref p, .int r, m]) (hL : LadAt C H p b ps rows) (r0 : 0 ≤ r) (r1 : r ≤ (rows.length : Int)) (km : Kd H m) (bd : whW m = false) (er : E (.ref (cOf mg "NoMoment")) none H) : sp_bar_atX mg C vs H Q E
theorem bar_atX (T : Txt K mg C) : CanMX P w K mg base C 4 "bar_at" ["self", "roll", "moment"] (sp_bar_atX mg C) := by
  refine fm_canX T.m_bar_at sc_bar_at (fun vs H Q E h => ?_) (fun f cdv A outer s H vs Q E hr W h => ?_)
  · obtain ⟨p, r, m, b, ps, rows, rfl, _⟩ := h
    rfl
  · obtain ⟨p, r, m, b, ps, rows, rfl, hL, r0, r1, km, bd, er⟩ := h
    obtain ⟨dx, a, o, c, us, h1, h2, h3, h4, h5⟩ := id hL
    refine ⟨_, pss_cons (ps_expr (pe_canX (Any.need_roll T) W hr (pa3 (pv 1) pe_int (pe_op op_sub (pe_canM0 (pv 0) T.cl (rolls T) hr) pe_int))))
      (pss_cons (ps_expr (pe_canX (Any.need_moment T) W hr (pa1 (pv 2)))) pss_never), ?_⟩
    refine ⟨_, rfl, _, rfl, p, dx, _, rfl, h1, flds_no _ _ _ (by decide +kernel) (by decide +kernel) (by decide +kernel), p, b, ps, rows, rfl, hL, _, _, rfl, rfl, .mk _ 0 _ rfl ⟨_, .s (.int r)⟩ (fun _ => ?_) (fun z => ?_)⟩
    · exact ⟨_, rfl, .mk m rfl km (fun z => by rw [bd] at z; cases z) (fun _ => er)⟩
    · unfold whF wh at z
      simp only [Bool.and_eq_false_iff, decide_eq_false_iff_not] at z
      omega
inductive sp_heldX (mg : Str → Option Value) (C Dc : Addr) (vs : List V) (H : Hp) (Q : VK) (E : XK) : Prop
  | mk (p x d : Addr) (m : V) (b : Int) (ps : List Int) (rows : List Lad.Step) (prs : List BP) (e0 : vs = [.ref p, m]) (hK : LockAt Dc H p x d prs) (hL : LadAt C H x b ps rows) (hr4 : rows.length ≤ 100) (km : Kd H m) (bd : whW m = false) (er : ∀ H', Same H H' → E (.ref (cOf mg "NoMoment")) none H') : sp_heldX mg C Dc vs H Q E
theorem sc_held_by : FnScope ["self", "moment", "pairs"] ["self", "moment"] (defScope sm_Locks_held_by) := ⟨rfl, rfl, rfl, by decide +kernel, rfl, by decide +kernel, by decide +kernel⟩
theorem held_byX (T : Txt K mg C) : CanMX P w K mg base (cOf mg "Locks") 5 "held_by" ["self", "moment"] (sp_heldX mg C (cOf mg "Locks")) := by
  refine fm_canX T.m_Locks_held_by sc_held_by (fun vs H Q E h => ?_) (fun f cdv A outer s H vs Q E hr W h => ?_)
  · obtain ⟨p, x, d, m, b, ps, rows, prs, rfl, _⟩ := h
    rfl
  · obtain ⟨p, x, d, m, b, ps, rows, prs, rfl, hK, hL, hr4, km, bd, er⟩ := h
    obtain ⟨⟨dx, hp⟩, hd⟩ := id hK
    refine ⟨_, (pss_cons (ps_setLNX (i := 2) (xs := ["roll"]) (Ns := ["self", "moment", "pairs"]) W sc_held_by.nd rfl rfl rfl (lnS _ sc_held_by) (pi_range1 rfl T.b_range (pa1 (pe_canM0 (pe_fldK K (pv 0) rfl) T.cl (rolls T) hr))) (pg_one (lnS _ sc_held_by)) (fun _ _ _ _ => pts_nil) (fun _ _ _ _ _ W' => (pe_tup (pa2 (pv 0) (pe_canMX (pe_fldK K (pv 1) rfl) T.cl (bar_atX T) W' hr (pa2 (pv 0) (pv 2))))))) pss_never), ?_⟩
    obtain ⟨ldx, fa, fo, fc, hi⟩ := lad_ins hL
    refine ⟨_, rfl, p, _, dx, _, _, rfl, hp, T.cl_Locks, T.n_Locks_ladder, rfl, x, ldx, _, rfl, hi, flds_no _ _ _ (by decide) (by decide) (by decide), x, b, ps, rows, rfl, hL, ?_⟩
    refine ⟨_, rfl, by omega, by omega, fun D hD => ?_⟩
    refine lcN_range (fun i ys H1 => i = 0 ∧ H1 D = some (.lst ys) ∧ Same H H1) ⟨rfl, upd_same, Same.upd hD⟩ (fun i ys H1 h => h.2.1) (fun ys H1 h => ?_) fun i ys H1 u hu hi' h => ?_
    · obtain ⟨h1, _⟩ := h
      omega
    · obtain ⟨rfl, h1, s1⟩ := h
      obtain ⟨u1, rfl⟩ := len1 hu
      refine ⟨⟨[some (.int (0 + ((0 : Nat) : Int)))], rfl, rfl⟩, yesI ?_⟩
      refine ⟨_, rfl, _, rfl, p, _, dx, _, _, rfl, s1 _ _ hp, T.cl_Locks, T.n_Locks_ladder, rfl, x, ldx, _, rfl, s1 _ _ hi, flds_no _ _ _ (by decide) (by decide) (by decide), _, rfl, _, rfl, ?_⟩
      exact .mk x _ m b ps rows rfl (hL.same s1) (by decide) (by simp) (km.same s1) bd (er _ s1)
end
end Pr
set_option Elab.async false
set_option linter.all false
set_option maxRecDepth 100000
/-! the law's draws -/
namespace Pr
open PySem L2 PyProof.Rows
/-- the law's pot of draws: a list of two ints -/
inductive PotAt (H : Hp) (p : Addr) : Prop
  | mk (x : Int) (y : Int) (h0_ : H p = some (.lst [.int x, .int y])) : PotAt H p
theorem PotAt.ne {H : Hp} {p l : Addr} (h : PotAt H p) (hl : H l = none) : l ≠ p := by
  obtain ⟨x, y, h⟩ := h
  exact Ne.symm (ne_of_none h hl)
theorem PotAt.same {H H' : Hp} {p : Addr} (h : PotAt H p) (s : Same H H') : PotAt H' p := by
  obtain ⟨x, y, h⟩ := h
  exact ⟨x, y, s _ _ h⟩
theorem four_line : 4 ≤ sizeLine := by decide
theorem small_line {n : Nat} (h : n ≤ 1000) : n ≤ sizeLine := Nat.le_of_lt (small1000 h)
theorem bsmall (c : Bool) : -(2 ^ 64) < (if c = true then (1 : Int) else 0) ∧ (if c = true then (1 : Int) else 0) < 2 ^ 64 := by cases c <;> decide
theorem pick2 {k : Int} {x y : Int} (h0 : 0 ≤ k) (h1 : k < 2) : ∃ v, atI [V.int x, V.int y] k = some (.int v) ∧ (v = x ∨ v = y) := by
  obtain ⟨m, rfl⟩ : ∃ m : Nat, k = m := ⟨k.toNat, by omega⟩
  match m, h1 with
  | 0, _ => exact ⟨x, atI_nat rfl, .inl rfl⟩
  | 1, _ => exact ⟨y, atI_nat rfl, .inr rfl⟩
  | m + 2, h => exact absurd h (by omega)
theorem pick3 {k : Int} {x y z : Int} (h0 : 0 ≤ k) (h1 : k < 3) : ∃ v, atI [V.int x, V.int y, V.int z] k = some (.int v) ∧ (v = x ∨ v = y ∨ v = z) := by
  obtain ⟨m, rfl⟩ : ∃ m : Nat, k = m := ⟨k.toNat, by omega⟩
  match m, h1 with
  | 0, _ => exact ⟨x, atI_nat rfl, .inl rfl⟩
  | 1, _ => exact ⟨y, atI_nat rfl, .inr (.inl rfl)⟩
  | 2, _ => exact ⟨z, atI_nat rfl, .inr (.inr rfl)⟩
  | m + 3, h => exact absurd h (by omega)
theorem pick4 {k : Int} {x y z u : Int} (h0 : 0 ≤ k) (h1 : k < 4) : ∃ v, atI [V.int x, V.int y, V.int z, V.int u] k = some (.int v) ∧ (v = x ∨ v = y ∨ v = z ∨ v = u) := by
  obtain ⟨m, rfl⟩ : ∃ m : Nat, k = m := ⟨k.toNat, by omega⟩
  match m, h1 with
  | 0, _ => exact ⟨x, atI_nat rfl, .inl rfl⟩
  | 1, _ => exact ⟨y, atI_nat rfl, .inr (.inl rfl)⟩
  | 2, _ => exact ⟨z, atI_nat rfl, .inr (.inr (.inl rfl))⟩
  | 3, _ => exact ⟨u, atI_nat rfl, .inr (.inr (.inr rfl))⟩
  | m + 4, h => exact absurd h (by omega)
section
variable {P : Program} {w : World} {K : PySem.W.Frag} {mg : Str → Option Value} {base : Heap} {C : Addr}
inductive sp_pot (K : PySem.W.Frag) (vs : List V) (H : Hp) (Q : VK) (E : XK) : Prop
  | mk (a : Addr) (ns : List Int) (k : Int) (h0_ : vs = [.ref a, .int k]) (h1_ : SqL K H a (ns.map V.int)) (h2_ : ns.length ≤ 900) (h3_ : 0 ≤ k) (h4_ : ∀ p H', Same H H' → H p = none → PotAt H' p → Q (.ref p) H') : sp_pot K vs H Q E
theorem sc_pot : FnScope ["_law_script", "_law_k", "_law_cell"] ["_law_script", "_law_k"] (defScope s_law_pot) := ⟨rfl, rfl, rfl, by decide +kernel, rfl, by decide +kernel, by decide +kernel⟩
theorem pot (T : Txt K mg C) : Can P w K mg base 1 "_law_pot" ["_law_script", "_law_k"] (sp_pot K) := by
  refine fn_can T.f_law_pot sc_pot (fun vs H Q E h => ?_) (fun f cdv A outer s H vs Q E hr h => ?_)
  · obtain ⟨a, ns, k, rfl, _⟩ := h
    rfl
  · obtain ⟨a, ns, k, rfl, ha, hlen, hk, q⟩ := h
    refine ⟨_, pss_cons (ps_set (i := 2) sc_pot.nd rfl (Or.inl rfl) (pe_ix (ix_listK K) (pe_op op_cat (pe_t (call_list_ofK K) T.b_list boot_list (pa1 (pv 0))) (pe_lst (pa1 pe_int))) (pe_b (call_min2 rfl) T.b_min boot_min (pa2 (pv 1) (pe_b (call_lenK K) T.b_len boot_len (pa1 (pv 0))))) (fun _ _ => rfl)))
      (pss_one (ps_ret (pe_lst (pa2 (pe_op op_mul (pv 2) (pe_t call_int1 T.b_int boot_int (pa1 (pe_cmpR op_ge (pv 2) (pe_op op_pow pe_int pe_int) (nomark _)))))
        (pe_op op_mod (pe_op op_add (pe_op op_add (pe_op op_mul (pe_op op_mod (pv 2) pe_int) pe_int) (pe_op op_mul pe_int (pv 1))) pe_int) pe_int))))), ?_⟩
    refine ⟨_, rfl, a, _, rfl, .inl ha, fun l1 hl1 => ⟨small_line (by decide +kernel), fun l2 hl2 => ?_⟩⟩
    have n12 : l1 ≠ l2 := ne_of_none upd_same hl2
    refine ⟨l1, l2, _, _, rfl, rfl, by rw [upd_ne n12]; exact upd_same, upd_same, small_line (by rw [List.length_map, List.length_singleton]; omega), fun l3 hl3 => ?_⟩
    have s3 : Same H _ := ((Same.upd (o := .lst (ns.map V.int)) hl1).trans (Same.upd (o := .lst [.int 0]) hl2)).trans (Same.upd (o := .lst (ns.map V.int ++ [.int 0])) hl3)
    refine ⟨_, rfl, _, rfl, a, _, rfl, .inl (s3.seq ha), _, _, rfl, ?_⟩
    have hm0 : 0 ≤ (if (((ns.map V.int).length : Nat) : Int) < k then (((ns.map V.int).length : Nat) : Int) else k) := by split <;> omega
    have hm1 : (if (((ns.map V.int).length : Nat) : Int) < k then (((ns.map V.int).length : Nat) : Int) else k) < (((ns ++ [0]).length : Nat) : Int) := by
      rw [List.length_map, List.length_append, List.length_singleton]
      split <;> omega
    have e3 : ns.map V.int ++ [V.int 0] = (ns ++ [0]).map V.int := by rw [List.map_append]; rfl
    refine ⟨l3, _, _, _, rfl, rfl, .of (upd_same.trans (by rw [e3])), atI_ints hm0 hm1, ?_⟩
    refine ⟨_, rfl, _, rfl, _, _, rfl, rfl, ⟨by decide +kernel, by decide +kernel, by decide +kernel⟩, _, _, rfl, rfl, .inr ⟨_, rfl, _, _, rfl, rfl, .inr (bsmall _), ?_⟩⟩
    refine ⟨_, rfl, _, _, rfl, rfl, (by show (0 : Int) < _; decide +kernel), _, _, rfl, rfl, .inr ⟨by decide +kernel, by decide +kernel⟩, _, rfl, _, _, rfl, rfl, .inl ⟨by decide +kernel, by decide +kernel⟩, _, _, rfl, rfl, _, _, rfl, rfl, _, _, rfl, rfl, (by show (0 : Int) < _; decide +kernel), two_line, fun p hp => ?_⟩
    refine q p _ (s3.trans (Same.upd hp)) ?_ ⟨_, _, upd_same⟩
    exact s3.free hp
inductive sp_digit (vs : List V) (H : Hp) (Q : VK) (E : XK) : Prop
  | mk (p : Addr) (many : Int) (h0_ : vs = [.ref p, .int many]) (h1_ : PotAt H p) (h2_ : 0 < many) (h3_ : many < 2 ^ 300) (h4_ : ∀ d H', 0 ≤ d → d < many → But p H H' → PotAt H' p → Q (.int d) H') : sp_digit vs H Q E
theorem sc_digit : FnScope ["_law_pot_here", "_law_many", "_law_digit_here"] ["_law_pot_here", "_law_many"] (defScope s_law_digit) := ⟨rfl, rfl, rfl, by decide +kernel, rfl, by decide +kernel, by decide +kernel⟩
theorem digit (T : Txt K mg C) : Can P w K mg base 1 "_law_digit" ["_law_pot_here", "_law_many"] sp_digit := by
  refine fn_can T.f_law_digit sc_digit (fun vs H Q E h => ?_) (fun f cdv A outer s H vs Q E hr h => ?_)
  · obtain ⟨p, many, rfl, _⟩ := h
    rfl
  · obtain ⟨p, many, rfl, ⟨x, y, hp⟩, h0, h1, q⟩ := h
    refine ⟨_, pss_cons (ps_if (pt_cmpR op_gt (pe_ix (ix_listK K) (pv 0) pe_int (fun _ _ => rfl)) pe_int (nomark _))
        (pss_cons (ps_set (i := 2) sc_digit.nd rfl (Or.inl rfl) (pe_op op_mod (pe_ix (ix_listK K) (pv 0) pe_int (fun _ _ => rfl)) (pv 1)))
        (pss_cons (ps_asg (pe_op op_fdivB (pe_ix (ix_listK K) (pv 0) pe_int (fun _ _ => rfl)) (pv 1)) (pg_sub (pv 0) pe_int set_list))
        (pss_one (ps_ret (pv 2))))) pss_nil)
      (pss_cons (ps_asg (pe_op op_mod (pe_op op_add (pe_op op_mul (pe_ix (ix_listK K) (pv 0) pe_int (fun _ _ => rfl)) pe_int) pe_int) pe_int) (pg_sub (pv 0) pe_int set_list))
      (pss_one (ps_ret (pe_op op_mod (pe_op op_fdivB (pe_ix (ix_listK K) (pv 0) pe_int (fun _ _ => rfl)) pe_int) (pv 1))))), ?_⟩
    refine ⟨_, rfl, p, _, _, _, rfl, rfl, .of hp, rfl, _, _, rfl, rfl, _, rfl, ?_⟩
    refine ite2 (fun hc => ?_) (fun hc => ?_)
    · refine ⟨_, rfl, p, _, _, _, rfl, rfl, .of hp, rfl, _, rfl, _, _, rfl, rfl, h0, ?_⟩
      refine ⟨_, rfl, p, _, _, _, rfl, rfl, .of hp, rfl, _, rfl, _, _, rfl, rfl, ⟨h0, h1⟩, _, rfl, p, _, _, _, rfl, rfl, hp, rfl, _, rfl, ?_⟩
      exact q _ _ (Int.emod_nonneg _ (by omega)) (Int.emod_lt_of_pos _ h0) But.upd ⟨_, _, upd_same⟩
    · refine ⟨_, rfl, p, _, _, _, rfl, rfl, .of hp, rfl, _, _, rfl, rfl, .inr ⟨by decide +kernel, by decide +kernel⟩, _, _, rfl, rfl, _, _, rfl, rfl, (by show (0 : Int) < _; decide +kernel), _, rfl, p, _, _, _, rfl, rfl, hp, rfl, ?_⟩
      refine ⟨_, rfl, p, _, _, _, rfl, rfl, .of upd_same, rfl, _, _, rfl, rfl, ⟨by decide +kernel, by decide +kernel⟩, _, rfl, _, _, rfl, rfl, h0, ?_⟩
      exact q _ _ (Int.emod_nonneg _ (by omega)) (Int.emod_lt_of_pos _ h0) But.upd ⟨_, _, upd_same⟩
abbrev B29 : Int := 100000000000000000000000000000
inductive sp_begin (vs : List V) (H : Hp) (Q : VK) (E : XK) : Prop
  | mk (p : Addr) (h0_ : vs = [.ref p]) (h1_ : PotAt H p) (h2_ : ∀ d H', -B29 < d → d < B29 → But p H H' → PotAt H' p → Q (.int d) H') : sp_begin vs H Q E
theorem sc_begin : FnScope ["_law_pot_here"] ["_law_pot_here"] (defScope s_law_begin) := ⟨rfl, rfl, rfl, by decide +kernel, rfl, by decide +kernel, by decide +kernel⟩
theorem lbegin (T : Txt K mg C) : Can P w K mg base 2 "_law_begin" ["_law_pot_here"] sp_begin := by
  refine fn_can T.f_law_begin sc_begin (fun vs H Q E h => ?_) (fun f cdv A outer s H vs Q E hr h => ?_)
  · obtain ⟨p, rfl, _⟩ := h
    rfl
  · obtain ⟨p, rfl, hp, q⟩ := h
    refine ⟨_, (pss_one (ps_ret (pe_ix (ix_listK K) (pe_lst (pa2 (pe_op op_sub (pe_can (digit T) hr (pa2 (pv 0) pe_int)) pe_int) (pe_op op_sub (pe_can (digit T) hr (pa2 (pv 0) (pe_op op_mul pe_int (pe_op op_pow pe_int pe_int)))) (pe_op op_pow pe_int pe_int)))) (pe_can (digit T) hr (pa2 (pv 0) pe_int)) (fun _ _ => rfl)))), ?_⟩
    refine ⟨_, rfl, p, _, rfl, hp, by decide +kernel, by decide +kernel, fun d1 H1 a1 b1 c1 hp1 => ⟨_, _, rfl, rfl, ?_⟩⟩
    refine ⟨_, rfl, _, _, rfl, rfl, ⟨by decide +kernel, by decide +kernel, by decide +kernel⟩, _, _, rfl, rfl, .inl ⟨by decide +kernel, by decide +kernel⟩, p, _, rfl, hp1, by decide +kernel, by decide +kernel, fun d2 H2 a2 b2 c2 hp2 => ⟨_, _, rfl, rfl, ⟨by decide +kernel, by decide +kernel, by decide +kernel⟩, _, _, rfl, rfl, two_line, fun l hl => ?_⟩⟩
    refine ⟨_, rfl, p, _, rfl, hp2.same (Same.upd hl), by decide +kernel, by decide +kernel, fun d3 H3 a3 b3 c3 hp3 => ?_⟩
    obtain ⟨v, hv, hor⟩ := pick2 (x := d1 - 49) (y := d2 - 10 ^ (28 : Int).toNat) a3 b3
    refine ⟨l, _, _, _, rfl, rfl, .of (c3 _ _ upd_same (hp2.ne hl)), hv, q v H3 ?_ ?_ (((c1.trans c2).trans (Same.upd hl).but).trans c3) hp3⟩
    all_goals
      have e28 : (10 : Int) ^ (28 : Int).toNat = 10000000000000000000000000000 := by decide +kernel
      have hB : B29 = 100000000000000000000000000000 := rfl
      rw [e28] at hor b2
      rcases hor with rfl | rfl <;> omega
inductive sp_near (vs : List V) (H : Hp) (Q : VK) (E : XK) : Prop
  | mk (p : Addr) (b : Int) (h0_ : vs = [.ref p, .int b]) (h1_ : PotAt H p) (b0 : -B29 < b) (b1 : b < B29) (h2_ : ∀ d H', -W30 < d → d < W30 → But p H H' → PotAt H' p → Q (.int d) H') : sp_near vs H Q E
theorem sc_near : FnScope ["_law_pot_here", "_law_begin_here", "_law_near_here", "_law_far"] ["_law_pot_here", "_law_begin_here"] (defScope s_law_near) := ⟨rfl, rfl, rfl, by decide +kernel, rfl, by decide +kernel, by decide +kernel⟩
theorem near (T : Txt K mg C) : Can P w K mg base 2 "_law_near" ["_law_pot_here", "_law_begin_here"] sp_near := by
  refine fn_can T.f_law_near sc_near (fun vs H Q E h => ?_) (fun f cdv A outer s H vs Q E hr h => ?_)
  · obtain ⟨p, b, rfl, _⟩ := h
    rfl
  · obtain ⟨p, b, rfl, hp, b0, b1', q⟩ := h
    refine ⟨_, (pss_cons (ps_set (i := 2) sc_near.nd rfl (Or.inl rfl) (pe_op op_sub (pe_can (digit T) hr (pa2 (pv 0) pe_int)) pe_int))
      (pss_cons (ps_set (i := 3) sc_near.nd rfl (Or.inl rfl) (pe_op op_sub (pe_can (digit T) hr (pa2 (pv 0) (pe_op op_mul pe_int (pe_op op_pow pe_int pe_int)))) (pe_op op_pow pe_int pe_int)))
      (pss_one (ps_ret (pe_op op_add (pv 1) (pe_ix (ix_listK K) (pe_lst (pa3 (pv 2) (pv 2) (pv 3))) (pe_can (digit T) hr (pa2 (pv 0) pe_int)) (fun _ _ => rfl))))))), ?_⟩
    refine ⟨_, rfl, p, _, rfl, hp, by decide +kernel, by decide +kernel, fun d1 H1 a1 b1 c1 hp1 => ⟨_, _, rfl, rfl, ?_⟩⟩
    refine ⟨_, rfl, _, _, rfl, rfl, ⟨by decide +kernel, by decide +kernel, by decide +kernel⟩, _, _, rfl, rfl, .inl ⟨by decide +kernel, by decide +kernel⟩, p, _, rfl, hp1, by decide +kernel, by decide +kernel, fun d2 H2 a2 b2 c2 hp2 => ⟨_, _, rfl, rfl, ⟨by decide +kernel, by decide +kernel, by decide +kernel⟩, _, _, rfl, rfl, ?_⟩⟩
    refine ⟨_, rfl, _, rfl, _, rfl, _, rfl, three_line, fun l hl => ?_⟩
    refine ⟨_, rfl, p, _, rfl, hp2.same (Same.upd hl), by decide +kernel, by decide +kernel, fun d3 H3 a3 b3 c3 hp3 => ?_⟩
    obtain ⟨v, hv, hor⟩ := pick3 (x := d1 - 100) (y := d1 - 100) (z := d2 - 10 ^ (12 : Int).toNat) a3 b3
    refine ⟨l, _, _, _, rfl, rfl, .of (c3 _ _ upd_same (hp2.ne hl)), hv, _, _, rfl, rfl, q (b + v) H3 ?_ ?_ (((c1.trans c2).trans (Same.upd hl).but).trans c3) hp3⟩
    all_goals
      have e28 : (10 : Int) ^ (12 : Int).toNat = 1000000000000 := by decide +kernel
      have hB : B29 = 100000000000000000000000000000 := rfl
      have hW : W30 = 1000000000000000000000000000000 := rfl
      rw [e28] at hor b2
      rcases hor with rfl | rfl | rfl <;> omega
inductive sp_lbar (C : Addr) (vs : List V) (H : Hp) (Q : VK) (E : XK) : Prop
  | mk (p x : Addr) (b0 b : Int) (ps : List Int) (rows : List Lad.Step) (h0_ : vs = [.ref p, .ref x, .int b0]) (h1_ : PotAt H p) (hL : LadAt C H x b ps rows) (ok : LadOk b ps rows) (b1 : -B29 < b0) (b2 : b0 < B29) (q : ∀ t r n H', But p H H' → PotAt H' p → H t = none → H' t = some (.tup [.int r, .int n]) → 0 ≤ r → r ≤ (rows.length : Int) → -W40 < n → n < W40 → Q (.ref t) H') : sp_lbar C vs H Q E
theorem sc_bar : FnScope ["_law_pot_here", "_law_ladder", "_law_begin_here", "_law_roll", "_law_near_here", "_law_far"] ["_law_pot_here", "_law_ladder", "_law_begin_here"] (defScope s_law_bar) := ⟨rfl, rfl, rfl, by decide +kernel, rfl, by decide +kernel, by decide +kernel⟩
set_option maxHeartbeats 4000000 in
theorem ldraw (T : Txt K mg C) : Can P w K mg base 5 "_law_bar" ["_law_pot_here", "_law_ladder", "_law_begin_here"] (sp_lbar C) := by
  refine fn_can T.f_law_bar sc_bar (fun vs H Q E h => ?_) (fun f cdv A outer s H vs Q E hr h => ?_)
  · obtain ⟨p, x, b0, b, ps, rows, rfl, _⟩ := h
    rfl
  · obtain ⟨p, x, b0, b, ps, rows, rfl, hp, hL, ok, bb1, bb2, q⟩ := h
    refine ⟨_, (pss_cons (ps_set (i := 3) sc_bar.nd rfl (Or.inl rfl) (pe_can (digit T) hr (pa2 (pv 0) (pe_canM0 (pv 1) T.cl (rolls T) hr))))
      (pss_cons (ps_set (i := 4) sc_bar.nd rfl (Or.inl rfl) (pe_canM (pv 1) T.cl (bar_at T) hr (pa2 (pv 3) (pe_can (near T) hr (pa2 (pv 0) (pv 2))))))
      (pss_cons (ps_set (i := 5) sc_bar.nd rfl (Or.inl rfl) (pe_op op_add (pe_op op_sub (pe_can (digit T) hr (pa2 (pv 0) (pe_op op_sub (pe_op op_mul pe_int (pe_op op_pow pe_int pe_int)) pe_int))) (pe_op op_pow pe_int pe_int)) pe_int))
      (pss_one (ps_ret (pe_tup (pa2 (pv 3) (pe_ix (ix_listK K) (pe_lst (pa_cons (pv 4) (pa3 (pv 4) (pe_op op_sub (pe_can (digit T) hr (pa2 (pv 0) pe_int)) pe_int) (pv 5)))) (pe_can (digit T) hr (pa2 (pv 0) pe_int)) (fun _ _ => rfl))))))))), ?_⟩
    obtain ⟨dx, fa, fo, fc, hi⟩ := lad_ins hL
    have xp : x ≠ p := by
      obtain ⟨y1, y2, hy⟩ := hp
      exact fun z => by rw [z, hy] at hi; cases hi
    have rl := (rowsB_ok ok.r).1
    have lad : ∀ H', But p H H' → LadAt C H' x b ps rows := fun H' c => by
      obtain ⟨y1, y2, hy⟩ := hp
      obtain ⟨ldx, a1, a2, a3, us', j1, j2, j3, j4, j5⟩ := hL
      have tp : ∀ b' ys, H b' = some (.tup ys) → H' b' = some (.tup ys) := fun b' ys h => c _ _ h fun z => by rw [z, hy] at h; cases h
      refine ⟨ldx, a1, a2, a3, us', c _ _ j1 (fun z => by rw [z, hy] at j1; cases j1), tp _ _ j2, tp _ _ j3, tp _ _ j4, Paired.mono (fun _ _ z => ?_) j5⟩
      obtain ⟨r', l', e', q1, q2⟩ := z
      exact ⟨r', l', e', tp _ _ q1, tp _ _ q2⟩
    refine ⟨_, rfl, _, rfl, x, dx, _, rfl, hi, flds_no _ _ _ (by decide) (by decide) (by decide), x, b, ps, rows, rfl, hL, p, _, rfl, hp, by omega, Int.lt_trans (b := 100) (by omega) (by decide +kernel), fun r H1 r0 r1 c1 hp1 => ?_⟩
    have hi1 := c1 _ _ hi xp
    refine ⟨_, rfl, x, dx, _, rfl, hi1, flds_no _ _ _ (by decide) (by decide) (by decide), _, rfl, _, rfl, _, rfl, p, b0, rfl, hp1, bb1, bb2, fun m H2 m0 m1 c2 hp2 => ?_⟩
    have c02 := c1.trans c2
    refine ⟨x, r, m, b, ps, rows, rfl, lad H2 c02, ok, r0, by omega, m0, m1, fun H3 s3 => ?_⟩
    obtain ⟨k, rfl⟩ : ∃ k : Nat, r = k := ⟨r.toNat, by omega⟩
    rw [ur_allSt]
    have uf := ur_far ok k m0 m1
    generalize Lad.ur (allSt b ps rows) k m = nn at uf
    have c03 := c02.trans s3.but
    have hp3 := hp2.same s3
    refine ⟨_, rfl, _, _, rfl, rfl, ⟨by decide +kernel, by decide +kernel, by decide +kernel⟩, _, _, rfl, rfl, .inl ⟨by decide +kernel, by decide +kernel⟩, _, _, rfl, rfl, p, _, rfl, hp3, by decide +kernel, by decide +kernel, fun d1 H4 a4 b4 c4 hp4 => ⟨_, _, rfl, rfl, ⟨by decide +kernel, by decide +kernel, by decide +kernel⟩, _, _, rfl, rfl, _, _, rfl, rfl, ?_⟩⟩
    refine ⟨_, rfl, _, rfl, _, rfl, _, rfl, p, _, rfl, hp4, by decide +kernel, by decide +kernel, fun d2 H5 a5 b5 c5 hp5 => ⟨_, _, rfl, rfl, _, rfl, four_line, fun l hl => ?_⟩⟩
    refine ⟨_, rfl, p, _, rfl, hp5.same (Same.upd hl), by decide +kernel, by decide +kernel, fun d3 H6 a6 b6 c6 hp6 => ?_⟩
    obtain ⟨v, hv, hor⟩ := pick4 (x := nn) (y := nn) (z := d2 - 4) (u := d1 - 10 ^ (40 : Int).toNat + 1) a6 b6
    have c06 := (((c03.trans c4).trans c5).trans (Same.upd hl).but).trans c6
    refine ⟨l, _, _, _, rfl, rfl, .of (c6 _ _ upd_same (hp5.ne hl)), hv, two_line, fun t ht => q t k v _ (c06.trans (Same.upd ht).but) (hp6.same (Same.upd ht)) ?_ upd_same r0 (by omega) ?_ ?_⟩
    · cases e : H t with
      | none => rfl
      | some o =>
        have tp : t ≠ p := hp6.ne ht
        rw [c06 _ _ e tp] at ht
        cases ht
    all_goals
      have e40 : (10 : Int) ^ (40 : Int).toNat = 10000000000000000000000000000000000000000 := by decide +kernel
      have hW : W30 = 1000000000000000000000000000000 := rfl
      have hW4 : W40 = 10000000000000000000000000000000000000000 := rfl
      rw [e40] at hor b4
      rcases hor with rfl | rfl | rfl | rfl <;> omega
end
end Pr
set_option Elab.async false
set_option linter.all false
set_option maxRecDepth 100000
/-! TEXTS over the hand layer: their methods, join, split, partition, int of a text. -/
namespace L2
open PySem PySem.Spec PyProof.Rows
theorem strs_of : ∀ {ts : List Str} {us : List Value}, Vals (ts.map V.str) us → ∃ l : List (Str × Tok), us = strValues l ∧ l.map (·.1) = ts
  | [], us, h => by
    cases h
    exact ⟨[], rfl, rfl⟩
  | x :: r, us, h => by
    cases h with
    | cons a b =>
      obtain ⟨t, rfl⟩ := a
      obtain ⟨l, rfl, e⟩ := strs_of b
      exact ⟨(x, t) :: l, rfl, by rw [List.map_cons, e]⟩
section
variable {X : Cx}
theorem mt_join : MtR X "str.join" (fun x xs H Q => ∃ sep D, ∃ ts : List Str, x = .str sep ∧ xs = [.ref D] ∧ SqL X.K H D (ts.map V.str) ∧ JoinOk sep ts = true ∧ Q (.str (Txt.join sep ts)) H) := by
  intro pins s σ H x xs v us Q I rx r h
  obtain ⟨sep, D, ts, e1, e2, hq, hok, q⟩ := h
  subst e1 e2
  obtain ⟨t, rfl⟩ := rx
  obtain ⟨u, rfl, ry⟩ := vals1 r
  cases ry
  obtain ⟨its, rv, p, hz⟩ := I.list hq
  obtain ⟨l, rfl, et⟩ := strs_of rv
  exact SC.join p.isList et hok fun t1 k => ⟨.str _, H, I.tok k, ⟨t1, rfl⟩, q⟩
end
end L2
set_option Elab.async false
set_option linter.all false
set_option maxRecDepth 100000
/-! the law's ladder -/
namespace Pr
open PySem L2 PyProof.Rows
theorem partB_of {d : Int} (h1 : -1000000000 ≤ d) (h2 : d ≤ 1000000000) (h3 : d ≠ 0) : partB d = true := by
  unfold partB
  rw [decide_eq_true h1, decide_eq_true h2, decide_eq_false h3]
  rfl
theorem sizesB_of {S : List Int} (h1 : 1 ≤ S.length) (h2 : S.length ≤ 12) (h3 : ∀ v ∈ S, 1 ≤ v ∧ v ≤ 1000) : sizesB S = true := by
  unfold sizesB lenB
  rw [decide_eq_true (by omega), decide_eq_true (by omega), Bool.and_true, Bool.true_and, List.all_eq_true]
  intro v hv
  unfold sizeB
  rw [decide_eq_true (h3 v hv).1, decide_eq_true (h3 v hv).2]
  rfl
theorem partsB_of {ps : List Int} (h1 : 1 ≤ ps.length) (h2 : ps.length ≤ 12) (h3 : ∀ v ∈ ps, partB v = true) (h4 : 0 < ps.headD 0) : partsB ps = true := by
  unfold partsB lenB headB
  rw [decide_eq_true (by omega), decide_eq_true (by omega), decide_eq_true h4, List.all_eq_true.mpr h3]
  rfl
theorem rowsB_of {rows : List Lad.Step} (h2 : rows.length ≤ 4) (h3 : ∀ v ∈ rows, rowB v = true) : rowsB rows = true := by
  unfold rowsB lenB
  rw [decide_eq_true (by omega), decide_eq_true (by omega), List.all_eq_true.mpr h3]
  rfl
theorem butFree {p l : Addr} {H H' : Hp} (b : But p H H') (h : H' l = none) (hp : PotAt H' p) : H l = none := by
  cases e : H l with
  | none => rfl
  | some o =>
    have := b l o e (hp.ne h)
    rw [h] at this
    cases this
/-- a row of tuples -/
def RowT (H : Hp) (v : V) (s : Lad.Step) : Prop := ∃ r l, v = .ref r ∧ H r = some (.tup [.int s.1, .ref l]) ∧ H l = some (.tup (s.2.map V.int)) ∧ s.2.length ≤ 1000
theorem RowT.tups {H H' : Hp} (t : ∀ b xs, H b = some (.tup xs) → H' b = some (.tup xs)) {v : V} {s : Lad.Step} (h : RowT H v s) : RowT H' v s := by
  obtain ⟨r, l, e, h1, h2, h3⟩ := h
  exact ⟨r, l, e, t _ _ h1, t _ _ h2, h3⟩
theorem RowT.g {H : Hp} {v : V} {s : Lad.Step} (h : RowT H v s) : RowG H v s := by
  obtain ⟨r, l, e, h1, h2, h3⟩ := h
  exact ⟨r, l, _, _, e, h1, .inr rfl, h2, .inr rfl, h3⟩
theorem potTups {p : Addr} {H H' : Hp} (hp : PotAt H p) (c : But p H H') : ∀ b xs, H b = some (.tup xs) → H' b = some (.tup xs) := fun b xs h => by
  obtain ⟨x, y, z⟩ := hp
  exact c _ _ h fun e => by rw [e, z] at h; cases h
section
variable {P : Program} {w : World} {K : PySem.W.Frag} {mg : Str → Option Value} {base : Heap} {C : Addr}
inductive sp_parts (vs : List V) (H : Hp) (Q : VK) (E : XK) : Prop
  | mk (p : Addr) (e : vs = [.ref p]) (hp : PotAt H p) (q : ∀ l ps H', partsB ps = true → But p H H' → PotAt H' p → H l = none → H' l = some (.lst (ps.map V.int)) → Q (.ref l) H') : sp_parts vs H Q E
theorem sc_parts : FnScope ["_law_pot_here", "_law_found", "_law_k", "_law_length"] ["_law_pot_here"] (defScope s_law_parts) := ⟨rfl, rfl, rfl, by decide +kernel, rfl, by decide +kernel, by decide +kernel⟩
set_option maxHeartbeats 4000000 in
theorem parts (T : Txt K mg C) : Can P w K mg base 2 "_law_parts" ["_law_pot_here"] sp_parts := by
  refine fn_can T.f_law_parts sc_parts (fun vs H Q E h => ?_) (fun f cdv A outer s H vs Q E hr h => ?_)
  · obtain ⟨p, rfl, _⟩ := h
    rfl
  · obtain ⟨p, rfl, hp, q⟩ := h
    refine ⟨_, (pss_cons (ps_set (i := 1) sc_parts.nd rfl (Or.inl rfl) (pe_lst pa_nil))
      (pss_cons (ps_for PassesOwn.never rfl (pi_range1 rfl T.b_range (pa1 (pe_op op_add pe_int (pe_can (digit T) hr (pa2 (pv 0) pe_int))))) (pg_name (i := 2) sc_parts.nd rfl (Or.inl rfl))
        (pss_cons (ps_set (i := 3) sc_parts.nd rfl (Or.inl rfl) (pe_ix (ix_listK K) (pe_lst (pa3 (pe_op op_add pe_int (pe_can (digit T) hr (pa2 (pv 0) pe_int))) (pe_op op_add pe_int (pe_can (digit T) hr (pa2 (pv 0) pe_int))) (pe_op op_sub (pe_op op_pow pe_int pe_int) (pe_can (digit T) hr (pa2 (pv 0) pe_int))))) (pe_can (digit T) hr (pa2 (pv 0) pe_int)) (fun _ _ => rfl)))
        (pss_one (ps_expr (pe_bmK K PySem.F.plainAttrs_list PySem.F.slot_list_append PySem.F.type_list_append mt_append (pv 1) (pa1 (pe_op op_mul (pv 3) (pe_ix (ix_listK K) (pe_lst (pa2 pe_int (pe_op op_sub pe_int (pe_op op_mul pe_int (pe_can (digit T) hr (pa2 (pv 0) pe_int)))))) (pe_t call_int1 T.b_int boot_int (pa1 (pe_cmpR op_gt (pv 2) pe_int (nomark _)))) (fun _ _ => rfl)))))))))
      (pss_one (ps_ret (pv 1))))), ?_⟩
    have e9 : (10 : Int) ^ (9 : Int).toNat = 1000000000 := by decide +kernel
    refine ⟨Nat.zero_le _, fun L hL => ?_⟩
    have s1 : Same H (upd H L (.lst [])) := Same.upd hL
    have hL1 : (upd H L (.lst [])) L = some (.lst []) := upd_same
    generalize (upd H L (.lst [])) = H1 at s1 hL1
    have nL := hp.ne hL
    refine ⟨_, rfl, p, _, rfl, hp.same s1, by decide +kernel, by decide +kernel, fun d0 H2 a0 b0 c2 hp2 => ⟨_, _, rfl, rfl, _, rfl, by omega, by omega, ?_⟩⟩
    refine for_range (n := (1 + d0).toNat) (fun i σ H5 => ∃ v2 v3 ps, σ = [some (.ref p), some (.ref L), v2, v3] ∧ ps.length = i ∧ (∀ v ∈ ps, partB v = true) ∧ (0 < i → 0 < ps.headD 0) ∧ But p H H5 ∧ PotAt H5 p ∧ H5 L = some (.lst (ps.map V.int)))
      ⟨none, none, [], rfl, rfl, (fun v hv => nomatch hv), (fun z => absurd z (Nat.lt_irrefl _)), s1.but.trans c2, hp2, c2 _ _ hL1 nL⟩ ?turn ?fin
    case fin =>
      rintro σ H5 ⟨v2, v3, ps, rfl, e1, e2, e3, c5, hp5, hL5⟩
      exact ⟨_, rfl, q L ps H5 (partsB_of (by omega) (by omega) e2 (e3 (by omega))) c5 hp5 hL hL5⟩
    case turn =>
      rintro i σ H5 hi ⟨v2, v3, ps, rfl, e1, e2, e3, c5, hp5, hL5⟩
      refine ⟨_, rfl, p, _, rfl, hp5, by decide +kernel, by decide +kernel, fun d1 H6 a1 b1 c6 hp6 => ⟨_, _, rfl, rfl, _, rfl, p, _, rfl, hp6, by decide +kernel, by decide +kernel, fun d2 H7 a2 b2 c7 hp7 => ⟨_, _, rfl, rfl, _, _, rfl, rfl, ⟨by decide +kernel, by decide +kernel, by decide +kernel⟩, _, rfl, p, _, rfl, hp7, by decide +kernel, by decide +kernel, fun d3 H8 a3 b3 c8 hp8 => ⟨_, _, rfl, rfl, three_line, fun l hl => ?_⟩⟩⟩⟩
      rw [e9]
      refine ⟨_, rfl, p, _, rfl, hp8.same (Same.upd hl), by decide +kernel, by decide +kernel, fun d4 H9 a4 b4 c9 hp9 => ?_⟩
      obtain ⟨ln, hv, hor⟩ := pick3 (x := 1 + d1) (y := 1 + d2) (z := 1000000000 - d3) a4 b4
      have hln : 1 ≤ ln ∧ ln ≤ 1000000000 := by rcases hor with rfl | rfl | rfl <;> omega
      refine ⟨l, _, _, _, rfl, rfl, .of (c9 _ _ upd_same (hp8.ne hl)), hv, ?_⟩
      have c59 : But p H5 H9 := ((((c6.trans c7).trans c8).trans (Same.upd hl).but).trans c9)
      have hL9 := c59 _ _ hL5 nL
      refine ⟨_, rfl, .inl ⟨rfl, _, .of hL9⟩, _, rfl, _, rfl, p, _, rfl, hp9, by decide +kernel, by decide +kernel, fun d5 HA a5 b5 cA hpA => ⟨_, _, rfl, rfl, .inl ⟨by decide +kernel, by decide +kernel⟩, _, _, rfl, rfl, two_line, fun l2 hl2 => ?_⟩⟩
      have pick : ∃ sg, atI [V.int 1, V.int (1 - 2 * d5)] (if decide (0 < 0 + (i : Int)) = true then 1 else 0) = some (.int sg) ∧ (sg = 1 ∨ (0 < i ∧ sg = -1)) := by
        by_cases z : (0 : Int) < 0 + (i : Int)
        · rw [decide_eq_true z, if_pos rfl]
          refine ⟨1 - 2 * d5, rfl, ?_⟩
          omega
        · rw [decide_eq_false z, if_neg Bool.false_ne_true]
          exact ⟨1, rfl, .inl rfl⟩
      obtain ⟨sg, hsg, hs⟩ := pick
      refine ⟨_, rfl, _, _, rfl, rfl, .inr ⟨_, rfl, l2, _, _, _, rfl, rfl, .of upd_same, hsg, _, _, rfl, rfl, .inr (by rcases hs with rfl | ⟨_, rfl⟩ <;> exact ⟨by decide, by decide⟩), ?_⟩⟩
      have c5A : But p H5 (upd HA l2 (.lst [.int 1, .int (1 - 2 * d5)])) := (c59.trans cA).trans (Same.upd hl2).but
      have hpB := hpA.same (Same.upd (o := .lst [.int 1, .int (1 - 2 * d5)]) hl2)
      generalize (upd HA l2 (.lst [.int 1, .int (1 - 2 * d5)])) = HB at c5A hpB
      refine ⟨L, _, _, rfl, rfl, c5A _ _ hL5 nL, small1000 (by rw [List.length_map]; omega), _, _, ps ++ [ln * sg], rfl, ?_, ?_, ?_, ?_, ?_, ?_⟩
      · rw [List.length_append, e1]; rfl
      · intro v hv
        rcases List.mem_append.mp hv with z | z
        · exact e2 v z
        · rw [List.mem_singleton.mp z]
          rcases hs with rfl | ⟨_, rfl⟩
          · exact partB_of (by omega) (by omega) (by omega)
          · exact partB_of (by omega) (by omega) (by omega)
      · intro _
        cases ps with
        | nil =>
          have : i = 0 := e1.symm
          rcases hs with rfl | ⟨z, _⟩
          · show 0 < ln * 1
            omega
          · omega
        | cons a r => exact e3 (by rw [← e1]; exact Nat.succ_pos _)
      · exact fun b o z n => by rw [upd_ne (ne_of_none z hL)]; exact c5A b o (c5 b o z n) n
      · obtain ⟨x, y, z⟩ := hpB
        exact ⟨x, y, by rw [upd_ne (Ne.symm nL)]; exact z⟩
      · rw [List.map_append]; exact upd_same
end
end Pr
set_option Elab.async false
set_option linter.all false
set_option maxRecDepth 100000
/-! the law's rows -/
namespace Pr
open PySem L2 PyProof.Rows
section
variable {P : Program} {w : World} {K : PySem.W.Frag} {mg : Str → Option Value} {base : Heap} {C : Addr}
inductive sp_rows (vs : List V) (H : Hp) (Q : VK) (E : XK) : Prop
  | mk (p : Addr) (e : vs = [.ref p]) (hp : PotAt H p) (q : ∀ l ys rows H', rowsB rows = true → But p H H' → PotAt H' p → H l = none → H' l = some (.lst ys) → Paired (RowT H') ys rows → Q (.ref l) H') : sp_rows vs H Q E
theorem sc_rows : FnScope ["_law_pot_here", "_law_found", "_law_k", "_law_begin_here", "_law_sizes", "_law_j", "_law_some"] ["_law_pot_here"] (defScope s_law_rows) := ⟨rfl, rfl, rfl, by decide +kernel, rfl, by decide +kernel, by decide +kernel⟩
set_option maxHeartbeats 8000000 in
theorem lrows (T : Txt K mg C) : Can P w K mg base 2 "_law_rows" ["_law_pot_here"] sp_rows := by
  refine fn_can T.f_law_rows sc_rows (fun vs H Q E h => ?_) (fun f cdv A outer s H vs Q E hr h => ?_)
  · obtain ⟨p, rfl, _⟩ := h
    rfl
  · obtain ⟨p, rfl, hp, q⟩ := h
    refine ⟨_, (pss_cons (ps_set (i := 1) sc_rows.nd rfl (Or.inl rfl) (pe_lst pa_nil))
      (pss_cons (ps_for PassesOwn.never rfl (pi_range1 rfl T.b_range (pa1 (pe_can (digit T) hr (pa2 (pv 0) pe_int)))) (pg_name (i := 2) sc_rows.nd rfl (Or.inl rfl))
        (pss_cons (ps_set (i := 3) sc_rows.nd rfl (Or.inl rfl) (pe_ix (ix_listK K) (pe_lst (pa2 (pe_op op_sub (pe_can (digit T) hr (pa2 (pv 0) pe_int)) pe_int) (pe_op op_sub (pe_can (digit T) hr (pa2 (pv 0) (pe_op op_pow pe_int pe_int))) (pe_op op_mul pe_int (pe_op op_pow pe_int pe_int))))) (pe_can (digit T) hr (pa2 (pv 0) pe_int)) (fun _ _ => rfl)))
        (pss_cons (ps_set (i := 4) sc_rows.nd rfl (Or.inl rfl) (pe_lst pa_nil))
        (pss_cut (ps_for PassesOwn.never rfl (pi_range1 rfl T.b_range (pa1 (pe_op op_add pe_int (pe_can (digit T) hr (pa2 (pv 0) pe_int))))) (pg_name (i := 5) sc_rows.nd rfl (Or.inl rfl))
          (pss_cons (ps_set (i := 6) sc_rows.nd rfl (Or.inl rfl) (pe_lst (pa3 (pe_op op_add pe_int (pe_can (digit T) hr (pa2 (pv 0) pe_int))) (pe_op op_add pe_int (pe_can (digit T) hr (pa2 (pv 0) pe_int))) (pe_op op_sub pe_int (pe_can (digit T) hr (pa2 (pv 0) pe_int))))))
          (pss_one (ps_expr (pe_bmK K PySem.F.plainAttrs_list PySem.F.slot_list_append PySem.F.type_list_append mt_append (pv 4) (pa1 (pe_ix (ix_listK K) (pv 6) (pe_can (digit T) hr (pa2 (pv 0) pe_int)) (fun _ _ => rfl))))))))
        (pss_one (ps_expr (pe_bmK K PySem.F.plainAttrs_list PySem.F.slot_list_append PySem.F.type_list_append mt_append (pv 1) (pa1 (pe_tup (pa2 (pv 3) (pe_t call_tup_ob T.b_tuple boot_tuple (pa1 (pv 4)))))))))))))
      (pss_one (ps_ret (pv 1))))), ?_⟩
    have e11 : (10 : Int) ^ (11 : Int).toNat = 100000000000 := by decide +kernel
    have e12 : (10 : Int) ^ (12 : Int).toNat = 1000000000000 := by decide +kernel
    have hW : W30 = 1000000000000000000000000000000 := rfl
    refine ⟨Nat.zero_le _, fun L hL => ?_⟩
    have s1 : Same H (upd H L (.lst [])) := Same.upd hL
    have hL1 : (upd H L (.lst [])) L = some (.lst []) := upd_same
    generalize (upd H L (.lst [])) = H1 at s1 hL1
    have nL := hp.ne hL
    refine ⟨_, rfl, p, _, rfl, hp.same s1, by decide +kernel, by decide +kernel, fun d1 H2 a1 b1 c2 hp2 => ⟨_, rfl, by omega, by omega, ?_⟩⟩
    refine for_range (n := d1.toNat) (fun i σ H5 => ∃ v2 v3 v4 v5 v6 ys rows, σ = [some (.ref p), some (.ref L), v2, v3, v4, v5, v6] ∧ Paired (RowT H5) ys rows ∧ rows.length = i ∧ (∀ v ∈ rows, rowB v = true) ∧ But p H H5 ∧ PotAt H5 p ∧ H5 L = some (.lst ys))
      ⟨none, none, none, none, none, [], [], rfl, .nil, rfl, (fun v hv => by cases hv), s1.but.trans c2, hp2, c2 _ _ hL1 nL⟩ ?turn ?fin
    case fin =>
      rintro σ H5 ⟨v2, v3, v4, v5, v6, ys, rows, rfl, f1, f2, f3, c5, hp5, hL5⟩
      exact ⟨_, rfl, q L ys rows H5 (rowsB_of (by omega) f3) c5 hp5 hL hL5 f1⟩
    case turn =>
      rintro i σ H5 hi ⟨v2, v3, v4, v5, v6, ys, rows, rfl, f1, f2, f3, c5, hp5, hL5⟩
      refine ⟨_, rfl, p, _, rfl, hp5, by decide +kernel, by decide +kernel, fun d2 H6 a2 b2 c6 hp6 => ⟨_, _, rfl, rfl, _, rfl, _, _, rfl, rfl, ⟨by decide +kernel, by decide +kernel, by decide +kernel⟩, p, _, rfl, hp6, by decide +kernel, by decide +kernel, fun d3 H7 a3 b3 c7 hp7 => ⟨_, _, rfl, rfl, ⟨by decide +kernel, by decide +kernel, by decide +kernel⟩, _, _, rfl, rfl, .inl ⟨by decide +kernel, by decide +kernel⟩, _, _, rfl, rfl, two_line, fun l hl => ?_⟩⟩⟩
      rw [e11]
      rw [e12] at b3
      refine ⟨_, rfl, p, _, rfl, hp7.same (Same.upd hl), by decide +kernel, by decide +kernel, fun d4 H8 a4 b4 c8 hp8 => ?_⟩
      obtain ⟨fi, hv, hor⟩ := pick2 (x := d2 - 4) (y := d3 - 5 * 100000000000) a4 b4
      have hfi : -W30 < fi ∧ fi < W30 := by rcases hor with rfl | rfl <;> omega
      refine ⟨l, _, _, _, rfl, rfl, .of (c8 _ _ upd_same (hp7.ne hl)), hv, ?_⟩
      have c58 : But p H5 H8 := (((c6.trans c7).trans (Same.upd hl).but).trans c8)
      refine ⟨Nat.zero_le _, fun D hD => ?_⟩
      have sD : Same H8 (upd H8 D (.lst [])) := Same.upd hD
      have uD : (upd H8 D (.lst [])) D = some (.lst []) := upd_same
      have nD := hp8.ne hD
      have hp9 := hp8.same sD
      have hD5 : H5 D = none := butFree c58 hD hp8
      have nLD : L ≠ D := ne_of_none hL5 hD5
      generalize (upd H8 D (.lst [])) = H9 at sD uD hp9
      have c59 : But p H5 H9 := c58.trans sD.but
      refine ⟨fun σ HB => ∃ (v5 v6 : Option V) (S : List Int), σ = [some (.ref p), some (.ref L), some (.int (0 + (i : Int))), some (.int fi), some (.ref D), v5, v6] ∧ 1 ≤ S.length ∧ S.length ≤ 3 ∧ (∀ v ∈ S, 1 ≤ v ∧ v ≤ 1000) ∧ But p H5 HB ∧ PotAt HB p ∧ HB D = some (.lst (S.map V.int)), ?_, ?_⟩
      · refine ⟨_, rfl, p, _, rfl, hp9, by decide +kernel, by decide +kernel, fun d5 HA a5 b5 cA hpA => ⟨_, _, rfl, rfl, _, rfl, by omega, by omega, ?_⟩⟩
        refine for_range (n := (1 + d5).toNat) (fun j σ HB => ∃ (v5 v6 : Option V) (S : List Int), σ = [some (.ref p), some (.ref L), some (.int (0 + (i : Int))), some (.int fi), some (.ref D), v5, v6] ∧ S.length = j ∧ (∀ v ∈ S, 1 ≤ v ∧ v ≤ 1000) ∧ But p H5 HB ∧ PotAt HB p ∧ HB D = some (.lst (S.map V.int)))
          ⟨v5, v6, [], rfl, rfl, (fun v hv => by cases hv), c59.trans cA, hpA, cA _ _ uD nD⟩ ?_ ?_
        · rintro j σ HB hj ⟨w5, w6, S, rfl, e1, e2, cB, hpB, hDB⟩
          refine ⟨_, rfl, p, _, rfl, hpB, by decide +kernel, by decide +kernel, fun g1 HC x1 y1 cC hpC => ⟨_, _, rfl, rfl, _, rfl, p, _, rfl, hpC, by decide +kernel, by decide +kernel, fun g2 HD x2 y2 cD hpD => ⟨_, _, rfl, rfl, _, rfl, p, _, rfl, hpD, by decide +kernel, by decide +kernel, fun g3 HE x3 y3 cE hpE => ⟨_, _, rfl, rfl, three_line, fun l2 hl2 => ?_⟩⟩⟩⟩
          have cBE : But p HB HE := (cC.trans cD).trans cE
          have sl2 := Same.upd (o := .lst [.int (1 + g1), .int (1 + g2), .int (1000 - g3)]) hl2
          refine ⟨_, rfl, .inl ⟨rfl, _, .of (sl2 _ _ (cBE _ _ hDB nD))⟩, _, rfl, _, rfl, p, _, rfl, hpE.same sl2, by decide +kernel, by decide +kernel, fun g4 HF x4 y4 cF hpF => ?_⟩
          obtain ⟨sz, hv4, hor4⟩ := pick3 (x := 1 + g1) (y := 1 + g2) (z := 1000 - g3) x4 y4
          have hsz : 1 ≤ sz ∧ sz ≤ 1000 := by rcases hor4 with rfl | rfl | rfl <;> omega
          have cBF : But p HB HF := (cBE.trans sl2.but).trans cF
          refine ⟨l2, _, _, _, rfl, rfl, .of (cF _ _ upd_same (hpE.ne hl2)), hv4, D, _, _, rfl, rfl, cBF _ _ hDB nD, small1000 (by rw [List.length_map]; omega), _, _, S ++ [sz], rfl, ?_, ?_, ?_, ?_, ?_⟩
          · rw [List.length_append, e1]; rfl
          · intro v hv
            rcases List.mem_append.mp hv with z | z
            · exact e2 v z
            · rw [List.mem_singleton.mp z]; exact hsz
          · exact fun b o z n => by rw [upd_ne (ne_of_none z hD5)]; exact cBF b o (cB b o z n) n
          · obtain ⟨x, y, z⟩ := hpF
            exact ⟨x, y, by rw [upd_ne (Ne.symm nD)]; exact z⟩
          · rw [List.map_append]; exact upd_same
        · rintro σ HB ⟨w5, w6, S, rfl, e1, e2, cB, hpB, hDB⟩
          exact ⟨w5, w6, S, rfl, by omega, by omega, e2, cB, hpB, hDB⟩
      rintro σ HB ⟨w5, w6, S, rfl, e0, e1, e2, cB, hpB, hDB⟩
      have so : sizesB S = true := sizesB_of e0 (by omega) e2
      have hLB := cB _ _ hL5 nL
      refine ⟨_, rfl, .inl ⟨rfl, _, .of hLB⟩, _, rfl, _, rfl, D, _, _, rfl, hDB, .inl rfl, fun l3 HC sC hl3 => ⟨two_line, fun m hm => ?_⟩⟩
      have sm : Same HC (upd HC m (.tup [.int fi, .ref l3])) := Same.upd hm
      have um : (upd HC m (.tup [.int fi, .ref l3])) m = some (.tup [.int fi, .ref l3]) := upd_same
      generalize (upd HC m (.tup [.int fi, .ref l3])) = HD at sm um
      have sBD := sC.trans sm
      have hLD := sBD _ _ hLB
      have c5D : But p H5 HD := cB.trans sBD.but
      have hyl : ys.length = rows.length := Paired.length f1
      have tp : ∀ b' xs', HD b' = some (.tup xs') → (upd HD L (.lst (ys ++ [.ref m]))) b' = some (.tup xs') := fun b' xs' h => by
        rw [upd_ne (fun z => by rw [z, hLD] at h; cases h)]; exact h
      refine ⟨L, ys, _, rfl, rfl, hLD, small1000 (by omega), ?_⟩
      refine ⟨_, _, _, _, _, ys ++ [.ref m], rows ++ [(fi, S)], rfl, ?_, by rw [List.length_append, f2]; rfl, ?_, ?_, ?_, upd_same⟩
      · exact Paired.snoc (Paired.mono (fun _ _ x => x.tups fun b xs h => tp _ _ (potTups hp5 c5D _ _ h)) f1) ⟨m, l3, rfl, tp _ _ um, tp _ _ (sm _ _ hl3), by show S.length ≤ 1000; omega⟩
      · intro v hv
        rcases List.mem_append.mp hv with hv | hv
        · exact f3 v hv
        · rw [List.mem_singleton.mp hv]
          unfold rowB wideB
          rw [decide_eq_true hfi.1, decide_eq_true hfi.2, so]
          rfl
      · exact fun b o z n => by rw [upd_ne (ne_of_none z hL)]; exact c5D b o (c5 b o z n) n
      · obtain ⟨x, y, z⟩ := hpB
        exact ⟨x, y, by rw [upd_ne (Ne.symm nL)]; exact sBD _ _ z⟩
end
end Pr
set_option Elab.async false
set_option linter.all false
set_option maxRecDepth 100000
/-! lambdas: how one runs -/
namespace L2
open PySem PySem.Spec PyProof.Rows
/-- what a lambda's code object is tracked as -/
abbrev CodO (oc : Obj) : HO := .frz oc (.own 0)
/-- a def's table of codes: each of a lambda of its own -/
structure TabRow (H : Hp) (ps : Array Value) (q : Str) : Prop where
  ok : TriplesOk ps.toList
  at_ : ∀ pos cv, codeAmong pos ps.toList = some cv → ∃ c oc vs t, cv = .ref c ∧ H c = some (CodO oc) ∧ oc.data = .fields vs ∧ vs[1]? = some (.str q t)
inductive TabOk (H : Hp) (P : Addr) (q : Str) : Prop
  | mk (ps : Array Value) (h : H P = some (.tbl ps)) (r : TabRow H ps q) : TabOk H P q
theorem among_snoc {pos : Pos} {a b : Int} {c cv : Value} (l : List Value) (h : TriplesOk l) (hn : codeAmong pos (l ++ [rawInt a, rawInt b, c]) = some cv) : codeAmong pos l = some cv ∨ cv = c := by
  fun_induction TriplesOk l with
  | case1 =>
    simp only [List.nil_append, codeAmong, rawInt] at hn
    split at hn
    · cases hn; exact .inr rfl
    · cases hn
  | case2 a t b u x rest ih =>
    simp only [List.cons_append, codeAmong] at hn ⊢
    split at hn
    · rename_i hc
      rw [if_pos hc]; exact .inl hn
    · rename_i hc
      rw [if_neg hc]; exact ih h hn
  | case3 l h1 h2 => exact h.elim
theorem TabOk.nil {H : Hp} {P : Addr} {q : Str} (h : H P = some (.tbl #[])) : TabOk H P q := ⟨_, h, trivial, fun pos cv e => by cases e⟩
theorem TabOk.keep {H H' : Hp} {P : Addr} {q : Str} (t : TabOk H P q) (s : ∀ b o, H b = some o → (∀ xs, o ≠ .lst xs) → H' b = some o) : TabOk H' P q := by
  obtain ⟨ps, h, ok, at_⟩ := t
  refine ⟨ps, s _ _ h (fun _ z => nomatch z), ok, fun pos cv e => ?_⟩
  obtain ⟨c, oc, vs, t, e1, e2, e3⟩ := at_ pos cv e
  exact ⟨c, oc, vs, t, e1, s _ _ e2 (fun _ z => nomatch z), e3⟩
/-- all but the table -/
def ButP (P : Addr) (H H' : Hp) : Prop := ∀ b o, H b = some o → b ≠ P → H' b = some o
/-! ### the lambda's own context -/
def cxLam (P : Program) (w : World) (K : PySem.W.Frag) (mg : Str → Option Value) (base : Heap) (N : List Str) (qual : Str) (scope : Scope) (cl : List (Str × Addr)) (f : Addr) (cd : Value) (A : Around) (outer : List Env) (s : Shared) (H : Hp) (E : XK) : Cx where
  prog := P
  w := w
  K := K
  mg := mg
  base := base
  A := A.deeper (PySem.W.envX qual scope s.heap.objs.size f cd cl)
  N := N
  s₀ := s
  H₀ := H
  env := PySem.W.envX qual scope s.heap.objs.size f cd cl
  outer := outer
  stack := PySem.W.envX qual scope s.heap.objs.size f cd cl :: outer
  ex := []
  calm := true
  fn := fun _ => false
  pn := []
  xe := fun e s' => wpAny (model P w) (A.deeper (PySem.W.envX qual scope s.heap.objs.size f cd cl)) (leaving (PySem.W.envX qual scope s.heap.objs.size f cd cl) e) (fun _ s'' => CX1 P w outer H s E e s'') (fun e' s'' => CX1 P w outer H s E e' s'') s'
/-- the names that a lambda takes from around it, and where they lie -/
structure LamC (N : List Str) (σ : L2.St) (scope : Scope) (cl : List (Str × Addr)) (cells : List (Addr × Obj)) : Prop where
  kind : scope.kind = .function
  co : scope.isCoroutine = false
  gen : scope.isGenerator = false
  nocell : ∀ x ∈ scope.names, x.2 ≠ .cell
  len : σ.length = N.length
  inj : ∀ x y c, cl.lookup x = some c → cl.lookup y = some c → x = y
  has : ∀ x, scope.names.lookup x = some .free → ∃ c, cl.lookup x = some c
  cell : ∀ x c, cl.lookup x = some c → ∃ o v, (c, o) ∈ cells ∧ o.data = .cell v
  val : ∀ (i : Nat) (x : Str) (v : V), N[i]? = some x → σ[i]? = some (some v) → Vis scope x → ∃ u c o, RelV v u ∧ scope.names.lookup x = some .free ∧ cl.lookup x = some c ∧ (c, o) ∈ cells ∧ o.data = .cell (some u)
theorem wish_lam {P : Program} {w : World} {K : PySem.W.Frag} {mg : Str → Option Value} {base : Heap} {N : List Str} {qual : Str} {scope : Scope} {cl : List (Str × Addr)} {f : Addr} {cd : Value} {A : Around} {outer : List Env} {s : Shared} {H : Hp} {E : XK} : Wish (cxLam P w K mg base N qual scope cl f cd A outer s H E) E where
  go := fun pins σ H1 s1 new cls a H' s₁ I x q => by
    show wpAny (model P w) (A.deeper (PySem.W.envX qual scope s.heap.objs.size f cd cl)) (leaving (PySem.W.envX qual scope s.heap.objs.size f cd cl) (.ref a)) _ _ s₁
    refine leave_ex I rfl rfl I.ok.frames x fun h₃ x' => ⟨a, cls, H', rfl, x'.out I rfl, q⟩
section
variable {P : Program} {w : World} {K : PySem.W.Frag} {mg : Str → Option Value} {base : Heap} {N : List Str} {σ : L2.St} {qual : Str} {scope : Scope} {cl : List (Str × Addr)} {cells : List (Addr × Obj)} {f c : Addr} {A : Around} {outer : List Env} {s : Shared} {H : Hp} {E : XK} {Q : VK} {name : Str} {params : Arguments} {body : Expr} {pm ctv : Value} {te : TE} {k : Nat}
theorem inv_lam {h₁ : Heap} {tk : Nat} (S : LamC N σ scope cl cells) (hd : A.handled = none) (e0 : Env0 P w K mg base A outer s H) (hcells : ∀ p ∈ cells, s.heap.get? p.1 = some p.2 ∧ H p.1 = none) (hns : h₁.Ns s.heap.objs.size fun x => ([] : List (Str × Value)).reverse.lookup x)
    (hk : ∀ b o, s.heap.get? b = some o → h₁.get? b = some o) : Inv (cxLam P w K mg base N qual scope cl f (.ref c) A outer s H E) [] σ H { s with heap := h₁, toks := tk } := by
  have noA : ∀ b : Addr, b ∉ (cxLam P w K mg base N qual scope cl f (.ref c) A outer s H E).ex := fun b z => absurd (show b ∈ ([] : List Addr) from z) (by simp)
  refine ⟨⟨e0.mod, S.kind, rfl, rfl, Nat.le_refl _, S.inj, fun y hy => ?_, fun y c z => (by cases (show false = true from z)), fun _ => hd, Around.frames_deeper e0.frames, .inr ⟨rfl, rfl⟩, fun b z => absurd z (noA b), e0.bs, e0.bsz, fun b _ _ => noA b, fun b z => absurd z (noA b), e0.funs, e0.frf⟩,
    rfl, e0.bare, Un.kept hk, ⟨_, hns, fun i y v h1 h2 h3 => ?_⟩, fun y c h => ?_, e0.hok.fresh (Nat.le_refl _), fun y c h => ?_, fun p hp => absurd (show p ∈ ([] : List (Addr × Obj)) from hp) (by simp), e0.hok.kept hk, S.len⟩
  · have hy : scope.names.lookup y = some .cell ∨ scope.names.lookup y = some .free := hy
    rcases hy with hy | hy
    · exact absurd rfl (S.nocell _ (PySem.mem_of_lookup hy))
    · exact S.has y hy
  · obtain ⟨u, c, o, r, q1, q2, q3, q4⟩ := S.val i y v h1 h2 h3
    exact ⟨u, r, .inr ⟨.inr q1, c, q2, o, hk _ _ (hcells _ q3).1, q4⟩⟩
  · obtain ⟨o, v, q3, q4⟩ := S.cell y c h
    exact ⟨v, o, hk _ _ (hcells _ q3).1, q4⟩
  · obtain ⟨o, v, q3, q4⟩ := S.cell y c h
    exact (hcells _ q3).2
theorem lam_run (S : LamC N σ scope cl cells) (hr : Room (k + 1) A) (e0 : Env0 P w K mg base A outer s H) (hf : s.heap.get? f = some (PySem.W.kla_obj name qual params body scope cl pm c ctv)) (hcells : ∀ p ∈ cells, s.heap.get? p.1 = some p.2 ∧ H p.1 = none) (hc : s.heap.CodeRec (.ref c) qual)
    (hb : bindArgs (PySem.W.kla_fn name qual params body scope cl pm (.ref c) ctv) ⟨[], []⟩ = pure []) (he : PE (cxLam P w K mg base N qual scope cl f (.ref c) A outer s H E) body te) (q : te σ H Q) : codeAny (model P w) A (.call (.ref f) ⟨[], []⟩) (CR (CX1 P w) outer P w H s Q E) s := by
  have lim : s.heap.NoLimit := e0.mod.nolimit.keeps fun b o e => (e0.bs b o e).1
  refine PySem.W.kla_callFunE hr.depth hf rfl S.co S.gen rfl hc ?_
  rw [hb]
  refine wpAny_pure (wpAny_newFunctionEnv S.nocell (fun _ z => nomatch z) (fun h₁ hns hsb => ⟨lim.fresh _ hsb, ?_⟩) S.kind)
  show codeAny _ _ (.expr body (PySem.W.envX qual scope s.heap.objs.size f (.ref c) cl)) _ _
  have hk₁ : ∀ b o, s.heap.get? b = some o → h₁.get? b = some o := fun b o e => hsb.extBut b o (Nat.ne_of_lt (Heap.lt_size e)) (Heap.get?_push_of_some _ e)
  refine PySem.W.kla_codeExpr (wpAny_mono (he [] _ σ H Q (inv_lam S hr.hd e0 hcells hns hk₁) q) (fun v s' hl => ?_) fun _ _ y => y)
  obtain ⟨x, H', J, rv, q'⟩ := hl
  exact ⟨x, H', J.os, J.bare, J.base, J.hok, rv, q'⟩
end
/-- what a lambda's call promises, wherever its objects lie as they lay -/
structure LamP (P : Program) (w : World) (K : PySem.W.Frag) (mg : Str → Option Value) (base : Heap) (k : Nat) (f : Addr) (fo : Obj) (cells : List (Addr × Obj)) (c : Addr) (oc : Obj) (sp : Hp → VK → XK → Prop) : Prop where
  fn : ∃ oc od fd sl, fo = ⟨oc, od, .func fd, sl⟩
  run : ∀ (A : Around) (outer : List Env) (s : Shared) (H : Hp) (Q : VK) (E : XK), Room k A → Env0 P w K mg base A outer s H → s.heap.get? f = some fo → (∀ p ∈ cells, s.heap.get? p.1 = some p.2 ∧ H p.1 = none) → H c = some (CodO oc) → sp H Q E → codeAny (model P w) A (.call (.ref f) ⟨[], []⟩) (CR (CX1 P w) outer P w H s Q E) s
/-- its objects lie there at a def's entry -/
structure LamIn (outer : List Env) (s : Shared) (H : Hp) (f : Addr) (fo : Obj) (cells : List (Addr × Obj)) (c : Addr) (oc : Obj) : Prop where
  f : s.heap.get? f = some fo ∧ H f = none ∧ f ∉ frs outer
  cells : ∀ p ∈ cells, s.heap.get? p.1 = some p.2 ∧ H p.1 = none ∧ p.1 ∉ frs outer
  code : H c = some (CodO oc)
/-- a def whose promise speaks of the state at its entry -/
abbrev SpS := List Env → Shared → Sp
structure FnOkS (P : Program) (w : World) (K : PySem.W.Frag) (mg : Str → Option Value) (base : Heap) (k : Nat) (f : Addr) (fd : FuncData) (ps : List Str) (sp : SpS) : Prop where
  len : ∀ o s vs H Q E, sp o s vs H Q E → vs.length = ps.length
  run : ∀ (A : Around) (outer : List Env) (s : Shared) (H : Hp) (args : Args) (us : List Value) (vs : List V) (Q : VK) (E : XK), Room k A → Env0 P w K mg base A outer s H → BindsTo s fd args (ps.zip us) → Vals vs us → sp outer s vs H Q E →
    codeAny (model P w) A (.call (.ref f) args) (CR CX0 outer P w H s Q E) s
def CanS (P : Program) (w : World) (K : PySem.W.Frag) (mg : Str → Option Value) (base : Heap) (k : Nat) (x : Str) (ps : List Str) (sp : SpS) : Prop :=
  ∃ f fd, FnOkS P w K mg base k f fd ps sp ∧ mg x = some (.ref f) ∧ PySem.W.keepIn K (.ref f) = true ∧ Binds K fd ps []
section
variable {P : Program} {w : World} {K : PySem.W.Frag} {mg : Str → Option Value} {base : Heap}
theorem fn_canS {x : Str} {st : Stmt} {N ps : List Str} {k : Nat} {sp : SpS} (h : ∃ f fd, Fn K mg x st ps f fd) (S : FnScope N ps (defScope st)) (len : ∀ o s vs H Q E, sp o s vs H Q E → vs.length = ps.length)
    (hbody : ∀ (f : Addr) (cdv : Value) (A : Around) (outer : List Env) (s : Shared) (H : Hp) (vs : List V) (Q : VK) (E : XK), Room k (A.deeper (envOfC x (defScope st) s.heap.objs.size f cdv)) → sp outer s vs H Q E →
      ∃ t, PSs (cxOf CX0 P w K mg base N x (defScope st) f cdv A outer s H E).nox (defBody st) t ∧ t { nx := fun _ H' => Q .non H', rt := Q } (start N vs) H) : CanS P w K mg base (k + 1) x ps sp := by
  obtain ⟨f, fd, F⟩ := h
  obtain ⟨oc, od, kV, doc, pm, an, cdv, ct, osl, e, lk, hcd⟩ := F.fn.ex
  refine ⟨f, fd, ⟨len, fun A outer s H args us vs Q E hr e0 hb r hsp => ?_⟩, F.m, F.fn.kp, F.b⟩
  subst e
  have hl := len _ _ _ _ _ _ hsp
  have KX : K.In s.heap := e0.mod.kin.keeps fun b o e => (e0.bs b o e).1
  have lim : s.heap.NoLimit := e0.mod.nolimit.keeps fun b o e => (e0.bs b o e).1
  have hkind : ∀ y ∈ ps.zip us, (defScope st).names.lookup y.1 = some .local ∨ ((defScope st).names.lookup y.1 = some .cell ∧ ((cellsFrom (s.heap.objs.size + 1) (defScope st).names []).lookup y.1).isSome = true) := fun ⟨n, v⟩ hy => by
    rcases S.par n (List.of_mem_zip hy).1 with q | q
    · exact .inl q
    · exact .inr ⟨q, PySem.W.cellsFrom_some _ _ _ (.inl q)⟩
  refine codeAny_call_function hr.depth (KX _ _ lk) rfl S.co S.gen rfl (PySem.W.codeRec_of KX hcd) (hb _ _ _ _ ?_)
  refine wpAny_newFunctionEnv_cells S.kind hkind fun env he s1 x1 => ?_
  subst he
  refine ⟨lim.keeps x1.toInCall.keep, codeAny_func ?_⟩
  obtain ⟨t, ht, hq⟩ := hbody f cdv A outer s H vs Q E (hr.deeper _) hsp
  have I : Inv (cxOf CX0 P w K mg base N x (defScope st) f cdv A outer s H E) [] (start N vs) H s1 := inv_start S hr.hd e0 hl r x1
  refine wpAny_mono (ht.nox [] s1 (start N vs) H _ I hq) (fun fl s' hs => ?_) fun e s' hs => hs
  have fin : ∀ {σ' : L2.St} {H' : Hp} {v : V} {u : Value}, Inv (cxOf CX0 P w K mg base N x (defScope st) f cdv A outer s H E) [] σ' H' s' → RelV v u → Q v H' → CE outer P w H s Q u s' :=
    fun {σ' H' v u} J rv q => ⟨v, H', J.os, J.bare, J.base, J.hok, rv, q⟩
  cases fl with
  | ret u =>
    obtain ⟨v, σ', H', J, rv, q⟩ := hs
    exact fin J rv q
  | next =>
    obtain ⟨σ', H', J, q⟩ := hs
    exact fin (v := V.non) (u := Value.none) J rfl q
  | brk =>
    obtain ⟨_, _, _, q⟩ := hs
    exact False.elim q
  | cont =>
    obtain ⟨_, _, _, q⟩ := hs
    exact False.elim q
end
section
variable {X : Cx} {x : Str} {p pos : Pos}
/-- the call of a lambda that was handed in, in the def's body (or its try) -/
inductive tDeed (sp : Hp → VK → XK → Prop) (f : Addr) (i : Nat) (E : XK) (σ : L2.St) (H : Hp) (Q : VK) : Prop
  | mk (h : σ[i]? = some (some (.ref f))) (q : sp H Q E) : tDeed sp f i E σ H Q
theorem pe_deed {k k' : Nat} {f c : Addr} {fo oc : Obj} {cells : List (Addr × Obj)} {sp : Hp → VK → XK → Prop} {E : XK} {i : Nat} (L : LamP X.prog X.w X.K X.mg X.base k f fo cells c oc sp) (hin : LamIn X.outer X.s₀ X.H₀ f fo cells c oc) (W : Wish X E) (hr : Room k' X.A) (hv : PE X (.Name x p) (tVar i)) (hk : k ≤ k' := by decide) (hex : X.ex = [] := by rfl) :
    PE X (.Call (.Name x p) [] [] pos) (tDeed sp f i E) := by
  refine ⟨?_⟩
  intro pins s σ H Q I h
  obtain ⟨h, q⟩ := h
  have up : ∀ b o, X.s₀.heap.get? b = some o → X.H₀ b = none → b ∉ frs X.outer → s.heap.get? b = some o ∧ H b = none := fun b o e n nf => ⟨I.base.keep b o e n nf (by rw [hex]; simp), I.base.free b o e n (by rw [hex]; simp)⟩
  refine wpAny_Call_Name_kw (thn (hv pins s σ H (fun v H' => v = .ref f ∧ H' = H) I ⟨_, h, rfl, rfl⟩) fun u s1 ⟨v, H1, I1, rv, e1, e2⟩ => ?_)
  subst e1 e2
  obtain rfl : u = Value.ref f := rv
  have up1 : ∀ b o, X.s₀.heap.get? b = some o → X.H₀ b = none → b ∉ frs X.outer → s1.heap.get? b = some o ∧ H1 b = none := fun b o e n nf => ⟨I1.base.keep b o e n nf (by rw [hex]; simp), I1.base.free b o e n (by rw [hex]; simp)⟩
  have hf := (up1 f fo hin.f.1 hin.f.2.1 hin.f.2.2).1
  obtain ⟨oc', od, fd, sl, efo⟩ := L.fn
  refine PySem.W.callWith_F0 ⟨oc', od, fd, sl, by rw [hf, efo]⟩ (wpAny_call (codeAny_mono (L.run X.A X.stack s1 H1 Q E (hr.mono hk) I1.env0 hf (fun p hp => up1 p.1 p.2 (hin.cells p hp).1 (hin.cells p hp).2.1 (hin.cells p hp).2.2) (I1.base.frzs _ _ _ hin.code) q) fun r s' hq => ?_))
  cases r with
  | error e => exact W.pass pins σ H1 s1 e s' I1 hq
  | ok fl =>
    cases fl with
    | ret u => exact I1.after hq
    | next => exact False.elim hq
    | brk => exact False.elim hq
    | cont => exact False.elim hq
end
end L2
set_option Elab.async false
set_option linter.all false
set_option maxRecDepth 100000
/-! lambdas: made and handed in -/
namespace L2
open PySem PySem.Spec PyProof.Rows
structure LamB (mg : Str → Option Value) (base : Heap) (c P : Addr) : Prop where
  code : PySem.W.CodeHd base c P
  bm : ∃ bm ob, mg "__builtins__" = some (.ref bm) ∧ bm ≠ builtinsNs ∧ base.get? bm = some ob ∧ ob.cls = .type "module" ∧ ob.dict = some builtinsNs ∧ ob.data = .plain
/-- what a lambda's scope must be: no names of its own, others from around it -/
structure LamSc (X : Cx) (sc : Scope) : Prop where
  kind : sc.kind = .function
  co : sc.isCoroutine = false
  gen : sc.isGenerator = false
  own : ∀ p ∈ sc.names, p.2 ≠ .cell ∧ p.2 ≠ .local
  free : ∀ p ∈ sc.names, p.2 = .free → X.env.kindOf p.1 = some .cell ∨ X.env.kindOf p.1 = some .free
inductive tLam (P' : Program) (w : World) (K : PySem.W.Frag) (mg : Str → Option Value) (base : Heap) (k : Nat) (P : Addr) (q : Str) (te : XK → TE) (sp : SpS) (σ : L2.St) (H : Hp) (Q : VK) : Prop
  | mk (tab : TabOk H P q) (go : ∀ H1 f fo cells c oc, ButP P H H1 → TabOk H1 P q → H f = none → LamP P' w K mg base k f fo cells c oc (fun H Q E => te E σ H Q) → ∀ outer s, LamIn outer s H1 f fo cells c oc → sp outer s [.ref f] H1 Q E0) : tLam P' w K mg base k P q te sp σ H Q
section
variable {X : Cx} {pins : List (Addr × Obj)} {σ : L2.St} {H : Hp} {s : Shared}
/-- a lambda's code was made: the table has grown -/
theorem Inv.grown {P c : Addr} {ps more : Array Value} {oc : Obj} {h' : Heap} {tk : Nat} (I : Inv X pins σ H s) (hP : H P = some (.tbl ps)) (hc : s.heap.objs.size ≤ c) (hx : Heap.ExtBut P s.heap h') (ho : h'.get? c = some oc) (ht : h'.get? P = some { cls := .none, data := .fields (ps ++ more) }) :
    Inv X pins σ (upd (upd H P (.tbl (ps ++ more))) c (CodO oc)) { s with heap := h', toks := tk } := by
  have hcn : H c = none := I.hok.fresh hc
  have cP : c ≠ P := Ne.symm (ne_of_none hP hcn)
  have nP : ∀ {b : Addr}, H b = none → b ≠ P := fun n => Ne.symm (ne_of_none hP n)
  have nc : ∀ {b : Addr} {o : Obj}, s.heap.get? b = some o → b ≠ c := fun e => Nat.ne_of_lt (Nat.lt_of_lt_of_le (Heap.lt_size e) hc)
  have tr : ∀ {b : Addr} {o : HO}, H b = some o → b ≠ P → upd (upd H P (.tbl (ps ++ more))) c (CodO oc) b = some o := fun {b o} e n => by rw [upd_ne (ne_of_none e hcn), upd_ne n]; exact e
  refine I.step (g' := s.gens) (d' := s.drawn) (ch := []) (fun _ z => nomatch z) (fun b o _ _ _ e n => hx b o (nP n) e) (fun b o _ _ _ e n => ⟨o.slots, hx b o (nP n) e⟩) (fun b o _ e n => by rw [upd_ne (nc e), upd_ne (nP n)]; exact n) (fun b o _ e => ?_)
    (fun b xs e => tr e (ne_of e hP (by intro z; cases z))) (fun b o u e => tr e (ne_of e hP (by intro z; cases z))) (fun b qs e => ?_) (fun m hm => ?_) (fun b ob e => ?_) I.bare
  · by_cases hb : b = P
    · subst hb; exact ⟨_, ht⟩
    · exact ⟨o, hx b o hb e⟩
  · by_cases hb : b = P
    · subst hb
      rw [hP] at e
      cases e
      exact ⟨more, by rw [upd_ne (Ne.symm cP)]; exact upd_same⟩
    · exact ⟨#[], by rw [tr e hb]; simp⟩
  · obtain ⟨o, es, ep, e, r⟩ := hm
    exact ⟨o, es, ep, hx _ o (nP I.free) e, r⟩
  · by_cases hbc : b = c
    · subst hbc
      rw [upd_same] at e
      cases e
      exact ⟨ho, _, ho⟩
    · rw [upd_ne hbc] at e
      by_cases hb : b = P
      · subst hb
        rw [upd_same] at e
        cases e
        exact ht
      · rw [upd_ne hb] at e
        refine (I.hok b ob e).stay (fun d u hd z => hx d u (fun zz => ?_) z) (fun d z => tr z (ne_of z hP (by intro y; cases y))) fun d xs z => tr z (ne_of z hP (by intro y; cases y))
        rcases hd with rfl | hd
        · exact hb zz
        · rw [zz, hP] at hd; cases hd
variable {x : Str} {p pos lpos : Pos} {params : Arguments} {body : Expr} {sc : Scope} {c P : Addr} {te : XK → TE} {spS : SpS} {k kw k' : Nat} {pn : Str}
/-- why(lambda: ..) -/
theorem pe_lam (hW : CanS X.prog X.w X.K X.mg X.base kw x [pn] spS) (hr : Room k' X.A) (LB : LamB X.mg X.base c P) (hcode : X.env.code = .ref c) (S : LamSc X sc)
    (he : ∀ A outer s H E f cl cd, Room k (A.deeper (PySem.W.envX (X.env.qual ++ "<lambda>") sc s.heap.objs.size f (.ref cd) cl)) → Wish (cxLam X.prog X.w X.K X.mg X.base X.N (X.env.qual ++ "<lambda>") sc cl f (.ref cd) A outer s H E) E → PE (cxLam X.prog X.w X.K X.mg X.base X.N (X.env.qual ++ "<lambda>") sc cl f (.ref cd) A outer s H E) body (te E))
    (hfn : ∀ y, X.fn y = true := by intro _; rfl) (hg : Gl X x := by rfl) (hk : kw ≤ k' := by decide) (hdb : (x == ("__debug__" : Str)) = false := by decide) (hdef : defaultsOf params X.env = ([], []) := by rfl)
    (hb : ∀ name qual pm cd ctv cl, bindArgs (PySem.W.kla_fn name qual params body sc cl pm (.ref cd) ctv) ⟨[], []⟩ = pure [] := by intros; rfl)
    (hs : starEach [.Lambda params body sc lpos] X.env = [(false, eval (.Lambda params body sc lpos) X.env)] := by rfl) :
    PE X (.Call (.Name x p) [.Lambda params body sc lpos] [] pos) (tLam X.prog X.w X.K X.mg X.base (k + 1) P (X.env.qual ++ "<lambda>") te spS) := by
  refine ⟨?_⟩
  intro pins s σ H Q I h
  obtain ⟨tab, go⟩ := h
  obtain ⟨fw, fd, F, hm, kp, b⟩ := hW
  have cls := closure_eq (sc := sc) (env := X.env) fun p hp e => I.ok.has p.1 (S.free p hp e)
  have clh := fun (I' : X.Ok) => @clOf_has sc X.env.cells fun p hp e => I'.has p.1 (S.free p hp e)
  have key : ∀ (H1 : Hp) (s1 : Shared) (f cd : Addr) (oc : Obj) (ctv : Value) (vs : Array Value) (t : Tok), Inv X pins σ H1 s1 → ButP P H H1 → TabOk H1 P (X.env.qual ++ "<lambda>") → H f = none → H1 f = none → f ∉ frs X.stack → s1.heap.get? f = some (PySem.W.kla_obj "<lambda>" (X.env.qual ++ "<lambda>") params body sc (clOf sc X.env.cells) ((X.mg "__name__").getD .none) cd ctv) →
      H1 cd = some (CodO oc) → oc.data = .fields vs → vs[1]? = some (.str (X.env.qual ++ "<lambda>") t) → wpAny (model X.prog X.w) X.A (call (.ref fw) [.ref f]) (EP X pins σ Q) X.xe s1 := by
    intro H1 s1 f cd oc ctv vs t I1 bp tab1 hfn0 hfn1 hff hfo hcd hod hv1
    have cells : ∃ cells : List (Addr × Obj), (∀ p ∈ cells, s1.heap.get? p.1 = some p.2 ∧ ∃ y, X.env.cells.lookup y = some p.1) ∧ ∀ y d, (clOf sc X.env.cells).lookup y = some d → ∃ o v, (d, o) ∈ cells ∧ o.data = .cell v := by
      refine ⟨(clOf sc X.env.cells).filterMap fun q => if (clOf sc X.env.cells).lookup q.1 = some q.2 then (s1.heap.get? q.2).map fun o => (q.2, o) else none, fun p hp => ?_, fun y d e => ?_⟩
      · obtain ⟨q, hq, e⟩ := List.mem_filterMap.mp hp
        split at e
        · rename_i hl
          cases z : s1.heap.get? q.2 with
          | none => rw [z] at e; cases e
          | some o => rw [z] at e; cases e; exact ⟨z, q.1, clOf_sub sc X.env.cells hl⟩
        · cases e
      · obtain ⟨v, o, ho, hd⟩ := I1.cell y d (clOf_sub sc X.env.cells e)
        exact ⟨o, v, List.mem_filterMap.mpr ⟨(y, d), PySem.mem_of_lookup e, by dsimp only; rw [if_pos e, ho]; rfl⟩, hd⟩
    obtain ⟨cells, c1, c2⟩ := cells
    have cfr : ∀ p ∈ cells, s1.heap.get? p.1 = some p.2 ∧ H1 p.1 = none ∧ p.1 ∉ frs X.stack := fun p hp => by
      obtain ⟨e, y, ey⟩ := c1 p hp
      refine ⟨e, I1.freeC y _ ey, fun hm => ?_⟩
      rcases List.mem_cons.mp (I1.stkSub _ hm) with z | z
      · exact I1.cne y _ ey z
      · obtain ⟨_, o, ho, _⟩ := I1.ok.funs.mem z
        exact absurd (Nat.lt_of_lt_of_le (Heap.lt_size ho) (I1.ok.cab y _ (hfn y) ey)) (Nat.lt_irrefl _)
    have LC : LamC X.N σ sc (clOf sc X.env.cells) cells := by
      refine ⟨S.kind, S.co, S.gen, fun p hp => (S.own p hp).1, I1.len, fun y z d e1 e2 => I1.ok.inj y z d (clOf_sub sc X.env.cells e1) (clOf_sub sc X.env.cells e2), fun y e => clh I1.ok (PySem.mem_of_lookup e), c2, fun i y v e1 e2 e3 => ?_⟩
      have fr : sc.names.lookup y = some .free := by
        rcases e3 with z | z | z
        · exact absurd rfl (S.own _ (PySem.mem_of_lookup z)).2
        · exact absurd rfl (S.own _ (PySem.mem_of_lookup z)).1
        · exact z
      have ok := S.free (y, .free) (PySem.mem_of_lookup fr) rfl
      obtain ⟨m0, hn0, hl0⟩ := I1.loc
      obtain ⟨u, r, l⟩ := hl0 i y v e1 e2 (.inr ok)
      obtain ⟨d, ed⟩ := clh I1.ok (PySem.mem_of_lookup fr)
      rcases l with ⟨kk, _⟩ | ⟨_, c', ec, z⟩
      · rcases ok with q | q <;> (rw [show X.env.kindOf y = some .local from kk] at q; cases q)
      · have e5 : c' = d := Option.some.inj (ec.symm.trans (clOf_sub sc X.env.cells ed))
        subst e5
        obtain ⟨o, ho, hd⟩ := z
        obtain ⟨o', v', hm', hd'⟩ := c2 y c' ed
        have e6 : o = o' := Option.some.inj (ho.symm.trans (c1 _ hm').1)
        exact ⟨u, c', o', r, fr, ed, hm', by rw [← e6]; exact hd⟩
    have LP : LamP X.prog X.w X.K X.mg X.base (k + 1) f (PySem.W.kla_obj "<lambda>" (X.env.qual ++ "<lambda>") params body sc (clOf sc X.env.cells) ((X.mg "__name__").getD .none) cd ctv) cells cd oc (fun H Q E => te E σ H Q) := by
      refine ⟨⟨_, _, _, _, rfl⟩, fun A outer s2 H2 Q2 E2 hr2 e0 hf2 hc2 hcd2 q2 => ?_⟩
      have hco : s2.heap.CodeRec (.ref cd) (X.env.qual ++ "<lambda>") := ⟨cd, oc, vs, t, rfl, (e0.hok cd _ hcd2).1, hod, hv1⟩
      exact lam_run LC hr2 e0 hf2 hc2 hco (hb _ _ _ _ _ _) (he A outer s2 H2 E2 f _ cd (hr2.deeper _) wish_lam) q2
    have sp1 := go H1 f _ cells cd oc bp tab1 hfn0 LP X.stack s1 ⟨⟨hfo, hfn1, hff⟩, cfr, hcd⟩
    have r2 : Vals [V.ref f] [Value.ref f] := .cons rfl .nil
    refine wpAny_call (codeAny_mono (F.run X.A X.stack s1 H1 ⟨[.ref f], []⟩ [.ref f] [.ref f] Q E0 (hr.mono hk) I1.env0 (by simpa using b s1 [.ref f] I1.kIn rfl) r2 sp1) fun r s' hq => ?_)
    cases r with
    | error e => exact (show False from hq).elim
    | ok fl =>
      cases fl with
      | ret u => exact I1.after hq
      | next => exact False.elim hq
      | brk => exact False.elim hq
      | cont => exact False.elim hq
  refine wpAny_Call_Name_kw (ld_glob I hg hm ?_ hdb)
  refine PySem.W.callWith_K (h₀ := X.base) I.ok.mod.kin kp ?_ (by rw [hs]; rfl) rfl
  rw [hs]
  show wpAny _ _ (spliced [(false, eval (.Lambda params body sc lpos) X.env)]) _ _ s
  refine Calls.spliced_cons (PySem.W.kla_eval hdef ?_)
  obtain ⟨ps, hP, row⟩ := tab
  have hPh : s.heap.get? P = some { cls := .none, data := .fields ps } := I.hok P _ hP
  obtain ⟨bm, ob, b1, b2, b3, b4, b5, b6⟩ := LB.bm
  have gl : s.heap.Ns mainGlobals X.mg := I.mod.glob.keeps I.bk
  have hgP : mainGlobals ≠ P := fun z => by
    obtain ⟨o, es, ep, e, hd, _⟩ := gl
    rw [z, hPh] at e; cases e; cases hd
  have hbP : bm ≠ P := fun z => by
    have e := I.bk _ _ b3
    rw [z, hPh] at e; cases e; cases b4
  have hbG : bm ≠ mainGlobals := fun z => by
    obtain ⟨o, es, ep, e, hd, _⟩ := I.mod.glob
    rw [z, e] at b3; cases b3; rw [hd] at b6; cases b6
  have BA : s.heap.BuiltinsAt X.mg P := ⟨bm, ob, b1, b2, hbG, hbP, I.bk _ _ b3, b4, b5, b6⟩
  have frl : ∀ {a : Addr}, s.heap.objs.size ≤ a → a ∉ frs X.stack := fun {a} ha hm => by
    obtain ⟨_, o, ho, _⟩ := I.stack.mem hm
    exact absurd (Nat.lt_of_lt_of_le (Heap.lt_size ho) ha) (Nat.lt_irrefl _)
  cases ham : codeAmong lpos ps.toList with
  | none =>
    refine PySem.W.kla_makeFunction (mg := X.mg) cls I.ok.glob gl hcode (LB.code.keeps I.bk) hPh row.ok ham hgP BA fun c' ctv h' tk hx hge hlt hrec htb => ?_
    obtain ⟨c2, oc, vs, t, ec, ho, hd, hv⟩ := hrec
    cases ec
    have I1 := I.grown (tk := tk) hP hge hx ho htb
    have hfresh : s.heap.objs.size ≤ h'.objs.size := Nat.le_of_lt (Nat.lt_of_le_of_lt hge hlt)
    have hcn : H c' = none := I.hok.fresh hge
    have cP : c' ≠ P := Ne.symm (ne_of_none hP hcn)
    have fc : h'.objs.size ≠ c' := Nat.ne_of_gt hlt
    have fP : h'.objs.size ≠ P := Nat.ne_of_gt (Nat.lt_of_lt_of_le (Heap.lt_size hPh) hfresh)
    have I2 : Inv X pins σ (upd (upd H P (.tbl (ps ++ #[rawInt lpos.line, rawInt lpos.col, .ref c']))) c' (CodO oc)) { s with heap := h'.push (PySem.W.kla_obj "<lambda>" (X.env.qual ++ "<lambda>") params body sc (clOf sc X.env.cells) ((X.mg "__name__").getD .none) c' ctv), toks := tk } := I1.kept (t' := tk) fun b o e => Heap.get?_push_of_some _ e
    refine Calls.spliced_nil ⟨I2.kIn, ?_⟩
    refine key _ _ h'.objs.size c' oc ctv vs t I2 (fun b o e n => by rw [upd_ne (ne_of_none e hcn), upd_ne n]; exact e) ?_ (I.hok.fresh hfresh) (by rw [upd_ne fc, upd_ne fP]; exact I.hok.fresh hfresh) (frl hfresh) (Heap.get?_push_size _ rfl) upd_same hd hv
    refine ⟨_, by rw [upd_ne (Ne.symm cP)]; exact upd_same, by rw [Array.toList_append]; exact TriplesOk_snoc _ _ _ _ row.ok, fun pos cv e => ?_⟩
    rw [Array.toList_append] at e
    rcases among_snoc _ row.ok e with z | z
    · obtain ⟨d, od, vs', t', e1, e2, e3⟩ := row.at_ pos cv z
      exact ⟨d, od, vs', t', e1, by rw [upd_ne (ne_of_none e2 hcn), upd_ne (ne_of e2 hP (by intro y; cases y))]; exact e2, e3⟩
    · exact ⟨c', oc, vs, t, z, upd_same, hd, hv⟩
  | some cv =>
    obtain ⟨c', oc, vs, t, rfl, hcd, hd, hv⟩ := row.at_ lpos cv ham
    refine PySem.W.kla_makeFunctionHit (mg := X.mg) cls I.ok.glob gl hcode (LB.code.keeps I.bk) hPh row.ok ham BA fun ctv h' tk hx hsz => ?_
    have I2 : Inv X pins σ H { s with heap := h'.push { cls := .type "function", data := .func (PySem.W.kla_fn "<lambda>" (X.env.qual ++ "<lambda>") params body sc (clOf sc X.env.cells) ((X.mg "__name__").getD .none) (.ref c') ctv) }, toks := tk } := I.kept (t' := tk) fun b o e => Heap.get?_push_of_some _ (hx b o e)
    refine Calls.spliced_nil ⟨I2.kIn, ?_⟩
    exact key H _ h'.objs.size c' oc ctv vs t I2 (fun b o e _ => e) ⟨ps, hP, row⟩ (I.hok.fresh hsz) (I.hok.fresh hsz) (frl hsz) (Heap.get?_push_size _ rfl) hcd hd hv
end
end L2
set_option Elab.async false
set_option linter.all false
set_option maxRecDepth 100000
/-! lambdas: the law's call, its defs' tables tracked -/
namespace L2
open PySem PySem.Spec PyProof.Rows
/-- nothing is tracked but the script and the tables -/
def OnlyT (tabs : List (Addr × Addr)) (H : Hp) : Prop := ∀ b, H b = none ∨ (∃ o xs, H b = some (.frz o (.lst xs))) ∨ (b ∈ tabs.map (·.2) ∧ H b = some (.tbl #[]))
theorem law_callT {P : Program} {w : World} {K : PySem.W.Frag} {mg mb : Str → Option Value} {k : Nat} {fa a : Addr} {fd : FuncData} {x : Str} {sp : Sp} {s₁ : Shared} {vs : List Value} {ns : List Int} {tabs : List (Addr × Addr)}
    (KX : K.In s₁.heap) (hns : s₁.heap.Ns mainGlobals mg) (hb : s₁.heap.Ns builtinsNs mb) (hbb : ∀ x : Str, x ≠ "__name__" → mb x = bootBuiltins x) (hlim : s₁.heap.NoLimit) (hg : s₁.gens = #[])
    (hbm : ∃ bm ob, mg "__builtins__" = some (.ref bm) ∧ bm ≠ builtinsNs ∧ s₁.heap.get? bm = some ob ∧ ob.cls = .type "module" ∧ ob.dict = some builtinsNs ∧ ob.data = .plain)
    (hT : PySem.W.TabsAt tabs s₁.heap) (hnt : PySem.W.noTabs K = true)
    (ha : s₁.heap.get? a = some { cls := .type "list", data := .seq vs.toArray }) (hi : IntsAre vs ns) (hl : ns.length ≤ sizeLine) (hr : Room k callerA)
    (F : ∀ base : Heap, K.In base → base.Ns mainGlobals mg → (∀ t ∈ tabs, LamB mg base t.1 t.2) → FnOk P w K mg base CX0 k fa fd [x] sp) (hbind : ∀ (s : Shared) (u : Value), BindsTo s fd ⟨[u], []⟩ [(x, u)])
    (hsp : ∀ H : Hp, SqL K H a (ns.map V.int) → (∀ t ∈ tabs, H t.2 = some (.tbl #[])) → sp [.ref a] H (fun v _ => v = .bl true) fun _ _ _ => False) :
    codeAny (model P w) callerA (.call (.ref fa) ⟨[.ref a], []⟩) (fun r s' => r = .ok (.ret (.bool true)) ∧ OldK s₁.heap s'.heap ∧ s'.os = s₁.os ∧ AllBare s'.gens) s₁ := by
  have rv := vals_ints hi
  have lenV := hi.length
  have tabO : ∀ {b : Addr} {o : Obj}, b ∈ tabs.map (·.2) → s₁.heap.get? b = some o → o = PySem.W.tabObj #[] := fun {b o} hm e => by
    obtain ⟨t, ht, rfl⟩ := List.mem_map.mp hm
    have := (hT t ht).2
    rw [e] at this
    exact Option.some.inj this
  have aT : a ∉ tabs.map (·.2) := fun hm => by cases tabO hm ha
  have core : ∀ H : Hp, OnlyT tabs H → SqL K H a (ns.map V.int) → HOk P w H s₁.heap → (∀ b, H b ≠ none → b = a ∨ b ∈ tabs.map (·.2)) → (H a ≠ none → K.lookup a = none) → (∀ t ∈ tabs, H t.2 = some (.tbl #[])) →
      codeAny (model P w) callerA (.call (.ref fa) ⟨[.ref a], []⟩) (fun r s' => r = .ok (.ret (.bool true)) ∧ OldK s₁.heap s'.heap ∧ s'.os = s₁.os ∧ AllBare s'.gens) s₁ := by
    intro H hO hS hok hA hK hTb
    have base_of : ∀ {b : Addr} {o : Obj}, s₁.heap.get? b = some o → H b = none → (hidT s₁.heap H).get? b = some o := fun e n => hidT_get e n
    have noH : ∀ {b : Addr} {o : Obj}, s₁.heap.get? b = some o → (o.cls ≠ .type "list" ∨ ∀ v n, o.data ≠ .seq v n) → o ≠ PySem.W.tabObj #[] → H b = none := fun {b o} e n1 n2 => by
      cases q : H b with
      | none => rfl
      | some u =>
        rcases hA b (by rw [q]; simp) with e' | e'
        · subst e'
          rw [ha] at e; cases e
          rcases n1 with z | z
          · exact absurd rfl z
          · exact absurd rfl (z _ _)
        · exact absurd (tabO e' e) n2
    have nsK : ∀ {b : Addr} {m : Str → Option Value}, s₁.heap.Ns b m → (hidT s₁.heap H).Ns b m := fun {b m} ⟨o, es, ep, e, d, r⟩ => ⟨o, es, ep, base_of e (noH e (.inr fun v n z => by rw [d] at z; cases z) (fun z => by rw [z] at d; cases d)), d, r⟩
    have hKb : K.In (hidT s₁.heap H) := fun b o e => base_of (KX b o e) (by
      cases q : H b with
      | none => rfl
      | some u =>
        rcases hA b (by rw [q]; simp) with e' | e'
        · subst e'
          rw [hK (by rw [q]; simp)] at e; cases e
        · have z := tabO e' (KX b o e)
          have h2 := List.all_eq_true.mp hnt (b, o) (PySem.W.mem_of_lookupK e)
          subst z
          exact absurd (show false = true from h2) Bool.false_ne_true)
    have hM : Mod K mg (hidT s₁.heap H) := ⟨hKb, nsK hns, ⟨mb, nsK hb, hbb⟩, let ⟨mc, h1, h2⟩ := hlim; ⟨mc, nsK h1, h2⟩⟩
    have e0 : Env0 P w K mg (hidT s₁.heap H) callerA [] s₁ H := ⟨rfl, hM, fun b o e => of_hidT e, Nat.le_of_eq (hidT_size _ _), trivial, fun b hb => absurd (show b ∈ ([] : List Addr) from hb) (by simp), hok, .of_eq hg⟩
    have LB : ∀ t ∈ tabs, LamB mg (hidT s₁.heap H) t.1 t.2 := fun t ht => by
      refine ⟨?_, ?_⟩
      · obtain ⟨o, vs, file, tf, flags, tg, inF, text, tt, e1, r1, r⟩ := (hT t ht).1
        exact ⟨o, vs, file, tf, flags, tg, inF, text, tt, base_of e1 (noH e1 (.inl (by rw [r1]; decide)) (fun z => by rw [z] at r1; cases r1)), r1, r⟩
      · obtain ⟨bm, ob, b1, b2, b3, b4, r⟩ := hbm
        exact ⟨bm, ob, b1, b2, base_of b3 (noH b3 (.inl (by rw [b4]; decide)) (fun z => by rw [z] at b4; cases b4)), b4, r⟩
    refine codeAny_mono ((F _ hKb (nsK hns) LB).run callerA [] s₁ H ⟨[.ref a], []⟩ [.ref a] [.ref a] _ _ hr e0 (hbind s₁ (.ref a)) (.cons rfl .nil) (hsp H hS hTb)) fun r s' h => ?_
    cases r with
    | error e => exact (show False from h).elim
    | ok fl =>
      cases fl with
      | next => exact False.elim h
      | brk => exact False.elim h
      | cont => exact False.elim h
      | ret u =>
        obtain ⟨v, H', os, bare, un, hok', r', q⟩ := h
        have q' : v = .bl true := q
        subst q'
        obtain rfl : u = Value.bool true := r'
        have fin : ∀ b o, s₁.heap.get? b = some o → asItWas s₁.heap s'.heap b o ∧ ∃ o', s'.heap.get? b = some o' := fun b o e => by
          cases q : H b with
          | none =>
            have z := un.keep b o e q (by intro z; exact absurd (show b ∈ ([] : List Addr) from z) (by simp)) (by simp)
            exact ⟨.inl z, _, z⟩
          | some u =>
            rcases hO b with z | ⟨ob, xs, z⟩ | ⟨hm, z⟩
            · rw [q] at z; cases z
            · have z2 := un.frzs b ob _ z
              obtain ⟨e1, _⟩ := hok b _ z
              obtain ⟨e2, _⟩ := hok' b _ z2
              rw [e] at e1; cases e1
              exact ⟨.inl e2, _, e2⟩
            · obtain ⟨more, z2⟩ := un.tbls b _ z
              have e2 : s'.heap.get? b = some { cls := .none, data := .fields (#[] ++ more) } := hok' b _ z2
              have eo := tabO hm e
              subst eo
              obtain ⟨t, ht, rfl⟩ := List.mem_map.mp hm
              exact ⟨.inr (.inl ⟨((hT t ht).1.tab (hT t ht).2).isCodeTable, rfl, #[], more, rfl, e2⟩), _, e2⟩
        exact ⟨rfl, ⟨fun b o e => (fin b o e).1, fun b o e => (fin b o e).2⟩, os, bare⟩
  have tbOk : ∀ (H : Hp) (b : Addr), b ∈ tabs.map (·.2) → ObjOk P w H s₁.heap b (.tbl #[]) := fun H b hm => by
    obtain ⟨t, ht, rfl⟩ := List.mem_map.mp hm
    exact (hT t ht).2
  cases hk : K.lookup a with
  | some o =>
    have e := KX a o hk
    rw [ha] at e
    cases e
    refine core (fun b => if b ∈ tabs.map (·.2) then some (.tbl #[]) else none) (fun b => ?_) (.inr ⟨_, vs.toArray, _, hk, rfl, rfl, rfl, by rw [List.size_toArray, lenV]; exact hl, by simpa using rv⟩) (fun b u z => ?_) (fun b z => ?_) (fun z => ?_) (fun t ht => if_pos (List.mem_map_of_mem ht))
    · by_cases hb : b ∈ tabs.map (·.2)
      · exact .inr (.inr ⟨hb, if_pos hb⟩)
      · exact .inl (if_neg hb)
    · by_cases hb : b ∈ tabs.map (·.2)
      · have z' := (if_pos hb).symm.trans z
        cases z'
        exact tbOk _ b hb
      · have z' := (if_neg hb).symm.trans z
        cases z'
    · by_cases hb : b ∈ tabs.map (·.2)
      · exact .inr hb
      · exact absurd (if_neg hb) z
    · exact absurd (if_neg aT) z
  | none =>
    refine core (fun b => if b = a then some (.frz { cls := .type "list", data := .seq vs.toArray } (.lst (ns.map V.int))) else if b ∈ tabs.map (·.2) then some (.tbl #[]) else none) (fun b => ?_) (.inl (.inr ⟨{ cls := .type "list", data := .seq vs.toArray }, if_pos rfl⟩)) (fun b u z => ?_) (fun b z => ?_) (fun _ => hk) (fun t ht => ?_)
    · by_cases hb : b = a
      · exact .inr (.inl ⟨_, _, if_pos hb⟩)
      · by_cases hm : b ∈ tabs.map (·.2)
        · exact .inr (.inr ⟨hm, (if_neg hb).trans (if_pos hm)⟩)
        · exact .inl ((if_neg hb).trans (if_neg hm))
    · by_cases hb : b = a
      · have z' := (if_pos hb).symm.trans z
        cases z'
        subst hb
        exact ⟨ha, by rw [List.length_map]; exact hl, vs, _, rv, ha⟩
      · have z1 := (if_neg hb).symm.trans z
        by_cases hm : b ∈ tabs.map (·.2)
        · have z' := (if_pos hm).symm.trans z1
          cases z'
          exact tbOk _ b hm
        · have z' := (if_neg hm).symm.trans z1
          cases z'
    · by_cases hb : b = a
      · exact .inl hb
      · by_cases hm : b ∈ tabs.map (·.2)
        · exact .inr hm
        · exact absurd ((if_neg hb).trans (if_neg hm)) z
    · have hm : t.2 ∈ tabs.map (·.2) := List.mem_map_of_mem ht
      have hne : t.2 ≠ a := fun z => aT (z ▸ hm)
      exact (if_neg hne).trans (if_pos hm)
/-- the goal that k_head leaves, for a law whose defs make lambdas: xs are their names -/
theorem walk_ofT {l : PySem.W.OpenLaw} {n k : Nat} {q : Program} {loose : List Str} {XP : (Str → Option Value) → Heap → Prop} {YP : World → Heap → Prop} {d : DefRec} {K : Params → PySem.W.Frag} {sp : World → List (Addr × Addr) → Sp} {x : Str} {xs : List Str}
    (hn : l.most = some n) (hn2 : n ≤ sizeLine) (hdf : d.params.defaults = []) (hr : Room k callerA)
    (hY : ∀ (w : World) (h : Heap), YP w h → (K w.params).In h) (hrec : ∀ y ∈ xs, ((recsOf q).find? (fun e => e.name == y)).isSome = true)
    (F : ∀ (w : World) (mg : Str → Option Value) (fa : Addr) (h : Heap), (K w.params).In h → h.Ns mainGlobals mg → mg d.name = some (.ref fa) →
      ∃ (fd : FuncData) (tabs : List (Addr × Addr)), PySem.W.noTabs (K w.params) = true ∧ (∀ t ∈ tabs, ∃ y ∈ xs, PySem.W.tabIn (K w.params) y = some t) ∧ (∀ (s : Shared) (u : Value), BindsTo s fd ⟨[u], []⟩ [(x, u)]) ∧
        (∀ base : Heap, (K w.params).In base → base.Ns mainGlobals mg → (∀ t ∈ tabs, LamB mg base t.1 t.2) → FnOk l.prog w (K w.params) mg base CX0 k fa fd [x] (sp w tabs)))
    (hsp : ∀ (w : World) (tabs : List (Addr × Addr)) (H : Hp) (a : Addr) (ns : List Int), ns.length ≤ n → SqL (K w.params) H a (ns.map V.int) → (∀ t ∈ tabs, H t.2 = some (.tbl #[])) → sp w tabs [.ref a] H (fun v _ => v = .bl true) fun _ _ _ => False) :
    PySem.W.WalkO q loose XP YP l.row.toRowW d [] (fun f vs => PySem.call f vs) := by
  refine Att.attach_call hn hdf fun w s₀ s₁ mg mb fa o pm cd doc a vs ns G Y ho hd hcd hmg hobj hints hlen hg => ?_
  have KX := hY w _ Y
  obtain ⟨fd, tabs, hnt, htb, hb, hF⟩ := F w mg fa _ KX G.T.g hmg
  refine law_callT KX G.T.g G.T.b G.T.builtins G.T.nolimit hg G.T.bmain (fun t ht => ?_) hnt hobj hints (Nat.le_trans hlen hn2) hr hF hb fun H hS hTb => hsp w tabs H a ns hlen hS hTb
  obtain ⟨y, hy, e⟩ := htb t ht
  obtain ⟨dr, edr⟩ := Option.isSome_iff_exists.mp (hrec y hy)
  exact PySem.W.tab_of G.T KX edr e
theorem tab_mk {K : PySem.W.Frag} {x : Str} {f c P : Addr} {oc oc2 : Value} {od od2 : Option Addr} {fd : FuncData} {sl sl2 : Array (Option Value)} {vs : Array Value} (h1 : PySem.W.nsIn K mainGlobals x = some (some (.ref f))) (h2 : K.lookup f = some ⟨oc, od, .func fd, sl⟩) (h3 : fd.code = .ref c) (h4 : K.lookup c = some ⟨oc2, od2, .fields vs, sl2⟩) (h5 : vs[11]? = some (.ref P)) : PySem.W.tabIn K x = some (c, P) := by
  unfold PySem.W.tabIn
  rw [h1]
  dsimp only
  rw [h2]
  dsimp only
  rw [h3]
  dsimp only
  rw [h4]
  dsimp only
  rw [h5]
section
variable {P : Program} {w : World} {K : PySem.W.Frag} {mg : Str → Option Value} {base : Heap}
/-- a def that makes lambdas: its code is known -/
theorem Fun.okL {x : Str} {st : Stmt} {f c T : Addr} {fd : FuncData} {N ps : List Str} {k : Nat} {sp : Sp} {h : Heap} (F : Fun K x x st f fd) (KX : K.In h) (G : h.Ns mainGlobals mg) (hm : mg x = some (.ref f)) (ht : PySem.W.tabIn K x = some (c, T)) (S : FnScope N ps (defScope st)) (len : ∀ vs H Q E, sp vs H Q E → vs.length = ps.length)
    (hbody : ∀ (A : Around) (outer : List Env) (s : Shared) (H : Hp) (vs : List V) (Q : VK) (E : XK), Room k (A.deeper (envOfC x (defScope st) s.heap.objs.size f (.ref c))) → sp vs H Q E →
      ∃ t, PSs (cxOf CX0 P w K mg base N x (defScope st) f (.ref c) A outer s H E).nox (defBody st) t ∧ t { nx := fun _ H' => Q .non H', rt := Q } (start N vs) H) : FnOk P w K mg base CX0 (k + 1) f fd ps sp := by
  obtain ⟨oc, od, kV, doc, pm, an, cdv, ct, osl, rfl, lk, hcd⟩ := F.ex
  have ec : cdv = .ref c := PySem.W.law_code KX G ht hm (KX _ _ lk) rfl
  subst ec
  refine fn_of lk hcd S len fun A outer s H vs Q E hr hsp => ?_
  obtain ⟨t, h, q⟩ := hbody A outer s H vs Q E hr hsp
  exact ⟨t, h.nox, q⟩
theorem fn_canL {x : Str} {st : Stmt} {c T : Addr} {N ps : List Str} {k : Nat} {sp : Sp} {h : Heap} (h0 : ∃ f fd, Fn K mg x st ps f fd) (KX : K.In h) (G : h.Ns mainGlobals mg) (ht : PySem.W.tabIn K x = some (c, T)) (S : FnScope N ps (defScope st)) (len : ∀ vs H Q E, sp vs H Q E → vs.length = ps.length)
    (hbody : ∀ (f : Addr) (A : Around) (outer : List Env) (s : Shared) (H : Hp) (vs : List V) (Q : VK) (E : XK), Room k (A.deeper (envOfC x (defScope st) s.heap.objs.size f (.ref c))) → sp vs H Q E →
      ∃ t, PSs (cxOf CX0 P w K mg base N x (defScope st) f (.ref c) A outer s H E).nox (defBody st) t ∧ t { nx := fun _ H' => Q .non H', rt := Q } (start N vs) H) : Can P w K mg base (k + 1) x ps sp := by
  obtain ⟨f, fd, F⟩ := h0
  exact ⟨f, fd, F.fn.okL KX G F.m ht S len fun A outer s H vs Q E hr h => hbody f A outer s H vs Q E hr h, F.m, F.fn.kp, F.b⟩
end
end L2
set_option Elab.async false
set_option linter.all false
set_option maxRecDepth 100000
/-! isinstance of an error with two classes; any; a def that may raise, where it doesn't -/
namespace L2
open PySem PySem.Spec PyProof.Rows
section
variable {X : Cx}
end
end L2
set_option Elab.async false
set_option linter.all false
set_option maxRecDepth 100000
/-! things that are none; why -/
namespace L2
open PySem PySem.Spec PyProof.Rows
theorem lamS {X : Cx} {sc scp : Scope} {N ps : List Str} (S : FnScope N ps scp) (hs : X.env.scope = scp := by rfl) (h1 : sc.kind = .function := by rfl) (h2 : sc.isCoroutine = false := by rfl) (h3 : sc.isGenerator = false := by rfl) (h4 : ∀ p ∈ sc.names, p.2 ≠ .cell ∧ p.2 ≠ .local := by decide +kernel)
    (h5 : ∀ p ∈ sc.names, p.2 = .free → scp.names.lookup p.1 = some .cell ∨ scp.names.lookup p.1 = some .free := by decide +kernel) : LamSc X sc :=
  ⟨h1, h2, h3, h4, fun p hp e => by
    show X.env.scope.names.lookup p.1 = _ ∨ X.env.scope.names.lookup p.1 = _
    rw [hs]
    exact h5 p hp e⟩
end L2
namespace Pr
open PySem L2 PyProof.Rows Any
theorem Any.Kd.but {p : Addr} {H H' : Hp} {v : V} (c : But p H H') (n : v ≠ .ref p) (h : Kd H v) : Kd H' v := by
  obtain ⟨t, h⟩ := h
  have na : ∀ {a : Addr}, v = .ref a → a ≠ p := fun e z => n (by rw [e, z])
  refine ⟨t, ?_⟩
  cases h with
  | s h =>
    cases h with
    | bl b => exact .s (.bl b)
    | int i => exact .s (.int i)
    | lst e => exact .s (.lst (c _ _ e (na rfl)))
    | tup e => exact .s (.tup (c _ _ e (na rfl)))
  | non => exact .non
  | str x => exact .str x
  | dK e => exact .dK (c _ _ e (na rfl))
  | lit e => exact .lit (c _ _ e (na rfl))
theorem atI_mem {xs : List V} {n : Int} (h0 : 0 ≤ n) (h1 : n < xs.length) : ∃ x, x ∈ xs ∧ atI xs n = some x := by
  obtain ⟨k, rfl⟩ : ∃ k : Nat, n = k := ⟨n.toNat, by omega⟩
  have hk : k < xs.length := by omega
  exact ⟨_, List.getElem_mem hk, atI_nat (List.getElem?_eq_getElem hk)⟩
section
variable {P : Program} {w : World} {K : PySem.W.Frag} {mg : Str → Option Value} {base : Heap} {C : Addr}
/-- the five odd things of every menu -/
structure Odd5 (p g1 g2 g3 g4 : Addr) (H : Hp) : Prop where
  a1 : H g1 = some (.lst [])
  a2 : H g2 = some (.lst [.int 0])
  a3 : H g3 = some (.tup [.int 0])
  a4 : H g4 = some (.dK [])
  n1 : g1 ≠ p
  n2 : g2 ≠ p
  n3 : g3 ≠ p
  n4 : g4 ≠ p
theorem Odd5.same {p g1 g2 g3 g4 : Addr} {H H' : Hp} (o : Odd5 p g1 g2 g3 g4 H) (s : Same H H') : Odd5 p g1 g2 g3 g4 H' := ⟨s _ _ o.a1, s _ _ o.a2, s _ _ o.a3, s _ _ o.a4, o.n1, o.n2, o.n3, o.n4⟩
theorem Odd5.but {p g1 g2 g3 g4 : Addr} {H H' : Hp} (o : Odd5 p g1 g2 g3 g4 H) (s : But p H H') : Odd5 p g1 g2 g3 g4 H' := ⟨s _ _ o.a1 o.n1, s _ _ o.a2 o.n2, s _ _ o.a3 o.n3, s _ _ o.a4 o.n4, o.n1, o.n2, o.n3, o.n4⟩
/-- a thing of a known kind, no whole number or one of these -/
theorem Odd5.kd {p g1 g2 g3 g4 : Addr} {H : Hp} (o : Odd5 p g1 g2 g3 g4 H) {x : V} (h : x ∈ [V.non, .str "0", .str "", .bl true, .bl false, .ref g1, .ref g2, .ref g3, .ref g4]) : Kd H x ∧ wh x = none ∧ x ≠ .ref p := by
  simp only [List.mem_cons, List.not_mem_nil, or_false] at h
  rcases h with rfl | rfl | rfl | rfl | rfl | rfl | rfl | rfl | rfl
  · exact ⟨⟨_, .non⟩, rfl, by intro z; cases z⟩
  · exact ⟨⟨_, .str _⟩, rfl, by intro z; cases z⟩
  · exact ⟨⟨_, .str _⟩, rfl, by intro z; cases z⟩
  · exact ⟨⟨_, .s (.bl _)⟩, rfl, by intro z; cases z⟩
  · exact ⟨⟨_, .s (.bl _)⟩, rfl, by intro z; cases z⟩
  · exact ⟨⟨_, .s (.lst o.a1)⟩, rfl, by intro z; cases z; exact o.n1 rfl⟩
  · exact ⟨⟨_, .s (.lst o.a2)⟩, rfl, by intro z; cases z; exact o.n2 rfl⟩
  · exact ⟨⟨_, .s (.tup o.a3)⟩, rfl, by intro z; cases z; exact o.n3 rfl⟩
  · exact ⟨⟨_, .dK o.a4⟩, rfl, by intro z; cases z; exact o.n4 rfl⟩
inductive sp_no_roll (C : Addr) (vs : List V) (H : Hp) (Q : VK) (E : XK) : Prop
  | mk (p x : Addr) (b : Int) (ps : List Int) (rows : List Lad.Step) (e0 : vs = [.ref p, .ref x]) (hp : PotAt H p) (hL : LadAt C H x b ps rows) (hl : rows.length ≤ 4) (q : ∀ v H', But p H H' → PotAt H' p → Kd H' v → v ≠ .ref p → whF 0 rows.length v = false → Q v H') : sp_no_roll C vs H Q E
theorem sc_no_roll : FnScope ["_law_pot_here", "_law_ladder", "_law_some"] ["_law_pot_here", "_law_ladder"] (defScope s_law_no_roll) := ⟨rfl, rfl, rfl, by decide +kernel, rfl, by decide +kernel, by decide +kernel⟩
theorem LadAt.but {C p x : Addr} {H H' : Hp} {b : Int} {ps : List Int} {rows : List Lad.Step} (c : But p H H') (hp : PotAt H p) (h : LadAt C H x b ps rows) : LadAt C H' x b ps rows := by
  obtain ⟨x0, y0, hp⟩ := hp
  have n : ∀ {a : Addr} {o : HO}, H a = some o → (∀ xs, o ≠ .lst xs) → a ≠ p := fun {a o} e f z => by rw [z, hp] at e; exact f _ (Option.some.inj e).symm
  obtain ⟨dx, a, o, c', us, h1, h2, h3, h4, h5⟩ := h
  refine ⟨dx, a, o, c', us, c _ _ h1 (n h1 fun _ z => nomatch z), c _ _ h2 (n h2 fun _ z => nomatch z), c _ _ h3 (n h3 fun _ z => nomatch z), c _ _ h4 (n h4 fun _ z => nomatch z), Paired.mapP h5 fun v s hs => ?_⟩
  obtain ⟨r, l, e1, e2, e3⟩ := hs
  exact ⟨r, l, e1, c _ _ e2 (n e2 fun _ z => nomatch z), c _ _ e3 (n e3 fun _ z => nomatch z)⟩
set_option maxHeartbeats 4000000 in
theorem no_roll (T : Txt K mg C) : Can P w K mg base 2 "_law_no_roll" ["_law_pot_here", "_law_ladder"] (sp_no_roll C) := by
  refine fn_can T.f_law_no_roll sc_no_roll (fun vs H Q E h => ?_) (fun f cdv A outer s H vs Q E hr h => ?_)
  · obtain ⟨p, x, b, ps, rows, rfl, _⟩ := h
    rfl
  · obtain ⟨p, x, b, ps, rows, rfl, hp, hL, hl, q⟩ := h
    refine ⟨_, (pss_cons (ps_set (i := 2) sc_no_roll.nd rfl (Or.inl rfl) (pe_lst (pa_cons pe_non (pa_cons pe_str (pa_cons pe_str (pa_cons pe_bl (pa_cons pe_bl (pa_cons (pe_lst pa_nil) (pa_cons (pe_lst (pa1 pe_int)) (pa_cons (pe_tup (pa1 pe_int)) (pa3 pe_dnewK (pe_un un_neg pe_int) (pe_op op_sub (pe_un un_neg pe_int) (pe_can (digit T) hr (pa2 (pv 0) pe_int))))))))))))))
      (pss_cons (ps_set (i := 2) sc_no_roll.nd rfl (Or.inl rfl) (pe_op op_cat (pv 2) (pe_lst (pa3 (pe_canM0 (pv 1) T.cl (rolls T) hr) (pe_op op_add (pe_canM0 (pv 1) T.cl (rolls T) hr) (pe_can (digit T) hr (pa2 (pv 0) pe_int))) (pe_op op_pow pe_int pe_int)))))
      (pss_one (ps_ret (pe_ix (ix_listK K) (pv 2) (pe_can (digit T) hr (pa2 (pv 0) (pe_b (call_lenK K) T.b_len boot_len (pa1 (pv 2))))) (fun _ _ => rfl)))))), ?_⟩
    refine ⟨Nat.zero_le _, fun g1 hg1 => ⟨Any.one_line, fun g2 hg2 => ⟨Any.one_line, fun g3 hg3 => fun g4 hg4 => ?_⟩⟩⟩
    have S1 := Same.upd (H := H) (o := .lst []) hg1
    have S2 := S1.trans (Same.upd (o := .lst [.int 0]) hg2)
    have S3 := S2.trans (Same.upd (o := .tup [.int 0]) hg3)
    have S4 := S3.trans (Same.upd (o := .dK []) hg4)
    have od : Odd5 p g1 g2 g3 g4 (upd (upd (upd (upd H g1 (.lst [])) g2 (.lst [.int 0])) g3 (.tup [.int 0])) g4 (.dK [])) := ⟨(Same.upd hg4) _ _ ((Same.upd hg3) _ _ ((Same.upd hg2) _ _ upd_same)), (Same.upd hg4) _ _ ((Same.upd hg3) _ _ upd_same), (Same.upd hg4) _ _ upd_same, upd_same, hp.ne hg1, (hp.same S1).ne hg2, (hp.same S2).ne hg3, (hp.same S3).ne hg4⟩
    generalize upd (upd (upd (upd H g1 (.lst [])) g2 (.lst [.int 0])) g3 (.tup [.int 0])) g4 (.dK []) = H4 at S4 od
    refine ⟨_, rfl, _, rfl, _, rfl, p, _, rfl, hp.same S4, by decide, by decide +kernel, fun d1 H5 a1 b1 c5 p5 => ⟨_, _, rfl, rfl, small_line (by simp), fun L1 hL1 => ?_⟩⟩
    have od5 := od.but c5
    have B5 : But p H H5 := S4.but.trans c5
    have sL1 := Same.upd (H := H5) (o := .lst [.non, .str "0", .str "", .bl true, .bl false, .ref g1, .ref g2, .ref g3, .ref g4, .int (-1), .int (-1 - d1)]) hL1
    have hL5 : LadAt C (upd H5 L1 (.lst [.non, .str "0", .str "", .bl true, .bl false, .ref g1, .ref g2, .ref g3, .ref g4, .int (-1), .int (-1 - d1)])) x b ps rows := (hL.but B5 hp).same sL1
    have p6 := p5.same sL1
    obtain ⟨ldx, fa, fo, fc, hi⟩ := lad_ins hL5
    refine ⟨_, rfl, _, rfl, x, ldx, _, rfl, hi, flds_no _ _ _ (by decide) (by decide) (by decide), x, b, ps, rows, rfl, hL5, _, rfl, x, ldx, _, rfl, hi, flds_no _ _ _ (by decide) (by decide) (by decide), x, b, ps, rows, rfl, hL5, _, rfl, p, _, rfl, p6, by decide, by decide +kernel, fun d2 H7 a2 b2 c7 p7 => ⟨_, _, rfl, rfl, _, _, rfl, rfl, ⟨by decide +kernel, by decide +kernel, by decide +kernel⟩, three_line, fun L2 hL2 => ?_⟩⟩
    have hL1p : L1 ≠ p := p5.ne hL1
    refine ⟨L1, L2, _, _, rfl, rfl, (Same.upd hL2) _ _ (c7 _ _ upd_same hL1p), upd_same, small_line (by simp), fun L3 hL3 => ?_⟩
    have B7 : But p H5 H7 := sL1.but.trans c7
    generalize hxs : [V.non, .str "0", .str "", .bl true, .bl false, .ref g1, .ref g2, .ref g3, .ref g4, .int (-1), .int (-1 - d1)] ++ [.int ((rows.length + 1 : Nat) : Int), .int (((rows.length + 1 : Nat) : Int) + d2), .int (10 ^ (30 : Int).toNat)] = xs
    have hxl : xs.length = 14 := by rw [← hxs]; rfl
    have od8 := ((od5.but B7).same (Same.upd (o := .lst [.int ((rows.length + 1 : Nat) : Int), .int (((rows.length + 1 : Nat) : Int) + d2), .int (10 ^ (30 : Int).toNat)]) hL2)).same (Same.upd (o := .lst xs) hL3)
    have B8 := ((B5.trans B7).trans (Same.upd (o := .lst [.int ((rows.length + 1 : Nat) : Int), .int (((rows.length + 1 : Nat) : Int) + d2), .int (10 ^ (30 : Int).toNat)]) hL2).but).trans (Same.upd (o := .lst xs) hL3).but
    have p8 := (p7.same (Same.upd (o := .lst [.int ((rows.length + 1 : Nat) : Int), .int (((rows.length + 1 : Nat) : Int) + d2), .int (10 ^ (30 : Int).toNat)]) hL2)).same (Same.upd (o := .lst xs) hL3)
    have hL3p : L3 ≠ p := (p7.same (Same.upd (o := .lst [.int ((rows.length + 1 : Nat) : Int), .int (((rows.length + 1 : Nat) : Int) + d2), .int (10 ^ (30 : Int).toNat)]) hL2)).ne hL3
    have u8 : upd (upd H7 L2 (.lst [.int ((rows.length + 1 : Nat) : Int), .int (((rows.length + 1 : Nat) : Int) + d2), .int (10 ^ (30 : Int).toNat)])) L3 (.lst xs) L3 = some (.lst xs) := upd_same
    generalize upd (upd H7 L2 (.lst [.int ((rows.length + 1 : Nat) : Int), .int (((rows.length + 1 : Nat) : Int) + d2), .int (10 ^ (30 : Int).toNat)])) L3 (.lst xs) = H8 at od8 B8 p8 u8
    refine ⟨_, rfl, _, rfl, _, rfl, L3, _, rfl, .inl (.of u8), p, _, rfl, p8, by omega, by rw [hxl]; decide +kernel, fun d3 H9 a3 b3 c9 p9 => ?_⟩
    obtain ⟨v, hv, ev⟩ := atI_mem (xs := xs) a3 b3
    refine ⟨L3, _, _, _, rfl, rfl, .of (c9 _ _ u8 hL3p), ev, ?_⟩
    have od9 := od8.but c9
    have iv : ∀ i : Int, (i < 0 ∨ (rows.length : Int) < i) → v = .int i → Q v H9 := fun i hi e => by
      subst e
      refine q _ _ (B8.trans c9) p9 ⟨_, .s (.int i)⟩ (by intro z; cases z) ?_
      unfold whF wh
      simp only [Bool.and_eq_false_iff, decide_eq_false_iff_not]
      omega
    rw [← hxs] at hv
    rcases List.mem_append.mp hv with hv | hv
    · have hv' : v ∈ [V.non, .str "0", .str "", .bl true, .bl false, .ref g1, .ref g2, .ref g3, .ref g4] ++ [.int (-1), .int (-1 - d1)] := hv
      rcases List.mem_append.mp hv' with hv | hv
      · obtain ⟨k1, k2, k3⟩ := od9.kd hv
        exact q _ _ (B8.trans c9) p9 k1 k3 (by unfold whF; rw [k2])
      · simp only [List.mem_cons, List.not_mem_nil, or_false] at hv
        rcases hv with e | e
        · exact iv _ (by omega) e
        · exact iv _ (by omega) e
    · simp only [List.mem_cons, List.not_mem_nil, or_false] at hv
      have e30 : (10 : Int) ^ (30 : Int).toNat = 1000000000000000000000000000000 := by decide +kernel
      rw [e30] at hv
      rcases hv with e | e | e
      · exact iv _ (by omega) e
      · exact iv _ (by omega) e
      · exact iv _ (by omega) e
inductive sp_no_number (vs : List V) (H : Hp) (Q : VK) (E : XK) : Prop
  | mk (p : Addr) (e0 : vs = [.ref p]) (hp : PotAt H p) (q : ∀ v H', But p H H' → PotAt H' p → Kd H' v → v ≠ .ref p → whN v = false → Q v H') : sp_no_number vs H Q E
theorem sc_no_number : FnScope ["_law_pot_here", "_law_some"] ["_law_pot_here"] (defScope s_law_no_number) := ⟨rfl, rfl, rfl, by decide +kernel, rfl, by decide +kernel, by decide +kernel⟩
theorem e40 : (10 : Int) ^ (40 : Int).toNat = 10000000000000000000000000000000000000000 := by decide +kernel
theorem e41 : (10 : Int) ^ (41 : Int).toNat = 100000000000000000000000000000000000000000 := by decide +kernel
theorem e50 : (10 : Int) ^ (50 : Int).toNat = 100000000000000000000000000000000000000000000000000 := by decide +kernel
theorem e30' : (10 : Int) ^ (30 : Int).toNat = 1000000000000000000000000000000 := by decide +kernel
theorem e31 : (10 : Int) ^ (31 : Int).toNat = 10000000000000000000000000000000 := by decide +kernel
set_option maxHeartbeats 4000000 in
theorem no_number (T : Txt K mg C) : Can P w K mg base 2 "_law_no_number" ["_law_pot_here"] sp_no_number := by
  refine fn_can T.f_law_no_number sc_no_number (fun vs H Q E h => ?_) (fun f cdv A outer s H vs Q E hr h => ?_)
  · obtain ⟨p, rfl, _⟩ := h
    rfl
  · obtain ⟨p, rfl, hp, q⟩ := h
    refine ⟨_, (pss_cons (ps_set (i := 1) sc_no_number.nd rfl (Or.inl rfl) (pe_lst (pa_cons pe_non (pa_cons pe_str (pa_cons pe_str (pa_cons pe_bl (pa_cons pe_bl (pa_cons (pe_lst pa_nil) (pa_cons (pe_lst (pa1 pe_int)) (pa_cons (pe_tup (pa1 pe_int)) (pa_cons pe_dnewK (pa3 (pe_op op_pow pe_int pe_int) (pe_un un_neg (pe_op op_pow pe_int pe_int)) (pe_op op_add (pe_op op_pow pe_int pe_int) (pe_can (digit T) hr (pa2 (pv 0) pe_int)))))))))))))))
      (pss_cons (ps_set (i := 1) sc_no_number.nd rfl (Or.inl rfl) (pe_op op_cat (pv 1) (pe_lst (pa2 (pe_op op_add (pe_op op_pow pe_int pe_int) (pe_can (digit T) hr (pa2 (pv 0) pe_int))) (pe_op op_sub (pe_un un_neg (pe_op op_pow pe_int pe_int)) (pe_can (digit T) hr (pa2 (pv 0) pe_int)))))))
      (pss_one (ps_ret (pe_ix (ix_listK K) (pv 1) (pe_can (digit T) hr (pa2 (pv 0) (pe_b (call_lenK K) T.b_len boot_len (pa1 (pv 1))))) (fun _ _ => rfl)))))), ?_⟩
    refine ⟨Nat.zero_le _, fun g1 hg1 => ⟨Any.one_line, fun g2 hg2 => ⟨Any.one_line, fun g3 hg3 => fun g4 hg4 => ?_⟩⟩⟩
    have S1 := Same.upd (H := H) (o := .lst []) hg1
    have S2 := S1.trans (Same.upd (o := .lst [.int 0]) hg2)
    have S3 := S2.trans (Same.upd (o := .tup [.int 0]) hg3)
    have S4 := S3.trans (Same.upd (o := .dK []) hg4)
    have od : Odd5 p g1 g2 g3 g4 (upd (upd (upd (upd H g1 (.lst [])) g2 (.lst [.int 0])) g3 (.tup [.int 0])) g4 (.dK [])) := ⟨(Same.upd hg4) _ _ ((Same.upd hg3) _ _ ((Same.upd hg2) _ _ upd_same)), (Same.upd hg4) _ _ ((Same.upd hg3) _ _ upd_same), (Same.upd hg4) _ _ upd_same, upd_same, hp.ne hg1, (hp.same S1).ne hg2, (hp.same S2).ne hg3, (hp.same S3).ne hg4⟩
    generalize upd (upd (upd (upd H g1 (.lst [])) g2 (.lst [.int 0])) g3 (.tup [.int 0])) g4 (.dK []) = H4 at S4 od
    refine ⟨_, _, rfl, rfl, ⟨by decide +kernel, by decide +kernel, by decide +kernel⟩, _, _, rfl, rfl, ⟨by decide +kernel, by decide +kernel, by decide +kernel⟩, _, rfl, _, _, rfl, rfl, ⟨by decide +kernel, by decide +kernel, by decide +kernel⟩, _, rfl, p, _, rfl, hp.same S4, by decide, by decide +kernel, fun d1 H5 a1 b1 c5 p5 => ⟨_, _, rfl, rfl, small_line (by simp), fun L1 hL1 => ?_⟩⟩
    have od5 := od.but c5
    have B5 : But p H H5 := S4.but.trans c5
    have hL1p : L1 ≠ p := p5.ne hL1
    have sL1 := Same.upd (H := H5) (o := .lst [.non, .str "0", .str "", .bl true, .bl false, .ref g1, .ref g2, .ref g3, .ref g4, .int (10 ^ (40 : Int).toNat), .int (-10 ^ (40 : Int).toNat), .int (10 ^ (40 : Int).toNat + d1)]) hL1
    refine ⟨_, rfl, _, _, rfl, rfl, ⟨by decide +kernel, by decide +kernel, by decide +kernel⟩, _, rfl, p, _, rfl, p5.same sL1, by decide, by decide +kernel, fun d2 H6 a2 b2 c6 p6 => ⟨_, _, rfl, rfl, _, _, rfl, rfl, ⟨by decide +kernel, by decide +kernel, by decide +kernel⟩, _, rfl, _, rfl, p, _, rfl, p6, by decide, by decide +kernel, fun d3 H7 a3 b3 c7 p7 => ⟨_, _, rfl, rfl, two_line, fun L2 hL2 => ?_⟩⟩⟩
    have B7 : But p H5 H7 := (sL1.but.trans c6).trans c7
    refine ⟨L1, L2, _, _, rfl, rfl, (Same.upd hL2) _ _ (c7 _ _ (c6 _ _ upd_same hL1p) hL1p), upd_same, small_line (by simp), fun L3 hL3 => ?_⟩
    have sL2 := Same.upd (H := H7) (o := .lst [.int (10 ^ (50 : Int).toNat + d2), .int (-10 ^ (41 : Int).toNat - d3)]) hL2
    have sL3 := sL2.trans (Same.upd (o := .lst ([.non, .str "0", .str "", .bl true, .bl false, .ref g1, .ref g2, .ref g3, .ref g4, .int (10 ^ (40 : Int).toNat), .int (-10 ^ (40 : Int).toNat), .int (10 ^ (40 : Int).toNat + d1)] ++ [.int (10 ^ (50 : Int).toNat + d2), .int (-10 ^ (41 : Int).toNat - d3)])) hL3)
    have hL3p : L3 ≠ p := (p7.same sL2).ne hL3
    generalize hH8 : upd _ L3 (HO.lst _) = H8
    have s8 : Same H7 H8 := by rw [← hH8]; exact sL3
    have u8 : H8 L3 = some (.lst ([.non, .str "0", .str "", .bl true, .bl false, .ref g1, .ref g2, .ref g3, .ref g4, .int (10 ^ (40 : Int).toNat), .int (-10 ^ (40 : Int).toNat), .int (10 ^ (40 : Int).toNat + d1)] ++ [.int (10 ^ (50 : Int).toNat + d2), .int (-10 ^ (41 : Int).toNat - d3)])) := by rw [← hH8]; exact upd_same
    clear hH8
    refine ⟨_, rfl, _, rfl, _, rfl, L3, _, rfl, .inl (.of u8), p, _, rfl, p7.same s8, by simp, by simp; decide +kernel, fun d4 H9 a4 b4 c9 p9 => ?_⟩
    obtain ⟨v, hv, ev⟩ := atI_mem a4 b4
    refine ⟨L3, _, _, _, rfl, rfl, .of (c9 _ _ u8 hL3p), ev, ?_⟩
    have od9 := ((od5.but B7).same s8).but c9
    have B9 : But p H H9 := ((B5.trans B7).trans s8.but).trans c9
    have hW : W40 = 10000000000000000000000000000000000000000 := rfl
    have iv : ∀ i : Int, (i ≤ -W40 ∨ W40 ≤ i) → v = .int i → Q v H9 := fun i hi e => by
      subst e
      refine q _ _ B9 p9 ⟨_, .s (.int i)⟩ (by intro z; cases z) ?_
      unfold whN wh
      simp only [Bool.and_eq_false_iff, decide_eq_false_iff_not]
      omega
    rw [e40, e41, e50] at hv
    rcases List.mem_append.mp hv with hv | hv
    · have hv' : v ∈ [V.non, .str "0", .str "", .bl true, .bl false, .ref g1, .ref g2, .ref g3, .ref g4] ++ [.int 10000000000000000000000000000000000000000, .int (-10000000000000000000000000000000000000000), .int (10000000000000000000000000000000000000000 + d1)] := hv
      rcases List.mem_append.mp hv' with hv | hv
      · obtain ⟨k1, k2, k3⟩ := od9.kd hv
        exact q _ _ B9 p9 k1 k3 (by unfold whN; rw [k2])
      · simp only [List.mem_cons, List.not_mem_nil, or_false] at hv
        rcases hv with e | e | e
        · exact iv _ (by omega) e
        · exact iv _ (by omega) e
        · exact iv _ (by omega) e
    · simp only [List.mem_cons, List.not_mem_nil, or_false] at hv
      rcases hv with e | e
      · exact iv _ (by omega) e
      · exact iv _ (by omega) e
inductive sp_no_moment (vs : List V) (H : Hp) (Q : VK) (E : XK) : Prop
  | mk (p : Addr) (e0 : vs = [.ref p]) (hp : PotAt H p) (q : ∀ v H', But p H H' → PotAt H' p → Kd H' v → v ≠ .ref p → whW v = false → Q v H') : sp_no_moment vs H Q E
theorem sc_no_moment : FnScope ["_law_pot_here", "_law_some"] ["_law_pot_here"] (defScope s_law_no_moment) := ⟨rfl, rfl, rfl, by decide +kernel, rfl, by decide +kernel, by decide +kernel⟩
theorem whW_of_N {v : V} (h : whN v = false) : whW v = false := by
  unfold whN at h
  unfold whW
  cases e : wh v with
  | none => rfl
  | some i =>
    rw [e] at h
    have hW : W40 = 10000000000000000000000000000000000000000 := rfl
    have hW3 : W30 = 1000000000000000000000000000000 := rfl
    simp only [Bool.and_eq_false_iff, decide_eq_false_iff_not] at h ⊢
    omega
set_option maxHeartbeats 4000000 in
theorem no_moment (T : Txt K mg C) : Can P w K mg base 3 "_law_no_moment" ["_law_pot_here"] sp_no_moment := by
  refine fn_can T.f_law_no_moment sc_no_moment (fun vs H Q E h => ?_) (fun f cdv A outer s H vs Q E hr h => ?_)
  · obtain ⟨p, rfl, _⟩ := h
    rfl
  · obtain ⟨p, rfl, hp, q⟩ := h
    refine ⟨_, (pss_cons (ps_set (i := 1) sc_no_moment.nd rfl (Or.inl rfl) (pe_lst (pa_cons (pe_op op_pow pe_int pe_int) (pa_cons (pe_un un_neg (pe_op op_pow pe_int pe_int)) (pa3 (pe_op op_add (pe_op op_pow pe_int pe_int) (pe_can (digit T) hr (pa2 (pv 0) pe_int))) (pe_op op_sub (pe_un un_neg (pe_op op_pow pe_int pe_int)) (pe_can (digit T) hr (pa2 (pv 0) pe_int))) (pe_can (no_number T) hr (pa1 (pv 0))))))))
      (pss_one (ps_ret (pe_ix (ix_listK K) (pv 1) (pe_can (digit T) hr (pa2 (pv 0) (pe_b (call_lenK K) T.b_len boot_len (pa1 (pv 1))))) (fun _ _ => rfl))))), ?_⟩
    refine ⟨_, _, rfl, rfl, ⟨by decide +kernel, by decide +kernel, by decide +kernel⟩, _, _, rfl, rfl, ⟨by decide +kernel, by decide +kernel, by decide +kernel⟩, _, rfl, _, _, rfl, rfl, ⟨by decide +kernel, by decide +kernel, by decide +kernel⟩, _, rfl, p, _, rfl, hp, by decide, by decide +kernel, fun d1 H1 a1 b1 c1 p1 => ⟨_, _, rfl, rfl, _, _, rfl, rfl, ⟨by decide +kernel, by decide +kernel, by decide +kernel⟩, _, rfl, _, rfl, p, _, rfl, p1, by decide, by decide +kernel, fun d2 H2 a2 b2 c2 p2 => ⟨_, _, rfl, rfl, _, rfl, p, rfl, p2, fun u H3 c3 p3 ku nu bu => ⟨small_line (by simp), fun L hL => ?_⟩⟩⟩⟩
    have B3 : But p H H3 := (c1.trans c2).trans c3
    have hLp : L ≠ p := p3.ne hL
    generalize hH4 : upd H3 L (HO.lst _) = H4
    have s4 : Same H3 H4 := by rw [← hH4]; exact Same.upd hL
    have u4 : H4 L = some (.lst [.int (10 ^ (30 : Int).toNat), .int (-10 ^ (30 : Int).toNat), .int (10 ^ (30 : Int).toNat + d1), .int (-10 ^ (31 : Int).toNat - d2), u]) := by rw [← hH4]; exact upd_same
    clear hH4
    refine ⟨_, rfl, _, rfl, _, rfl, L, _, rfl, .inl (.of u4), p, _, rfl, p3.same s4, by simp, by simp; decide +kernel, fun d3 H5 a3 b3 c5 p5 => ?_⟩
    obtain ⟨v, hv, ev⟩ := atI_mem a3 b3
    refine ⟨L, _, _, _, rfl, rfl, .of (c5 _ _ u4 hLp), ev, ?_⟩
    have B5 : But p H H5 := (B3.trans s4.but).trans c5
    have hW : W30 = 1000000000000000000000000000000 := rfl
    have iv : ∀ i : Int, (i ≤ -W30 ∨ W30 ≤ i) → v = .int i → Q v H5 := fun i hi e => by
      subst e
      refine q _ _ B5 p5 ⟨_, .s (.int i)⟩ (by intro z; cases z) ?_
      unfold whW wh
      simp only [Bool.and_eq_false_iff, decide_eq_false_iff_not]
      omega
    rw [e30', e31] at hv
    simp only [List.mem_cons, List.not_mem_nil, or_false] at hv
    rcases hv with e | e | e | e | e
    · exact iv _ (by omega) e
    · exact iv _ (by omega) e
    · exact iv _ (by omega) e
    · exact iv _ (by omega) e
    · subst e
      exact q _ _ B5 p5 ((ku.same s4).but c5 nu) nu (whW_of_N bu)
end
end Pr
set_option Elab.async false
set_option linter.all false
set_option maxRecDepth 100000
/-! why; three -/
namespace Pr
open PySem L2 PyProof.Rows Any
/-- which of the three an error's class is -/
inductive Flg (mg : Str → Option Value) (cls : Value) (a b c : Bool) : Prop
  | roll (e : cls = .ref (cOf mg "NoRoll")) (f : (a, b, c) = (true, false, false)) : Flg mg cls a b c
  | num (e : cls = .ref (cOf mg "NoNumber")) (f : (a, b, c) = (false, true, false)) : Flg mg cls a b c
  | mom (e : cls = .ref (cOf mg "NoMoment")) (f : (a, b, c) = (false, false, true)) : Flg mg cls a b c
section
variable {P : Program} {w : World} {K : PySem.W.Frag} {mg : Str → Option Value} {base : Heap} {C : Addr}
inductive sp_why (P : Program) (w : World) (K : PySem.W.Frag) (mg : Str → Option Value) (base : Heap) (outer : List Env) (s : Shared) (vs : List V) (H : Hp) (Q : VK) (E : XK) : Prop
  | mk (f : Addr) (fo : Obj) (cells : List (Addr × Obj)) (c : Addr) (oc : Obj) (sp : Hp → VK → XK → Prop) (cls : Value) (b1 b2 b3 : Bool) (e : vs = [.ref f]) (L : LamP P w K mg base 6 f fo cells c oc sp) (hin : LamIn outer s H f fo cells c oc) (fl : Flg mg cls b1 b2 b3)
      (go : ∀ Q' E', (∀ H', Same H H' → E' cls none H') → sp H Q' E') (q : ∀ D H2, Same H H2 → H2 D = some (.lst [.bl b1, .bl b2, .bl b3]) → Q (.ref D) H2) : sp_why P w K mg base outer s vs H Q E
theorem sc_why : FnScope ["_law_deed", "_law_found", "e"] ["_law_deed"] (defScope s_law_why) := ⟨rfl, rfl, rfl, by decide +kernel, rfl, by decide +kernel, by decide +kernel⟩
theorem why (T : Txt K mg C) : CanS P w K mg base 7 "_law_why" ["_law_deed"] (sp_why P w K mg base) := by
  refine fn_canS T.f_law_why sc_why (fun o s vs H Q E h => ?_) (fun f cdv A outer s H vs Q E hr h => ?_)
  · obtain ⟨f, fo, cells, c, oc, sp, cls, b1, b2, b3, rfl, _⟩ := h
    rfl
  · obtain ⟨lf, fo, cells, c, oc, sp, cls, b1, b2, b3, rfl, L, hin, fl, go, q⟩ := h
    refine ⟨_, (pss_cons (ps_set (i := 1) sc_why.nd rfl (Or.inl rfl) pe_non)
      (pss_cons (ps_try (n := 3) (fun pn xe E W => (pss_one (ps_expr (pe_deed L hin W hr (pv 0)))))
        (phN (i := 2) T.x_PeakError.m sc_why.nd rfl rfl (fun a => (pss_one (ps_set (i := 1) sc_why.nd rfl (Or.inl rfl) (pe_lst (pa3 (pe_b (call_isE K) T.b_isinstance boot_isinstance (pa2 (pv 2) (pe_glob (v := .ref _) rfl T.x_NoRoll.m rfl))) (pe_b (call_isE K) T.b_isinstance boot_isinstance (pa2 (pv 2) (pe_glob (v := .ref _) rfl T.x_NoNumber.m rfl))) (pe_b (call_isE K) T.b_isinstance boot_isinstance (pa2 (pv 2) (pe_glob (v := .ref _) rfl T.x_NoMoment.m rfl)))))))) ph_nil))
      (pss_one (ps_ret (pv 1))))), ?_⟩
    refine .mk rfl (go _ _ fun H' s1 => ?_)
    intro σ' hσ
    match σ', hσ with
    | [t0, t1, t2], _ =>
      cases fl with
      | roll e f =>
        subst e
        cases f
        refine .mk true T.e_NoRoll_PeakError (iteT fun b oe hb hc hd hf => ?_)
        have x := T.x_NoRoll.err hc hd hf
        refine ⟨_, rfl, .own b oe _ _ _ rfl upd_same x T.k_NoRoll_NoRoll ⟨_, rfl, .own b oe _ _ _ rfl upd_same x T.k_NoRoll_NoNumber ⟨_, rfl, .own b oe _ _ _ rfl upd_same x T.k_NoRoll_NoMoment ⟨three_line, fun D hD => ⟨_, rfl, ?_⟩⟩⟩⟩⟩
        exact q D _ (s1.trans ((Same.upd hb).trans (Same.upd hD))) upd_same
      | num e f =>
        subst e
        cases f
        refine .mk true T.e_NoNumber_PeakError (iteT fun b oe hb hc hd hf => ?_)
        have x := T.x_NoNumber.err hc hd hf
        refine ⟨_, rfl, .own b oe _ _ _ rfl upd_same x T.k_NoNumber_NoRoll ⟨_, rfl, .own b oe _ _ _ rfl upd_same x T.k_NoNumber_NoNumber ⟨_, rfl, .own b oe _ _ _ rfl upd_same x T.k_NoNumber_NoMoment ⟨three_line, fun D hD => ⟨_, rfl, ?_⟩⟩⟩⟩⟩
        exact q D _ (s1.trans ((Same.upd hb).trans (Same.upd hD))) upd_same
      | mom e f =>
        subst e
        cases f
        refine .mk true T.e_NoMoment_PeakError (iteT fun b oe hb hc hd hf => ?_)
        have x := T.x_NoMoment.err hc hd hf
        refine ⟨_, rfl, .own b oe _ _ _ rfl upd_same x T.k_NoMoment_NoRoll ⟨_, rfl, .own b oe _ _ _ rfl upd_same x T.k_NoMoment_NoNumber ⟨_, rfl, .own b oe _ _ _ rfl upd_same x T.k_NoMoment_NoMoment ⟨three_line, fun D hD => ⟨_, rfl, ?_⟩⟩⟩⟩⟩
        exact q D _ (s1.trans ((Same.upd hb).trans (Same.upd hD))) upd_same
theorem dat_bools {H : Hp} {D : Addr} {a b c : Bool} (h : H D = some (.lst [.bl a, .bl b, .bl c])) : Dat H (.list [.bool a, .bool b, .bool c]) (.ref D) := by
  unfold Dat
  refine ⟨D, _, rfl, h, ?_⟩
  iterate 3
    unfold DatAll
    refine ⟨_, _, rfl, by unfold Dat; rfl, ?_⟩
  unfold DatAll
  rfl
theorem eqv_bools (a b c : Bool) : PyData.eqv (.list [.bool a, .bool b, .bool c]) (.list [.bool a, .bool b, .bool c]) = true := by cases a <;> cases b <;> cases c <;> decide +kernel
theorem lay_bools (a b c : Bool) : PyData.canLay0 (.list [.bool a, .bool b, .bool c]) = true := by cases a <;> cases b <;> cases c <;> decide +kernel
theorem dep_bools (a b c : Bool) : PyData.depth (.list [.bool a, .bool b, .bool c]) ≤ 2 := by cases a <;> cases b <;> cases c <;> decide +kernel
/-- all but lists and tables is kept -/
def KeepO (H H' : Hp) : Prop := ∀ a o, H a = some o → (∀ xs, o ≠ .lst xs) → (∀ ps, o ≠ .tbl ps) → H' a = some o
theorem KeepO.lad {C x : Addr} {H H' : Hp} {b : Int} {ps : List Int} {rows : List Lad.Step} (c : KeepO H H') (h : LadAt C H x b ps rows) : LadAt C H' x b ps rows := by
  obtain ⟨dx, a, o, c', us, h1, h2, h3, h4, h5⟩ := h
  refine ⟨dx, a, o, c', us, c _ _ h1 (fun _ z => nomatch z) (fun _ z => nomatch z), c _ _ h2 (fun _ z => nomatch z) (fun _ z => nomatch z), c _ _ h3 (fun _ z => nomatch z) (fun _ z => nomatch z), c _ _ h4 (fun _ z => nomatch z) (fun _ z => nomatch z), Paired.mapP h5 fun v s hs => ?_⟩
  obtain ⟨r, l, e1, e2, e3⟩ := hs
  exact ⟨r, l, e1, c _ _ e2 (fun _ z => nomatch z) (fun _ z => nomatch z), c _ _ e3 (fun _ z => nomatch z) (fun _ z => nomatch z)⟩
theorem KeepO.lock {Dc p x d : Addr} {H H' : Hp} {prs : List BP} (c : KeepO H H') (h : LockAt Dc H p x d prs) : LockAt Dc H' p x d prs := by
  obtain ⟨⟨dx, h1⟩, h2⟩ := h
  exact ⟨⟨dx, c _ _ h1 (fun _ z => nomatch z) (fun _ z => nomatch z)⟩, c _ _ h2 (fun _ z => nomatch z) (fun _ z => nomatch z)⟩
theorem bp_al {T : Addr} {q : Str} {H H1 : Hp} (t : TabOk H T q) (b : ButP T H H1) : ∀ a o, H a = some o → (∀ ps, o ≠ .tbl ps) → H1 a = some o := fun a o e n => by
  obtain ⟨ps, h, _⟩ := t
  exact b a o e fun z => by rw [z, h] at e; exact n ps (Option.some.inj e).symm
theorem bp_kd {T : Addr} {q : Str} {H H1 : Hp} (t : TabOk H T q) (b : ButP T H H1) {v : V} (h : Kd H v) : Kd H1 v := by
  have al := bp_al t b
  obtain ⟨ty, h⟩ := h
  refine ⟨ty, ?_⟩
  cases h with
  | s h =>
    cases h with
    | bl b => exact .s (.bl b)
    | int i => exact .s (.int i)
    | lst e => exact .s (.lst (al _ _ e (fun _ z => nomatch z)))
    | tup e => exact .s (.tup (al _ _ e (fun _ z => nomatch z)))
  | non => exact .non
  | str x => exact .str x
  | dK e => exact .dK (al _ _ e (fun _ z => nomatch z))
  | lit e => exact .lit (al _ _ e (fun _ z => nomatch z))
theorem bp_rn {T : Addr} {q : Str} {H H1 : Hp} (t : TabOk H T q) (b : ButP T H H1) {n : Nat} {v u : V} {cls : Value} (h : BadRN mg H n v u cls) : BadRN mg H1 n v u cls := by
  cases h with
  | roll kv bb e => exact .roll (bp_kd t b kv) bb e
  | num r ev r0 r1 ku bb e => exact .num r ev r0 r1 (bp_kd t b ku) bb e
theorem tab_same {T : Addr} {q : Str} {H H1 : Hp} (t : TabOk H T q) (s : Same H H1) : TabOk H1 T q := t.keep fun b o e _ => s b o e
inductive sp_three (mg : Str → Option Value) (C Dc P3 : Addr) (q3 : Str) (vs : List V) (H : Hp) (Q : VK) (E : XK) : Prop
  | mk (p x d D : Addr) (v u : V) (b : Int) (ps : List Int) (rows : List Lad.Step) (prs : List BP) (cls : Value) (b1 b2 b3 : Bool) (e0 : vs = [.ref p, v, u, .ref D]) (tab : TabOk H P3 q3) (hK : LockAt Dc H p x d prs) (hL : LadAt C H x b ps rows) (bad : BadRN mg H rows.length v u cls) (fl : Flg mg cls b1 b2 b3) (hD : H D = some (.lst [.bl b1, .bl b2, .bl b3]))
      (q : ∀ H', ButP P3 H H' → TabOk H' P3 q3 → Q (.bl true) H') : sp_three mg C Dc P3 q3 vs H Q E
theorem sc_three : FnScope ["_law_locks", "_law_roll", "_law_number", "_law_due"] ["_law_locks", "_law_roll", "_law_number", "_law_due"] (defScope s_law_three) := ⟨rfl, rfl, rfl, by decide +kernel, rfl, by decide +kernel, by decide +kernel⟩
set_option maxHeartbeats 4000000 in
theorem three (T : Txt K mg C) {c3 P3 : Addr} {h : Heap} (KX : K.In h) (G : h.Ns mainGlobals mg) (ht : PySem.W.tabIn K "_law_three" = some (c3, P3)) (LB : LamB mg base c3 P3) : Can P w K mg base 8 "_law_three" ["_law_locks", "_law_roll", "_law_number", "_law_due"] (sp_three mg C (cOf mg "Locks") P3 "_law_three.<locals>.<lambda>") := by
  refine fn_canL T.f_law_three KX G ht sc_three (fun vs H Q E h => ?_) (fun f A outer s H vs Q E hr h => ?_)
  · obtain ⟨p, x, d, D, v, u, b, ps, rows, prs, cls, b1, b2, b3, rfl, _⟩ := h
    rfl
  · obtain ⟨p, x, d, D, v, u, b, ps, rows, prs, cls, b1, b2, b3, rfl, tab, hK, hL, bad, fl, hD, q⟩ := h
    refine ⟨_, (pss_cons (ps_if (pt_cmpR (op_neD hr) (pe_lam (k := 5) (why T) hr LB rfl (lamS sc_three) (fun A outer s H E f cl cd hr' W' => pe_canMX (pv 0) T.cl_Locks (shutX T) W' hr' (pa2 (pv 1) (pv 2)))) (pv 3) (nomark _))
        (pss_one (ps_ret pe_bl))
        pss_nil)
      (pss_cons (ps_if (pt_cmpR (op_neD hr) (pe_lam (k := 5) (why T) hr LB rfl (lamS sc_three) (fun A outer s H E f cl cd hr' W' => pe_canMX (pv 0) T.cl_Locks (open_barX T) W' hr' (pa2 (pv 1) (pv 2)))) (pv 3) (nomark _))
        (pss_one (ps_ret pe_bl))
        pss_nil)
      (pss_one (ps_ret (pe_cmpR (op_eqD hr) (pe_lam (k := 5) (why T) hr LB rfl (lamS sc_three) (fun A outer s H E f cl cd hr' W' => pe_canMX (pv 0) T.cl_Locks (is_shutX T) W' hr' (pa2 (pv 1) (pv 2)))) (pv 3) (nomark _)))))), ?_⟩
    have turn : ∀ {H1 : Hp} {f : Addr} {fo : Obj} {cells : List (Addr × Obj)} {c : Addr} {oc : Obj} {m : Str} {outer : List Env} {s : Shared} {Q' : VK}, (lflds x d).lookup m = none → ButP P3 H H1 → TabOk H1 P3 "_law_three.<locals>.<lambda>" → LamP P w K mg base 6 f fo cells c oc (fun H Q E => tMeth (cOf mg "Locks") m (sp_lockX mg C (cOf mg "Locks")) [] E (tVar 0) (tCons (tVar 1) (tCons (tVar 2) tNil)) [some (.ref p), some v, some u, some (.ref D)] H Q) → LamIn outer s H1 f fo cells c oc →
        (∀ D1 H2, Same H1 H2 → H2 D1 = some (.lst [.bl b1, .bl b2, .bl b3]) → Q' (.ref D1) H2) → sp_why P w K mg base outer s [.ref f] H1 Q' E0 := by
      intro H1 f fo cells c oc m outer s Q' hm bp tb L hin qq
      have al := bp_al tab bp
      have ko : KeepO H H1 := fun a o e _ n => al a o e n
      refine .mk f fo cells c oc _ cls b1 b2 b3 rfl L hin fl (fun Q2 E2 er => ?_) qq
      have hK1 := ko.lock hK
      obtain ⟨⟨dx, hp1⟩, hd1⟩ := id hK1
      exact ⟨_, rfl, p, dx, _, rfl, hp1, hm, _, rfl, _, rfl, p, x, d, v, u, b, ps, rows, prs, cls, rfl, hK1, ko.lad hL, bp_rn tab bp bad, er⟩
    have cmp : ∀ {H1 H2 : Hp} {D1 : Addr}, ButP P3 H H1 → Same H1 H2 → H2 D = some (.lst [.bl b1, .bl b2, .bl b3]) := fun bp s2 => s2 _ _ (bp_al tab bp _ _ hD (fun _ z => nomatch z))
    refine ⟨tab, fun H1 f fo cells c oc bp1 tb1 hf L outer s hin => turn (by rfl) bp1 tb1 L hin fun D1 H2 s2 hD1 => ?_⟩
    refine ⟨_, rfl, _, _, dat_bools hD1, dat_bools (cmp (D1 := D1) bp1 s2), lay_bools _ _ _, lay_bools _ _ _, by have := dep_bools b1 b2 b3; omega, _, rfl, ?_⟩
    rw [eqv_bools]
    refine iteF ?_
    have bp2 : ButP P3 H H2 := fun a o e n => s2 _ _ (bp1 _ _ e n)
    have tb2 := tab_same tb1 s2
    refine ⟨tb2, fun H3 f fo cells c oc bp3 tb3 hf L outer s hin => ?_⟩
    have bp03 : ButP P3 H H3 := fun a o e n => bp3 _ _ (bp2 _ _ e n) n
    refine turn (by rfl) bp03 tb3 L hin fun D3 H4 s4 hD3 => ?_
    refine ⟨_, rfl, _, _, dat_bools hD3, dat_bools (cmp (D1 := D1) bp03 s4), lay_bools _ _ _, lay_bools _ _ _, by have := dep_bools b1 b2 b3; omega, _, rfl, ?_⟩
    rw [eqv_bools]
    refine iteF ?_
    have bp4 : ButP P3 H H4 := fun a o e n => s4 _ _ (bp03 _ _ e n)
    have tb4 := tab_same tb3 s4
    refine ⟨tb4, fun H5 f fo cells c oc bp5 tb5 hf L outer s hin => ?_⟩
    have bp05 : ButP P3 H H5 := fun a o e n => bp5 _ _ (bp4 _ _ e n) n
    refine turn (by rfl) bp05 tb5 L hin fun D5 H6 s6 hD5 => ?_
    refine ⟨_, rfl, _, _, dat_bools hD5, dat_bools (cmp (D1 := D1) bp05 s6), lay_bools _ _ _, lay_bools _ _ _, by have := dep_bools b1 b2 b3; omega, ?_⟩
    rw [eqv_bools]
    exact q _ (fun a o e n => s6 _ _ (bp05 _ _ e n)) (tab_same tb5 s6)
end
end Pr
set_option Elab.async false
set_option linter.all false
set_option maxRecDepth 100000
/-! the table of a set: its places rise -/
namespace Ss
open PySem
end Ss
set_option Elab.async false
set_option linter.all false
set_option maxRecDepth 100000
/-! a set: made, added to -/
namespace Ss
open PySem
section
variable {prog : Program} {w : World} {K : Type} [DecidableEq K] {knd : KeyKind prog w K} {A : Around} {E : Value → Shared → Prop} {s : Shared} {a : Addr} {es : Array (Int × Value)}
end
end Ss
set_option Elab.async false
set_option linter.all false
set_option maxRecDepth 100000
/-! a set walked through: in some order -/
namespace Ss
open PySem
section
variable {prog : Program} {w : World} {A : Around} {E : Value → Shared → Prop} {s : Shared}
end
end Ss
set_option Elab.async false
set_option linter.all false
set_option maxRecDepth 100000
namespace Ss
open PySem PyProof.Rows
namespace SF
end SF
end Ss
set_option Elab.async false
set_option linter.all false
set_option maxRecDepth 100000
namespace Ss
open PySem PyProof.Rows
section
variable {prog : Program} {w : World} {A : Around} {E : Value → Shared → Prop} {s : Shared} {it a : Addr} {es : Array (Int × Value)} {ep : Nat} {t : SetTable}
end
end Ss
set_option Elab.async false
set_option linter.all false
set_option maxRecDepth 100000
namespace Ss
open PySem PyProof.Rows
section
variable {prog : Program} {w : World} {A : Around} {E : Value → Shared → Prop} {s : Shared} {it a : Addr} {es : Array (Int × Value)} {ep : Nat} {t : SetTable}
end
end Ss
set_option Elab.async false
set_option linter.all false
set_option maxRecDepth 100000
namespace Ss
open PySem PyProof.Rows
section
variable {prog : Program} {w : World} {A : Around} {E : Value → Shared → Prop} {s : Shared} {a : Addr} {es : Array (Int × Value)}
end
end Ss
set_option Elab.async false
set_option linter.all false
set_option maxRecDepth 100000
/-! SETS of ints and texts: comprehensions, sorted. -/
namespace L2
open PySem PySem.Spec PyProof.Rows
section
variable {X : Cx} {pins : List (Addr × Obj)} {σ : St} {H : Hp} {s : Shared}
end

section
variable {X : Cx} {pins : List (Addr × Obj)} {σ : St} {H : Hp} {s : Shared} {xs Ns : List Str} {sc : Scope} {C : Addr} {fp : List Addr}
end
section
variable {X : Cx} {xs Ns : List Str} {sc : Scope} {elt iter tg : Expr} {ifs : List Expr} {pos : Pos} {wi : TI} {g : TG} {tc : TT} {te : TE}
end
end L2
set_option Elab.async false
set_option linter.all false
set_option maxRecDepth 100000
/-! the first run of a sort of ints of any number: what stands behind the run stays as it was -/
namespace Sg
open PySem PyProof.Rows
section
variable {prog : Program} {w : World} {A : Around} {E : Value → Shared → Prop} {s : Shared} {a₀ : Array Keyed}
end
end Sg
set_option Elab.async false
set_option linter.all false
set_option maxRecDepth 100000
/-! galloping, and the one merge that is needed -/
namespace Sg
open PySem PyProof.Rows
end Sg
set_option Elab.async false
set_option linter.all false
set_option maxRecDepth 100000
namespace Sg
open PySem PyProof.Rows
section
variable {prog : Program} {w : World} {A : Around} {E : Value → Shared → Prop} {s : Shared} {a₀ : Array Keyed}
end
end Sg
set_option Elab.async false
set_option linter.all false
set_option maxRecDepth 100000
namespace Sg
open PySem PyProof.Rows
section
variable {prog : Program} {w : World} {A : Around} {E : Value → Shared → Prop} {s : Shared} {a₀ : Array Keyed}
end
end Sg
set_option Elab.async false
set_option linter.all false
set_option maxRecDepth 100000
namespace Sg
open PySem PyProof.Rows
section
variable {prog : Program} {w : World} {A : Around} {E : Value → Shared → Prop} {s : Shared} {a₀ : Array Keyed}
end
end Sg
set_option Elab.async false
set_option linter.all false
set_option maxRecDepth 100000
/-! sorted(xs) of ints, of any number up to a thousand, where but for one of the first two all stand in order -/
namespace Sg
open PySem PyProof.Rows
section
variable {prog : Program} {w : World} {A : Around} {E : Value → Shared → Prop} {s : Shared}
end
end Sg
set_option Elab.async false
set_option linter.all false
set_option maxRecDepth 100000
/-! sorted(xs) of ints, sorted(a set of ints) -/
namespace L2
open PySem PySem.Spec PyProof.Rows
theorem Inv.drawn {X : Cx} {pins : List (Addr × Obj)} {σ : St} {H : Hp} {s : Shared} (d : Drawn) (I : Inv X pins σ H s) : Inv X pins σ H { s with drawn := d } := ⟨I.ok, I.os, I.bare, I.base, I.loc, I.cell, I.free, I.freeC, I.pin, I.hok, I.len⟩
section
variable {X : Cx}
end
end L2
set_option Elab.async false
set_option linter.all false
set_option maxRecDepth 100000
/-! sorted of a list of texts -/
namespace Srt
open PySem
end Srt
namespace L2
open PySem PySem.Spec PySem.W PyProof.Rows
open Classical in
noncomputable def newsOf (base h : Heap) (L : Addr) : List (Addr × Obj) := (List.range h.objs.size).filterMap fun b => if b = L ∨ base.get? b ≠ none then none else (h.get? b).map fun o => (b, o)
theorem newsOf_news (base h : Heap) (L : Addr) : News base L h (newsOf base h L) := by
  intro p hp
  unfold newsOf at hp
  obtain ⟨b, _, e⟩ := List.mem_filterMap.mp hp
  split at e
  · cases e
  · rename_i hn
    obtain ⟨o, ho, rfl⟩ := Option.map_eq_some_iff.mp e
    exact ⟨ho, fun z => hn (.inl z), Classical.byContradiction fun z => hn (.inr z)⟩
theorem newsOf_mem {base h : Heap} {L b : Addr} {o : Obj} (e : h.get? b = some o) (hL : b ≠ L) (hb : base.get? b = none) : (b, o) ∈ newsOf base h L := by
  unfold newsOf
  refine List.mem_filterMap.mpr ⟨b, List.mem_range.mpr (Heap.lt_size e), ?_⟩
  rw [if_neg (by rintro (z | z); exact hL z; exact z hb), e]
  rfl
section
variable {X : Cx} {pins : List (Addr × Obj)} {σ : St} {H : Hp} {s : Shared}
/-- all objects but the frame's own stay, and its names stay -/
theorem Inv.ofFr {h' : Heap} {t' : Nat} {m : Str → Option Value} {more : List (Addr × Obj)} (I : Inv X pins σ H s) (hm : s.heap.Ns X.env.locals m) (F : Fr X.base X.env.locals h' m) (N : News X.base X.env.locals h' (more ++ newsOf X.base s.heap X.env.locals)) :
    (∀ b o, b ≠ X.env.locals → s.heap.get? b = some o → h'.get? b = some o) ∧ Inv X pins σ H { s with heap := h', toks := t' } := by
  have keep : ∀ b o, b ≠ X.env.locals → s.heap.get? b = some o → h'.get? b = some o := fun b o hb e => by
    cases q : X.base.get? b with
    | some o' =>
      have e1 := I.bk b o' q
      rw [e] at e1
      cases e1
      exact F.keep b o q
    | none => exact (N (b, o) (List.mem_append_right _ (newsOf_mem e hb q))).1
  have hL : ∃ o, s.heap.get? X.env.locals = some o := let ⟨o, _, _, e, _⟩ := hm; ⟨o, e⟩
  refine ⟨keep, I.step (g' := s.gens) (d' := s.drawn) (ch := []) (fun b hb => by simp at hb) (fun b o hb _ _ e _ => keep b o hb e) (fun b o hb _ _ e _ => ⟨o.slots, keep b o hb e⟩) (fun _ _ _ _ n => n) (fun b o _ e => ?_) (fun _ _ e => e) (fun _ _ _ e => e) (fun b ps e => ⟨#[], by rw [e]; simp⟩) (fun m' hm' => ?_) (fun b u e => ?_) I.bare⟩
  · by_cases hb : b = X.env.locals
    · obtain ⟨o', _, _, e', _⟩ := F.ns
      exact ⟨o', by rw [hb]; exact e'⟩
    · exact ⟨o, keep b o hb e⟩
  · have em : m' = m := by
      funext y
      obtain ⟨o, es, ep, ho, hd, hk, hf⟩ := hm
      obtain ⟨o', es', ep', ho', hd', hk', hf'⟩ := hm'
      rw [ho] at ho'; cases ho'
      rw [hd] at hd'; cases hd'
      rw [← hf y, ← hf' y]
    rw [em]; exact F.ns
  · refine (I.hok b u e).stay (fun c v hc q => keep c v ?_ q) (fun _ q => q) fun _ _ q => q
    rintro rfl
    rcases hc with rfl | hc
    · rw [I.free] at e; cases e
    · rw [I.free] at hc; cases hc
theorem Inv.trackG {a : Addr} {o : HO} {ob : Obj} (I : Inv X pins σ H s) (he : s.heap.get? a = some ob) (nL : X.env.locals ≠ a) (nd : ∀ v, ob.data ≠ .cell v) (hn : H a = none) (x0 : X.s₀.heap.get? a = none) (xp : ∀ p ∈ X.pn ++ pins, p.1 ≠ a) (new : ObjOk X.prog X.w (upd H a o) s.heap a o) : Inv X pins σ (upd H a o) s := by
  have na : ∀ {b u}, H b = some u → b ≠ a := fun {b u} e z => by rw [z, hn] at e; cases e
  refine ⟨I.ok, I.os, I.bare, ⟨I.base.keep, I.base.slot, fun b o e n hx => ?_, I.base.there, fun b xs e => ?_, fun b o u e => ?_, fun b ps e => ?_⟩, I.loc, I.cell, ?_, fun y c e => ?_, fun p hp => ?_, fun b ob' e => ?_, I.len⟩
  · rw [upd_ne (fun z => by rw [z, x0] at e; cases e)]; exact I.base.free b o e n hx
  · have e1 := I.base.tups b xs e
    rw [upd_ne (na e1)]; exact e1
  · have e1 := I.base.frzs b o u e
    rw [upd_ne (na e1)]; exact e1
  · obtain ⟨m, e1⟩ := I.base.tbls b ps e
    exact ⟨m, by rw [upd_ne (na e1)]; exact e1⟩
  · rw [upd_ne nL]; exact I.free
  · have nc : c ≠ a := fun z => by
      obtain ⟨v, o, ho, hdd⟩ := I.cell y c e
      rw [z, he] at ho; cases ho; exact nd _ hdd
    rw [upd_ne nc]; exact I.freeC y c e
  · obtain ⟨e1, e2, e3⟩ := I.pin p hp
    exact ⟨e1, by rw [upd_ne (xp p hp)]; exact e2, e3⟩
  · by_cases hb : b = a
    · subst hb
      rw [upd_same] at e
      cases e
      exact new
    · rw [upd_ne hb] at e
      refine (I.hok b ob' e).stay (fun c u _ q => q) (fun c q => ?_) fun c xs q => ?_
      · rw [upd_ne (na q)]; exact q
      · rw [upd_ne (na q)]; exact q
end
end L2
set_option Elab.async false
set_option linter.all false
set_option maxRecDepth 100000
/-! sorted of a set of texts -/
namespace L2
open PySem PySem.Spec PySem.W PyProof.Rows
section
variable {X : Cx}
end
end L2
set_option Elab.async false
set_option linter.all false
set_option maxRecDepth 100000
/-! sorted of a list of one thing, or none -/
namespace L2
open PySem PySem.Spec PyProof.Rows
section
variable {prog : Program} {w : World} {A : Around} {E : Value → Shared → Prop} {s : Shared}
theorem sort_small {a : Addr} {vs : List Value} {n : Nat} {P : PySem.Fin → Shared → Prop} (ho : s.heap.get? a = some (seqObj "list" vs.toArray n)) (h2 : vs.length < 2) (h : P (.done (.ret .none)) { s with heap := sortedHeap s.heap a vs vs.toArray }) : wpAny (model prog w) A (Builtin.«list.sort» ⟨[.ref a], []⟩) P E s := by
  rw [list_sort_plain]
  have ha := Heap.lt_size ho
  have hz : vs.length ≤ sizeLine := by rw [sizeLine_eq]; omega
  refine wpAny_bind (listItems_at ho rfl (wpAny_bind (listUpdate_at ho rfl ?_ (by rw [List.size_toArray]; exact hz) (Nat.zero_le _))))
  obtain ⟨e1, ho1⟩ : ∃ e1, (s.heap.update a (Obj.mapSeq fun _ => (#[] : Array Value))).get? a = some (seqObj "list" #[] e1) := ⟨_, get?_update_seq ho fun _ => #[]⟩
  refine wpAny_bind (seqEpoch_at ho1 rfl (wpAny_bind (wpAny_newTuple (wpAny_bind (wpAny_newList (wpAny_holding ?_) (Nat.zero_le _))) hz)))
  have ho6 : (((s.heap.update a (Obj.mapSeq fun _ => (#[] : Array Value))).push (seqObj "tuple" vs.toArray 0)).push (seqObj "list" #[] 0)).get? a = some (seqObj "list" #[] e1) := Heap.get?_push_of_some _ (Heap.get?_push_of_some _ ho1)
  show wpAny (model prog w) A _ P E { s with heap := ((s.heap.update a (Obj.mapSeq fun _ => (#[] : Array Value))).push (seqObj "tuple" vs.toArray 0)).push (seqObj "list" #[] 0) }
  dsimp only
  have hs2 : vs.toArray.size < 2 := by rw [List.size_toArray]; exact h2
  rw [if_pos hs2, if_pos hs2]
  refine wpAny_bind (wpAny_pure ?_)
  rw [StateT.run_pure]
  refine wpAny_bind (wpAny_pure ?_)
  dsimp only
  have eo : (arrOf (SortSt.mk' general' (vs.toArray.zip vs.toArray) #[] 7 none)).map (·.2) = vs.toArray := by
    show (vs.toArray.zip vs.toArray).map (·.2) = vs.toArray
    refine Array.ext (by simp) fun i h1 h2 => by simp
  refine wpAny_bind (seqEpoch_at ho6 rfl (wpAny_bind (listUpdate_at ho6 rfl ?_ (Nat.zero_le _) (by rw [eo, List.size_toArray]; omega))))
  rw [eo]
  simp only [bne_self_eq_false, Bool.false_eq_true, if_false]
  exact wpAny_pure h
end
section
variable {X : Cx}
end
end L2
set_option Elab.async false
set_option linter.all false
set_option maxRecDepth 100000
/-! in order: sorted by (moment, key), over the hand layer. -/
namespace Srt
open PySem
end Srt
namespace L2
open PySem PySem.Spec PyProof.Rows
section
variable {X : Cx} {pins : List (Addr × Obj)} {σ : St} {H : Hp} {s : Shared}
theorem Paired.getR {α β : Type} {F : α → β → Prop} : ∀ {xs : List α} {ys : List β} {i : Nat} {y : β}, Paired F xs ys → ys[i]? = some y → ∃ x, xs[i]? = some x ∧ F x y
  | _, _, _, _, .nil, e => by simp at e
  | _, _, 0, _, .cons r _, e => by simp at e; subst e; exact ⟨_, rfl, r⟩
  | _, _, i + 1, y, .cons _ t, e => by
    obtain ⟨u, h1, h2⟩ := Paired.getR (i := i) (y := y) t (by simpa using e)
    exact ⟨u, by simpa using h1, h2⟩
end
section
variable {X : Cx} {k : Nat} {kf pn : Str} {e : Expr} {t : TA} {p pos kp kpos : Pos}
end
end L2
set_option Elab.async false
set_option linter.all false
set_option maxRecDepth 100000
/-! entries and bars, as data -/
namespace Ent
open PySem
/-! ### the order that a sort tells -/
/-! ### data that can be shown -/
end Ent
set_option Elab.async false
set_option linter.all false
set_option maxRecDepth 100000
/-! sorted of lists, tuples and sets of fewer than 64 things: one rule for what is collected -/
namespace L2
open PySem PySem.Spec PySem.W PyProof.Rows
section
variable {X : Cx} {pins : List (Addr × Obj)} {σ : St} {H : Hp} {s : Shared}
theorem vals_at {xs : List V} {vs : List Value} (rv : Vals xs vs) : ∀ l : List Nat, (∀ i ∈ l, i < xs.length) → Vals (l.map fun i => xs.getD i .non) (l.map fun i => vs.getD i Value.none)
  | [], _ => .nil
  | i :: r, hl => by
    have hi := hl i List.mem_cons_self
    obtain ⟨u, hu, ru⟩ := rv.get (List.getElem?_eq_getElem hi)
    rw [List.map_cons, List.map_cons]
    refine .cons ?_ (vals_at rv r fun j hj => hl j (List.mem_cons_of_mem _ hj))
    rw [List.getD_eq_getElem?_getD, List.getD_eq_getElem?_getD, hu, List.getElem?_eq_getElem hi]
    exact ru
theorem sorted_gen {p : Addr} {Q : VK} {PV : List Value → Prop} (hex : X.ex = []) (I : Inv X pins σ H s)
    (hcol : ∀ Q' : List Value → Shared → Prop, (∀ vs (h' : Heap) tk d, (∀ b o, s.heap.get? b = some o → h'.get? b = some o) → PV vs → Q' vs { s with heap := h', toks := tk, drawn := d }) → wpAny (model X.prog X.w) X.A.in1 (collect (.ref p)) Q' X.xe s)
    (hgo : ∀ vs, PV vs → ∃ (xs : List V) (lt : Nat → Nat → Bool), Vals xs vs ∧ xs.length < 64 ∧ (∀ s', Inv X pins σ H s' → 2 ≤ xs.length → ∃ κ, Asks X xs.length vs s' κ lt) ∧
      ∀ D (is : List Nat), is.Perm (List.range xs.length) → is.Pairwise (Srt.R lt) → H D = none → Q (.ref D) (upd H D (.lst (is.map fun i => xs.getD i .non)))) :
    wpAny (model X.prog X.w) X.A (call (.builtin "sorted") [.ref p]) (EP X pins σ Q) X.xe s := by
  refine Calls.call_function_entry kind_sorted plain_sorted entry_sorted (args_sorted1 _) ?_
  unfold Builtin.«sorted»
  refine wpAny_bind (m := checkCount "sorted" 1 1 _) (wpAny_pure (wpAny_bind (hcol _ fun vs h' tk d keep pv => ?_)))
  obtain ⟨xs, lt, rv, h64, hask, q⟩ := hgo vs pv
  have hlen : xs.length = vs.length := rv.length
  have hz : vs.length ≤ sizeLine := by rw [sizeLine_eq]; omega
  refine wpAny_bind (wpAny_newList ?_ hz)
  have oL : (h'.push (seqObj "list" vs.toArray 0)).get? h'.objs.size = some (seqObj "list" vs.toArray 0) := Heap.get?_push_size _ rfl
  have I1 : Inv X pins σ H { s with heap := h', toks := tk, drawn := d } := (I.kept (t' := tk) keep).drawn d
  by_cases h2 : vs.length < 2
  · refine wpAny_bind (wpAny_holding (wpAny_call_entry slot_list_sort (s := { s with heap := h'.push (seqObj "list" vs.toArray 0), toks := tk, drawn := d }) ⟨_, oL, rfl⟩ entry_list_sort (sort_small oL h2 ⟨_, rfl, wpAny_pure ⟨_, rfl, ?_⟩⟩) (args_list_sort _)))
    obtain ⟨e, he⟩ := sortedHeap_at (out := vs.toArray) oL
    have hq : Q (.ref h'.objs.size) (upd H h'.objs.size (.lst xs)) := by
      have := q h'.objs.size (List.range xs.length) (List.Perm.refl _) (by
        match xs, hlen with
        | [], _ => exact List.Pairwise.nil
        | [_], _ => exact List.pairwise_singleton _ _
        | _ :: _ :: _, e => simp only [List.length_cons] at e; omega) (I1.hok.fresh (Nat.le_refl _))
      have e2 : ((List.range xs.length).map fun i => xs.getD i .non) = xs := by
        apply List.ext_getElem (by simp)
        intro i h1 h2
        rw [List.getElem_map, List.getElem_range, List.getD_eq_getElem?_getD, List.getElem?_eq_getElem h2]
        rfl
      rw [e2] at this
      exact this
    refine ⟨.ref h'.objs.size, _, I1.laid (t' := tk) (o := .lst xs) (fun b u e => ?_) (Nat.le_refl _) ⟨by rw [sizeLine_eq]; omega, vs, e, rv, he⟩, rfl, hq⟩
    have hb := Heap.lt_size e
    rw [sortedHeap_old (Nat.ne_of_lt hb) (by rw [size_push']; exact Nat.lt_succ_of_lt hb)]
    exact Heap.get?_push_of_some _ e
  obtain ⟨m, hm, _⟩ := id I1.loc
  have gk : ∀ b o, h'.get? b = some o → (h'.push (seqObj "list" vs.toArray 0)).get? b = some o := fun b o e => Heap.get?_push_of_some _ e
  have F : Fr X.base X.env.locals (h'.push (seqObj "list" vs.toArray 0)) m := ⟨hm.keeps gk, fun b o e => gk b o (I1.bk b o e), Nat.le_trans I.ok.bsz I.ok.above⟩
  have N : News X.base X.env.locals (h'.push (seqObj "list" vs.toArray 0)) (newsOf X.base h' X.env.locals) := (newsOf_news X.base h' X.env.locals).grown gk
  have hLl : X.env.locals < h'.objs.size := I1.lt
  refine wpAny_bind (wpAny_holding (wpAny_call_entry slot_list_sort (s := { s with heap := h'.push (seqObj "list" vs.toArray 0), toks := tk, drawn := d }) ⟨_, oL, rfl⟩ entry_list_sort ?body (args_list_sort _)))
  case body =>
    refine kat_list_sort (s := { s with heap := h'.push (seqObj "list" vs.toArray 0), toks := tk, drawn := d }) F N oL (Nat.ne_of_gt hLl) (Heap.get?_none_of_le (Nat.le_trans I.ok.bsz (Nat.le_trans I.ok.above (Nat.le_of_lt hLl)))) (fun p hp => Nat.ne_of_lt (Heap.lt_size ((newsOf_news X.base h' X.env.locals) p hp).1)) (by omega) (by omega) fun e1 h3 F3 N3 => ?_
    obtain ⟨_, I3⟩ := I1.ofFr (t' := tk) (more := [(h'.objs.size, seqObj "list" #[] e1)]) hm F3 N3
    obtain ⟨κ, ak⟩ := hask _ I3 (by omega)
    refine ak.kind (by omega) _ ?_
    refine Srt.good_wp (n := vs.length) (lt := lt) (fun i j C hi hj hC => ak.ask i j C (by omega) (by omega) hC) _ (Srt.good_mono (fun pp hp2 => ?_) _ (Srt.sort_ok ak.ord (by omega)))
    obtain ⟨o1, o2⟩ := Srt.out_ok hp2.1 hp2.2
    refine KasFin.intro F3 N3 (.head fun q hq => Nat.ne_of_lt (Heap.lt_size ((newsOf_news X.base h' X.env.locals) q hq).1)) fun h4 c F4 N4 => ⟨_, rfl, wpAny_pure ⟨_, rfl, ?_⟩⟩
    obtain ⟨kp, I4⟩ := I1.ofFr (t' := tk) (more := [(h'.objs.size, listOf (List.toArray (pp.toList.map fun i => vs.getD i Value.none)) c)]) hm F4 N4
    obtain ⟨d1, d2, d3⟩ := N4 _ List.mem_cons_self
    have hD : H h'.objs.size = none := I1.hok.fresh (Nat.le_refl _)
    have x0 : X.s₀.heap.get? h'.objs.size = none := by
      cases e : X.s₀.heap.get? h'.objs.size with
      | none => rfl
      | some o =>
        obtain ⟨o', e2⟩ := I1.base.there _ o e (by rw [hex]; simp)
        exact absurd (Heap.lt_size e2) (Nat.lt_irrefl _)
    have xp : ∀ p ∈ X.pn ++ pins, p.1 ≠ h'.objs.size := fun p hp z => absurd (Heap.lt_size (I1.pin p hp).1) (by rw [z]; exact Nat.lt_irrefl _)
    have vls := vals_at rv pp.toList fun i hi => by rw [hlen]; exact List.mem_range.mp (o1.mem_iff.mp hi)
    refine ⟨.ref h'.objs.size, _, I4.trackG (o := .lst (pp.toList.map fun i => xs.getD i .non)) d1 (Ne.symm d2) (fun v z => nomatch z) hD x0 xp ⟨?_, _, c, vls, d1⟩, rfl, q _ _ (by rw [hlen]; exact o1) o2 hD⟩
    rw [List.length_map, o1.length_eq, List.length_range, sizeLine_eq]; omega
end
section
variable {X : Cx}
end
end L2
/-! ### tuples (int, text, int) -/
namespace Srt
open PySem
end Srt
namespace L2
open PySem PySem.Spec PySem.W PyProof.Rows
section
variable {X : Cx} {pins : List (Addr × Obj)} {σ : St} {H : Hp} {s : Shared}
end
end L2
set_option Elab.async false
set_option linter.all false
set_option maxRecDepth 100000
/-! sorted of a dict whose keys are ints -/
namespace L2
open PySem PySem.Spec PySem.W PyProof.Rows
end L2
set_option Elab.async false
set_option linter.all false
set_option maxRecDepth 100000
/-! more: products of wide numbers, a <= b <= c <= d, slices of a list or a tuple -/
namespace L2
open PySem PySem.Spec PyProof.Rows
section
variable {X : Cx} {a b c d : Expr} {ta tb tc td : TE} {pos : Pos}
end
end L2
set_option Elab.async false
set_option linter.all false
set_option maxRecDepth 100000
/-! list(d) of a dict with tuples for keys; x in a list of data -/
namespace L2
open PySem PySem.Spec PyProof.Rows
section
variable {X : Cx}
theorem vals_refs : ∀ bs : List Addr, Vals (bs.map V.ref) (bs.map Value.ref)
  | [] => .nil
  | b :: bs => .cons rfl (vals_refs bs)
end
end L2
set_option Elab.async false
set_option linter.all false
set_option maxRecDepth 100000
/-! sorted of a dict whose keys are pairs of ints -/
namespace Srt
abbrev T2 := Int × Int
def tlt2 (a b : T2) : Bool := if a.1 = b.1 then decide (a.2 < b.2) else decide (a.1 < b.1)
theorem tlt2_iff {a b : T2} : tlt2 a b = true ↔ a.1 < b.1 ∨ (a.1 = b.1 ∧ a.2 < b.2) := by
  unfold tlt2
  by_cases e : a.1 = b.1
  · rw [if_pos e, decide_eq_true_iff]; omega
  · rw [if_neg e, decide_eq_true_iff]; omega
theorem tlt2_no {a b : T2} : tlt2 a b = false ↔ ¬ (a.1 < b.1 ∨ (a.1 = b.1 ∧ a.2 < b.2)) := by
  rw [← tlt2_iff]; cases tlt2 a b <;> simp
def ltP (es : List T2) (i j : Nat) : Bool := tlt2 (es.getD i (0, 0)) (es.getD j (0, 0))
theorem ltP_ord (es : List T2) : Ord (ltP es) := ⟨fun {a b} h => by
  unfold ltP at h ⊢
  rw [tlt2_iff] at h
  rw [tlt2_no]
  omega, fun {a b c} h h' => by
  unfold ltP at h h' ⊢
  rw [tlt2_no] at h h' ⊢
  omega⟩
end Srt
namespace L2
open PySem PySem.Spec PySem.W PyProof.Rows
section
variable {X : Cx} {pins : List (Addr × Obj)} {σ : St} {H : Hp} {s : Shared}
abbrev Prs2 (H : Hp) : List V → List Srt.T2 → Prop := Paired fun x e => ∃ a, x = .ref a ∧ H a = some (.tup [.int e.1, .int e.2])
theorem tupI2_at (I : Inv X pins σ H s) {t : Addr} {m v : Int} (h : H t = some (.tup [.int m, .int v])) : ∃ o n tm tv, s.heap.get? t = some o ∧ o.cls = .type "tuple" ∧ o.data = .seq #[.int m tm, .int v tv] n := by
  obtain ⟨_, its, rv, o, ho, hc, n, hd⟩ := I.hok t _ h
  obtain ⟨u, v, rfl, ⟨tk, rfl⟩, ⟨tv, rfl⟩⟩ := vals2 rv
  exact ⟨o, n, tk, tv, ho, hc, hd⟩
theorem askI2 (I : Inv X pins σ H s) {A : Around} {t t' : Addr} {e e' : Srt.T2} (h : H t = some (.tup [.int e.1, .int e.2])) (h' : H t' = some (.tup [.int e'.1, .int e'.2])) {C : Bool → Shared → Prop} {E : Value → Shared → Prop} (q : C (Srt.tlt2 e e') s) :
    wpAny (model X.prog X.w) A (keyLt' (tuples' true) (.ref t) (.ref t')) C E s := by
  obtain ⟨o, n, tm, tv, ho, hc, hd⟩ := tupI2_at I h
  obtain ⟨o', n', tm', tv', ho', hc', hd'⟩ := tupI2_at I h'
  unfold Srt.tlt2 at q
  refine PySem.W.kat_lt ho hd ho' hd' ?_
  refine PySem.W.kat_cons (wpAny_eqBool_int (PySem.W.kat_go (fun e1 => PySem.W.kat_yes ?_) fun e1 => PySem.W.kat_no ?_))
  · have e1' : e.1 = e'.1 := by simpa using e1
    rw [if_pos e1'] at q
    refine PySem.W.kat_cons (wpAny_eqBool_int (PySem.W.kat_go (fun e3 => PySem.W.kat_yes (PySem.W.kat_nil ?_)) fun e3 => PySem.W.kat_no ?_))
    · have e3' : e.2 = e'.2 := by simpa using e3
      rw [decide_eq_false (by omega)] at q
      exact q
    · exact PySem.W.kat_one _ _ (lt_int q)
  · have e1' : ¬ e.1 = e'.1 := by simpa using e1
    rw [if_neg e1'] at q
    exact oneLt_int q
theorem kat_prs2 (I : Inv X pins σ H s) : ∀ {xs : List V} {ks : List Value} {es : List Srt.T2}, Vals xs ks → Prs2 H xs es → ∃ fs, PySem.W.KatTups s.heap ks fs ∧ fs.length = ks.length ∧ ∀ v ∈ fs, ∃ m tm, v = Value.int m tm
  | _, _, _, .nil, .nil => ⟨[], .nil, rfl, fun v h => nomatch h⟩
  | _, _, _, .cons rx rv, .cons ⟨t, e, h⟩ r => by
    obtain ⟨fs, h1, h2, h3⟩ := kat_prs2 I rv r
    obtain ⟨o, n, tm, tv, ho, hc, hd⟩ := tupI2_at I h
    subst e
    cases rx
    refine ⟨_ :: fs, .cons ho hc hd rfl h1, by rw [List.length_cons, List.length_cons, h2], fun v hv => ?_⟩
    rcases List.mem_cons.mp hv with rfl | hv
    · exact ⟨_, _, rfl⟩
    · exact h3 v hv
theorem kt_prs2 : ∀ {kvs : List (List Key × V)} {zs : List (List Key × Addr × Value)} {es : List Srt.T2}, KT H kvs zs → kvs.map (·.1) = es.map (fun e => [Sum.inl e.1, Sum.inl e.2]) → Prs2 H ((zs.map fun x => x.2.1).map V.ref) es
  | _, _, [], .nil, _ => .nil
  | _, _, e :: es, .nil, h => by cases h
  | _, _, [], .cons _ _, h => by cases h
  | _, _, e :: es, .cons (a := a) (b := b) r t, h => by
    rw [List.map_cons, List.map_cons] at h
    have h1 := (List.cons.inj h).1
    have h2 := r.2.1
    rw [h1] at h2
    exact .cons ⟨_, rfl, h2⟩ (kt_prs2 t (List.cons.inj h).2)
inductive cSrtP (vs : List V) (H : Hp) (Q : VK) : Prop
  | mk (p : Addr) (kvs : List (List Key × V)) (es : List Srt.T2) (e : vs = [.ref p]) (h : H p = some (.dT kvs)) (hk : kvs.map (·.1) = es.map (fun e => [Sum.inl e.1, Sum.inl e.2])) (h64 : es.length < 64)
      (q : ∀ D (ys : List V) (fs : List Srt.T2), Prs2 H ys fs → fs.Perm es → fs.Pairwise (fun a b => Srt.tlt2 b a = false) → H D = none → Q (.ref D) (upd H D (.lst ys))) : cSrtP vs H Q
theorem call_sorted_dT (hc : X.calm = true) (hex : X.ex = [] := by rfl) : CallR X (.builtin "sorted") cSrtP := by
  intro pins s σ H xs us Q I r h
  obtain ⟨p, kvs, es, rfl, hp, hk, h64, q⟩ := h
  obtain ⟨u, rfl, rx⟩ := vals1 r
  cases rx
  obtain ⟨z, hd, zs, kt, o, ds, ep, h1, h2, h3, h4, h5⟩ := (show ObjOk X.prog X.w H s.heap p (.dT kvs) from I.hok p _ hp)
  have tr := kt_prs2 kt hk
  have hl : ((zs.map fun x => x.2.1).map V.ref).length = es.length := Paired.length tr
  have hlen : ds.size = zs.length := by
    have e1 : ds.toList.length = zs.length := by rw [h4, List.length_map]
    simp at e1
    exact e1
  have hh : X.A.in1.handled = none := I.ok.hd hc
  refine sorted_gen (PV := fun vs => vs = (zs.map fun x => x.2.1).map Value.ref) hex I (fun Q' hq => ?_) fun vs rv => ?_
  · refine kdu_collect (Dx.src (es := ds) (ep := ep) hd) hh ⟨o, h1, h2, h3⟩ (by rw [hlen, ← Paired.length kt]; exact z) fun h' tk acc keep hacc => hq _ h' tk s.drawn keep ?_
    refine List.ext_getElem? fun j => ?_
    rw [List.getElem?_map, List.getElem?_map, Array.getElem?_toList]
    have el : ds[j]? = (zs[j]?).map (entryOfKey (tupleKind (mixKind X.prog X.w))) := entry_at h4 j
    by_cases hj : j < acc.size
    · obtain ⟨e, he, hv⟩ := hacc.2 j acc[j] (Array.getElem?_eq_getElem hj)
      rw [el] at he
      rw [Array.getElem?_eq_getElem hj, hv]
      cases hz : zs[j]? with
      | none => rw [hz] at he; cases he
      | some x => rw [hz] at he; cases he; rfl
    · have hz : zs[j]? = none := by
        refine List.getElem?_eq_none ?_
        have e1 := hacc.1
        omega
      rw [Array.getElem?_eq_none (by omega), hz]
      rfl
  · subst rv
    have rv : Vals ((zs.map fun x => x.2.1).map V.ref) ((zs.map fun x => x.2.1).map Value.ref) := vals_refs _
    refine ⟨_, Srt.ltP es, rv, by omega, fun s' I' h2 => ⟨tuples' true, Srt.ltP_ord es, fun _ Q' hQ => ?_, fun i j C hi hj hC => ?_⟩, fun D is p1 p2 hD => ?_⟩
    · obtain ⟨fs, t1, t2, t3⟩ := kat_prs2 I' rv tr
      have := rv.length
      refine PySem.W.kat_kind (T := .type "int") t1 (by omega) (fun v hv => ?_) (by decide +kernel) ?_
      · obtain ⟨m, tm, rfl⟩ := t3 v hv
        exact PySem.W.Looks.of_pure rfl
      · exact hQ
    · have hi' : es[i]? = some es[i] := List.getElem?_eq_getElem (by omega)
      have hj' : es[j]? = some es[j] := List.getElem?_eq_getElem (by omega)
      obtain ⟨u, eu, t, rfl, ht⟩ := Paired.getR tr hi'
      obtain ⟨u', eu', t', rfl, ht'⟩ := Paired.getR tr hj'
      obtain ⟨w1, hw1, r1⟩ := rv.get eu
      obtain ⟨w2, hw2, r2⟩ := rv.get eu'
      cases r1
      cases r2
      unfold PySem.W.kas_ask
      rw [List.getD_eq_getElem?_getD, List.getD_eq_getElem?_getD, hw1, hw2]
      refine askI2 I' ht ht' ?_
      unfold Srt.ltP at hC
      rw [List.getD_eq_getElem?_getD, List.getD_eq_getElem?_getD, hi', hj'] at hC
      exact hC
    · refine q D _ (is.map fun i => es.getD i (0, 0)) ?_ ?_ ?_ hD
      · have : ∀ l : List Nat, (∀ i ∈ l, i < es.length) → Prs2 H (l.map fun i => ((zs.map fun x => x.2.1).map V.ref).getD i .non) (l.map fun i => es.getD i (0, 0)) := fun l => by
          induction l with
          | nil => exact fun _ => .nil
          | cons i r ih =>
            intro hlt
            have hi := hlt i List.mem_cons_self
            have hi' : es[i]? = some es[i] := List.getElem?_eq_getElem hi
            obtain ⟨u, eu, t, e2, ht⟩ := Paired.getR tr hi'
            refine .cons ⟨t, ?_, ?_⟩ (ih fun j hj => hlt j (List.mem_cons_of_mem _ hj))
            · show ((zs.map fun x => x.2.1).map V.ref).getD i .non = _
              rw [List.getD_eq_getElem?_getD, eu, e2]; rfl
            · show H t = some (.tup [.int (es.getD i (0, 0)).1, .int (es.getD i (0, 0)).2])
              rw [List.getD_eq_getElem?_getD, hi']; exact ht
        exact this is fun i hi => by rw [← hl]; exact List.mem_range.mp (p1.mem_iff.mp hi)
      · have e0 : es = (List.range es.length).map fun i => es.getD i (0, 0) := by
          refine List.ext_getElem (by simp) fun i a b => ?_
          rw [List.getElem_map, List.getElem_range, List.getD_eq_getElem?_getD, List.getElem?_eq_getElem a]
          rfl
        rw [hl] at p1
        have := p1.map (fun i => es.getD i (0, 0))
        rw [← e0] at this
        exact this
      · exact List.pairwise_map.mpr (p2.imp fun {a b} h => h.elim (fun z => (Srt.ltP_ord es).1 z) fun z => z.1)
end
end L2
set_option Elab.async false
set_option linter.all false
set_option maxRecDepth 100000
/-! a, b, c = a list; f-strings -/
namespace L2
open PySem PySem.Spec PyProof.Rows
section
variable {prog : Program} {w : World} {A : Around} {E : Value → Shared → Prop} {s : Shared}
end
section
variable {X : Cx} {pos : Pos}
/-! ### f-strings -/
inductive rFmt (v : V) (H : Hp) (Q : VK) : Prop
  | int (i : Int) (e : v = .int i) (h : i.natAbs.log2 < 1920) (q : Q (.str (toString i)) H) : rFmt v H Q
  | str (z : Str) (e : v = .str z) (h : z.length ≤ sizeLine) (q : Q (.str z) H) : rFmt v H Q
def tFmt (t : TE) : TE := fun σ H Q => t σ H fun v H1 => rFmt v H1 Q
theorem pe_fmt {e : Expr} {te : TE} (he : PE X e te) : PE X (.FormattedValue e (-1) none pos) (tFmt te) := by
  refine ⟨?_⟩
  intro pins s σ H Q I h
  refine FormattedValue_plain (thn (he pins s σ H _ I h) fun u s1 ⟨v, H1, I1, r1, q1⟩ => ?_)
  cases q1 with
  | int i e hz q =>
    subst e
    obtain ⟨t, rfl⟩ := r1
    exact formatField_int_small hz ⟨.str _, H1, I1.tok _, ⟨_, rfl⟩, q⟩
  | str z e hz q =>
    subst e
    obtain ⟨t, rfl⟩ := r1
    exact formatField_str (fun t' tk => ⟨.str z, H1, I1.tok _, ⟨_, rfl⟩, q⟩) hz
def tJ : List TE → Str → TE
  | [], acc => fun _ H Q => acc.length ≤ sizeLine ∧ Q (.str acc) H
  | t :: ts, acc => fun σ H Q => t σ H fun v H1 => ∃ y, v = .str y ∧ (acc ++ y).length ≤ sizeLine ∧ tJ ts (acc ++ y) σ H1 Q
inductive PJs (X : Cx) : List Expr → List TE → Prop
  | nil : PJs X [] []
  | cons {e es t ts} (h : PE X e t) (hs : PJs X es ts) : PJs X (e :: es) (t :: ts)
theorem join_parts : ∀ {es : List Expr} {ts : List TE} (p : PJs X es ts) (acc : Str) (pins : List (Addr × Obj)) (s : Shared) (σ : St) (H : Hp) (Q : VK), Inv X pins σ H s → tJ ts acc σ H Q → wpAny (model X.prog X.w) X.A (joinParts acc (es.map fun e => eval e X.env)) (EP X pins σ Q) X.xe s
  | _, _, .nil, acc, pins, s, σ, H, Q, I, h => joinParts_nil ⟨.str acc, H, I.tok _, ⟨_, rfl⟩, h.2⟩ h.1
  | _, _, .cons he hs, acc, pins, s, σ, H, Q, I, h => by
    rw [List.map_cons]
    refine joinParts_cons (thn (he pins s σ H _ I h) fun u s1 ⟨v, H1, I1, r1, y, e, hz, q⟩ => ?_)
    subst e
    obtain ⟨t, rfl⟩ := r1
    exact ⟨hz, join_parts hs _ pins s1 σ H1 Q I1 q⟩
theorem pe_fstr {v₁ v₂ : Expr} {rest : List Expr} {ts : List TE} (p : PJs X (v₁ :: v₂ :: rest) ts) (he : evalEach (v₁ :: v₂ :: rest) X.env = (v₁ :: v₂ :: rest).map (fun e => eval e X.env) := by rfl) : PE X (.JoinedStr (v₁ :: v₂ :: rest) pos) (tJ ts Str.empty) := by
  refine ⟨?_⟩
  intro pins s σ H Q I h
  have z := join_parts p Str.empty pins s σ H Q I h
  rw [← he] at z
  exact JoinedStr_many z
end
end L2
set_option Elab.async false
set_option linter.all false
set_option maxRecDepth 100000
/-! things put one by one into order; words -/
namespace Srt
end Srt
namespace Ent
open PySem
/-! ### words -/
def ts (i : Int) : Str := Str.ofString (toString i)
theorem ts_len {i : Int} (h : i.natAbs < 10 ^ 40) : (ts i).length ≤ 41 := by
  unfold ts
  rw [ofString_length]
  exact int_text_length_le10 (k := 40) (by decide) h
theorem ts_log {i : Int} (h : i.natAbs < 10 ^ 40) : i.natAbs.log2 < 1920 := PySem.Spec.log2_small (Nat.lt_trans h (by decide +kernel))
theorem blank_len : ((" " : String) : Str).length = 1 := by decide
theorem sum_le {α : Type} {f : α → Nat} {n : Nat} : ∀ {l : List α}, (∀ x ∈ l, f x ≤ n) → (l.map f).sum ≤ l.length * n
  | [], _ => by simp
  | a :: l, h => by
    have h1 := sum_le fun x hx => h x (List.mem_cons_of_mem a hx)
    have h2 := h a List.mem_cons_self
    rw [List.map_cons, List.sum_cons, List.length_cons, Nat.add_mul]
    omega
theorem joinOk_le {ws : List Str} {n : Nat} (h : ∀ x ∈ ws, x.length ≤ n) (hn : ws.length * n + ws.length ≤ 100000) : PySem.JoinOk " " ws = true := by
  refine PyProof.Rows.joinOk_of ?_
  have := sum_le (f := fun x : Str => x.length) h
  rw [blank_len, Nat.mul_one]
  omega
end Ent
set_option Elab.async false
set_option linter.all false
set_option maxRecDepth 100000
/-! the locks' text -/
namespace Pr
open PySem L2 PyProof.Rows Any
theorem srt_uniq {α : Type} {le : α → α → Prop} (anti : ∀ a b, le a b → le b a → a = b) : ∀ {xs ys : List α}, xs.Perm ys → xs.Pairwise le → ys.Pairwise le → xs = ys
  | [], ys, p, _, _ => (List.Perm.nil_eq p)
  | x :: xs, [], p, _, _ => absurd p.symm.nil_eq (by simp)
  | x :: xs, y :: ys, p, h1, h2 => by
    have e : x = y := by
      have hx : x ∈ y :: ys := p.subset List.mem_cons_self
      have hy : y ∈ x :: xs := p.symm.subset List.mem_cons_self
      rcases List.mem_cons.mp hx with z | z
      · exact z
      · rcases List.mem_cons.mp hy with z2 | z2
        · exact z2.symm
        · exact anti x y ((List.pairwise_cons.mp h1).1 y z2) ((List.pairwise_cons.mp h2).1 x z)
    subst e
    rw [srt_uniq anti (List.Perm.cons_inv p) (List.pairwise_cons.mp h1).2 (List.pairwise_cons.mp h2).2]
theorem tle_anti (a b : Srt.T2) (h : Srt.tlt2 b a = false) (h' : Srt.tlt2 a b = false) : a = b := by
  rw [Srt.tlt2_no] at h h'
  obtain ⟨a1, a2⟩ := a
  obtain ⟨b1, b2⟩ := b
  dsimp only at h h'
  have e1 : a1 = b1 := by omega
  have e2 : a2 = b2 := by omega
  rw [e1, e2]
def wdP (p : BP) : Str := Ent.ts p.1 ++ "/" ++ Ent.ts p.2
/-- the text of some shut bars -/
def WT (prs : List BP) (t : Str) : Prop := ∃ fs : List BP, fs.Perm prs ∧ fs.Pairwise (fun a b => Srt.tlt2 b a = false) ∧ t = Txt.join " " (fs.map wdP)
theorem WT.one {prs : List BP} {t t' : Str} (h : WT prs t) (h' : WT prs t') : t = t' := by
  obtain ⟨fs, p, s, rfl⟩ := h
  obtain ⟨fs', p', s', rfl⟩ := h'
  rw [srt_uniq tle_anti (p.trans p'.symm) s s']
structure PrsOk (prs : List BP) : Prop where
  nd : prs.Nodup
  l : prs.length ≤ 20
  b : ∀ p ∈ prs, 0 ≤ p.1 ∧ p.1 ≤ 4 ∧ -W40 < p.2 ∧ p.2 < W40
theorem nat40 {i : Int} (h : -W40 < i) (h' : i < W40) : i.natAbs < 10 ^ 40 := by
  have hW : W40 = 10000000000000000000000000000000000000000 := rfl
  have e : (10 : Nat) ^ 40 = 10000000000000000000000000000000000000000 := by decide +kernel
  omega
section
variable {P : Program} {w : World} {K : PySem.W.Frag} {mg : Str → Option Value} {base : Heap} {C : Addr}
inductive sp_written (Dc : Addr) (vs : List V) (H : Hp) (Q : VK) (E : XK) : Prop
  | mk (p x d : Addr) (prs : List BP) (e0 : vs = [.ref p]) (hK : LockAt Dc H p x d prs) (ok : PrsOk prs) (q : ∀ t H', Same H H' → WT prs t → Q (.str t) H') : sp_written Dc vs H Q E
theorem sc_written : FnScope ["self"] ["self"] (defScope sm_Locks_written) := ⟨rfl, rfl, rfl, by decide +kernel, rfl, by decide +kernel, by decide +kernel⟩
set_option maxHeartbeats 4000000 in
theorem written (T : Txt K mg C) : CanM P w K mg base (cOf mg "Locks") 1 "written" ["self"] (sp_written (cOf mg "Locks")) := by
  refine fm_can T.m_Locks_written sc_written (fun vs H Q E h => ?_) (fun f cdv A outer s H vs Q E hr h => ?_)
  · obtain ⟨p, x, d, prs, rfl, _⟩ := h
    rfl
  · obtain ⟨p, x, d, prs, rfl, ⟨⟨dx, hp⟩, hd⟩, ok, q⟩ := h
    refine ⟨_, (pss_one (ps_ret (pe_bmK K PySem.F.plainAttrs_str PySem.F.slot_str_join PySem.F.type_str_join mt_join pe_str (pa1 (pe_ln (xs := ["roll", "number"]) (Ns := ["self"]) rfl (lnS _ sc_written) (pi_listK K (pe_b (call_sorted_dT rfl) T.b_sorted boot_sorted (pa1 (pe_fldK K (pv 0) rfl)))) (pg_pair rfl (lnS _ sc_written)) (fun _ _ _ _ => pts_nil) (fun _ _ _ _ => (pe_fstr (.cons (pe_fmt (pv 0)) (.cons pe_str (.cons (pe_fmt (pv 1)) .nil)))))))))), ?_⟩
    have hkeys : (sd prs).map (·.1) = prs.map (fun e => [Sum.inl e.1, Sum.inl e.2]) := by unfold sd; rw [List.map_map]; rfl
    refine ⟨rfl, _, rfl, p, _, dx, _, _, rfl, hp, T.cl_Locks, T.n_Locks_shut_pairs, rfl, d, _, prs, rfl, hd, hkeys, by have := ok.l; omega, fun L ys fs pr pm srt hL => ?_⟩
    have sL := Same.upd (H := H) (o := .lst ys) hL
    refine ⟨L, rfl, ⟨_, .of upd_same⟩, fun D hD => ?_⟩
    have hfl : fs.length = prs.length := pm.length_eq
    have hyl : ys.length = fs.length := pr.length
    have pl := ok.l
    refine lcN_list (xs := ys) (fun i zs H1 => H1 D = some (.lst zs) ∧ Same (upd H L (.lst ys)) H1 ∧ zs = ((fs.take i).map wdP).map V.str) ⟨upd_same, Same.upd hD, rfl⟩ (fun i zs H1 h => ⟨h.1, .of (h.2.1 _ _ upd_same)⟩) (fun zs H1 h => ?_) fun i x' zs H1 u hu hi hx h => ?_
    · obtain ⟨h1, h2, rfl⟩ := h
      rw [hyl, List.take_length] at h1
      refine ⟨_, D, _, rfl, rfl, .of h1, Ent.joinOk_le (n := 90) (fun t ht => ?_) (by rw [List.length_map]; omega), q _ H1 (sL.trans h2) ⟨fs, pm, srt, rfl⟩⟩
      obtain ⟨e, he, rfl⟩ := List.mem_map.mp ht
      have hb := ok.b e (pm.subset he)
      have hW : W40 = 10000000000000000000000000000000000000000 := rfl
      have l1 : (Ent.ts e.1).length ≤ 41 := Ent.ts_len (nat40 (by omega) (by omega))
      have l2 : (Ent.ts e.2).length ≤ 41 := Ent.ts_len (nat40 hb.2.2.1 hb.2.2.2)
      have l3 : (("/" : String) : Str).length = 1 := by decide
      unfold wdP
      simp only [Str.length_append]
      omega
    · obtain ⟨h1, h2, rfl⟩ := h
      obtain ⟨u1, u2, rfl⟩ := len2 hu
      obtain ⟨e, he, t, rfl, ht⟩ := Paired.get pr hx
      have hb := ok.b e (pm.subset (List.mem_of_getElem? he))
      have hW : W40 = 10000000000000000000000000000000000000000 := rfl
      have n1 : e.1.natAbs < 10 ^ 40 := nat40 (by omega) (by omega)
      have n2 : e.2.natAbs < 10 ^ 40 := nat40 hb.2.2.1 hb.2.2.2
      have l1 : (Str.ofString (toString e.1)).length ≤ 41 := Ent.ts_len n1
      have l2 : (Str.ofString (toString e.2)).length ≤ 41 := Ent.ts_len n2
      have l3 : (Str.ofString "/").length = 1 := by decide
      have lE : Str.empty.length = 0 := rfl
      refine ⟨t, _, rfl, .of (h2 _ _ (sL _ _ ht)), rfl, _, _, rfl, _, _, rfl, rfl, ⟨[some (.int e.1), some (.int e.2)], rfl, rfl⟩, yesI ?_⟩
      refine ⟨_, rfl, .int _ rfl (Ent.ts_log n1) ⟨_, rfl, line1 (by simp only [Str.length_append]; omega), _, rfl, line1 (by simp only [Str.length_append]; omega), _, rfl, .int _ rfl (Ent.ts_log n2) ⟨_, rfl, line1 (by simp only [Str.length_append]; omega), line1 (by simp only [Str.length_append]; omega), ?_⟩⟩⟩
      refine LcNx.mk hi (by omega) (by rw [List.length_map, List.length_map, List.length_take]; omega) h1 ⟨upd_same, ?_, ?_⟩
      · exact fun b o z => by rw [upd_ne (ne_of_none z hD)]; exact h2 _ _ z
      · rw [Str.empty_append, List.take_add_one, he]
        simp [wdP, Ent.ts]
end
end Pr
set_option Elab.async false
set_option linter.all false
set_option maxRecDepth 100000
/-! the law -/
namespace Pr
open PySem L2 PyProof.Rows Any
abbrev q1 : Str := "law.<locals>.<lambda>"
abbrev q3 : Str := "_law_three.<locals>.<lambda>"
/-- all but tables is kept -/
def KT (H H' : Hp) : Prop := ∀ b o, H b = some o → (∀ ps, o ≠ .tbl ps) → H' b = some o
theorem KT.seq {K : PySem.W.Frag} {H H' : Hp} {a : Addr} {xs : List V} (k : KT H H') (h : SqL K H a xs) : SqL K H' a xs := by
  rcases h with h | h
  · rcases h with h | ⟨o, h⟩
    · exact .inl (.inl (k _ _ h (fun _ z => nomatch z)))
    · exact .inl (.inr ⟨o, k _ _ h (fun _ z => nomatch z)⟩)
  · exact .inr h
theorem tab_keep2 {H H' : Hp} {T : Addr} {q : Str} (t : TabOk H T q) (h1 : ∀ ps, H T = some (.tbl ps) → H' T = some (.tbl ps)) (h2 : ∀ b o u, H b = some (.frz o u) → H' b = some (.frz o u)) : TabOk H' T q := by
  obtain ⟨ps, h, ok, at_⟩ := t
  refine ⟨ps, h1 _ h, ok, fun pos cv e => ?_⟩
  obtain ⟨c, oc, vs, t, e1, e2, e3⟩ := at_ pos cv e
  exact ⟨c, oc, vs, t, e1, h2 _ _ _ e2, e3⟩
theorem tab_but {p : Addr} {H H' : Hp} {T : Addr} {q : Str} (t : TabOk H T q) (hp : PotAt H p) (c : But p H H') : TabOk H' T q := by
  obtain ⟨x, y, hp⟩ := hp
  exact tab_keep2 t (fun ps e => c _ _ e fun z => by rw [z, hp] at e; cases e) fun b o u e => c _ _ e fun z => by rw [z, hp] at e; cases e
theorem tab_butP {P' : Addr} {q' : Str} {H H' : Hp} {T : Addr} {q : Str} (t : TabOk H T q) (t' : TabOk H P' q') (ne : T ≠ P') (c : ButP P' H H') : TabOk H' T q := by
  obtain ⟨ps, h, _⟩ := t'
  exact tab_keep2 t (fun ps e => c _ _ e ne) fun b o u e => c _ _ e fun z => by rw [z, h] at e; cases e
section
variable {P : Program} {w : World} {K : PySem.W.Frag} {mg : Str → Option Value} {base : Heap} {C : Addr}
structure Stt (C Dc P1 P3 : Addr) (H0 H : Hp) (p x lk d : Addr) (b : Int) (ps : List Int) (rows : List Lad.Step) (prs : List BP) : Prop where
  kt : KT H0 H
  hp : PotAt H p
  l : LadAt C H x b ps rows
  k : LockAt Dc H lk x d prs
  t1 : TabOk H P1 q1
  t3 : TabOk H P3 q3
section
variable {Dc P1 P3 : Addr} {H0 H H' : Hp} {p x lk d : Addr} {b : Int} {ps : List Int} {rows : List Lad.Step} {prs prs' : List BP}
theorem Stt.same (h : Stt C Dc P1 P3 H0 H p x lk d b ps rows prs) (s : Same H H') : Stt C Dc P1 P3 H0 H' p x lk d b ps rows prs :=
  ⟨fun a o e n => s _ _ (h.kt a o e n), h.hp.same s, h.l.same s, h.k.same s, tab_same h.t1 s, tab_same h.t3 s⟩
theorem Stt.but (h : Stt C Dc P1 P3 H0 H p x lk d b ps rows prs) (np : H0 p = none) (c : But p H H') (hp : PotAt H' p) : Stt C Dc P1 P3 H0 H' p x lk d b ps rows prs := by
  have ko : KeepO H H' := fun a o e n _ => c _ _ e fun z => by
    obtain ⟨x', y', hp0⟩ := h.hp
    rw [z, hp0] at e; exact n _ (Option.some.inj e).symm
  exact ⟨fun a o e n => c _ _ (h.kt a o e n) (ne_of_none e np), hp, ko.lad h.l, ko.lock h.k, tab_but h.t1 h.hp c, tab_but h.t3 h.hp c⟩
theorem Stt.shut (h : Stt C Dc P1 P3 H0 H p x lk d b ps rows prs) (nd : H0 d = none) (c : But d H H') (k : LockAt Dc H' lk x d prs') : Stt C Dc P1 P3 H0 H' p x lk d b ps rows prs' := by
  have hd := h.k.s
  have n : ∀ {a : Addr} {o : HO}, H a = some o → (∀ kvs, o ≠ .dT kvs) → a ≠ d := fun {a o} e f z => by rw [z, hd] at e; exact f _ (Option.some.inj e).symm
  have lad : LadAt C H' x b ps rows := by
    obtain ⟨dx, a, o, c', us, h1, h2, h3, h4, h5⟩ := h.l
    refine ⟨dx, a, o, c', us, c _ _ h1 (n h1 fun _ z => nomatch z), c _ _ h2 (n h2 fun _ z => nomatch z), c _ _ h3 (n h3 fun _ z => nomatch z), c _ _ h4 (n h4 fun _ z => nomatch z), Paired.mapP h5 fun v s hs => ?_⟩
    obtain ⟨r, l, e1, e2, e3⟩ := hs
    exact ⟨r, l, e1, c _ _ e2 (n e2 fun _ z => nomatch z), c _ _ e3 (n e3 fun _ z => nomatch z)⟩
  obtain ⟨x', y', hp0⟩ := h.hp
  exact ⟨fun a o e nn => c _ _ (h.kt a o e nn) (ne_of_none e nd), ⟨x', y', c _ _ hp0 (n hp0 fun _ z => nomatch z)⟩, lad, k, tab_keep2 h.t1 (fun ps e => c _ _ e (n e fun _ z => nomatch z)) (fun b o u e => c _ _ e (n e fun _ z => nomatch z)), tab_keep2 h.t3 (fun ps e => c _ _ e (n e fun _ z => nomatch z)) fun b o u e => c _ _ e (n e fun _ z => nomatch z)⟩
theorem Stt.tab3 (h : Stt C Dc P1 P3 H0 H p x lk d b ps rows prs) (ne : P1 ≠ P3) (c : ButP P3 H H') (t : TabOk H' P3 q3) : Stt C Dc P1 P3 H0 H' p x lk d b ps rows prs := by
  have al := bp_al h.t3 c
  have ko : KeepO H H' := fun a o e _ n => al a o e n
  obtain ⟨x', y', hp0⟩ := h.hp
  exact ⟨fun a o e n => al _ _ (h.kt a o e n) n, ⟨x', y', al _ _ hp0 (fun _ z => nomatch z)⟩, ko.lad h.l, ko.lock h.k, tab_butP h.t1 h.t3 ne c, t⟩
theorem Stt.tab1 (h : Stt C Dc P1 P3 H0 H p x lk d b ps rows prs) (ne : P1 ≠ P3) (c : ButP P1 H H') (t : TabOk H' P1 q1) : Stt C Dc P1 P3 H0 H' p x lk d b ps rows prs := by
  have al := bp_al h.t1 c
  have ko : KeepO H H' := fun a o e _ n => al a o e n
  obtain ⟨x', y', hp0⟩ := h.hp
  exact ⟨fun a o e n => al _ _ (h.kt a o e n) n, ⟨x', y', al _ _ hp0 (fun _ z => nomatch z)⟩, ko.lad h.l, ko.lock h.k, t, tab_butP h.t3 h.t1 (Ne.symm ne) c⟩
end
theorem prsOk_add {prs : List BP} {r m : Int} (h : PrsOk prs) (l : prs.length < 20) (no : (r, m) ∉ prs) (r0 : 0 ≤ r) (r1 : r ≤ 4) (n0 : -W40 < m) (n1 : m < W40) : PrsOk (prs ++ [(r, m)]) := by
  refine ⟨?_, by rw [List.length_append]; simp; omega, fun q hq => ?_⟩
  · rw [List.nodup_append]
    exact ⟨h.nd, by simp, fun a ha b hb e => no (by rw [List.mem_singleton.mp hb] at e; exact e ▸ ha)⟩
  · rcases List.mem_append.mp hq with z | z
    · exact h.b q z
    · rw [List.mem_singleton.mp z]; exact ⟨r0, r1, n0, n1⟩
inductive sp_law (K : PySem.W.Frag) (P1 P3 : Addr) (vs : List V) (H : Hp) (Q : VK) (E : XK) : Prop
  | mk (a : Addr) (ns : List Int) (h0_ : vs = [.ref a]) (h1_ : SqL K H a (ns.map V.int)) (h2_ : ns.length ≤ 63) (t1 : TabOk H P1 q1) (t3 : TabOk H P3 q3) (h3_ : ∀ H', Q (.bl true) H') : sp_law K P1 P3 vs H Q E
theorem sc_law : FnScope ["_law_script", "_law_k", "_law_pot_here", "_law_begin_here", "_law_ladder", "_law_locks", "_law_j", "_law_bar_here", "_law_kept", "_law_unfit", "_law_strange", "_law_number", "_law_moment"] ["_law_script"] (defScope s_law) := ⟨rfl, rfl, rfl, by decide +kernel, rfl, by decide +kernel, by decide +kernel⟩
set_option maxHeartbeats 16000000 in
theorem law_ok (T : Txt K mg C) {fa : Addr} {fd : FuncData} (FL : Fun K "law" "law" s_law fa fd) (hm : mg "law" = some (.ref fa)) {c1 P1 c3 P3 : Addr} {h : Heap} (KX : K.In h) (G : h.Ns mainGlobals mg) (ht1 : PySem.W.tabIn K "law" = some (c1, P1)) (ht3 : PySem.W.tabIn K "_law_three" = some (c3, P3)) (LB1 : LamB mg base c1 P1) (LB3 : LamB mg base c3 P3) (ne : P1 ≠ P3) : FnOk P w K mg base CX0 11 fa fd ["_law_script"] (sp_law K P1 P3) := by
  obtain ⟨f0, fd0, F0, M, bL⟩ := T.m_init
  obtain ⟨f1, fd1, F1, M1, bF⟩ := T.m_Locks_init
  refine FL.okL KX G hm ht1 sc_law (fun vs H Q E h => ?_) (fun A outer s H vs Q E hr h => ?_)
  · obtain ⟨a, ns, rfl, _⟩ := h
    rfl
  · obtain ⟨a, ns, rfl, ha, hlen, tb1, tb3, k⟩ := h
    refine ⟨_, (pss_cons (ps_for PassesOwn.never rfl (pi_range1 rfl T.b_range (pa1 (pe_b (call_max2 rfl) T.b_max boot_max (pa2 pe_int (pe_b (call_min2 rfl) T.b_min boot_min (pa2 (pe_b (call_lenK K) T.b_len boot_len (pa1 (pv 0))) pe_int)))))) (pg_name (i := 1) sc_law.nd rfl (Or.inl rfl))
        (pss_cons (ps_set (i := 2) sc_law.nd rfl (Or.inl rfl) (pe_can (pot T) hr (pa2 (pv 0) (pv 1))))
        (pss_cons (ps_set (i := 3) sc_law.nd rfl (Or.inl rfl) (pe_can (lbegin T) hr (pa1 (pv 2))))
        (pss_cons (ps_set (i := 4) sc_law.nd rfl (Or.inl rfl) (pe_make M (init_ok T F0) (hr.mono (by decide)) rfl T.mgC bL .nil pass0 (pa3 (pv 3) (pe_can (parts T) hr (pa1 (pv 2))) (pe_can (lrows T) hr (pa1 (pv 2))))))
        (pss_cons (ps_set (i := 5) sc_law.nd rfl (Or.inr rfl) (pe_make M1 (linit_ok T F1) (hr.mono (by decide)) rfl T.mg_Locks bF .nil pass0 (pa1 (pv 4))))
        (pss_cut (ps_for PassesOwn.never rfl (pi_range1 rfl T.b_range (pa1 (pe_can (digit T) hr (pa2 (pv 2) pe_int)))) (pg_name (i := 6) sc_law.nd rfl (Or.inl rfl))
          (pss_cons (ps_set (i := 7) sc_law.nd rfl (Or.inl rfl) (pe_can (ldraw T) hr (pa3 (pv 2) (pv 4) (pv 3))))
          (pss_one (ps_if (pt_not (pt_val (pe_canM (pv 5) T.cl_Locks (is_shut T) hr (pa2 (pe_ix (ix_tupK K) (pv 7) pe_int (fun _ _ => rfl)) (pe_ix (ix_tupK K) (pv 7) pe_int (fun _ _ => rfl))))))
            (pss_one (ps_expr (pe_canM (pv 5) T.cl_Locks (shut T) hr (pa2 (pe_ix (ix_tupK K) (pv 7) pe_int (fun _ _ => rfl)) (pe_ix (ix_tupK K) (pv 7) pe_int (fun _ _ => rfl))))))
            pss_nil))))
        (pss_cons (ps_set (i := 8) sc_law.nd rfl (Or.inl rfl) (pe_canM0 (pv 5) T.cl_Locks (written T) hr))
        (pss_cut (ps_for PassesOwn.never rfl (pi_range1 rfl T.b_range (pa1 pe_int)) (pg_name (i := 6) sc_law.nd rfl (Or.inl rfl))
          (pss_cons (ps_set (i := 7) sc_law.nd rfl (Or.inl rfl) (pe_can (ldraw T) hr (pa3 (pv 2) (pv 4) (pv 3))))
          (pss_cons (ps_set (i := 9) sc_law.nd rfl (Or.inl rfl) (pe_can (no_roll T) hr (pa2 (pv 2) (pv 4))))
          (pss_cons (ps_set (i := 10) sc_law.nd rfl (Or.inl rfl) (pe_can (no_number T) hr (pa1 (pv 2))))
          (pss_cons (ps_set (i := 11) sc_law.nd rfl (Or.inl rfl) (pe_ix (ix_listK K) (pe_lst (pa2 (pe_ix (ix_tupK K) (pv 7) pe_int (fun _ _ => rfl)) (pv 10))) (pe_can (digit T) hr (pa2 (pv 2) pe_int)) (fun _ _ => rfl)))
          (pss_cons (ps_set (i := 12) sc_law.nd rfl (Or.inr rfl) (pe_can (no_moment T) hr (pa1 (pv 2))))
          (pss_cons (ps_if (pt_not (pt_val (pe_can (three T KX G ht3 LB3) hr (pa_cons (pv 5) (pa3 (pv 9) (pv 11) (pe_lst (pa3 pe_bl pe_bl pe_bl)))))))
            (pss_one (ps_ret pe_bl))
            pss_nil)
          (pss_cons (ps_if (pt_not (pt_val (pe_can (three T KX G ht3 LB3) hr (pa_cons (pv 5) (pa3 (pe_ix (ix_tupK K) (pv 7) pe_int (fun _ _ => rfl)) (pv 10) (pe_lst (pa3 pe_bl pe_bl pe_bl)))))))
            (pss_one (ps_ret pe_bl))
            pss_nil)
          (pss_one (ps_if (pt_cmpR (op_neD hr) (pe_lam (k := 5) (why T) hr LB1 rfl (lamS sc_law) (fun A outer s H E f cl cd hr' W' => pe_canMX (pv 5) T.cl_Locks (held_byX T) W' hr' (pa1 (pv 12)))) (pe_lst (pa3 pe_bl pe_bl pe_bl)) (nomark _))
            (pss_one (ps_ret pe_bl))
            pss_nil))))))))))
        (pss_one (ps_if (pt_cmpR op_ne (pe_canM0 (pv 5) T.cl_Locks (written T) hr) (pv 8) (nomark _))
          (pss_one (ps_ret pe_bl))
          pss_nil))))))))))
      (pss_one (ps_ret pe_bl))), ?_⟩
    have hlm : ((ns.map V.int).length : Int) = ns.length := by rw [List.length_map]
    refine ⟨_, rfl, a, _, rfl, .inl ha, _, _, rfl, _, _, rfl, _, rfl, by rw [hlm]; repeat' split <;> omega, by rw [hlm]; repeat' split <;> omega, ?_⟩
    refine for_range (fun i σ HX => ∃ v1 v2 v3 v4 v5 v6 v7 v8 v9 v10 v11 v12, σ = [some (.ref a), v1, v2, v3, v4, v5, v6, v7, v8, v9, v10, v11, v12] ∧ KT H HX ∧ TabOk HX P1 q1 ∧ TabOk HX P3 q3) ⟨_, _, _, _, _, _, _, _, _, _, _, _, rfl, fun b o e _ => e, tb1, tb3⟩ (fun i σ HX hi h => ?_) (fun σ HX h => ?_)
    · obtain ⟨v1, v2, v3, v4, v5, v6, v7, v8, v9, v10, v11, v12, rfl, ktX, t1X, t3X⟩ := h
      refine ⟨_, rfl, _, rfl, a, ns, _, rfl, ktX.seq ha, by omega, by omega, fun p H1 s1 np hp1 => ?_⟩
      refine ⟨_, rfl, p, rfl, hp1, fun b H2 bb1 bb2 c2 hp2 => ?_⟩
      refine ⟨_, rfl, _, rfl, p, rfl, hp2, fun pl ps H3 pok c3 hp3 npl hpl => ?_⟩
      refine ⟨_, rfl, p, rfl, hp3, fun rl us rows H4 rok c4 hp4 nrl hrl tr => ?_⟩
      have S4 : Same HX H4 := fun b' o z => c4 _ _ (c3 _ _ (c2 _ _ (s1 _ _ z) (ne_of_none z np)) (ne_of_none z np)) (ne_of_none z np)
      have hpl4 := c4 _ _ hpl (hp2.ne npl)
      have ok : LadOk b ps rows := ⟨by
        have hB : B29 = 100000000000000000000000000000 := rfl
        have hW : W30 = 1000000000000000000000000000000 := rfl
        unfold wideB
        rw [decide_eq_true (by omega), decide_eq_true (by omega)]
        rfl, pok, rok⟩
      have rl4 := (rowsB_ok ok.r).1
      intro x dx hx hdx hne
      have sM : Same H4 (upd (upd H4 dx (.own x)) x (.ins C dx [])) := (Same.upd hdx).trans (Same.upd (by rw [upd_ne (Ne.symm hne)]; exact hx))
      refine ⟨x, dx, b, pl, _, ps, rl, _, us, rows, rfl, upd_same, sM _ _ hpl4, .inl rfl, sM _ _ hrl, .inl rfl, Paired.mono (fun _ _ z => (z.tups fun b' xs' h => sM _ _ h).g) tr, ok, fun H5 c5 hL5 => ⟨rfl, ?_⟩⟩
      have S5 : Same H4 H5 := fun b' o z => c5 _ _ (sM _ _ z) (ne_of_none z hx)
      refine ⟨_, rfl, ?_⟩
      intro lk dx2 hlk hdx2 hne2
      have sM2 : Same H5 (upd (upd H5 dx2 (.own lk)) lk (.ins (cOf mg "Locks") dx2 [])) := (Same.upd hdx2).trans (Same.upd (by rw [upd_ne (Ne.symm hne2)]; exact hlk))
      refine ⟨lk, dx2, x, rfl, upd_same, fun d H6 c6 nd hK => ⟨rfl, ?_⟩⟩
      have S6 : Same H5 H6 := fun b' o z => c6 _ _ (sM2 _ _ z) (ne_of_none z hlk)
      have SX : Same HX H6 := (S4.trans S5).trans S6
      have ndX : HX d = none := (S4.trans S5).free (sM2.free nd)
      have st6 : Stt C (cOf mg "Locks") P1 P3 HX H6 p x lk d b ps rows [] := ⟨fun a o e _ => SX _ _ e, (hp4.same S5).same S6, hL5.same S6, hK, tab_same t1X SX, tab_same t3X SX⟩
      clear hK hL5 S6 S5 S4 sM2 sM c2 c3 c4 c5 c6 s1
      refine ⟨fun σ HY => ∃ v6 v7 prs, σ = [some (.ref a), some (.int (0 + (i : Int))), some (.ref p), some (.int b), some (.ref x), some (.ref lk), v6, v7, v8, v9, v10, v11, v12] ∧ Stt C (cOf mg "Locks") P1 P3 HX HY p x lk d b ps rows prs ∧ PrsOk prs, ?_, fun σ HY hY => ?_⟩
      · refine ⟨_, rfl, p, _, rfl, st6.hp, by decide, by decide +kernel, fun dg HB dg0 dg1 cB hpB => ⟨_, rfl, by omega, by omega, ?_⟩⟩
        have stB := st6.but np cB hpB
        refine for_range (n := dg.toNat) (fun j σ HY => ∃ v6 v7 prs, σ = [some (.ref a), some (.int (0 + (i : Int))), some (.ref p), some (.int b), some (.ref x), some (.ref lk), v6, v7, v8, v9, v10, v11, v12] ∧ Stt C (cOf mg "Locks") P1 P3 HX HY p x lk d b ps rows prs ∧ PrsOk prs ∧ prs.length ≤ j) ⟨_, _, [], rfl, stB, ⟨List.nodup_nil, by decide, fun _ h => nomatch h⟩, Nat.le_refl _⟩ ?_ ?_
        · rintro j σ HY hj ⟨w6, w7, prs, rfl, st, po, pl⟩
          refine ⟨_, rfl, _, rfl, _, rfl, p, x, b, b, ps, rows, rfl, st.hp, st.l, ok, bb1, bb2, fun tb r n HC cC hpC ntb htb r0 r1 n0 n1 => ?_⟩
          have stC := st.but np cC hpC
          obtain ⟨dxk, hk1⟩ := stC.k.i
          refine ⟨_, rfl, lk, dxk, _, rfl, hk1, rfl, _, rfl, tb, _, _, _, rfl, rfl, .of htb, rfl, _, rfl, tb, _, _, _, rfl, rfl, .of htb, rfl, lk, x, d, r, n, b, ps, rows, prs, rfl, stC.k, stC.l, r0, r1, n0, n1, fun HD sD => ⟨_, rfl, ?_⟩⟩
          have stD := stC.same sD
          obtain ⟨dxk, hk2⟩ := stD.k.i
          by_cases hin : (r, n) ∈ prs
          · exact iteN (by rw [decide_eq_true hin]; rfl) ⟨_, _, prs, rfl, stD, po, by omega⟩
          · refine iteC (by rw [decide_eq_false hin]; rfl) ⟨_, rfl, lk, dxk, _, rfl, hk2, rfl, _, rfl, tb, _, _, _, rfl, rfl, .of (sD _ _ htb), rfl, _, rfl, tb, _, _, _, rfl, rfl, .of (sD _ _ htb), rfl, lk, x, d, r, n, b, ps, rows, prs, rfl, stD.k, stD.l, r0, r1, n0, n1, by omega, hin, fun HE cE hkE => ?_⟩
            exact ⟨_, _, prs ++ [(r, n)], rfl, stD.shut ndX cE hkE, prsOk_add po (by omega) hin r0 (by omega) n0 n1, by rw [List.length_append]; show prs.length + 1 ≤ j + 1; omega⟩
        · rintro σ HY ⟨w6, w7, prs, rfl, st, po, pl⟩
          exact ⟨_, _, prs, rfl, st, po⟩
      obtain ⟨w6, w7, prs, rfl, stY, po⟩ := hY
      obtain ⟨dxk, hkY⟩ := stY.k.i
      refine ⟨_, rfl, lk, dxk, _, rfl, hkY, rfl, lk, x, d, prs, rfl, stY.k, po, fun kt HZ sZ wt => ?_⟩
      have stZ := stY.same sZ
      refine ⟨fun σ HY => ∃ v6 v7 v9 v10 v11 v12, σ = [some (.ref a), some (.int (0 + (i : Int))), some (.ref p), some (.int b), some (.ref x), some (.ref lk), v6, v7, some (.str kt), v9, v10, v11, v12] ∧ Stt C (cOf mg "Locks") P1 P3 HX HY p x lk d b ps rows prs, ?_, fun σ HY hY => ?_⟩
      · refine ⟨4, rfl, by decide, by decide, for_range (fun j σ HY => ∃ v6 v7 v9 v10 v11 v12, σ = [some (.ref a), some (.int (0 + (i : Int))), some (.ref p), some (.int b), some (.ref x), some (.ref lk), v6, v7, some (.str kt), v9, v10, v11, v12] ∧ Stt C (cOf mg "Locks") P1 P3 HX HY p x lk d b ps rows prs) ⟨_, _, _, _, _, _, rfl, stZ⟩ (fun j σ HY hj h => ?_) (fun σ HY h => h)⟩
        obtain ⟨w6, w7, w9, w10, w11, w12, rfl, st⟩ := h
        refine ⟨_, rfl, _, rfl, _, rfl, p, x, b, b, ps, rows, rfl, st.hp, st.l, ok, bb1, bb2, fun tb r n HC cC hpC ntb htb r0 r1 n0 n1 => ?_⟩
        have stC := st.but np cC hpC
        refine ⟨_, rfl, _, rfl, p, x, b, ps, rows, rfl, stC.hp, stC.l, rl4, fun v HD cD hpD kv nv bv => ?_⟩
        have stD := stC.but np cD hpD
        refine ⟨_, rfl, p, rfl, stD.hp, fun u HE cE hpE ku nu bu => ?_⟩
        have stE := stD.but np cE hpE
        have tbp : tb ≠ p := fun z => by
          obtain ⟨x', y', hq⟩ := hpC
          rw [z, hq] at htb; cases htb
        have htE := cE _ _ (cD _ _ htb tbp) tbp
        have kvE := kv.but cE nv
        refine ⟨_, rfl, tb, _, _, _, rfl, rfl, .of htE, rfl, _, rfl, two_line, fun L hL => ?_⟩
        have sL := Same.upd (H := HE) (o := .lst [.int n, u]) hL
        have stL := stE.same sL
        refine ⟨_, rfl, p, _, rfl, stL.hp, by decide, by decide +kernel, fun d2 HF d20 d21 cF hpF => ?_⟩
        have stF := stL.but np cF hpF
        have hLp : L ≠ p := hpE.ne hL
        have hw : ∃ z, atI [V.int n, u] d2 = some z ∧ (z = .int n ∨ z = u) := by
          obtain ⟨z, hz, ez⟩ := atI_mem (xs := [V.int n, u]) d20 (by exact d21)
          exact ⟨z, ez, by simpa using hz⟩
        obtain ⟨z, ez, hz⟩ := hw
        refine ⟨L, _, _, _, rfl, rfl, .of (cF _ _ upd_same hLp), ez, ?_⟩
        refine ⟨_, rfl, p, rfl, stF.hp, fun m HG cG hpG km nm bm => ?_⟩
        have stG := stF.but np cG hpG
        have kvG : Kd HG v := ((kvE.same sL).but cF nv).but cG nv
        have kuG : Kd HG u := ((ku.same sL).but cF nu).but cG nu
        have htG : HG tb = some (.tup [.int r, .int n]) := cG _ _ (cF _ _ (sL _ _ htE) tbp) tbp
        refine ⟨_, rfl, _, rfl, _, rfl, three_line, fun D1 hD1 => ?_⟩
        have sD1 := Same.upd (H := HG) (o := .lst [.bl true, .bl false, .bl false]) hD1
        have st1 := stG.same sD1
        refine ⟨lk, x, d, D1, v, z, b, ps, rows, prs, _, true, false, false, rfl, st1.t3, st1.k, st1.l, .roll (kvG.same sD1) bv rfl, .roll rfl rfl, upd_same, fun HH bH tH => ⟨_, rfl, iteF ?_⟩⟩
        have stH := st1.tab3 ne bH tH
        have alH := bp_al st1.t3 bH
        have htH := alH _ _ (sD1 _ _ htG) (fun _ z => nomatch z)
        have kuH := bp_kd st1.t3 bH (kuG.same sD1)
        have kmH := bp_kd st1.t3 bH (km.same sD1)
        refine ⟨_, rfl, _, rfl, tb, _, _, _, rfl, rfl, .of htH, rfl, _, rfl, three_line, fun D2 hD2 => ?_⟩
        have sD2 := Same.upd (H := HH) (o := .lst [.bl false, .bl true, .bl false]) hD2
        have st2 := stH.same sD2
        refine ⟨lk, x, d, D2, .int r, u, b, ps, rows, prs, _, false, true, false, rfl, st2.t3, st2.k, st2.l, .num r rfl r0 r1 (kuH.same sD2) bu rfl, .num rfl rfl, upd_same, fun HI bI tI => ⟨_, rfl, iteF ?_⟩⟩
        have stI := st2.tab3 ne bI tI
        have kmI := bp_kd st2.t3 bI (kmH.same sD2)
        refine ⟨stI.t1, fun HJ f fo cells c oc bJ tJ hf LP outer s hin => ?_⟩
        have stJ := stI.tab1 ne bJ tJ
        have kmJ := bp_kd stI.t1 bJ kmI
        refine .mk f fo cells c oc _ (.ref (cOf mg "NoMoment")) false false true rfl LP hin (.mom rfl rfl) (fun Q2 E2 er => ?_) (fun D3 HK sK hD3 => ?_)
        · obtain ⟨dxj, hkJ⟩ := stJ.k.i
          exact ⟨_, rfl, lk, dxj, _, rfl, hkJ, rfl, _, rfl, lk, x, d, m, b, ps, rows, prs, rfl, stJ.k, stJ.l, by omega, kmJ, bm, er⟩
        have stK := stJ.same sK
        refine ⟨three_line, fun D4 hD4 => ?_⟩
        have sD4 := Same.upd (H := HK) (o := .lst [.bl false, .bl false, .bl true]) hD4
        refine ⟨_, _, dat_bools (sD4 _ _ hD3), dat_bools upd_same, lay_bools _ _ _, lay_bools _ _ _, by have := dep_bools false false true; omega, _, rfl, ?_⟩
        rw [eqv_bools]
        refine iteF ?_
        exact ⟨_, _, _, _, _, _, rfl, stK.same sD4⟩
      obtain ⟨w6, w7, w9, w10, w11, w12, rfl, stE⟩ := hY
      obtain ⟨dxe, hkE⟩ := stE.k.i
      refine ⟨_, rfl, lk, dxe, _, rfl, hkE, rfl, lk, x, d, prs, rfl, stE.k, po, fun kt2 HF sF wt2 => ?_⟩
      have ek := WT.one wt2 wt
      subst ek
      have stF := stE.same sF
      refine ⟨_, rfl, rfl, _, rfl, iteN (by simp) ?_⟩
      exact ⟨_, _, _, _, _, _, _, _, _, _, _, _, rfl, fun b o e n => stF.kt b o (ktX b o e n) n, stF.t1, stF.t3⟩
    · obtain ⟨v1, v2, v3, v4, v5, v6, v7, v8, v9, v10, v11, v12, rfl, ktX, t1X, t3X⟩ := h
      exact k _
end
end Pr
set_option Elab.async false
set_option linter.all false
set_option maxRecDepth 100000
/-! the law, whole -/
namespace Pr
open PySem PySem.Spec PyProof.Rows L2
def spT (K : PySem.W.Frag) : List (Addr × Addr) → Sp
  | [(_, P1), (_, P3)] => sp_law K P1 P3
  | _ => fun _ _ _ _ => True
section
variable {P : Program} {w : World} {K : PySem.W.Frag} {mg : Str → Option Value} {C : Addr}
theorem law_all (T : Txt K mg C) {fa : Addr} {h : Heap} (KX : K.In h) (G : h.Ns mainGlobals mg) (hmg : mg "law" = some (.ref fa)) (T2 : ∃ c1 P1 c3 P3, PySem.W.tabIn K "law" = some (c1, P1) ∧ PySem.W.tabIn K "_law_three" = some (c3, P3) ∧ PySem.W.noTabs K = true ∧ P1 ≠ P3) :
    ∃ (fd : FuncData) (tabs : List (Addr × Addr)), PySem.W.noTabs K = true ∧ (∀ t ∈ tabs, ∃ y ∈ (["law", "_law_three"] : List Str), PySem.W.tabIn K y = some t) ∧ (∀ (s : Shared) (u : Value), BindsTo s fd ⟨[u], []⟩ [("_law_script", u)]) ∧
      (∀ base : Heap, K.In base → base.Ns mainGlobals mg → (∀ t ∈ tabs, LamB mg base t.1 t.2) → FnOk P w K mg base CX0 11 fa fd ["_law_script"] (spT K tabs)) := by
  obtain ⟨f, fd, F⟩ := T.f_law
  have e := hmg.symm.trans F.m
  cases e
  obtain ⟨c1, P1, c3, P3, t1, t3, nt, ne⟩ := T2
  obtain ⟨oc, od, kV, doc, pm, an, cdv, ct, osl, rfl, lk, hcd⟩ := F.fn.ex
  refine ⟨_, [(c1, P1), (c3, P3)], nt, fun t ht => ?_, fun s u => .of_eq rfl, fun base _ _ LB => law_ok T F.fn hmg KX G t1 t3 (LB (c1, P1) (by simp)) (LB (c3, P3) (by simp)) ne⟩
  simp only [List.mem_cons, List.not_mem_nil, or_false] at ht
  rcases ht with rfl | rfl
  · exact ⟨"law", by simp, t1⟩
  · exact ⟨"_law_three", by simp, t3⟩
end
theorem walk {l : PySem.W.OpenLaw} {q : Program} {loose : List Str} {XP : (Str → Option Value) → Heap → Prop} {YP : World → Heap → Prop} {d : DefRec} {K : Params → PySem.W.Frag} (hn : l.most = some 63) (hdf : d.params.defaults = [])
    (hY : ∀ (w : World) (h : Heap), YP w h → (K w.params).In h) (hrec : ∀ y ∈ (["law", "_law_three"] : List Str), ((recsOf q).find? (fun e => e.name == y)).isSome = true)
    (F : ∀ (w : World) (mg : Str → Option Value) (fa : Addr) (h : Heap), (K w.params).In h → h.Ns mainGlobals mg → mg d.name = some (.ref fa) →
      ∃ (fd : FuncData) (tabs : List (Addr × Addr)), PySem.W.noTabs (K w.params) = true ∧ (∀ t ∈ tabs, ∃ y ∈ (["law", "_law_three"] : List Str), PySem.W.tabIn (K w.params) y = some t) ∧ (∀ (s : Shared) (u : Value), BindsTo s fd ⟨[u], []⟩ [("_law_script", u)]) ∧
        (∀ base : Heap, (K w.params).In base → base.Ns mainGlobals mg → (∀ t ∈ tabs, LamB mg base t.1 t.2) → FnOk l.prog w (K w.params) mg base CX0 11 fa fd ["_law_script"] (spT (K w.params) tabs))) :
    PySem.W.WalkO q loose XP YP l.row.toRowW d [] (fun f vs => PySem.call f vs) := by
  refine L2.walk_ofT (n := 63) (k := 11) (x := "_law_script") (xs := ["law", "_law_three"]) (sp := fun w tabs => spT (K w.params) tabs) hn (by decide) hdf ⟨rfl, by decide, by decide, rfl⟩ hY hrec F ?_
  intro w tabs H a ns hl hS hT
  unfold spT
  split
  · next c1 P1 c3 P3 => exact ⟨a, ns, rfl, hS, hl, .nil (hT (c1, P1) (by simp)), .nil (hT (c3, P3) (by simp)), fun _ => rfl⟩
  · trivial
end Pr
set_option Elab.async false
set_option linter.all false
set_option maxRecDepth 100000
namespace L2
open PySem PyProof.Rows
variable {K : PySem.W.Frag} {x qual : Str} {st : Stmt} {g : Addr} {fd : FuncData} {p q r s t u v : Str}
end L2
set_option Elab.async false
set_option linter.all false
set_option maxRecDepth 100000
/-! what the head must show of a def, of a method: one fact each -/
namespace L2
open PySem PyProof.Rows
inductive FE (K : PySem.W.Frag) (x : Str) (st : Stmt) : Prop
  | mk {f : Addr} {od an : Option Addr} {sl : Array (Option Value)} {oc kV dc pm cd ct : Value} (a : PySem.W.nsIn K mainGlobals x = some (some (.ref f))) (l : K.lookup f = some ⟨oc, od, .func (PySem.W.fnOf x x (defArgs st) (defBody st) (defScope st) .none kV dc pm an cd ct), sl⟩) (c : PySem.W.codeIn K cd x = true) (k : PySem.W.keepIn K (.ref f) = true) : FE K x st
inductive FM (K : PySem.W.Frag) (C : Addr) (x q : Str) (st : Stmt) : Prop
  | mk {f : Addr} {od an : Option Addr} {sl : Array (Option Value)} {oc kV dc pm cd ct : Value} (a : PySem.W.findIn K (.ref C) x = some (some (.ref f))) (i : PySem.W.isFn K (.ref f) = true) (l : K.lookup f = some ⟨oc, od, .func (PySem.W.fnOf x q (defArgs st) (defBody st) (defScope st) .none kV dc pm an cd ct), sl⟩) (c : PySem.W.codeIn K cd q = true) (k : PySem.W.keepIn K (.ref f) = true) : FM K C x q st
variable {K : PySem.W.Frag} {h : Heap} {mg : Str → Option Value} {x q : Str} {st : Stmt} {ps : List Str} {C : Addr}
theorem FE.fn (X : K.In h) (G : h.Ns mainGlobals mg) (e : FE K x st) (b : ∀ f fd, Fun K x x st f fd → Binds K fd ps []) : ∃ f fd, Fn K mg x st ps f fd := by
  obtain ⟨a, l, c, k⟩ := e
  exact ⟨_, _, fun_mk l c k, PySem.W.mg_of X G a, b _ _ (fun_mk l c k)⟩
theorem FM.fm (e : FM K C x q st) (b : ∀ f fd, Fun K x q st f fd → Binds K fd ps []) : ∃ f fd, Fm K C x q st ps f fd := by
  obtain ⟨a, i, l, c, k⟩ := e
  exact ⟨_, _, fun_mk l c k, ⟨a, i, k⟩, b _ _ (fun_mk l c k)⟩
theorem FM.mk_ (e : FM K C "__init__" q st) (mk : PySem.W.makesIn K C = true) (kc : PySem.W.keepIn K (.ref C) = true) (b : ∀ f fd, Fun K "__init__" q st f fd → Binds K fd ps []) : ∃ f fd, Fun K "__init__" q st f fd ∧ Mk K C f ∧ Binds K fd ps [] := by
  obtain ⟨a, i, l, c, k⟩ := e
  exact ⟨_, _, fun_mk l c k, ⟨mk, a, i, kc⟩, b _ _ (fun_mk l c k)⟩
end L2
set_option Elab.async false
set_option linter.all false
set_option maxRecDepth 100000
namespace Pr
open PySem L2 PyProof.Rows
set_option maxHeartbeats 0 in
theorem txt_mk {K : PySem.W.Frag} {h : Heap} {mg : Str → Option Value} {C : Addr} (X : K.In h) (G : h.Ns mainGlobals mg) {t_WIDE_END : Tok} {t_NUMBER_END : Tok} {t_MOST_PARTS : Tok} {t_MOST_LENGTH : Tok} {t_MOST_ROWS : Tok} {t_MOST_SIZES : Tok} {t_MOST_SIZE : Tok} {q_Locks : Addr} {c_PeakError : Addr} {cd_PeakError : ClassData} {c_NoMoment : Addr} {cd_NoMoment : ClassData} {c_NoRoll : Addr} {cd_NoRoll : ClassData} {c_NoNumber : Addr} {cd_NoNumber : ClassData}
    (aC : PySem.W.nsIn K mainGlobals "Ladder" = some (some (.ref C)))
    (a1 : FE K "is_whole" s_is_whole)
    (a2 : FE K "is_whole_from" s_is_whole_from)
    (a3 : FE K "is_wide" s_is_wide)
    (a4 : FE K "is_list" s_is_list)
    (a5 : FE K "is_list_from" s_is_list_from)
    (a6 : FE K "need_moment" s_need_moment)
    (a7 : FE K "need_roll" s_need_roll)
    (a8 : FE K "need_number" s_need_number)
    (a9 : FE K "number_of" s_number_of)
    (a10 : FE K "is_part" s_is_part)
    (a11 : FE K "are_parts" s_are_parts)
    (a12 : FE K "are_sizes" s_are_sizes)
    (a13 : FE K "is_row" s_is_row)
    (a14 : FE K "are_rows" s_are_rows)
    (a15 : FE K "bar_lengths" s_bar_lengths)
    (a16 : FE K "_law_pot" s_law_pot)
    (a17 : FE K "_law_digit" s_law_digit)
    (a18 : FE K "_law_parts" s_law_parts)
    (a19 : FE K "_law_rows" s_law_rows)
    (a20 : FE K "_law_begin" s_law_begin)
    (a21 : FE K "_law_near" s_law_near)
    (a22 : FE K "_law_bar" s_law_bar)
    (a23 : FE K "_law_no_roll" s_law_no_roll)
    (a24 : FE K "_law_no_number" s_law_no_number)
    (a25 : FE K "_law_no_moment" s_law_no_moment)
    (a26 : FE K "_law_why" s_law_why)
    (a27 : FE K "_law_three" s_law_three)
    (a28 : FE K "law" s_law)
    (c_WIDE_END : PySem.W.nsIn K mainGlobals "WIDE_END" = some (some (.int 1000000000000000000000000000000 t_WIDE_END)))
    (c_NUMBER_END : PySem.W.nsIn K mainGlobals "NUMBER_END" = some (some (.int 10000000000000000000000000000000000000000 t_NUMBER_END)))
    (c_MOST_PARTS : PySem.W.nsIn K mainGlobals "MOST_PARTS" = some (some (.int 12 t_MOST_PARTS)))
    (c_MOST_LENGTH : PySem.W.nsIn K mainGlobals "MOST_LENGTH" = some (some (.int 1000000000 t_MOST_LENGTH)))
    (c_MOST_ROWS : PySem.W.nsIn K mainGlobals "MOST_ROWS" = some (some (.int 4 t_MOST_ROWS)))
    (c_MOST_SIZES : PySem.W.nsIn K mainGlobals "MOST_SIZES" = some (some (.int 12 t_MOST_SIZES)))
    (c_MOST_SIZE : PySem.W.nsIn K mainGlobals "MOST_SIZE" = some (some (.int 1000 t_MOST_SIZE)))
    (b_ValueError : PySem.W.nsIn K mainGlobals "ValueError" = some none)
    (b_all : PySem.W.nsIn K mainGlobals "all" = some none)
    (b_bool : PySem.W.nsIn K mainGlobals "bool" = some none)
    (b_divmod : PySem.W.nsIn K mainGlobals "divmod" = some none)
    (b_int : PySem.W.nsIn K mainGlobals "int" = some none)
    (b_isinstance : PySem.W.nsIn K mainGlobals "isinstance" = some none)
    (b_len : PySem.W.nsIn K mainGlobals "len" = some none)
    (b_list : PySem.W.nsIn K mainGlobals "list" = some none)
    (b_max : PySem.W.nsIn K mainGlobals "max" = some none)
    (b_min : PySem.W.nsIn K mainGlobals "min" = some none)
    (b_range : PySem.W.nsIn K mainGlobals "range" = some none)
    (b_sorted : PySem.W.nsIn K mainGlobals "sorted" = some none)
    (b_sum : PySem.W.nsIn K mainGlobals "sum" = some none)
    (b_tuple : PySem.W.nsIn K mainGlobals "tuple" = some none)
    (pg : PySem.W.plainGet K C Str.empty = true)
    (hd : PySem.W.hasDictIn K C = true)
    (po : PySem.W.plainOver K C = true)
    (sa : PySem.W.findIn K (.ref C) "__setattr__" = some (some (.builtin "object.__setattr__")))
    (mk : PySem.W.makesIn K C = true)
    (kc : PySem.W.keepIn K (.ref C) = true)
    (n_open_lengths : PySem.W.findIn K (.ref C) "open_lengths" = some none)
    (n_part_lengths : PySem.W.findIn K (.ref C) "part_lengths" = some none)
    (n_steps : PySem.W.findIn K (.ref C) "steps" = some none)
    (m1 : FM K C "__init__" "Ladder.__init__" sm_init)
    (m2 : FM K C "begin" "Ladder.begin" sm_begin)
    (m3 : FM K C "parts" "Ladder.parts" sm_parts)
    (m4 : FM K C "rows" "Ladder.rows" sm_rows)
    (m5 : FM K C "rolls" "Ladder.rolls" sm_rolls)
    (m6 : FM K C "bar_at" "Ladder.bar_at" sm_bar_at)
    (aC_Locks : PySem.W.nsIn K mainGlobals "Locks" = some (some (.ref q_Locks)))
    (pg_Locks : PySem.W.plainGet K q_Locks Str.empty = true)
    (hd_Locks : PySem.W.hasDictIn K q_Locks = true)
    (po_Locks : PySem.W.plainOver K q_Locks = true)
    (sa_Locks : PySem.W.findIn K (.ref q_Locks) "__setattr__" = some (some (.builtin "object.__setattr__")))
    (mk_Locks : PySem.W.makesIn K q_Locks = true)
    (kc_Locks : PySem.W.keepIn K (.ref q_Locks) = true)
    (n_Locks_ladder : PySem.W.findIn K (.ref q_Locks) "ladder" = some none)
    (n_Locks_shut_pairs : PySem.W.findIn K (.ref q_Locks) "shut_pairs" = some none)
    (m_Locks_init : FM K q_Locks "__init__" "Locks.__init__" sm_Locks_init)
    (m_Locks_shut : FM K q_Locks "shut" "Locks.shut" sm_Locks_shut)
    (m_Locks_open_bar : FM K q_Locks "open_bar" "Locks.open_bar" sm_Locks_open_bar)
    (m_Locks_is_shut : FM K q_Locks "is_shut" "Locks.is_shut" sm_Locks_is_shut)
    (m_Locks_held_by : FM K q_Locks "held_by" "Locks.held_by" sm_Locks_held_by)
    (m_Locks_written : FM K q_Locks "written" "Locks.written" sm_Locks_written)
    (esp : PySem.W.specialIn K (.builtin "object.__class__") "__get__" = some (some (.builtin "getset_descriptor.__get__")))
    (etk : PySem.W.takesIn K (.builtin "object.__class__") = some true)
    (ea_PeakError : PySem.W.nsIn K mainGlobals "PeakError" = some (some (.ref c_PeakError)))
    (eo_PeakError : PySem.W.excIn K c_PeakError bmV "ValueError.__new__" = true)
    (eg_PeakError : PySem.W.findIn K (.ref c_PeakError) "__getattribute__" = some (some (.builtin "BaseException.__getattribute__")))
    (en_PeakError : PySem.W.findIn K (.ref c_PeakError) "__getattr__" = some none)
    (ef_PeakError : PySem.W.findIn K (.ref c_PeakError) "__class__" = some (some (.builtin "object.__class__")))
    (em_PeakError : PySem.W.mroIn K c_PeakError (.type "object") = some true)
    (es_PeakError : PySem.W.subIn K (.ref c_PeakError) (.type "BaseException") = some true)
    (ec_PeakError : PySem.W.clsIn K c_PeakError = some cd_PeakError)
    (ea_NoMoment : PySem.W.nsIn K mainGlobals "NoMoment" = some (some (.ref c_NoMoment)))
    (eo_NoMoment : PySem.W.excIn K c_NoMoment bmV "ValueError.__new__" = true)
    (eg_NoMoment : PySem.W.findIn K (.ref c_NoMoment) "__getattribute__" = some (some (.builtin "BaseException.__getattribute__")))
    (en_NoMoment : PySem.W.findIn K (.ref c_NoMoment) "__getattr__" = some none)
    (ef_NoMoment : PySem.W.findIn K (.ref c_NoMoment) "__class__" = some (some (.builtin "object.__class__")))
    (em_NoMoment : PySem.W.mroIn K c_NoMoment (.type "object") = some true)
    (es_NoMoment : PySem.W.subIn K (.ref c_NoMoment) (.type "BaseException") = some true)
    (ec_NoMoment : PySem.W.clsIn K c_NoMoment = some cd_NoMoment)
    (ea_NoRoll : PySem.W.nsIn K mainGlobals "NoRoll" = some (some (.ref c_NoRoll)))
    (eo_NoRoll : PySem.W.excIn K c_NoRoll bmV "ValueError.__new__" = true)
    (eg_NoRoll : PySem.W.findIn K (.ref c_NoRoll) "__getattribute__" = some (some (.builtin "BaseException.__getattribute__")))
    (en_NoRoll : PySem.W.findIn K (.ref c_NoRoll) "__getattr__" = some none)
    (ef_NoRoll : PySem.W.findIn K (.ref c_NoRoll) "__class__" = some (some (.builtin "object.__class__")))
    (em_NoRoll : PySem.W.mroIn K c_NoRoll (.type "object") = some true)
    (es_NoRoll : PySem.W.subIn K (.ref c_NoRoll) (.type "BaseException") = some true)
    (ec_NoRoll : PySem.W.clsIn K c_NoRoll = some cd_NoRoll)
    (ea_NoNumber : PySem.W.nsIn K mainGlobals "NoNumber" = some (some (.ref c_NoNumber)))
    (eo_NoNumber : PySem.W.excIn K c_NoNumber bmV "ValueError.__new__" = true)
    (eg_NoNumber : PySem.W.findIn K (.ref c_NoNumber) "__getattribute__" = some (some (.builtin "BaseException.__getattribute__")))
    (en_NoNumber : PySem.W.findIn K (.ref c_NoNumber) "__getattr__" = some none)
    (ef_NoNumber : PySem.W.findIn K (.ref c_NoNumber) "__class__" = some (some (.builtin "object.__class__")))
    (em_NoNumber : PySem.W.mroIn K c_NoNumber (.type "object") = some true)
    (es_NoNumber : PySem.W.subIn K (.ref c_NoNumber) (.type "BaseException") = some true)
    (ec_NoNumber : PySem.W.clsIn K c_NoNumber = some cd_NoNumber)
    (e_NoMoment_PeakError : PySem.W.exmOne K (.ref c_NoMoment) (.ref c_PeakError) = some true)
    (k_NoMoment_NoMoment : PySem.W.kitOne K (.ref c_NoMoment) (.ref c_NoMoment) = some true)
    (k_NoMoment_NoRoll : PySem.W.kitOne K (.ref c_NoMoment) (.ref c_NoRoll) = some false)
    (k_NoMoment_NoNumber : PySem.W.kitOne K (.ref c_NoMoment) (.ref c_NoNumber) = some false)
    (e_NoNumber_PeakError : PySem.W.exmOne K (.ref c_NoNumber) (.ref c_PeakError) = some true)
    (k_NoNumber_NoMoment : PySem.W.kitOne K (.ref c_NoNumber) (.ref c_NoMoment) = some false)
    (k_NoNumber_NoRoll : PySem.W.kitOne K (.ref c_NoNumber) (.ref c_NoRoll) = some false)
    (k_NoNumber_NoNumber : PySem.W.kitOne K (.ref c_NoNumber) (.ref c_NoNumber) = some true)
    (e_NoRoll_PeakError : PySem.W.exmOne K (.ref c_NoRoll) (.ref c_PeakError) = some true)
    (k_NoRoll_NoMoment : PySem.W.kitOne K (.ref c_NoRoll) (.ref c_NoMoment) = some false)
    (k_NoRoll_NoRoll : PySem.W.kitOne K (.ref c_NoRoll) (.ref c_NoRoll) = some true)
    (k_NoRoll_NoNumber : PySem.W.kitOne K (.ref c_NoRoll) (.ref c_NoNumber) = some false) : Txt K mg C :=
  ⟨a1.fn X G fun _ _ F => F.b1 (by intros; rfl),
   a2.fn X G fun _ _ F => F.b3 (by intros; rfl),
   a3.fn X G fun _ _ F => F.b1 (by intros; rfl),
   a4.fn X G fun _ _ F => F.b1 (by intros; rfl),
   a5.fn X G fun _ _ F => F.b3 (by intros; rfl),
   a6.fn X G fun _ _ F => F.b1 (by intros; rfl),
   a7.fn X G fun _ _ F => F.b3 (by intros; rfl),
   a8.fn X G fun _ _ F => F.b1 (by intros; rfl),
   a9.fn X G fun _ _ F => F.b3 (by intros; rfl),
   a10.fn X G fun _ _ F => F.b1 (by intros; rfl),
   a11.fn X G fun _ _ F => F.b1 (by intros; rfl),
   a12.fn X G fun _ _ F => F.b1 (by intros; rfl),
   a13.fn X G fun _ _ F => F.b1 (by intros; rfl),
   a14.fn X G fun _ _ F => F.b1 (by intros; rfl),
   a15.fn X G fun _ _ F => F.b1 (by intros; rfl),
   a16.fn X G fun _ _ F => F.b2 (by intros; rfl),
   a17.fn X G fun _ _ F => F.b2 (by intros; rfl),
   a18.fn X G fun _ _ F => F.b1 (by intros; rfl),
   a19.fn X G fun _ _ F => F.b1 (by intros; rfl),
   a20.fn X G fun _ _ F => F.b1 (by intros; rfl),
   a21.fn X G fun _ _ F => F.b2 (by intros; rfl),
   a22.fn X G fun _ _ F => F.b3 (by intros; rfl),
   a23.fn X G fun _ _ F => F.b2 (by intros; rfl),
   a24.fn X G fun _ _ F => F.b1 (by intros; rfl),
   a25.fn X G fun _ _ F => F.b1 (by intros; rfl),
   a26.fn X G fun _ _ F => F.b1 (by intros; rfl),
   a27.fn X G fun _ _ F => F.b4 (by intros; rfl),
   a28.fn X G fun _ _ F => F.b1 (by intros; rfl),
   ⟨_, PySem.W.mg_of X G c_WIDE_END⟩,
   ⟨_, PySem.W.mg_of X G c_NUMBER_END⟩,
   ⟨_, PySem.W.mg_of X G c_MOST_PARTS⟩,
   ⟨_, PySem.W.mg_of X G c_MOST_LENGTH⟩,
   ⟨_, PySem.W.mg_of X G c_MOST_ROWS⟩,
   ⟨_, PySem.W.mg_of X G c_MOST_SIZES⟩,
   ⟨_, PySem.W.mg_of X G c_MOST_SIZE⟩,
   PySem.W.mg_none_of X G b_ValueError,
   PySem.W.mg_none_of X G b_all,
   PySem.W.mg_none_of X G b_bool,
   PySem.W.mg_none_of X G b_divmod,
   PySem.W.mg_none_of X G b_int,
   PySem.W.mg_none_of X G b_isinstance,
   PySem.W.mg_none_of X G b_len,
   PySem.W.mg_none_of X G b_list,
   PySem.W.mg_none_of X G b_max,
   PySem.W.mg_none_of X G b_min,
   PySem.W.mg_none_of X G b_range,
   PySem.W.mg_none_of X G b_sorted,
   PySem.W.mg_none_of X G b_sum,
   PySem.W.mg_none_of X G b_tuple,
   ⟨pg, hd, po, sa⟩,
   PySem.W.mg_of X G aC,
   n_open_lengths,
   n_part_lengths,
   n_steps,
   m1.mk_ mk kc (fun _ _ F => F.b4 (by intros; rfl)),
   m2.fm fun _ _ F => F.b1 (by intros; rfl),
   m3.fm fun _ _ F => F.b1 (by intros; rfl),
   m4.fm fun _ _ F => F.b1 (by intros; rfl),
   m5.fm fun _ _ F => F.b1 (by intros; rfl),
   m6.fm fun _ _ F => F.b3 (by intros; rfl),
   (by rw [cOf_eq (PySem.W.mg_of X G aC_Locks)]; exact ⟨pg_Locks, hd_Locks, po_Locks, sa_Locks⟩),
   (by rw [cOf_eq (PySem.W.mg_of X G aC_Locks)]; exact PySem.W.mg_of X G aC_Locks),
   (by rw [cOf_eq (PySem.W.mg_of X G aC_Locks)]; exact n_Locks_ladder),
   (by rw [cOf_eq (PySem.W.mg_of X G aC_Locks)]; exact n_Locks_shut_pairs),
   (by rw [cOf_eq (PySem.W.mg_of X G aC_Locks)]; exact m_Locks_init.mk_ mk_Locks kc_Locks (fun _ _ F => F.b2 (by intros; rfl))),
   (by rw [cOf_eq (PySem.W.mg_of X G aC_Locks)]; exact m_Locks_shut.fm fun _ _ F => F.b3 (by intros; rfl)),
   (by rw [cOf_eq (PySem.W.mg_of X G aC_Locks)]; exact m_Locks_open_bar.fm fun _ _ F => F.b3 (by intros; rfl)),
   (by rw [cOf_eq (PySem.W.mg_of X G aC_Locks)]; exact m_Locks_is_shut.fm fun _ _ F => F.b3 (by intros; rfl)),
   (by rw [cOf_eq (PySem.W.mg_of X G aC_Locks)]; exact m_Locks_held_by.fm fun _ _ F => F.b2 (by intros; rfl)),
   (by rw [cOf_eq (PySem.W.mg_of X G aC_Locks)]; exact m_Locks_written.fm fun _ _ F => F.b1 (by intros; rfl)),
   xc_mk (PySem.W.mg_of X G ea_PeakError) eo_PeakError eg_PeakError en_PeakError ef_PeakError esp etk em_PeakError es_PeakError ec_PeakError,
   xc_mk (PySem.W.mg_of X G ea_NoMoment) eo_NoMoment eg_NoMoment en_NoMoment ef_NoMoment esp etk em_NoMoment es_NoMoment ec_NoMoment,
   xc_mk (PySem.W.mg_of X G ea_NoRoll) eo_NoRoll eg_NoRoll en_NoRoll ef_NoRoll esp etk em_NoRoll es_NoRoll ec_NoRoll,
   xc_mk (PySem.W.mg_of X G ea_NoNumber) eo_NoNumber eg_NoNumber en_NoNumber ef_NoNumber esp etk em_NoNumber es_NoNumber ec_NoNumber,
   (by rw [cOf_eq (PySem.W.mg_of X G ea_NoMoment), cOf_eq (PySem.W.mg_of X G ea_PeakError)]; exact e_NoMoment_PeakError),
   (by rw [cOf_eq (PySem.W.mg_of X G ea_NoMoment)]; exact k_NoMoment_NoMoment),
   (by rw [cOf_eq (PySem.W.mg_of X G ea_NoMoment), cOf_eq (PySem.W.mg_of X G ea_NoRoll)]; exact k_NoMoment_NoRoll),
   (by rw [cOf_eq (PySem.W.mg_of X G ea_NoMoment), cOf_eq (PySem.W.mg_of X G ea_NoNumber)]; exact k_NoMoment_NoNumber),
   (by rw [cOf_eq (PySem.W.mg_of X G ea_NoNumber), cOf_eq (PySem.W.mg_of X G ea_PeakError)]; exact e_NoNumber_PeakError),
   (by rw [cOf_eq (PySem.W.mg_of X G ea_NoNumber), cOf_eq (PySem.W.mg_of X G ea_NoMoment)]; exact k_NoNumber_NoMoment),
   (by rw [cOf_eq (PySem.W.mg_of X G ea_NoNumber), cOf_eq (PySem.W.mg_of X G ea_NoRoll)]; exact k_NoNumber_NoRoll),
   (by rw [cOf_eq (PySem.W.mg_of X G ea_NoNumber)]; exact k_NoNumber_NoNumber),
   (by rw [cOf_eq (PySem.W.mg_of X G ea_NoRoll), cOf_eq (PySem.W.mg_of X G ea_PeakError)]; exact e_NoRoll_PeakError),
   (by rw [cOf_eq (PySem.W.mg_of X G ea_NoRoll), cOf_eq (PySem.W.mg_of X G ea_NoMoment)]; exact k_NoRoll_NoMoment),
   (by rw [cOf_eq (PySem.W.mg_of X G ea_NoRoll)]; exact k_NoRoll_NoRoll),
   (by rw [cOf_eq (PySem.W.mg_of X G ea_NoRoll), cOf_eq (PySem.W.mg_of X G ea_NoNumber)]; exact k_NoRoll_NoNumber)⟩
end Pr
set_option Elab.async false
set_option linter.all false
set_option maxRecDepth 100000
open PySem PySem.W PyProof.Rows
def PySem.W.Fast.tw15080368757535878192 : Nat := 0
def PySem.W.Fast.tw861502493610598483 : Nat := 0
def PySem.W.Fast.tw8169806428440432713 : Nat := 0
def PySem.W.Fast.tw229164427083005643 : Nat := 0
def PySem.W.Fast.tw6479498380439682318 : Nat := 0
def PySem.W.Fast.tw7774113678449685934 : Nat := 0
def PySem.W.Fast.tw8430217029977919969 : Nat := 0
def PySem.W.Fast.tw2849704279308238487 : Nat := 0
def PySem.W.Fast.tw16729077633258034165 : Nat := 0
def PySem.W.Fast.tw7466306040279636442 : Nat := 0
def PySem.W.Fast.tw15540960557679751451 : Nat := 0
def PySem.W.Fast.tw13485263441057248554 : Nat := 0
def PySem.W.Fast.tw10345878139772363575 : Nat := 0
def PySem.W.Fast.tw1922157984580058403 : Nat := 0
def PySem.W.Fast.tw14537775516033599862 : Nat := 0
def PySem.W.Fast.tw15541240446876304647 : Nat := 0
def PySem.W.Fast.tw14074196154385387334 : Nat := 0
def PySem.W.Fast.tw14324503942043618420 : Nat := 0
def PySem.W.Fast.tw15469066318462344783 : Nat := 0
def PySem.W.Fast.tw4955548971729213485 : Nat := 0
def PySem.W.Fast.tw10368827614151553891 : Nat := 0
def PySem.W.Fast.tw1532491051758110099 : Nat := 0
def PySem.W.Fast.tw4321966507151631593 : Nat := 0
def PySem.W.Fast.tw16506471722634982818 : Nat := 0
def PySem.W.Fast.tw12770481643036789091 : Nat := 0
def PySem.W.Fast.tw5890639436620234070 : Nat := 0
def PySem.W.Fast.tw12848530379965262573 : Nat := 0
def PySem.W.Fast.tw2570914705882880060 : Nat := 0
def PySem.W.Fast.tw16723463757517087524 : Nat := 0
def PySem.W.Fast.tw2875624504187281209 : Nat := 0
def PySem.W.Fast.tw6278996535519779258 : Nat := 0
def PySem.W.Fast.tw15235614512728720 : Nat := 0
def PySem.W.Fast.tw9363214764283991203 : Nat := 0
def PySem.W.Fast.tw16140922888777852060 : Nat := 0
set_option maxHeartbeats 0 in
open_top hd for PySem.Challenge.rw_peakroll_k65_locks_refused
set_option maxHeartbeats 0 in
theorem PySem.Challenge.cw_peakroll_k65_locks_refused_holds : PySem.Challenge.rw_peakroll_k65_locks_refused.Holds := by
  refine hd ?_
  k_fill
  refine Pr.walk (l := PySem.Challenge.rw_peakroll_k65_locks_refused) rfl rfl (fun w h Y => PySem.W.km_in_of Y) ?R ?F
  case R =>
    intro y hy
    simp only [List.mem_cons, List.not_mem_nil, or_false] at hy
    rcases hy with rfl | rfl <;> rfl
  case F =>
    intro w mg fa h KX G hmg
    have T : ∃ C, Pr.Txt (L2.KOf KX) mg C := by
      dsimp only [L2.KOf]
      refine' ⟨_, Pr.txt_mk KX G ?aC ?a1 ?a2 ?a3 ?a4 ?a5 ?a6 ?a7 ?a8 ?a9 ?a10 ?a11 ?a12 ?a13 ?a14 ?a15 ?a16 ?a17 ?a18 ?a19 ?a20 ?a21 ?a22 ?a23 ?a24 ?a25 ?a26 ?a27 ?a28 ?c_WIDE_END ?c_NUMBER_END ?c_MOST_PARTS ?c_MOST_LENGTH ?c_MOST_ROWS ?c_MOST_SIZES ?c_MOST_SIZE ?b_ValueError ?b_all ?b_bool ?b_divmod ?b_int ?b_isinstance ?b_len ?b_list ?b_max ?b_min ?b_range ?b_sorted ?b_sum ?b_tuple ?pg ?hd ?po ?sa ?mk ?kc ?n_open_lengths ?n_part_lengths ?n_steps ?m1 ?m2 ?m3 ?m4 ?m5 ?m6 ?aC_Locks ?pg_Locks ?hd_Locks ?po_Locks ?sa_Locks ?mk_Locks ?kc_Locks ?n_Locks_ladder ?n_Locks_shut_pairs ?m_Locks_init ?m_Locks_shut ?m_Locks_open_bar ?m_Locks_is_shut ?m_Locks_held_by ?m_Locks_written ?esp ?etk ?ea_PeakError ?eo_PeakError ?eg_PeakError ?en_PeakError ?ef_PeakError ?em_PeakError ?es_PeakError ?ec_PeakError ?ea_NoMoment ?eo_NoMoment ?eg_NoMoment ?en_NoMoment ?ef_NoMoment ?em_NoMoment ?es_NoMoment ?ec_NoMoment ?ea_NoRoll ?eo_NoRoll ?eg_NoRoll ?en_NoRoll ?ef_NoRoll ?em_NoRoll ?es_NoRoll ?ec_NoRoll ?ea_NoNumber ?eo_NoNumber ?eg_NoNumber ?en_NoNumber ?ef_NoNumber ?em_NoNumber ?es_NoNumber ?ec_NoNumber ?e_NoMoment_PeakError ?k_NoMoment_NoMoment ?k_NoMoment_NoRoll ?k_NoMoment_NoNumber ?e_NoNumber_PeakError ?k_NoNumber_NoMoment ?k_NoNumber_NoRoll ?k_NoNumber_NoNumber ?e_NoRoll_PeakError ?k_NoRoll_NoMoment ?k_NoRoll_NoRoll ?k_NoRoll_NoNumber⟩
      (case aC => k_is)
      (case a1 | a2 | a3 | a4 | a5 | a6 | a7 | a8 | a9 | a10 | a11 | a12 | a13 | a14 | a15 | a16 | a17 | a18 | a19 | a20 | a21 | a22 | a23 | a24 | a25 | a26 | a27 | a28 => apply L2.FE.mk; k_is; k_is; k_is; k_is)
      (case c_WIDE_END | c_NUMBER_END | c_MOST_PARTS | c_MOST_LENGTH | c_MOST_ROWS | c_MOST_SIZES | c_MOST_SIZE | b_ValueError | b_all | b_bool | b_divmod | b_int | b_isinstance | b_len | b_list | b_max | b_min | b_range | b_sorted | b_sum | b_tuple | pg | hd | po | sa | mk | kc | n_open_lengths | n_part_lengths | n_steps => k_is)
      (case m1 | m2 | m3 | m4 | m5 | m6 => apply L2.FM.mk; k_is; k_is; k_is; k_is; k_is)
      (case aC_Locks | pg_Locks | hd_Locks | po_Locks | sa_Locks | mk_Locks | kc_Locks | n_Locks_ladder | n_Locks_shut_pairs => k_is)
      (case m_Locks_init | m_Locks_shut | m_Locks_open_bar | m_Locks_is_shut | m_Locks_held_by | m_Locks_written => apply L2.FM.mk; k_is; k_is; k_is; k_is; k_is)
      (case esp | etk => k_is)
      (case ea_PeakError => k_is)
      (case eo_PeakError => k_exc)
      (case eg_PeakError => k_is)
      (case en_PeakError => k_is)
      (case ef_PeakError => k_is)
      (case em_PeakError => k_is)
      (case es_PeakError => k_is)
      (case ec_PeakError => k_is)
      (case ea_NoMoment => k_is)
      (case eo_NoMoment => k_exc)
      (case eg_NoMoment => k_is)
      (case en_NoMoment => k_is)
      (case ef_NoMoment => k_is)
      (case em_NoMoment => k_is)
      (case es_NoMoment => k_is)
      (case ec_NoMoment => k_is)
      (case ea_NoRoll => k_is)
      (case eo_NoRoll => k_exc)
      (case eg_NoRoll => k_is)
      (case en_NoRoll => k_is)
      (case ef_NoRoll => k_is)
      (case em_NoRoll => k_is)
      (case es_NoRoll => k_is)
      (case ec_NoRoll => k_is)
      (case ea_NoNumber => k_is)
      (case eo_NoNumber => k_exc)
      (case eg_NoNumber => k_is)
      (case en_NoNumber => k_is)
      (case ef_NoNumber => k_is)
      (case em_NoNumber => k_is)
      (case es_NoNumber => k_is)
      (case ec_NoNumber => k_is)
      (case e_NoMoment_PeakError => kts_exm)
      (case k_NoMoment_NoMoment => kit_is)
      (case k_NoMoment_NoRoll => kit_is)
      (case k_NoMoment_NoNumber => kit_is)
      (case e_NoNumber_PeakError => kts_exm)
      (case k_NoNumber_NoMoment => kit_is)
      (case k_NoNumber_NoRoll => kit_is)
      (case k_NoNumber_NoNumber => kit_is)
      (case e_NoRoll_PeakError => kts_exm)
      (case k_NoRoll_NoMoment => kit_is)
      (case k_NoRoll_NoRoll => kit_is)
      (case k_NoRoll_NoNumber => kit_is)
    have T2 : ∃ c1 P1 c2 P2, PySem.W.tabIn (L2.KOf KX) "law" = some (c1, P1) ∧ PySem.W.tabIn (L2.KOf KX) "_law_three" = some (c2, P2) ∧ PySem.W.noTabs (L2.KOf KX) = true ∧ P1 ≠ P2 := by
      dsimp only [L2.KOf]
      refine' ⟨_, _, _, _, L2.tab_mk ?u1 ?v1 ?w1 ?x1 ?y1, L2.tab_mk ?u2 ?v2 ?w2 ?x2 ?y2, ?nt, ?ne12⟩
      (case u1 => k_is)
      (case v1 => k_is)
      (case w1 => rfl)
      (case x1 => k_is)
      (case y1 => rfl)
      (case u2 => k_is)
      (case v2 => k_is)
      (case w2 => rfl)
      (case x2 => k_is)
      (case y2 => rfl)
      (case nt => first | k_is | rfl)
      (case ne12 => decide)
    obtain ⟨C, T⟩ := T
    exact Pr.law_all T KX G hmg T2
