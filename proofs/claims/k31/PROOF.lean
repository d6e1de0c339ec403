import PyProof.Rows.All
import Wide.All
import OpenK.AllK
import Wide.FinOn
import Lean
import PyProof.EqAt
import PyProof.EqKinds
import PyProof.TupleCall
import KE.KTryMore
import PyProof.RaisesMany
import PyProof.RulesAs
import PyProof.ExcBaseAll.ValueError
import PyProof.NsDelKeeps
import KE.KIsNot
import PyProof.ExcArgs
import KE.RegKIsAll
import KE.RegKTryMore
import PyProof.FactsAll.NoneType_1
import PyProof.SetRoads
import PyProof.CollectWalk
import PyProof.Walks
import PyProof.Rows.SortShell
import KE.KDictSum
import PyProof.Rows.SortWalk
import KE.KSortTup
import KE.KSortAsk
import PyProof.TupleOfSeq
import PyProof.Rows.SetFrom
import PyProof.WalksMore
import KE.KIntText
import KE.KDictList
import PyProof.DictRoadsH
import PyProof.P3Eq
import KE.KRevIter
import PySem.Challenge.RW_peakroll_k31_what_is_counted
set_option Elab.async false
set_option linter.all false
set_option maxRecDepth 100000
/-! THE HAND LAYER, for ints, bools, texts, own classes, LISTS and tuples (index, slices, in, append, pop ..), calls, loops. Paste it whole ahead of your own text; what your proof does not reach may be deleted. -/
namespace L2
open PySem PySem.Spec PyProof.Rows

/-- a key: an int or a str -/
abbrev Key := Sum Int Str
def keyIs : Key → Value → Bool
  | .inl k, v => Value.isInt k v
  | .inr x, v => Value.isStrOf x v
def keyH (w : World) : Key → Int
  | .inl k => hashInt k
  | .inr x => hashStr w x
theorem keyIs_shape : ∀ {k : Key} {v : Value}, keyIs k v = true → (∃ i t, k = Sum.inl i ∧ v = Value.int i t) ∨ (∃ x t, k = Sum.inr x ∧ v = Value.str x t)
  | .inl i, v, h => by
    obtain ⟨t, e⟩ := Value.isInt_shape (k := i) (v := v) h
    exact .inl ⟨i, t, rfl, e⟩
  | .inr x, v, h => by
    obtain ⟨t, e⟩ := Value.isStrOf_shape (x := x) (v := v) h
    exact .inr ⟨x, t, rfl, e⟩
theorem keyIs_int (i : Int) (t : Tok) : keyIs (.inl i) (.int i t) = true := by simp [keyIs, Value.isInt]
theorem keyIs_str (x : Str) (t : Tok) : keyIs (.inr x) (.str x t) = true := by simp [keyIs, Value.isStrOf]
theorem key_ll (a b : Int) : decide ((Sum.inl a : Key) = Sum.inl b) = (a == b) := by
  by_cases e : a = b
  · subst e; simp
  · have h : ¬ (Sum.inl a : Key) = Sum.inl b := fun q => e (Sum.inl.inj q)
    rw [decide_eq_false h]
    exact (beq_eq_false_iff_ne.mpr e).symm
theorem key_rr (a b : Str) : decide ((Sum.inr a : Key) = Sum.inr b) = decide (a = b) := by
  by_cases e : a = b
  · subst e; simp
  · have h : ¬ (Sum.inr a : Key) = Sum.inr b := fun q => e (Sum.inr.inj q)
    rw [decide_eq_false h, decide_eq_false e]
theorem key_lr (a : Int) (b : Str) : decide ((Sum.inl a : Key) = Sum.inr b) = false := decide_eq_false (fun q => nomatch q)
theorem key_rl (a : Str) (b : Int) : decide ((Sum.inr a : Key) = Sum.inl b) = false := decide_eq_false (fun q => nomatch q)

def mixKind (prog : Program) (w : World) : PySem.KeyKind prog w Key where
  is := keyIs
  hash := keyH w
  inj := fun v a b ha hb => by
    rcases keyIs_shape ha with ⟨i, t, rfl, rfl⟩ | ⟨x, t, rfl, rfl⟩
    · rcases keyIs_shape hb with ⟨j, u, rfl, e⟩ | ⟨y, u, rfl, e⟩
      · injection e with e1 _; rw [e1]
      · exact nomatch e
    · rcases keyIs_shape hb with ⟨j, u, rfl, e⟩ | ⟨y, u, rfl, e⟩
      · exact nomatch e
      · injection e with e1 _; rw [e1]
  byValue := fun k v h => by
    rcases keyIs_shape h with ⟨i, t, rfl, rfl⟩ | ⟨x, t, rfl, rfl⟩ <;> rfl
  pyHash := fun hv h => by
    rcases keyIs_shape hv with ⟨i, t, rfl, rfl⟩ | ⟨x, t, rfl, rfl⟩
    · exact wpAny_pyHash_int h
    · exact wpAny_pyHash_str h
  eqBool := fun hu hv h => by
    rcases keyIs_shape hu with ⟨i, t, rfl, rfl⟩ | ⟨x, t, rfl, rfl⟩
    · rcases keyIs_shape hv with ⟨j, u, rfl, rfl⟩ | ⟨y, u, rfl, rfl⟩
      · rw [key_ll] at h; exact wpAny_eqBool_int h
      · rw [key_lr] at h; exact SeqAt.EqAt.int_str i t y u _ _ _ _ h
    · rcases keyIs_shape hv with ⟨j, u, rfl, rfl⟩ | ⟨y, u, rfl, rfl⟩
      · rw [key_rl] at h; exact SeqAt.EqAt.str_int x t j u _ _ _ _ h
      · rw [key_rr] at h; exact wpAny_eqBool_str h
  «strs» := fun k x t v h => by
    rcases keyIs_shape h with ⟨i, u, rfl, e⟩ | ⟨y, u, rfl, e⟩
    · exact nomatch e
    · injection e with e1 _
      subst e1
      cases v <;> rfl

theorem mixKind_int (prog : Program) (w : World) (i : Int) (t : Tok) : (mixKind prog w).is (.inl i) (.int i t) = true := keyIs_int i t
theorem mixKind_str (prog : Program) (w : World) (x : Str) (t : Tok) : (mixKind prog w).is (.inr x) (.str x t) = true := keyIs_str x t
end L2

namespace L2
open PySem PySem.Spec PyProof.Rows

/-- a value, without the heap -/
inductive V where
  | non | bl (b : Bool) | int (i : Int) | str (x : Str) | byt (b : Array UInt8) | flt (b : UInt64) | ref (a : Addr) | ty (n : String)
  deriving DecidableEq

def RelV : V → Value → Prop
  | .non, u => u = Value.none
  | .bl b, u => u = Value.bool b
  | .int i, u => ∃ t, u = Value.int i t
  | .str x, u => ∃ t, u = Value.str x t
  | .byt b, u => ∃ t, u = Value.bytes b t
  | .flt b, u => ∃ t, u = Value.float b t
  | .ref a, u => u = Value.ref a
  | .ty n, u => u = Value.type n

abbrev Vals : List V → List Value → Prop := Paired RelV
theorem Vals.length {xs : List V} {us : List Value} (r : Vals xs us) : xs.length = us.length := Paired.length r
theorem Vals.get : ∀ {xs : List V} {us : List Value} {i : Nat} {x : V}, Vals xs us → xs[i]? = some x → ∃ u, us[i]? = some u ∧ RelV x u
  | _, _, _, _, .nil, e => by simp at e
  | _, _, 0, _, .cons r _, e => by simp at e; subst e; exact ⟨_, rfl, r⟩
  | _, _, i + 1, x, .cons _ t, e => by
    obtain ⟨u, h1, h2⟩ := Vals.get (i := i) (x := x) t (by simpa using e)
    exact ⟨u, by simpa using h1, h2⟩
theorem Vals.set {x : V} {u : Value} (r : RelV x u) : ∀ {xs : List V} {us : List Value} (i : Nat), Vals xs us → Vals (xs.set i x) (us.set i u)
  | _, _, _, .nil => .nil
  | _, _, 0, .cons _ t => .cons r t
  | _, _, i + 1, .cons q t => .cons q (Vals.set r i t)
theorem Vals.append : ∀ {xs ys : List V} {us ws : List Value}, Vals xs us → Vals ys ws → Vals (xs ++ ys) (us ++ ws)
  | _, _, _, _, .nil, s => s
  | _, _, _, _, .cons r t, s => .cons r (Vals.append t s)

def RelO : Option V → Option Value → Prop
  | some v, some u => RelV v u
  | none, none => True
  | _, _ => False
def KV {κ : Type} : List (κ × V) → List (κ × Value) → Prop := Paired fun (p : κ × V) (q : κ × Value) => p.1 = q.1 ∧ RelV p.2 q.2

/-- a key of a dict (00_mix): an int or a text -/
def kV : Key → V
  | .inl i => .int i
  | .inr x => .str x

/-- what stands at a tracked address -/
inductive HO where
  /-- a list -/
  | lst (xs : List V)
  /-- a tuple (never changes) -/
  | tup (xs : List V)
  /-- a dict whose keys are ints and texts; one whose keys are tuples of ints and texts (the empty one is both) -/
  | dK (kvs : List (Key × V)) | dT (kvs : List (List Key × V))
  /-- a set of ints: its members, its size -/
  | set (S : Int → Bool) (n : Nat)
  /-- an instance of the class at C, its dict at dx, its attributes -/
  | ins (C dx : Addr) (fs : List (Str × V))
  /-- the dict of the instance at x -/
  | own (x : Addr)
  /-- the dict of an exception -/
  | xd (fs : List (Str × V))
  /-- a bound method, f of x -/
  | met (f x : Addr)
  /-- a range object lo, lo + 1, .. below hi -/
  | rng (lo hi : Int)
  /-- a thing that is known to the object (the script; a dict while a loop walks it): read, never written while it is so -/
  | frz (o : Obj) (u : HO)
  /-- a code object's table -/
  | tbl (ps : Array Value)
  /-- any other thing, by what is true of its one object (a def of one's own: SetO a S n := HO.ext fun h => ..) -/
  | ext (φ : Heap → Prop)

abbrev Hp := Addr → Option HO
def upd (H : Hp) (a : Addr) (o : HO) : Hp := fun b => if b = a then some o else H b
theorem upd_same {H : Hp} {a : Addr} {o : HO} : upd H a o a = some o := by unfold upd; rw [if_pos rfl]
theorem upd_ne {H : Hp} {a b : Addr} {o : HO} (h : b ≠ a) : upd H a o b = H b := by unfold upd; rw [if_neg h]
/-- two objects of different content stand apart -/
theorem ne_of {H : Hp} {a b : Addr} {o u : HO} (h : H a = some o) (h' : H b = some u) (d : o ≠ u) : a ≠ b := by
  intro e; subst e; rw [h] at h'; exact d (Option.some.inj h')
theorem ne_of_none {H : Hp} {a b : Addr} {o : HO} (h : H a = some o) (h' : H b = none) : a ≠ b := by
  intro e; subst e; rw [h] at h'; cases h'

section
variable (P : Program) (w : World)
def ObjOk (H : Hp) (h : Heap) (a : Addr) : HO → Prop
  | .lst xs => xs.length ≤ sizeLine ∧ ∃ (its : List Value) (n : Nat), Vals xs its ∧ h.get? a = some { cls := .type "list", data := .seq its.toArray n }
  | .tup xs => xs.length ≤ sizeLine ∧ ∃ its : List Value, Vals xs its ∧ IsTup h a its.toArray
  | .dK kvs => kvs.length ≤ sizeLine ∧ (a == sysModules) = false ∧ ∃ vs, KV kvs vs ∧ h.DictOf (mixKind P w) a vs
  | .dT kvs => kvs.length ≤ sizeLine ∧ (a == sysModules) = false ∧ ∃ xs : List (List Key × Addr × Value),
      Paired (fun (p : List Key × V) (q : List Key × Addr × Value) => p.1 = q.1 ∧ H q.2.1 = some (.tup (p.1.map kV)) ∧ RelV p.2 q.2.2) kvs xs ∧
      ∃ o es ep, h.get? a = some o ∧ o.ExactDict ∧ o.data = .dict es ep ∧ es.toList = xs.map (entryOfKey (tupleKind (mixKind P w))) ∧ (xs.map (·.1)).Nodup
  | .set S n => h.SetOf (intKind P w) a S n
  | .ins C dx fs => H dx = some (.own a) ∧ fs.length ≤ 1000 ∧ dx ≠ a ∧ h.get? a = some (PySem.W.instObj C dx) ∧
      ∃ mA, h.Ns1 dx mA ∧ (∀ f, RelO (fs.lookup f) (mA f)) ∧ PySem.Within mA (fs.map (·.1))
  | .own _ => ∃ o, h.get? a = some o
  | .xd fs => ∃ mA, h.Ns1 a mA ∧ ∀ f, RelO (fs.lookup f) (mA f)
  | .rng lo hi => ∃ t u v, h.get? a = some { cls := .type "range", data := .fields #[.int lo t, .int hi u, .int 1 v] }
  | .frz o u => h.get? a = some o ∧ ObjOk H h a u
  | .tbl ps => h.get? a = some { cls := .none, data := .fields ps }
  | .met f x => h.get? a = some (PySem.W.methodObj (.ref f) (.ref x))
  | .ext φ => φ h ∧ (∃ o, h.get? a = some o) ∧ ∀ h1 h2 : Heap, φ h1 → (∀ o, h1.get? a = some o → h2.get? a = some o) → φ h2
/-- the abstract heap is held -/
def HOk (H : Hp) (h : Heap) : Prop := ∀ a o, H a = some o → ObjOk P w H h a o
end

section
variable {P : Program} {w : World} {H H' : Hp} {h h' : Heap} {a : Addr} {o : HO}
theorem ObjOk.lt (x : ObjOk P w H h a o) : a < h.objs.size := by
  cases o with
  | lst xs => obtain ⟨_, _, _, _, e⟩ := x; exact Heap.lt_size e
  | tup xs => obtain ⟨_, _, _, p⟩ := x; exact p.lt
  | dK kvs => obtain ⟨_, _, _, _, o, _, _, e, _⟩ := x; exact Heap.lt_size e
  | dT kvs => obtain ⟨_, _, _, _, o, _, _, e, _⟩ := x; exact Heap.lt_size e
  | set S n => obtain ⟨o, _, _, _, e, _⟩ := x; exact Heap.lt_size e
  | ins C dx fs => obtain ⟨_, _, _, e, _⟩ := x; exact Heap.lt_size e
  | own y => obtain ⟨_, e⟩ := x; exact Heap.lt_size e
  | xd fs => obtain ⟨_, ⟨_, _, _, e, _⟩, _⟩ := x; exact Heap.lt_size e
  | rng lo hi => obtain ⟨_, _, _, e⟩ := x; exact Heap.lt_size e
  | frz ob u => obtain ⟨e, _⟩ := x; exact Heap.lt_size e
  | tbl ps => exact Heap.lt_size (show h.get? a = some _ from x)
  | met f y => exact Heap.lt_size (show h.get? a = some _ from x)
  | ext φ => obtain ⟨_, ⟨_, e⟩, _⟩ := x; exact Heap.lt_size e
theorem Paired.mapP {α β : Type} {F G : α → β → Prop} : ∀ {l₁ : List α} {l₂ : List β}, Paired F l₁ l₂ → (∀ a b, F a b → G a b) → Paired G l₁ l₂
  | _, _, .nil, _ => .nil
  | _, _, .cons r t, f => .cons (f _ _ r) (Paired.mapP t f)
/-- what an object's description leans on: its own object, its own dict, the tuples -/
theorem ObjOk.stay (x : ObjOk P w H h a o) (k : ∀ b u, (b = a ∨ H b = some (.own a)) → h.get? b = some u → h'.get? b = some u)
    (ho : ∀ b, H b = some (.own a) → H' b = some (.own a)) (ht : ∀ b xs, H b = some (.tup xs) → H' b = some (.tup xs)) : ObjOk P w H' h' a o := by
  induction o with
  | lst xs => obtain ⟨z, its, n, r, e⟩ := x; exact ⟨z, its, n, r, k _ _ (.inl rfl) e⟩
  | tup xs => obtain ⟨z, its, r, ob, e, c⟩ := x; exact ⟨z, its, r, ob, k _ _ (.inl rfl) e, c⟩
  | dK kvs => obtain ⟨z, y, vs, r, ob, es, ep, e, c⟩ := x; exact ⟨z, y, vs, r, ob, es, ep, k _ _ (.inl rfl) e, c⟩
  | dT kvs =>
    obtain ⟨z, y, xs, r, ob, es, ep, e, c⟩ := x
    exact ⟨z, y, xs, Paired.mapP r fun p q z => ⟨z.1, ht _ _ z.2.1, z.2.2⟩, ob, es, ep, k _ _ (.inl rfl) e, c⟩
  | set S n => obtain ⟨ob, es, ep, t, e, c⟩ := x; exact ⟨ob, es, ep, t, k _ _ (.inl rfl) e, c⟩
  | ins C dx fs =>
    obtain ⟨d, z, ne, e, mA, ⟨od, es, ep, e2, c⟩, r⟩ := x
    exact ⟨ho _ d, z, ne, k _ _ (.inl rfl) e, mA, ⟨od, es, ep, k _ _ (.inr d) e2, c⟩, r⟩
  | own y => obtain ⟨ob, e⟩ := x; exact ⟨ob, k _ _ (.inl rfl) e⟩
  | xd fs => obtain ⟨mA, ⟨od, es, ep, e, c⟩, r⟩ := x; exact ⟨mA, ⟨od, es, ep, k _ _ (.inl rfl) e, c⟩, r⟩
  | rng lo hi => obtain ⟨t, u, v, e⟩ := x; exact ⟨t, u, v, k _ _ (.inl rfl) e⟩
  | frz ob u ih => obtain ⟨e, q⟩ := x; exact ⟨k _ _ (.inl rfl) e, ih q⟩
  | tbl ps =>
    have e : h.get? a = some { cls := .none, data := .fields ps } := x
    show h'.get? a = some { cls := .none, data := .fields ps }
    exact k a _ (.inl rfl) e
  | met f y =>
    have e : h.get? a = some (PySem.W.methodObj (.ref f) (.ref y)) := x
    show h'.get? a = some (PySem.W.methodObj (.ref f) (.ref y))
    exact k a _ (.inl rfl) e
  | ext φ => obtain ⟨p, ⟨o, e⟩, st⟩ := x; exact ⟨st _ _ p fun o q => k _ _ (.inl rfl) q, ⟨o, k _ _ (.inl rfl) e⟩, st⟩
theorem HOk.lt (x : HOk P w H h) (e : H a = some o) : a < h.objs.size := (x a o e).lt
theorem HOk.fresh (x : HOk P w H h) (e : h.objs.size ≤ a) : H a = none := by
  cases q : H a with
  | none => rfl
  | some u => exact absurd (Nat.lt_of_lt_of_le (x.lt q) e) (Nat.lt_irrefl _)
/-- every object of the heap is kept -/
theorem HOk.kept (x : HOk P w H h) (k : ∀ b u, h.get? b = some u → h'.get? b = some u) : HOk P w H h' := fun a o e =>
  (x a o e).stay (fun b u _ q => k b u q) (fun _ q => q) fun _ _ q => q
/-- a new object is laid and tracked -/
theorem HOk.laid (x : HOk P w H h) (k : ∀ b u, h.get? b = some u → h'.get? b = some u) (hp : h.objs.size ≤ a) (new : ObjOk P w (upd H a o) h' a o) : HOk P w (upd H a o) h' := fun b u e => by
  have hn := x.fresh hp
  by_cases hb : b = a
  · subst hb; rw [upd_same] at e; cases e; exact new
  · rw [upd_ne hb] at e
    exact (x b u e).stay (fun c v _ q => k c v q) (fun c q => by rw [upd_ne (ne_of_none q hn)]; exact q) fun c xs q => by rw [upd_ne (ne_of_none q hn)]; exact q
end

/-- what may be read as u: it is u, or a known u -/
def Rd (H : Hp) (a : Addr) (u : HO) : Prop := H a = some u ∨ ∃ o, H a = some (.frz o u)
theorem Rd.ok {P : Program} {w : World} {H : Hp} {h : Heap} {a : Addr} {u : HO} (r : Rd H a u) (x : HOk P w H h) : ObjOk P w H h a u := by
  rcases r with r | ⟨o, r⟩
  · exact x a u r
  · obtain ⟨_, q⟩ := x a _ r
    exact q
/-- what may be written -/
def Mut : Option HO → Prop
  | some (.lst _) => True
  | some (.dK _) => True
  | some (.dT _) => True
  | some (.set _ _) => True
  | some (.ins _ _ _) => True
  | some (.ext _) => True
  | _ => False
section
variable {P : Program} {w : World} {H : Hp} {h h' : Heap} {x e : Addr} {o' : HO}
/-- the object at e is changed: x itself, or the dict of the instance x -/
theorem HOk.write (ok : HOk P w H h) (mu : Mut (H x)) (he : e = x ∨ H e = some (.own x)) (k : ∀ b u, b ≠ e → h.get? b = some u → h'.get? b = some u) (heo : ∃ u, h'.get? e = some u)
    (new : ObjOk P w (upd H x o') h' x o') : HOk P w (upd H x o') h' := fun b u q => by
  have nown : ∀ c y, H c = some (.own y) → c ≠ x := fun c y r z => by subst z; rw [r] at mu; exact mu
  have ntup : ∀ c xs, H c = some (.tup xs) → c ≠ x := fun c xs r z => by subst z; rw [r] at mu; exact mu
  by_cases hb : b = x
  · subst hb; rw [upd_same] at q; cases q; exact new
  · rw [upd_ne hb] at q
    by_cases hbe : b = e
    · have q' : H b = some (.own x) := by
        rcases he with z | z
        · exact absurd (hbe.trans z) hb
        · rw [hbe]; exact z
      rw [q] at q'; cases q'
      obtain ⟨v, hv⟩ := heo
      exact ⟨v, by rw [hbe]; exact hv⟩
    · refine (ok b u q).stay (fun c v hc r => k c v ?_ r) (fun c r => by rw [upd_ne (nown c b r)]; exact r) fun c xs r => by rw [upd_ne (ntup c xs r)]; exact r
      rcases hc with rfl | hc
      · exact hbe
      · rintro rfl
        rcases he with z | z
        · exact nown c b hc z
        · rw [hc] at z; cases z; exact hb rfl
end

/-! ### kept unless tracked; of the frames at fs (the callers') the slots may change (an exception that passes writes there); of the records at ex (iterators) nothing is said -/
structure Un (fs ex : List Addr) (H H' : Hp) (h h' : Heap) : Prop where
  keep : ∀ b o, h.get? b = some o → H b = none → b ∉ fs → b ∉ ex → h'.get? b = some o
  slot : ∀ b o, h.get? b = some o → H b = none → b ∈ fs → b ∉ ex → ∃ sl, h'.get? b = some { o with slots := sl }
  free : ∀ b o, h.get? b = some o → H b = none → b ∉ ex → H' b = none
  there : ∀ b o, h.get? b = some o → b ∉ ex → ∃ o', h'.get? b = some o'
  tups : ∀ b xs, H b = some (.tup xs) → H' b = some (.tup xs)
  frzs : ∀ b o u, H b = some (.frz o u) → H' b = some (.frz o u)
  tbls : ∀ b ps, H b = some (.tbl ps) → ∃ more, H' b = some (.tbl (ps ++ more))
section
variable {fs fs' ex ex' : List Addr} {H H1 H2 : Hp} {h h1 h2 h' : Heap} {a x e : Addr} {o : HO}
theorem Un.any (u : Un fs ex H H1 h h1) {b : Addr} {ob : Obj} (q : h.get? b = some ob) (n : H b = none) (hx : b ∉ ex) : ∃ sl, h1.get? b = some { ob with slots := sl } := by
  by_cases hb : b ∈ fs
  · exact u.slot b ob q n hb hx
  · exact ⟨ob.slots, u.keep b ob q n hb hx⟩
theorem Un.kept (k : ∀ b u, h.get? b = some u → h'.get? b = some u) : Un fs ex H H h h' :=
  ⟨fun b ob q _ _ _ => k b ob q, fun b ob q _ _ _ => ⟨ob.slots, k b ob q⟩, fun _ _ _ n _ => n, fun b ob q _ => ⟨ob, k b ob q⟩, fun _ _ q => q, fun _ _ _ q => q, fun _ ps q => ⟨#[], by rw [q]; simp⟩⟩
theorem Un.refl : Un fs ex H H h h := Un.kept fun _ _ q => q
theorem Un.laid (k : ∀ b u, h.get? b = some u → h'.get? b = some u) (hp : h.objs.size ≤ a) (hn : H a = none) : Un fs ex H (upd H a o) h h' where
  keep := fun b u q _ _ _ => k b u q
  slot := fun b u q _ _ _ => ⟨u.slots, k b u q⟩
  free := fun b u q n _ => by rw [upd_ne (Nat.ne_of_lt (Nat.lt_of_lt_of_le (Heap.lt_size q) hp))]; exact n
  there := fun b u q _ => ⟨u, k b u q⟩
  tups := fun b xs q => by rw [upd_ne (ne_of_none q hn)]; exact q
  frzs := fun b u xs q => by rw [upd_ne (ne_of_none q hn)]; exact q
  tbls := fun b ps q => ⟨#[], by rw [upd_ne (ne_of_none q hn), q]; simp⟩
theorem Un.write (mu : Mut (H x)) (he : e = x ∨ H e = some (.own x)) (k : ∀ b u, b ≠ e → h.get? b = some u → h'.get? b = some u) (heo : ∃ u, h'.get? e = some u) : Un fs ex H (upd H x o) h h' := by
  have hx : ∀ b, H b = none → b ≠ x := fun b n z => by subst z; rw [n] at mu; exact mu
  have hb : ∀ b, H b = none → b ≠ e := fun b n z => by
    subst z
    rcases he with r | r
    · exact hx b n r
    · rw [n] at r; cases r
  have hm : ∀ b u, H b = some u → ¬ Mut (some u) → b ≠ x := fun b u q nm z => by subst z; rw [q] at mu; exact nm mu
  refine ⟨fun b u q n _ _ => k b u (hb b n) q, fun b u q n _ _ => ⟨u.slots, k b u (hb b n) q⟩, fun b u q n _ => by rw [upd_ne (hx b n)]; exact n, fun b u q _ => ?_,
    fun b xs q => by rw [upd_ne (hm b _ q fun z => z)]; exact q, fun b u xs q => by rw [upd_ne (hm b _ q fun z => z)]; exact q, fun b ps q => ⟨#[], by rw [upd_ne (hm b _ q fun z => z), q]; simp⟩⟩
  by_cases hbe : b = e
  · subst hbe; exact heo
  · exact ⟨u, k b u hbe q⟩
end

/-! ### the heap without what is tracked -/
def trk (h : Heap) (H : Hp) : List Addr := (List.range h.objs.size).filter fun a => (H a).isSome
def hidT (h : Heap) (H : Hp) : Heap := PySem.W.hideAll h (trk h H)
theorem hidT_size (h : Heap) (H : Hp) : (hidT h H).objs.size = h.objs.size := PySem.W.hideAll_size _ _
theorem hidT_get {h : Heap} {H : Hp} {b : Addr} {o : Obj} (e : h.get? b = some o) (n : H b = none) : (hidT h H).get? b = some o :=
  PySem.W.hideAll_get _ e fun hm => by
    have q : (H b).isSome = true := (List.mem_filter.mp hm).2
    rw [n] at q; simp at q
theorem of_hidT {h : Heap} {H : Hp} {b : Addr} {o : Obj} (e : (hidT h H).get? b = some o) : h.get? b = some o ∧ H b = none := by
  have e' : h.get? b = some o := PySem.W.of_hideAll (trk h H) e
  refine ⟨e', ?_⟩
  cases q : H b with
  | none => rfl
  | some x =>
    have hm : b ∈ trk h H := List.mem_filter.mpr ⟨List.mem_range.mpr (Heap.lt_size e'), by simp [q]⟩
    have z : (hidT h H).get? b = none := PySem.W.hideAll_none (trk h H) hm
    rw [z] at e; cases e

/-! ### OpenK's ledger, filled with every new object but one -/
end L2

namespace L2
open PySem PySem.Spec PyProof.Rows

/-- the module's facts, over the base: the heap at the law's entry without what is tracked there -/
structure Mod (K : PySem.W.Frag) (mg : Str → Option Value) (base : Heap) : Prop where
  kin : K.In base
  glob : base.Ns mainGlobals mg
  blt : ∃ mb, base.Ns builtinsNs mb ∧ ∀ x : Str, x ≠ "__name__" → mb x = bootBuiltins x
  nolimit : base.NoLimit

/-- the context: a def's body (or a comprehension's block) running. base: fixed through the whole law; s₀, H₀: the entry; outer: the frames whose slots others may change (a def's callers); stack: all frames that run;
   ex: iterators that were made ahead of the entry and are walked here (a comprehension's); fn: the names whose cells were made at the entry (a def: all; a comprehension's block: its own); calm: not within an except suite; pn: pins that every state bears; xe: what is wanted of an exception that leaves the code -/
structure Cx where
  prog : Program
  w : World
  K : PySem.W.Frag
  mg : Str → Option Value
  base : Heap
  A : Around
  N : List Str
  s₀ : Shared
  H₀ : Hp
  env : Env
  outer : List Env
  stack : List Env
  ex : List Addr
  fn : Str → Bool
  calm : Bool
  pn : List (Addr × Obj)
  xe : Value → Shared → Prop
/-- the callers' frames -/
def frs (l : List Env) : List Addr := l.filterMap (·.frame)
abbrev Cx.fs (X : Cx) : List Addr := frs X.outer

def Vis (sc : Scope) (x : Str) : Prop := sc.names.lookup x = some .local ∨ sc.names.lookup x = some .cell ∨ sc.names.lookup x = some .free
def Loc (sc : Scope) (x : Str) : Prop := sc.names.lookup x = some .local ∨ sc.names.lookup x = some .cell
def Look (env : Env) (h : Heap) (m : Str → Option Value) (x : Str) (u : Value) : Prop :=
  (env.kindOf x = some .local ∧ m x = some u) ∨ ((env.kindOf x = some .cell ∨ env.kindOf x = some .free) ∧ ∃ c, env.cells.lookup x = some c ∧ h.IsCell c (some u))

structure Cx.Ok (X : Cx) : Prop where
  mod : Mod X.K X.mg X.base
  kind : X.env.scope.kind = .function
  glob : X.env.globals = mainGlobals
  blt : X.env.builtins = builtinsNs
  above : X.s₀.heap.objs.size ≤ X.env.locals
  inj : ∀ x y c, X.env.cells.lookup x = some c → X.env.cells.lookup y = some c → x = y
  has : ∀ x, (X.env.kindOf x = some .cell ∨ X.env.kindOf x = some .free) → ∃ c, X.env.cells.lookup x = some c
  cab : ∀ x c, X.fn x = true → X.env.cells.lookup x = some c → X.s₀.heap.objs.size ≤ c
  hd : X.calm = true → X.A.handled = none
  frames : X.A.frames = some X.stack
  stk : X.stack = X.outer ∨ (X.stack = X.env :: X.outer ∧ X.env.frame = some X.env.locals)
  exf : ∀ b ∈ X.ex, b ≠ X.env.locals ∧ ∀ x c, X.env.cells.lookup x = some c → c ≠ b
  bs : ∀ b o, X.base.get? b = some o → X.s₀.heap.get? b = some o ∧ X.H₀ b = none
  bsz : X.base.objs.size ≤ X.s₀.heap.objs.size
  noex : ∀ b o, X.base.get? b = some o → b ∉ X.ex
  exfs : ∀ b ∈ X.ex, b ∉ X.fs
  funs : X.s₀.heap.FunFrames X.base X.outer
  frf : ∀ b ∈ X.fs, X.H₀ b = none

structure Inv (X : Cx) (pins : List (Addr × Obj)) (σ : List (Option V)) (H : Hp) (s : Shared) : Prop where
  ok : X.Ok
  os : s.os = X.s₀.os
  bare : AllBare s.gens
  base : Un X.fs X.ex X.H₀ H X.s₀.heap s.heap
  loc : ∃ m, s.heap.Ns X.env.locals m ∧ ∀ (i : Nat) (x : Str) (v : V), X.N[i]? = some x → σ[i]? = some (some v) → Vis X.env.scope x → ∃ u, RelV v u ∧ Look X.env s.heap m x u
  cell : ∀ x c, X.env.cells.lookup x = some c → ∃ v, s.heap.IsCell c v
  free : H X.env.locals = none
  freeC : ∀ x c, X.env.cells.lookup x = some c → H c = none
  pin : ∀ p ∈ X.pn ++ pins, s.heap.get? p.1 = some p.2 ∧ H p.1 = none ∧ p.1 ≠ X.env.locals ∧ p.1 ∉ X.fs ∧ ∀ v, p.2.data ≠ .cell v
  hok : HOk X.prog X.w H s.heap
  len : σ.length = X.N.length

section
variable {X : Cx} {pins : List (Addr × Obj)} {σ : List (Option V)} {H H' : Hp} {s : Shared} {h' : Heap}

theorem Cx.Ok.nofr (ok : X.Ok) {b : Addr} {o : Obj} (e : X.base.get? b = some o) : b ∉ X.fs := fun hb => by
  have := (ok.funs.mem hb).1
  rw [e] at this; cases this
theorem Inv.bs (I : Inv X pins σ H s) : ∀ b o, X.base.get? b = some o → s.heap.get? b = some o ∧ H b = none := fun b o e =>
  ⟨I.base.keep b o (I.ok.bs b o e).1 (I.ok.bs b o e).2 (I.ok.nofr e) (I.ok.noex b o e), I.base.free b o (I.ok.bs b o e).1 (I.ok.bs b o e).2 (I.ok.noex b o e)⟩
theorem Inv.bk (I : Inv X pins σ H s) : ∀ b o, X.base.get? b = some o → s.heap.get? b = some o := fun b o e => (I.bs b o e).1
theorem Inv.mod (I : Inv X pins σ H s) : Mod X.K X.mg X.base := I.ok.mod
theorem Inv.kIn (I : Inv X pins σ H s) : X.K.In s.heap := I.ok.mod.kin.keeps I.bk
theorem Inv.lt (I : Inv X pins σ H s) : X.env.locals < s.heap.objs.size := let ⟨_, hn, _⟩ := I.loc; hn.lt
theorem Inv.sz (I : Inv X pins σ H s) : X.s₀.heap.objs.size ≤ s.heap.objs.size := Nat.le_trans I.ok.above (Nat.le_of_lt I.lt)
theorem Inv.nofs (I : Inv X pins σ H s) {a : Addr} (h : s.heap.objs.size ≤ a) : a ∉ X.fs := fun hb => by
  obtain ⟨_, o, ho, _⟩ := I.ok.funs.mem hb
  exact absurd (Nat.lt_of_lt_of_le (Heap.lt_size ho) (Nat.le_trans I.sz h)) (Nat.lt_irrefl _)
theorem Inv.cne (I : Inv X pins σ H s) : ∀ x c, X.env.cells.lookup x = some c → c ≠ X.env.locals := fun x c e z => by
  obtain ⟨v, o, ho, hd⟩ := I.cell x c e
  obtain ⟨m, ⟨o', es, ep, ho', hd', _⟩, _⟩ := I.loc
  rw [z, ho'] at ho; cases ho; rw [hd'] at hd; cases hd
theorem Inv.funs (I : Inv X pins σ H s) : s.heap.FunFrames X.base X.outer := by
  have all : ∀ (l : List Env), (∀ b ∈ frs l, b ∈ X.fs) → X.s₀.heap.FunFrames X.base l → s.heap.FunFrames X.base l := by
    intro l
    induction l with
    | nil => intro _ _; trivial
    | cons env r ih =>
      intro hs hl
      obtain ⟨hk, ⟨L, o, hf, hn, ho, hd⟩, hr⟩ := hl
      have hL : L ∈ X.fs := hs L (by unfold frs; rw [List.filterMap_cons, hf]; exact List.mem_cons_self)
      obtain ⟨sl, e⟩ := I.base.slot L o ho (I.ok.frf L hL) hL fun z => I.ok.exfs L z hL
      exact ⟨hk, ⟨L, _, hf, hn, e, hd⟩, ih (fun b hb => hs b (by unfold frs; rw [List.filterMap_cons, hf]; exact List.mem_cons_of_mem _ hb)) hr⟩
  exact all X.outer (fun _ hb => hb) I.ok.funs

/-- the frames that run, for a call -/
theorem Inv.stack (I : Inv X pins σ H s) : s.heap.FunFrames X.base X.stack := by
  rcases I.ok.stk with e | ⟨e, hf⟩
  · rw [e]; exact I.funs
  · rw [e]
    obtain ⟨m, hn, _⟩ := I.loc
    refine .cons (by rw [I.ok.kind]; decide) hf hn ?_ I.funs
    exact Heap.get?_none_of_le (Nat.le_trans I.ok.bsz I.ok.above)
theorem Inv.stkSub (I : Inv X pins σ H s) : ∀ b ∈ frs X.stack, b ∈ X.env.locals :: X.fs := fun b hb => by
  rcases I.ok.stk with e | ⟨e, hf⟩
  · rw [e] at hb; exact List.mem_cons_of_mem _ hb
  · rw [e] at hb
    unfold frs at hb
    rw [List.filterMap_cons, hf] at hb
    exact hb
theorem Inv.stkFree (I : Inv X pins σ H s) : ∀ b ∈ frs X.stack, H b = none := fun b hb => by
  rcases List.mem_cons.mp (I.stkSub b hb) with e | hb
  · rw [e]; exact I.free
  · obtain ⟨_, o, ho, _⟩ := I.ok.funs.mem hb
    exact I.base.free b o ho (I.ok.frf b hb) fun z => I.ok.exfs b z hb

/-- THE STEP: the untracked objects but the frame and the records at ch are kept (the callers' frames up to slots), the frame's map is kept, the new abstract heap is held -/
theorem Inv.step {g' : Array GenState} {t' : Nat} {d' : Drawn} {ch : List Addr} (I : Inv X pins σ H s)
    (hch : ∀ b ∈ ch, (b ∈ X.ex ∨ X.s₀.heap.objs.size ≤ b) ∧ b ≠ X.env.locals ∧ (∀ x c, X.env.cells.lookup x = some c → c ≠ b) ∧ ∀ p ∈ X.pn ++ pins, p.1 ≠ b)
    (keep : ∀ b o, b ≠ X.env.locals → b ∉ X.fs → b ∉ ch → s.heap.get? b = some o → H b = none → h'.get? b = some o)
    (slot : ∀ b o, b ≠ X.env.locals → b ∈ X.fs → b ∉ ch → s.heap.get? b = some o → H b = none → ∃ sl, h'.get? b = some { o with slots := sl }) (free : ∀ b o, b ∉ ch → s.heap.get? b = some o → H b = none → H' b = none)
    (there : ∀ b o, b ∉ ch → s.heap.get? b = some o → ∃ o', h'.get? b = some o')
    (tups : ∀ b xs, H b = some (.tup xs) → H' b = some (.tup xs)) (frzs : ∀ b o u, H b = some (.frz o u) → H' b = some (.frz o u)) (tbls : ∀ b ps, H b = some (.tbl ps) → ∃ more, H' b = some (.tbl (ps ++ more)))
    (ns : ∀ m, s.heap.Ns X.env.locals m → h'.Ns X.env.locals m) (hok : HOk X.prog X.w H' h') (hg : AllBare g') :
    Inv X pins σ H' { s with heap := h', gens := g', drawn := d', toks := t' } := by
  have neL : ∀ b o, X.s₀.heap.get? b = some o → b ≠ X.env.locals := fun b o e => Nat.ne_of_lt (Nat.lt_of_lt_of_le (Heap.lt_size e) I.ok.above)
  have neC : ∀ b o, X.s₀.heap.get? b = some o → b ∉ X.ex → b ∉ ch := fun b o e hx hb => by
    rcases (hch b hb).1 with z | z
    · exact hx z
    · exact absurd (Nat.lt_of_lt_of_le (Heap.lt_size e) z) (Nat.lt_irrefl _)
  have cellK : ∀ x c, X.env.cells.lookup x = some c → ∀ v, s.heap.IsCell c v → h'.IsCell c v := fun x c e v ⟨o, ho, hd⟩ => by
    have nch : c ∉ ch := fun z => (hch c z).2.2.1 x c e rfl
    by_cases hc : c ∈ X.fs
    · obtain ⟨sl, q⟩ := slot c o (I.cne x c e) hc nch ho (I.freeC x c e)
      exact ⟨_, q, hd⟩
    · exact ⟨o, keep c o (I.cne x c e) hc nch ho (I.freeC x c e), hd⟩
  refine ⟨I.ok, I.os, hg, ⟨fun b o e n hb hx => ?_, fun b o e n hb hx => ?_, fun b o e n hx => ?_, fun b o e hx => ?_, fun b xs e => tups b xs (I.base.tups b xs e), fun b o xs e => frzs b o xs (I.base.frzs b o xs e), fun b ps e => ?_⟩, ?_, fun x c e => ?_, ?_, fun x c e => ?_, fun p hp => ?_, hok, I.len⟩
  · exact keep b o (neL b o e) hb (neC b o e hx) (I.base.keep b o e n hb hx) (I.base.free b o e n hx)
  · obtain ⟨sl, e1⟩ := I.base.slot b o e n hb hx
    obtain ⟨sl', e2⟩ := slot b _ (neL b o e) hb (neC b o e hx) e1 (I.base.free b o e n hx)
    exact ⟨sl', e2⟩
  · obtain ⟨o', e1⟩ := I.base.there b o e hx
    exact free b o' (neC b o e hx) e1 (I.base.free b o e n hx)
  · obtain ⟨o', e1⟩ := I.base.there b o e hx
    exact there b o' (neC b o e hx) e1
  · obtain ⟨m1, e1⟩ := I.base.tbls b ps e
    obtain ⟨m2, e2⟩ := tbls b _ e1
    exact ⟨m1 ++ m2, by rw [e2, Array.append_assoc]⟩
  · obtain ⟨m, hn, hl⟩ := I.loc
    refine ⟨m, ns m hn, fun i x v e1 e2 e3 => ?_⟩
    obtain ⟨u, r, l⟩ := hl i x v e1 e2 e3
    refine ⟨u, r, ?_⟩
    rcases l with l | ⟨k, c, e, z⟩
    · exact .inl l
    · exact .inr ⟨k, c, e, cellK x c e _ z⟩
  · obtain ⟨v, z⟩ := I.cell x c e
    exact ⟨v, cellK x c e v z⟩
  · obtain ⟨m, ⟨o, _, _, ho, _⟩, _⟩ := I.loc
    exact free _ o (fun z => (hch _ z).2.1 rfl) ho I.free
  · obtain ⟨v, o, ho, hd⟩ := I.cell x c e
    exact free c o (fun z => (hch c z).2.2.1 x c e rfl) ho (I.freeC x c e)
  · obtain ⟨e, n, ne, nf, d⟩ := I.pin p hp
    have nch : p.1 ∉ ch := fun z => (hch p.1 z).2.2.2 p hp rfl
    exact ⟨keep p.1 p.2 ne nf nch e n, free p.1 p.2 nch e n, ne, nf, d⟩
/-- .. where the frame's own object is kept too -/
theorem Inv.un {t' : Nat} (I : Inv X pins σ H s) (u : Un X.fs [] H H' s.heap h') (hok : HOk X.prog X.w H' h') : Inv X pins σ H' { s with heap := h', toks := t' } := by
  obtain ⟨m, ⟨o, es, ep, ho, r⟩, _⟩ := id I.loc
  obtain ⟨sl, hL⟩ := u.any ho I.free (by simp)
  exact I.step (g' := s.gens) (d' := s.drawn) (ch := []) (fun _ z => nomatch z) (fun b o _ hb _ e n => u.keep b o e n hb (by simp)) (fun b o _ hb _ e n => u.slot b o e n hb (by simp)) (fun b o _ e n => u.free b o e n (by simp)) (fun b o _ e => u.there b o e (by simp)) u.tups u.frzs u.tbls (fun m' hm => by
    obtain ⟨o', es', ep', ho', r'⟩ := hm
    rw [ho] at ho'; cases ho'
    exact ⟨_, es', ep', hL, r'⟩) hok I.bare
/-- behind a call (or a comprehension's block): the slots of this frame may have changed too, the records at ch may have turned -/
theorem Inv.call {g' : Array GenState} {t' : Nat} {d' : Drawn} {ch : List Addr} (I : Inv X pins σ H s) (u : Un (frs X.stack) ch H H' s.heap h') (hok : HOk X.prog X.w H' h') (hg : AllBare g')
    (hch : ∀ b ∈ ch, (b ∈ X.ex ∨ X.s₀.heap.objs.size ≤ b) ∧ b ≠ X.env.locals ∧ (∀ x c, X.env.cells.lookup x = some c → c ≠ b) ∧ ∀ p ∈ X.pn ++ pins, p.1 ≠ b) :
    Inv X pins σ H' { s with heap := h', gens := g', drawn := d', toks := t' } := by
  obtain ⟨m, ⟨o, es, ep, ho, r⟩, _⟩ := id I.loc
  obtain ⟨sl, hL⟩ := u.any ho I.free fun z => (hch _ z).2.1 rfl
  exact I.step (ch := ch) hch (fun b o hL hb hc e n => u.keep b o e n (fun z => (List.mem_cons.mp (I.stkSub b z)).elim hL hb) hc) (fun b o _ _ hc e n => u.any e n hc) (fun b o hc e n => u.free b o e n hc) (fun b o hc e => u.there b o e hc) u.tups u.frzs u.tbls (fun m' hm => by
    obtain ⟨o', es', ep', ho', r'⟩ := hm
    rw [ho] at ho'; cases ho'
    exact ⟨_, es', ep', hL, r'⟩) hok hg
/-- an untracked record of ours (an iterator) has turned -/
theorem Inv.turned {t' : Nat} {it : Addr} (I : Inv X pins σ H s) (k : ∀ b o, b ≠ it → s.heap.get? b = some o → h'.get? b = some o) (hn : H it = none) (hL : it ≠ X.env.locals)
    (h1 : it ∈ X.ex ∨ X.s₀.heap.objs.size ≤ it) (h2 : ∀ x c, X.env.cells.lookup x = some c → c ≠ it) (h3 : ∀ p ∈ X.pn ++ pins, p.1 ≠ it) : Inv X pins σ H { s with heap := h', toks := t' } := by
  have nit : ∀ b u, H b = some u → b ≠ it := fun b u e z => by rw [z, hn] at e; cases e
  refine I.step (g' := s.gens) (d' := s.drawn) (ch := [it]) (fun b hb => ?_) (fun b o _ _ hc e _ => k b o (fun z => hc (by simp [z])) e) (fun b o _ _ hc e _ => ⟨o.slots, k b o (fun z => hc (by simp [z])) e⟩) (fun _ _ _ _ n => n)
    (fun b o hc e => ⟨o, k b o (fun z => hc (by simp [z])) e⟩) (fun _ _ e => e) (fun _ _ _ e => e) (fun b ps e => ⟨#[], by rw [e]; simp⟩) (fun m hm => ?_) (fun b u e => ?_) I.bare
  · have e : b = it := by simpa using hb
    subst e
    exact ⟨h1, hL, h2, h3⟩
  · obtain ⟨o, es, ep, ho, r⟩ := hm
    exact ⟨o, es, ep, k _ o (Ne.symm hL) ho, r⟩
  · refine (I.hok b u e).stay (fun c v hc q => k c v ?_ q) (fun _ q => q) fun _ _ q => q
    rcases hc with z | z
    · rw [z]; exact nit b u e
    · exact nit c _ z
theorem Inv.tok (I : Inv X pins σ H s) (t : Nat) : Inv X pins σ H { s with toks := t } := I.un (h' := s.heap) (t' := t) Un.refl I.hok
/-- all objects kept -/
theorem Inv.kept {t' : Nat} (I : Inv X pins σ H s) (k : ∀ b u, s.heap.get? b = some u → h'.get? b = some u) : Inv X pins σ H { s with heap := h', toks := t' } := I.un (Un.kept k) (I.hok.kept k)
/-- a new object laid and tracked -/
theorem Inv.laid {a : Addr} {o : HO} {t' : Nat} (I : Inv X pins σ H s) (k : ∀ b u, s.heap.get? b = some u → h'.get? b = some u) (hp : s.heap.objs.size ≤ a) (new : ObjOk X.prog X.w (upd H a o) h' a o) :
    Inv X pins σ (upd H a o) { s with heap := h', toks := t' } := I.un (Un.laid k hp (I.hok.fresh hp)) (I.hok.laid k hp new)
/-- an object written -/
theorem Inv.write {x e : Addr} {o : HO} {t' : Nat} (I : Inv X pins σ H s) (mu : Mut (H x)) (he : e = x ∨ H e = some (.own x)) (k : ∀ b u, b ≠ e → s.heap.get? b = some u → h'.get? b = some u) (heo : ∃ u, h'.get? e = some u)
    (new : ObjOk X.prog X.w (upd H x o) h' x o) : Inv X pins σ (upd H x o) { s with heap := h', toks := t' } := I.un (Un.write mu he k heo) (I.hok.write mu he k heo new)
theorem Inv.pins_of {pins' : List (Addr × Obj)} (I : Inv X pins σ H s) (h : ∀ p ∈ pins', s.heap.get? p.1 = some p.2 ∧ H p.1 = none ∧ p.1 ≠ X.env.locals ∧ p.1 ∉ X.fs ∧ ∀ v, p.2.data ≠ .cell v) : Inv X pins' σ H s :=
  ⟨I.ok, I.os, I.bare, I.base, I.loc, I.cell, I.free, I.freeC, fun p hp => (List.mem_append.mp hp).elim (fun z => I.pin p (List.mem_append_left _ z)) (h p), I.hok, I.len⟩

theorem nodup_ix {N : List Str} (hN : N.Nodup) {i j : Nat} {x : Str} (a : N[i]? = some x) (b : N[j]? = some x) : i = j := by
  obtain ⟨h1, e1⟩ := List.getElem?_eq_some_iff.mp a
  obtain ⟨h2, e2⟩ := List.getElem?_eq_some_iff.mp b
  exact (List.getElem_inj hN).mp (e1.trans e2.symm)

/-- a name is stored; what changed -/
theorem store_ok2 {M : Model} {A : Around} {E : Value → Shared → Prop} {i : Nat} {x : Str} {v : V} {u : Value} {Q : Unit → Shared → Prop} (I : Inv X pins σ H s) (hN : X.N.Nodup) (hi : X.N[i]? = some x) (hx : Loc X.env.scope x) (r : RelV v u)
    (h : ∀ s', Inv X pins (σ.set i (some v)) H s' → (∃ a, Heap.SameBut a s.heap s'.heap ∧ (a = X.env.locals ∨ X.env.cells.lookup x = some a)) → Q () s') (hf : X.fn x = true ∨ X.env.scope.names.lookup x = some .local := by first | exact .inl rfl | exact .inr rfl | assumption) : wpAny M A (storeName X.env x u) Q E s := by
  obtain ⟨m, hn, hl⟩ := id I.loc
  have hcls : (X.env.scope.kind == .class || (X.env.scope.kind == .module && X.env.locals != X.env.globals)) = false := by rw [I.ok.kind]; rfl
  have hiσ : i < σ.length := by rw [I.len]; exact (List.getElem?_eq_some_iff.mp hi).1
  have cne := I.cne
  have tracked : ∀ {a : Addr} {h' : Heap}, (∃ o, s.heap.get? a = some o ∧ H a = none) → Heap.SameBut a s.heap h' → HOk X.prog X.w H h' := fun {a h'} ha hs b ob e => by
    obtain ⟨_, _, hfree⟩ := ha
    refine (I.hok b ob e).stay (fun c w' hc q => (hs.2 c ?_).trans q) (fun _ q => q) fun _ _ q => q
    rintro rfl
    rcases hc with rfl | hc
    · rw [hfree] at e; cases e
    · rw [hfree] at hc; cases hc
  rcases hx with hk | hk
  · refine wpAny_storeName_local hk hn (fun h' hn' hs => ?_) hcls
    obtain ⟨oL, _, _, hoL, _⟩ := id hn
    refine h _ ⟨I.ok, I.os, I.bare, ⟨fun b o e n hb hx => ?_, fun b o e n hb hx => ?_, I.base.free, fun b o e hx => ?_, I.base.tups, I.base.frzs, I.base.tbls⟩, ⟨_, hn', fun j y v' e1 e2 e3 => ?_⟩, fun y c e => ?_, I.free, I.freeC, fun p hp => ?_, tracked ⟨oL, hoL, I.free⟩ hs, by simpa using I.len⟩ ⟨_, hs, .inl rfl⟩
    · exact (hs.2 b (Nat.ne_of_lt (Nat.lt_of_lt_of_le (Heap.lt_size e) I.ok.above))).trans (I.base.keep b o e n hb hx)
    · obtain ⟨sl, e1⟩ := I.base.slot b o e n hb hx
      exact ⟨sl, (hs.2 b (Nat.ne_of_lt (Nat.lt_of_lt_of_le (Heap.lt_size e) I.ok.above))).trans e1⟩
    · obtain ⟨o', e1⟩ := I.base.there b o e hx
      exact ⟨o', (hs.2 b (Nat.ne_of_lt (Nat.lt_of_lt_of_le (Heap.lt_size e) I.ok.above))).trans e1⟩
    · by_cases hj : j = i
      · subst hj
        rw [hi] at e1; cases e1
        rw [List.getElem?_set_self hiσ] at e2
        cases e2
        exact ⟨u, r, .inl ⟨hk, by simp⟩⟩
      · rw [List.getElem?_set_ne (Ne.symm hj)] at e2
        obtain ⟨u', r', q⟩ := hl j y v' e1 e2 e3
        refine ⟨u', r', ?_⟩
        rcases q with ⟨k, e⟩ | ⟨k, c, e, z⟩
        · refine .inl ⟨k, ?_⟩
          have : y ≠ x := fun e => hj (nodup_ix hN e1 (e ▸ hi))
          simp [this, e]
        · exact .inr ⟨k, c, e, z.sameBut hs (cne y c e)⟩
    · obtain ⟨w', z⟩ := I.cell y c e
      exact ⟨w', z.sameBut hs (cne y c e)⟩
    · obtain ⟨e, n, ne, nf, d⟩ := I.pin p hp
      exact ⟨(hs.2 p.1 ne).trans e, n, ne, nf, d⟩
  · have hfn : X.fn x = true := by
      rcases hf with z | z
      · exact z
      · rw [z] at hk; cases hk
    obtain ⟨c, hc⟩ := I.ok.has x (.inl hk)
    obtain ⟨w', z⟩ := I.cell x c hc
    refine wpAny_storeName_cell I.ok.kind hk hc z (fun h' hc' hs => ?_)
    obtain ⟨oc, hoc, hocd⟩ := id z
    refine h { s with heap := h' } ⟨I.ok, I.os, I.bare, ⟨fun b o e n hb hx => ?_, fun b o e n hb hx => ?_, I.base.free, fun b o e hx => ?_, I.base.tups, I.base.frzs, I.base.tbls⟩, ⟨m, hn.sameBut hs (Ne.symm (cne x c hc)), fun j y v' e1 e2 e3 => ?_⟩, fun y c' e => ?_, I.free, I.freeC, fun p hp => ?_, tracked ⟨oc, hoc, I.freeC x c hc⟩ hs, by simpa using I.len⟩ ⟨c, hs, .inr hc⟩
    · exact (hs.2 b (Nat.ne_of_lt (Nat.lt_of_lt_of_le (Heap.lt_size e) (I.ok.cab x c hfn hc)))).trans (I.base.keep b o e n hb hx)
    · obtain ⟨sl, e1⟩ := I.base.slot b o e n hb hx
      exact ⟨sl, (hs.2 b (Nat.ne_of_lt (Nat.lt_of_lt_of_le (Heap.lt_size e) (I.ok.cab x c hfn hc)))).trans e1⟩
    · obtain ⟨o', e1⟩ := I.base.there b o e hx
      exact ⟨o', (hs.2 b (Nat.ne_of_lt (Nat.lt_of_lt_of_le (Heap.lt_size e) (I.ok.cab x c hfn hc)))).trans e1⟩
    · by_cases hj : j = i
      · subst hj
        rw [hi] at e1; cases e1
        rw [List.getElem?_set_self hiσ] at e2
        cases e2
        exact ⟨u, r, .inr ⟨.inl hk, c, hc, hc'⟩⟩
      · rw [List.getElem?_set_ne (Ne.symm hj)] at e2
        obtain ⟨u', r', q⟩ := hl j y v' e1 e2 e3
        refine ⟨u', r', ?_⟩
        rcases q with q | ⟨k, c', e, z'⟩
        · exact .inl q
        · refine .inr ⟨k, c', e, z'.sameBut hs ?_⟩
          rintro rfl
          exact hj (nodup_ix hN e1 (I.ok.inj _ _ _ e hc ▸ hi))
    · by_cases hcc : c' = c
      · subst hcc; exact ⟨_, hc'⟩
      · obtain ⟨w2, z2⟩ := I.cell y c' e
        exact ⟨w2, z2.sameBut hs hcc⟩
    · obtain ⟨e, n, ne, nf, d⟩ := I.pin p hp
      refine ⟨(hs.2 p.1 ?_).trans e, n, ne, nf, d⟩
      intro q
      rw [q, hoc] at e
      have q' : oc = p.2 := Option.some.inj e
      exact d w' (by rw [← q']; exact hocd)
theorem store_ok {M : Model} {A : Around} {E : Value → Shared → Prop} {i : Nat} {x : Str} {v : V} {u : Value} {Q : Unit → Shared → Prop} (I : Inv X pins σ H s) (hN : X.N.Nodup) (hi : X.N[i]? = some x) (hx : Loc X.env.scope x) (r : RelV v u)
    (h : ∀ s', Inv X pins (σ.set i (some v)) H s' → Q () s') (hf : X.fn x = true ∨ X.env.scope.names.lookup x = some .local := by first | exact .inl rfl | exact .inr rfl | assumption) : wpAny M A (storeName X.env x u) Q E s :=
  store_ok2 I hN hi hx r (fun s' I' _ => h s' I') hf
/-- behind a call or a block, the state as it is -/
theorem Inv.call' {s' : Shared} {ch : List Addr} (I : Inv X pins σ H s) (ho : s'.os = s.os) (u : Un (frs X.stack) ch H H' s.heap s'.heap) (hok : HOk X.prog X.w H' s'.heap) (hg : AllBare s'.gens)
    (hch : ∀ b ∈ ch, (b ∈ X.ex ∨ X.s₀.heap.objs.size ≤ b) ∧ b ≠ X.env.locals ∧ (∀ x c, X.env.cells.lookup x = some c → c ≠ b) ∧ ∀ p ∈ X.pn ++ pins, p.1 ≠ b) : Inv X pins σ H' s' := by
  obtain ⟨h', g', d', t', o'⟩ := s'
  have e : o' = s.os := ho
  subst e
  exact I.call (g' := g') (t' := t') (d' := d') u hok hg hch
end

/-! ### the judgements -/
/-- an exception: its class, its own dict's address (where it has one), the abstract heap behind it -/
abbrev XK := Value → Option Addr → Hp → Prop
abbrev St := List (Option V)
abbrev VK := V → Hp → Prop
/-- an expression's reading; a test's; an argument list's -/
abbrev TE := St → Hp → VK → Prop
abbrev TT := St → Hp → (Bool → Hp → Prop) → Prop
abbrev TA := St → Hp → (List V → Hp → Prop) → Prop
/-- what is wanted behind a statement -/
structure Ends where
  nx : St → Hp → Prop
  rt : VK
  bk : St → Hp → Prop := fun _ _ => False
  ct : St → Hp → Prop := fun _ _ => False
abbrev TS := Ends → St → Hp → Prop

def EP (X : Cx) (pins : List (Addr × Obj)) (σ : St) (Q : VK) (u : Value) (s' : Shared) : Prop := ∃ v H', Inv X pins σ H' s' ∧ RelV v u ∧ Q v H'
def TP (X : Cx) (pins : List (Addr × Obj)) (σ : St) (Q : Bool → Hp → Prop) (b : Bool) (s' : Shared) : Prop := ∃ H', Inv X pins σ H' s' ∧ Q b H'
def AP (X : Cx) (pins : List (Addr × Obj)) (σ : St) (Q : List V → Hp → Prop) (us : List Value) (s' : Shared) : Prop := ∃ vs H', Inv X pins σ H' s' ∧ Vals vs us ∧ Q vs H'
def SP (X : Cx) (pins : List (Addr × Obj)) (D : Ends) (f : Flow) (s' : Shared) : Prop :=
  match f with
  | .next => ∃ σ' H', Inv X pins σ' H' s' ∧ D.nx σ' H'
  | .brk => ∃ σ' H', Inv X pins σ' H' s' ∧ D.bk σ' H'
  | .cont => ∃ σ' H', Inv X pins σ' H' s' ∧ D.ct σ' H'
  | .ret u => ∃ v σ' H', Inv X pins σ' H' s' ∧ RelV v u ∧ D.rt v H'

structure PE (X : Cx) (e : Expr) (t : TE) : Prop where
  go : ∀ (pins : List (Addr × Obj)) (s : Shared) (σ : St) (H : Hp) (Q : VK), Inv X pins σ H s → t σ H Q → wpAny (model X.prog X.w) X.A (eval e X.env) (EP X pins σ Q) X.xe s
instance {X : Cx} {e : Expr} {t : TE} : CoeFun (PE X e t) (fun _ => ∀ (pins : List (Addr × Obj)) (s : Shared) (σ : St) (H : Hp) (Q : VK), Inv X pins σ H s → t σ H Q → wpAny (model X.prog X.w) X.A (eval e X.env) (EP X pins σ Q) X.xe s) := ⟨PE.go⟩
structure PT (X : Cx) (e : Expr) (t : TT) : Prop where
  go : ∀ (pins : List (Addr × Obj)) (s : Shared) (σ : St) (H : Hp) (Q : Bool → Hp → Prop), Inv X pins σ H s → t σ H Q → wpAny (model X.prog X.w) X.A (isTrue e X.env (eval e X.env)) (TP X pins σ Q) X.xe s
instance {X : Cx} {e : Expr} {t : TT} : CoeFun (PT X e t) (fun _ => ∀ (pins : List (Addr × Obj)) (s : Shared) (σ : St) (H : Hp) (Q : Bool → Hp → Prop), Inv X pins σ H s → t σ H Q → wpAny (model X.prog X.w) X.A (isTrue e X.env (eval e X.env)) (TP X pins σ Q) X.xe s) := ⟨PT.go⟩
/-- a test whatever its 'whole' is (and, or) -/
structure PW (X : Cx) (e : Expr) (t : TT) : Prop where
  go : ∀ (whole : Sem Value) (pins : List (Addr × Obj)) (s : Shared) (σ : St) (H : Hp) (Q : Bool → Hp → Prop), Inv X pins σ H s → t σ H Q → wpAny (model X.prog X.w) X.A (isTrue e X.env whole) (TP X pins σ Q) X.xe s
instance {X : Cx} {e : Expr} {t : TT} : CoeFun (PW X e t) (fun _ => ∀ (whole : Sem Value) (pins : List (Addr × Obj)) (s : Shared) (σ : St) (H : Hp) (Q : Bool → Hp → Prop), Inv X pins σ H s → t σ H Q → wpAny (model X.prog X.w) X.A (isTrue e X.env whole) (TP X pins σ Q) X.xe s) := ⟨PW.go⟩
theorem PW.pt {X : Cx} {e : Expr} {t : TT} (h : PW X e t) : PT X e t := .mk (h _)
/-- an argument list (no star), from the left -/
structure PA (X : Cx) (es : List Expr) (t : TA) : Prop where
  go : ∀ (pos : Pos) (pins : List (Addr × Obj)) (s : Shared) (σ : St) (H : Hp) (Q : List V → Hp → Prop), Inv X pins σ H s → t σ H Q → wpAny (model X.prog X.w) X.A (spliced (backTo pos (starEach es X.env))) (AP X pins σ Q) X.xe s
instance {X : Cx} {es : List Expr} {t : TA} : CoeFun (PA X es t) (fun _ => ∀ (pos : Pos) (pins : List (Addr × Obj)) (s : Shared) (σ : St) (H : Hp) (Q : List V → Hp → Prop), Inv X pins σ H s → t σ H Q → wpAny (model X.prog X.w) X.A (spliced (backTo pos (starEach es X.env))) (AP X pins σ Q) X.xe s) := ⟨PA.go⟩
structure PS (X : Cx) (st : Stmt) (t : TS) : Prop where
  go : ∀ (pins : List (Addr × Obj)) (s : Shared) (σ : St) (H : Hp) (D : Ends), Inv X pins σ H s → t D σ H → wpAny (model X.prog X.w) X.A (exec st X.env) (SP X pins D) X.xe s
instance {X : Cx} {st : Stmt} {t : TS} : CoeFun (PS X st t) (fun _ => ∀ (pins : List (Addr × Obj)) (s : Shared) (σ : St) (H : Hp) (D : Ends), Inv X pins σ H s → t D σ H → wpAny (model X.prog X.w) X.A (exec st X.env) (SP X pins D) X.xe s) := ⟨PS.go⟩
structure PSs (X : Cx) (st : List Stmt) (t : TS) : Prop where
  go : ∀ (pins : List (Addr × Obj)) (s : Shared) (σ : St) (H : Hp) (D : Ends), Inv X pins σ H s → t D σ H → wpAny (model X.prog X.w) X.A (execs st X.env) (SP X pins D) X.xe s
instance {X : Cx} {st : List Stmt} {t : TS} : CoeFun (PSs X st t) (fun _ => ∀ (pins : List (Addr × Obj)) (s : Shared) (σ : St) (H : Hp) (D : Ends), Inv X pins σ H s → t D σ H → wpAny (model X.prog X.w) X.A (execs st X.env) (SP X pins D) X.xe s) := ⟨PSs.go⟩
/-- weaken the end -/
theorem thn {α : Type} {t : Sem α} {Q Q' : α → Shared → Prop} {M : Model} {A : Around} {E : Value → Shared → Prop} {s : Shared} (h : wpAny M A t Q E s) (hQ : ∀ a s, Q a s → Q' a s) : wpAny M A t Q' E s := wpAny_mono h hQ fun _ _ x => x
end L2

namespace L2
open PySem PySem.Spec PyProof.Rows
section
variable {X : Cx}


/-! ### names and constants -/
inductive tVar (i : Nat) (σ : St) (H : Hp) (Q : VK) : Prop
  | mk (v : V) (e : σ[i]? = some (some v)) (q : Q v H) : tVar i σ H Q
abbrev tC (v : V) : TE := fun _ H Q => Q v H
theorem pe_var {i : Nat} {x : Str} {pos : Pos} (hN : X.N[i]? = some x) (hv : Vis X.env.scope x) (hd : (x == ("__debug__" : Str)) = false := by decide) (hcd : (x == ("__classdict__" : Str)) = false := by decide) : PE X (.Name x pos) (tVar i) := by
  refine ⟨?_⟩
  intro pins s σ H Q I h
  obtain ⟨v, e, h⟩ := h
  obtain ⟨m, hn, hl⟩ := I.loc
  obtain ⟨u, r, l⟩ := hl i x v hN e hv
  have fin : EP X pins σ Q u s := ⟨v, H, I, r, h⟩
  rcases l with ⟨hk, hm⟩ | ⟨hk, c, hc, hcell⟩
  · exact wpAny_Name (wpAny_loadName_local I.ok.kind hk hn hm fin) hd
  · rcases hk with hk | hk
    · exact wpAny_Name (wpAny_loadName_cell I.ok.kind hk hc hcell fin) hd
    · exact wpAny_Name (wpAny_loadName_free I.ok.kind hk hc hcell fin hcd) hd
theorem pe_int {i j pos} : PE X (.Constant (.int i) j pos) (tC (.int i)) := .mk fun _ _ _ H _ I h => wpAny_Constant_int ⟨.int i, H, I.tok _, ⟨_, rfl⟩, h⟩
theorem pe_bl {b j pos} : PE X (.Constant (.bool b) j pos) (tC (.bl b)) := .mk fun _ _ _ H _ I h => Constant_bool ⟨.bl b, H, I, rfl, h⟩
theorem pe_non {j pos} : PE X (.Constant .none j pos) (tC .non) := .mk fun _ _ _ H _ I h => Constant_none ⟨.non, H, I, rfl, h⟩
theorem pe_str {x j pos} : PE X (.Constant (.str x) j pos) (tC (.str x)) := .mk fun _ _ _ H _ I h => Calls.Constant_str ⟨.str x, H, I.tok _, ⟨_, rfl⟩, h⟩

/-- a global name of the def -/
def Gl (X : Cx) (x : Str) : Prop := X.env.kindOf x = some .globalImplicit
theorem ld_glob {E : Value → Shared → Prop} {pins : List (Addr × Obj)} {s : Shared} {σ : St} {H : Hp} {x : Str} {u : Value} {pos : Pos} {Q : Value → Shared → Prop} (I : Inv X pins σ H s) (hg : Gl X x) (hm : X.mg x = some u) (h : Q u s)
    (hd : (x == ("__debug__" : Str)) = false := by decide) : wpAny (model X.prog X.w) X.A (eval (.Name x pos) X.env) Q E s :=
  Calls.Name_function_global I.ok.kind hg (Calls.loadGlobal_global (by rw [I.ok.glob]; exact I.mod.glob.keeps I.bk) hm h) hd
theorem ld_blt {E : Value → Shared → Prop} {pins : List (Addr × Obj)} {s : Shared} {σ : St} {H : Hp} {x : Str} {u : Value} {pos : Pos} {Q : Value → Shared → Prop} (I : Inv X pins σ H s) (hg : Gl X x) (hm : X.mg x = none) (hv : bootBuiltins x = some u) (h : Q u s)
    (hn : x ≠ "__name__" := by decide) (hd : (x == ("__debug__" : Str)) = false := by decide) : wpAny (model X.prog X.w) X.A (eval (.Name x pos) X.env) Q E s := by
  obtain ⟨mb, h1, h2⟩ := I.mod.blt
  exact Calls.Name_function_global I.ok.kind hg (Calls.loadGlobal_builtin (by rw [I.ok.glob]; exact I.mod.glob.keeps I.bk) hm (by rw [I.ok.blt]; exact h1.keeps I.bk) ((h2 x hn).trans hv) h) hd
/-- a module's constant, a class, a function, as a value -/
theorem pe_glob {x : Str} {v : V} {u : Value} {pos : Pos} (hg : Gl X x) (hm : X.mg x = some u) (r : RelV v u) (hd : (x == ("__debug__" : Str)) = false := by decide) : PE X (.Name x pos) (tC v) := .mk
  fun _ _ _ H _ I h => ld_glob I hg hm ⟨v, H, I, r, h⟩ hd
theorem pe_bltn {x : Str} {v : V} {u : Value} {pos : Pos} (hg : Gl X x) (hm : X.mg x = none) (hv : bootBuiltins x = some u) (r : RelV v u) (hn : x ≠ "__name__" := by decide) (hd : (x == ("__debug__" : Str)) = false := by decide) : PE X (.Name x pos) (tC v) := .mk
  fun _ _ _ H _ I h => ld_blt I hg hm hv ⟨v, H, I, r, h⟩ hn hd

/-! ### arithmetic -/
variable {a b : Expr} {ta tb : TE} {pos : Pos}

/-! ### comparisons -/
def PC (X : Cx) (op : CmpOp) (a b : Expr) (t : TE) : Prop :=
  ∀ (pins : List (Addr × Obj)) (s : Shared) (σ : St) (H : Hp) (Q : VK), Inv X pins σ H s → t σ H Q →
    wpAny (model X.prog X.w) X.A (eval a X.env) (fun v s₁ => wpAny (model X.prog X.w) X.A (eval b X.env) (fun u s₂ => wpAny (model X.prog X.w) X.A (compareOp op v u) (EP X pins σ Q) X.xe s₂) X.xe s₁) X.xe s
/-- a comparison as a value, as a test -/
inductive tBx (x : V) (H1 : Hp) (Q : Bool → Hp → Prop) : Prop
  | mk (c : Bool) (e : x = .bl c) (q : Q c H1) : tBx x H1 Q
def tB (t : TE) : TT := fun σ H Q => t σ H fun x H1 => tBx x H1 Q
theorem pe_cmp {op : CmpOp} {t : TE} (h : PC X op a b t) (h1 : behindInMarks op b = false := by first | exact nobehind _ (by decide) (by decide) | rfl) : PE X (.Compare a [op] [b] pos) t := .mk fun pins s σ H Q I hw => wpAny_Compare1 (h pins s σ H Q I hw) h1
theorem pt_cmp {op : CmpOp} {t : TE} (h : PC X op a b t) (h1 : behindInMarks op b = false := by first | exact nobehind _ (by decide) (by decide) | rfl) : PT X (.Compare a [op] [b] pos) (tB t) := by
  refine ⟨?_⟩
  intro pins s σ H Q I hw
  refine wpAny_isTrue_Compare1 (thn (h pins s σ H _ I hw) fun v s1 h1 => thn h1 fun u s2 h2 => thn h2 fun c s3 ⟨x, H1, I1, r1, q1⟩ => ?_) h1
  obtain ⟨d, rfl, q⟩ := q1
  cases r1
  exact wpAny_truthy_bool ⟨H1, I1, q⟩
/-- an expression whose value is a bool, as a test -/
theorem pt_val {e : Expr} {t : TE} (h : PE X e t) (he : ∀ whole, isTrue e X.env whole = (do let v ← whole; standAt e.pos; holding [v] (truthy v)) := by intro _; rfl) : PT X e (tB t) := by
  refine ⟨?_⟩
  intro pins s σ H Q I hw
  refine isTrue_plain (thn (h pins s σ H _ I hw) fun v s1 ⟨x, H1, I1, r1, q1⟩ => ?_) (he _)
  obtain ⟨d, rfl, q⟩ := q1
  cases r1
  exact wpAny_truthy_bool ⟨H1, I1, q⟩

/-! ### and, or, not -/
variable {tA tB' : TT} {rest : List Expr}
def tAnd (t u : TT) : TT := fun σ H Q => t σ H fun c H1 => if c = true then u σ H1 Q else Q false H1
def tOr (t u : TT) : TT := fun σ H Q => t σ H fun c H1 => if c = true then Q true H1 else u σ H1 Q
def tNot (t : TT) : TT := fun σ H Q => t σ H fun c H1 => Q (!c) H1
theorem pw_and1 (ha : PT X a tA) : PW X (.BoolOp .And [a] pos) tA := by
  refine ⟨?_⟩
  intro wh pins s σ H Q I h
  refine isTrue_and (thn (ha pins s σ H Q I h) fun c s1 e => ?_)
  cases c with
  | true => exact isTrue_and_nil e
  | false => exact e
theorem pw_or1 (ha : PT X a tA) : PW X (.BoolOp .Or [a] pos) tA := by
  refine ⟨?_⟩
  intro wh pins s σ H Q I h
  refine isTrue_or (thn (ha pins s σ H Q I h) fun c s1 e => ?_)
  cases c with
  | false => exact isTrue_or_nil e
  | true => exact e
theorem pw_and (ha : PT X a tA) (hb : PW X (.BoolOp .And (b :: rest) pos) tB') : PW X (.BoolOp .And (a :: b :: rest) pos) (tAnd tA tB') := by
  refine ⟨?_⟩
  intro wh pins s σ H Q I h
  refine isTrue_and (thn (ha pins s σ H _ I h) fun c s1 ⟨H1, I1, q1⟩ => ?_)
  cases c with
  | true => exact hb wh pins s1 σ H1 Q I1 q1
  | false => exact ⟨H1, I1, q1⟩
theorem pw_or (ha : PT X a tA) (hb : PW X (.BoolOp .Or (b :: rest) pos) tB') : PW X (.BoolOp .Or (a :: b :: rest) pos) (tOr tA tB') := by
  refine ⟨?_⟩
  intro wh pins s σ H Q I h
  refine isTrue_or (thn (ha pins s σ H _ I h) fun c s1 ⟨H1, I1, q1⟩ => ?_)
  cases c with
  | true => exact ⟨H1, I1, q1⟩
  | false => exact hb wh pins s1 σ H1 Q I1 q1
theorem pt_not (ha : PT X a tA) : PT X (.UnaryOp .Not a pos) (tNot tA) := by
  refine ⟨?_⟩
  intro pins s σ H Q I h
  exact isTrue_not (ha pins s σ H (fun c H1 => Q (!c) H1) I h)
/-- .. as values (bools) -/
inductive tAndX (tb : TE) (σ : St) (x : V) (H1 : Hp) (Q : VK) : Prop
  | mk (c : Bool) (e : x = .bl c) (q : if c = true then tb σ H1 Q else Q (.bl false) H1) : tAndX tb σ x H1 Q
def tAndV (ta tb : TE) : TE := fun σ H Q => ta σ H fun x H1 => tAndX tb σ x H1 Q
theorem pe_one {op} {t : TE} (h : PE X a t) : PE X (.BoolOp op [a] pos) t := .mk fun pins s σ H Q I hw => BoolOp_one (h pins s σ H Q I hw)
theorem pe_and (ha : PE X a ta) (hb : PE X (.BoolOp .And (b :: rest) pos) tb) : PE X (.BoolOp .And (a :: b :: rest) pos) (tAndV ta tb) := by
  refine ⟨?_⟩
  intro pins s σ H Q I h
  refine BoolOp_and (thn (ha pins s σ H _ I h) fun v s1 ⟨x, H1, I1, r1, q1⟩ => ?_)
  obtain ⟨c, rfl, q1⟩ := q1
  cases r1
  refine wpAny_truthy_bool ?_
  cases c with
  | true => exact hb pins s1 σ H1 Q I1 q1
  | false => exact ⟨.bl false, H1, I1, rfl, q1⟩
end
end L2

namespace L2
open PySem PySem.Spec PyProof.Rows

/-! ### a list, a tuple that is read: tracked, frozen, or an object of the module -/
def SqL (K : PySem.W.Frag) (H : Hp) (a : Addr) (xs : List V) : Prop :=
  Rd H a (.lst xs) ∨
    ∃ (o : Obj) (its : Array Value) (n : Nat), K.lookup a = some o ∧ o.cls = .type "list" ∧ o.dict = none ∧ o.data = .seq its n ∧ its.size ≤ sizeLine ∧ Vals xs its.toList
def SqT (K : PySem.W.Frag) (H : Hp) (a : Addr) (xs : List V) : Prop :=
  Rd H a (.tup xs) ∨
    ∃ (o : Obj) (its : Array Value) (n : Nat), K.lookup a = some o ∧ o.cls = .type "tuple" ∧ o.data = .seq its n ∧ its.size ≤ sizeLine ∧ Vals xs its.toList
def absV : Value → Option V
  | .none => some .non
  | .bool b => some (.bl b)
  | .int i _ => some (.int i)
  | .str x _ => some (.str x)
  | .bytes b _ => some (.byt b)
  | .float b _ => some (.flt b)
  | .ref a => some (.ref a)
  | .type n => some (.ty n)
  | _ => none
theorem RelV.abs {x : V} {u : Value} (r : RelV x u) : absV u = some x := by
  cases x with
  | non => cases r; rfl
  | bl _ => cases r; rfl
  | int _ => obtain ⟨t, rfl⟩ := r; rfl
  | str _ => obtain ⟨t, rfl⟩ := r; rfl
  | byt _ => obtain ⟨t, rfl⟩ := r; rfl
  | flt _ => obtain ⟨t, rfl⟩ := r; rfl
  | ref _ => cases r; rfl
  | ty _ => cases r; rfl
theorem RelV.inj {x y : V} {u : Value} (r : RelV x u) (q : RelV y u) : x = y := Option.some.inj (r.abs.symm.trans q.abs)
theorem Vals.inj : ∀ {xs ys : List V} {us : List Value}, Vals xs us → Vals ys us → xs = ys
  | _, _, _, .nil, .nil => rfl
  | _, _, _, .cons r t, .cons r' t' => by rw [r.inj r', Vals.inj t t']
section
variable {X : Cx} {pins : List (Addr × Obj)} {σ : St} {H : Hp} {s : Shared} {a : Addr} {xs ys : List V}
theorem SqL.of {K : PySem.W.Frag} (h : H a = some (.lst xs)) : SqL K H a xs := .inl (.inl h)
theorem SqT.of {K : PySem.W.Frag} (h : H a = some (.tup xs)) : SqT K H a xs := .inl (.inl h)
theorem Inv.list (I : Inv X pins σ H s) (h : SqL X.K H a xs) : ∃ its : List Value, Vals xs its ∧ PlainL s.heap a its.toArray ∧ xs.length ≤ sizeLine := by
  rcases h with h | ⟨o, its, n, hk, hc, hd, hs, hz, r⟩
  · obtain ⟨z, its, n, r, e⟩ := h.ok I.hok
    exact ⟨its, r, ⟨_, n, e, rfl, rfl, rfl⟩, z⟩
  · refine ⟨its.toList, r, ⟨o, n, I.kIn a o hk, hc, hd, by simpa using hs⟩, ?_⟩
    have e := r.length
    simp only [Array.length_toList] at e
    omega
theorem Inv.tuple (I : Inv X pins σ H s) (h : SqT X.K H a xs) : ∃ its : List Value, Vals xs its ∧ IsTup s.heap a its.toArray ∧ xs.length ≤ sizeLine := by
  rcases h with h | ⟨o, its, n, hk, hc, hs, hz, r⟩
  · obtain ⟨z, its, r, p⟩ := h.ok I.hok
    exact ⟨its, r, p, z⟩
  · refine ⟨its.toList, r, ⟨o, I.kIn a o hk, hc, n, by simpa using hs⟩, ?_⟩
    have e := r.length
    simp only [Array.length_toList] at e
    omega
theorem Inv.list_inj (I : Inv X pins σ H s) (h : SqL X.K H a xs) (h' : SqL X.K H a ys) : xs = ys := by
  obtain ⟨its, r, ⟨o, n, e, _, _, d⟩, _⟩ := I.list h
  obtain ⟨its', r', ⟨o', n', e', _, _, d'⟩, _⟩ := I.list h'
  rw [e] at e'; cases e'
  rw [d] at d'
  injection d' with d1 _
  have : its = its' := by simpa using congrArg Array.toList d1
  subst this
  exact r.inj r'
theorem Inv.tuple_inj (I : Inv X pins σ H s) (h : SqT X.K H a xs) (h' : SqT X.K H a ys) : xs = ys := by
  obtain ⟨its, r, ⟨o, e, _, n, d⟩, _⟩ := I.tuple h
  obtain ⟨its', r', ⟨o', e', _, n', d'⟩, _⟩ := I.tuple h'
  rw [e] at e'; cases e'
  rw [d] at d'
  injection d' with d1 _
  have : its = its' := by simpa using congrArg Array.toList d1
  subst this
  exact r.inj r'
end

/-! ### another wish about exceptions -/
abbrev Cx.wish (X : Cx) (E : Value → Shared → Prop) : Cx := { X with xe := E }
/-- no exception leaves -/
abbrev Cx.nox (X : Cx) : Cx := X.wish fun _ _ => False
theorem Cx.Ok.wish {X : Cx} (ok : X.Ok) (E : Value → Shared → Prop) : (X.wish E).Ok :=
  ⟨ok.mod, ok.kind, ok.glob, ok.blt, ok.above, ok.inj, ok.has, ok.cab, ok.hd, ok.frames, ok.stk, ok.exf, ok.bs, ok.bsz, ok.noex, ok.exfs, ok.funs, ok.frf⟩
theorem Cx.Ok.unwish {X : Cx} {E : Value → Shared → Prop} (ok : (X.wish E).Ok) : X.Ok :=
  ⟨ok.mod, ok.kind, ok.glob, ok.blt, ok.above, ok.inj, ok.has, ok.cab, ok.hd, ok.frames, ok.stk, ok.exf, ok.bs, ok.bsz, ok.noex, ok.exfs, ok.funs, ok.frf⟩
section
variable {X : Cx} {pins : List (Addr × Obj)} {σ : St} {H : Hp} {s : Shared} {E : Value → Shared → Prop}
theorem Inv.wish (I : Inv X pins σ H s) (E : Value → Shared → Prop) : Inv (X.wish E) pins σ H s := ⟨I.ok.wish E, I.os, I.bare, I.base, I.loc, I.cell, I.free, I.freeC, I.pin, I.hok, I.len⟩
theorem Inv.unwish (I : Inv (X.wish E) pins σ H s) : Inv X pins σ H s := ⟨I.ok.unwish, I.os, I.bare, I.base, I.loc, I.cell, I.free, I.freeC, I.pin, I.hok, I.len⟩
theorem SP.unwish {D : Ends} {f : Flow} {s' : Shared} (h : SP (X.wish E) pins D f s') : SP X pins D f s' := by
  cases f with
  | next => obtain ⟨σ', H', I, q⟩ := h; exact ⟨σ', H', I.unwish, q⟩
  | brk => obtain ⟨σ', H', I, q⟩ := h; exact ⟨σ', H', I.unwish, q⟩
  | cont => obtain ⟨σ', H', I, q⟩ := h; exact ⟨σ', H', I.unwish, q⟩
  | ret u => obtain ⟨v, σ', H', I, r, q⟩ := h; exact ⟨v, σ', H', I.unwish, r, q⟩
theorem PSs.nox {st : List Stmt} {t : TS} (h : PSs X.nox st t) : PSs X st t := .mk fun pins s σ H D I hw =>
  wpAny_mono (h pins s σ H D (I.wish _) hw) (fun _ _ q => q.unwish) fun _ _ z => False.elim z
end

/-! ### blocks and small statements -/
section
variable {X : Cx} {st : Stmt} {rest : List Stmt} {t u : TS} {e : Expr} {te : TE} {pos : Pos}
def tNext : TS := fun D σ H => D.nx σ H
def tSeq (t u : TS) : TS := fun D σ H => t { D with nx := u D } σ H
theorem pss_nil : PSs X [] tNext := .mk fun _ _ σ H _ I h => wpAny_execs_nil ⟨σ, H, I, h⟩
theorem pss_cons (h1 : PS X st t) (h2 : PSs X rest u) : PSs X (st :: rest) (tSeq t u) := by
  refine ⟨?_⟩
  intro pins s σ H D I h
  refine wpAny_execs_cons (thn (h1 pins s σ H { D with nx := u D } I h) fun f s1 q => ?_)
  cases f with
  | next =>
    obtain ⟨σ', H', I', q⟩ := q
    exact h2 pins s1 σ' H' D I' q
  | ret v => exact q
  | brk => exact q
  | cont => exact q
theorem pss_one (h1 : PS X st t) : PSs X [st] t := by
  refine ⟨?_⟩
  intro pins s σ H D I h
  refine wpAny_execs_cons (thn (h1 pins s σ H D I h) fun f s1 q => ?_)
  cases f with
  | next => exact wpAny_execs_nil q
  | ret v => exact q
  | brk => exact q
  | cont => exact q
/-- in a def's body nothing is shown -/
theorem Inv.quiet {pins : List (Addr × Obj)} {σ : St} {H : Hp} {s : Shared} (I : Inv X pins σ H s) : interactive X.env = false := by simp [interactive, I.ok.kind]
/-- an expression whose value is dropped -/
def tDrop (te : TE) : TS := fun D σ H => te σ H fun _ H1 => D.nx σ H1
theorem ps_expr (he : PE X e te) (hs : swapsWith e none pos.line X.env = pure false := by rfl) : PS X (.Expr e pos) (tDrop te) := by
  refine ⟨?_⟩
  intro pins s σ H D I h
  exact wpAny_Expr_any (thn (he pins s σ H _ I h) fun v s1 ⟨x, H1, I1, r1, q1⟩ => ⟨σ, H1, I1, q1⟩) I.quiet hs
def tRet (te : TE) : TS := fun D σ H => te σ H D.rt
theorem ps_ret (he : PE X e te) : PS X (.Return (some e) pos) (tRet te) := by
  refine ⟨?_⟩
  intro pins s σ H D I h
  exact wpAny_Return_some (thn (he pins s σ H _ I h) fun v s1 ⟨x, H1, I1, r1, q1⟩ => ⟨x, σ, H1, I1, r1, q1⟩)
def tIfS (c : TT) (t u : TS) : TS := fun D σ H => c σ H fun b H1 => if b = true then t D σ H1 else u D σ H1
theorem ps_if {c : Expr} {a b : List Stmt} {tc : TT} (hc : PT X c tc) (ha : PSs X a t) (hb : PSs X b u) : PS X (.If c a b pos) (tIfS tc t u) := by
  refine ⟨?_⟩
  intro pins s σ H D I h
  refine wpAny_If (thn (hc pins s σ H _ I h) fun d s1 ⟨H1, I1, q1⟩ => ?_)
  cases d with
  | true => exact ha pins s1 σ H1 D I1 q1
  | false => exact hb pins s1 σ H1 D I1 q1
/-- code that the proof never comes to -/
def tNever : TS := fun _ _ _ => False
theorem pss_never {sts : List Stmt} : PSs X sts tNever := .mk fun _ _ _ _ _ _ h => h.elim
end

/-! ### targets -/
abbrev TG := V → St → Hp → (St → Hp → Prop) → Prop
abbrev TGs := List V → St → Hp → (St → Hp → Prop) → Prop
def PG (X : Cx) (target : Expr) (t : TG) : Prop :=
  ∀ (pins : List (Addr × Obj)) (s : Shared) (σ : St) (H : Hp) (v : V) (u : Value) (Q : St → Hp → Prop), Inv X pins σ H s → RelV v u → t v σ H Q →
    wpAny (model X.prog X.w) X.A (assign target X.env u) (fun _ s' => ∃ σ' H', Inv X pins σ' H' s' ∧ Q σ' H') X.xe s
/-- several targets, one after another -/
def PGs (X : Cx) (ts : List Expr) (t : TGs) : Prop :=
  ∀ (pins : List (Addr × Obj)) (s : Shared) (σ : St) (H : Hp) (vs : List V) (us : List Value) (Q : St → Hp → Prop), Inv X pins σ H s → Vals vs us → t vs σ H Q →
    wpAny (model X.prog X.w) X.A (assignInOrder ((assignEach ts X.env).map (·.2)) us) (fun _ s' => ∃ σ' H', Inv X pins σ' H' s' ∧ Q σ' H') X.xe s
/-- o[i] = v, by values -/
abbrev TSet := V → V → V → Hp → (Hp → Prop) → Prop
def PSet (X : Cx) (t : TSet) : Prop :=
  ∀ (pins : List (Addr × Obj)) (s : Shared) (σ : St) (H : Hp) (o i v : V) (ov iv u : Value) (Q : Hp → Prop), Inv X pins σ H s → RelV o ov → RelV i iv → RelV v u → t o i v H Q →
    wpAny (model X.prog X.w) X.A (setItem ov iv u) (fun _ s' => ∃ H', Inv X pins σ H' s' ∧ Q H') X.xe s
section
variable {X : Cx} {pos : Pos}
def gName (i : Nat) : TG := fun v σ H Q => Q (σ.set i (some v)) H
theorem pg_name {i : Nat} {x : Str} (hN : X.N.Nodup) (hi : X.N[i]? = some x) (hx : Loc X.env.scope x) (hf : X.fn x = true ∨ X.env.scope.names.lookup x = some .local := by first | exact .inl rfl | exact .inr rfl | assumption) : PG X (.Name x pos) (gName i) := by
  intro pins s σ H v u Q I r h
  exact wpAny_assign_Name (store_ok I hN hi hx r (fun s' I' => ⟨_, H, I', h⟩) hf)
def gNil : TGs := fun vs σ H Q => vs = [] ∧ Q σ H
inductive gCons (t : TG) (u : TGs) (vs : List V) (σ : St) (H : Hp) (Q : St → Hp → Prop) : Prop
  | mk (v : V) (r : List V) (e : vs = v :: r) (q : t v σ H fun σ' H' => u r σ' H' Q) : gCons t u vs σ H Q
theorem pgs_nil : PGs X [] gNil := by
  intro pins s σ H vs us Q I r h
  obtain ⟨e, h⟩ := h
  subst e
  cases r
  exact assignInOrder_nil ⟨σ, H, I, h⟩
theorem pgs_cons {e : Expr} {es : List Expr} {t : TG} {u : TGs} (h1 : PG X e t) (h2 : PGs X es u)
    (hs : (assignEach (e :: es) X.env).map (·.2) = assign e X.env :: (assignEach es X.env).map (·.2) := by rfl) : PGs X (e :: es) (gCons t u) := by
  intro pins s σ H vs us Q I r h
  obtain ⟨v, vr, e1, h⟩ := h
  subst e1
  cases r with
  | cons r rr =>
    rw [hs]
    refine assignInOrder_cons (thn (h1 pins s σ H _ _ _ I r h) fun _ s1 ⟨σ1, H1, I1, q1⟩ => ?_)
    exact h2 pins s1 σ1 H1 _ _ Q I1 rr q1
/-- (a, b, ..) = a tuple of that length -/
inductive gTup (K : PySem.W.Frag) (n : Nat) (t : TGs) (v : V) (σ : St) (H : Hp) (Q : St → Hp → Prop) : Prop
  | mk (a : Addr) (xs : List V) (e : v = .ref a) (h : SqT K H a xs) (l : xs.length = n) (q : t xs σ H Q) : gTup K n t v σ H Q
theorem pg_tup {es : List Expr} {k : Nat} {t : TGs} {n : Nat} (hc : X.calm = true) (h : PGs X es t)
    (hn : (assignEach es X.env).length = n := by rfl) (hst : (assignEach es X.env).findIdx? (·.1) = none := by rfl) : PG X (.Tuple es k pos) (gTup X.K n t) := by
  intro pins s σ H v u Q I r hw
  obtain ⟨a, xs, e1, hq, hl, hw⟩ := hw
  subst e1
  cases r
  obtain ⟨its, rv, ht, hz⟩ := I.tuple hq
  refine assign_Tuple_tuple (I.ok.hd hc) ht (by simp [hn, ← hl, rv.length]) hst fun h' hx => ?_
  have I1 : Inv X pins σ H { s with heap := h' } := I.kept (t' := s.toks) fun b o e => hx b o (Nat.ne_of_lt (Heap.lt_size e)) e
  exact h pins _ σ H xs _ Q I1 (by simpa using rv) hw
/-- o[i] = .. -/
def gSub (to ti : TE) (t : TSet) : TG := fun v σ H Q => to σ H fun o H1 => ti σ H1 fun i H2 => t o i v H2 fun H3 => Q σ H3
theorem pg_sub {o i : Expr} {to ti : TE} {t : TSet} (ho : PE X o to) (hi : PE X i ti) (hs : PSet X t)
    (ha : ∀ v, assign (.Subscript o i pos) X.env v = (do
      let ov ← holding [v] (eval o X.env)
      let iv ← holding [v, ov] (eval i X.env)
      standAt pos
      holding [v, ov, iv] (setItem ov iv v)
      release [v, ov, iv] []) := by intro _; rfl) : PG X (.Subscript o i pos) (gSub to ti t) := by
  intro pins s σ H v u Q I r h
  rw [ha]
  refine wpAny_bind (wpAny_holding (thn (ho pins s σ H _ I h) fun ov s1 ⟨x, H1, I1, r1, q1⟩ => ?_))
  refine wpAny_bind (wpAny_holding (thn (hi pins s1 σ H1 _ I1 q1) fun iv s2 ⟨y, H2, I2, r2, q2⟩ => ?_))
  refine wpAny_bind (wpAny_standAt (wpAny_bind (wpAny_holding (thn (hs pins s2 σ H2 x y v ov iv u _ I2 r1 r2 r q2) fun _ s3 ⟨H3, I3, q3⟩ => ?_))))
  exact wpAny_release ⟨σ, H3, I3, q3⟩
/-- target = value -/
def tAsg (te : TE) (g : TG) : TS := fun D σ H => te σ H fun x H1 => g x σ H1 D.nx
theorem ps_asg {tg e : Expr} {te : TE} {g : TG} (he : PE X e te) (hg : PG X tg g) (hs : swapsWithSole [tg] e pos.line X.env = pure false := by rfl) (hw : swappedStores [tg] e X.env = pure none := by rfl)
    (h1 : (assignEach [tg] X.env).map (·.2) = [assign tg X.env] := by rfl) : PS X (.Assign [tg] e pos) (tAsg te g) := by
  refine ⟨?_⟩
  intro pins s σ H D I h
  refine wpAny_Assign_stores (thn (he pins s σ H _ I h) fun v s1 ⟨x, H1, I1, r1, q1⟩ => ?_) hs hw
  rw [h1]
  exact thn (hg pins s1 σ H1 x v _ I1 r1 q1) fun _ s2 q => q
/-- name = value -/
theorem ps_set {i : Nat} {x : Str} {e : Expr} {te : TE} {pos' : Pos} (hN : X.N.Nodup) (hi : X.N[i]? = some x) (hx : Loc X.env.scope x) (he : PE X e te) (hs : swapsWith e (some (.Name x pos')) pos.line X.env = pure false := by rfl) (hf : X.fn x = true ∨ X.env.scope.names.lookup x = some .local := by first | exact .inl rfl | exact .inr rfl | assumption) :
    PS X (.Assign [.Name x pos'] e pos) (tAsg te (gName i)) := by
  refine ⟨?_⟩
  intro pins s σ H D I h
  refine wpAny_Assign_Name (thn (he pins s σ H _ I h) fun v s1 ⟨y, H1, I1, r1, q1⟩ => ?_) hs
  exact store_ok I1 hN hi hx r1 (fun s2 I2 => ⟨_, H1, I2, q1⟩) hf
end

/-! ### while -/
section
variable {X : Cx} {pos : Pos}
end

/-! ### what a loop or a comprehension walks -/
/-- at turn i: it yields x (the heap may grow), or it stops -/
structure It where
  go : Nat → Hp → Prop
  yld : Nat → Hp → V → Hp → Prop
  stop : Nat → Hp → Prop
/-- the iterator's own objects may turn: they are not the frame's, not pinned, younger than the entry (or a comprehension's own) -/
def FpOk (X : Cx) (pins : List (Addr × Obj)) (H : Hp) (b : Addr) : Prop :=
  H b = none ∧ b ≠ X.env.locals ∧ b ∉ X.fs ∧ (b ∈ X.ex ∨ X.s₀.heap.objs.size ≤ b) ∧ (∀ x c, X.env.cells.lookup x = some c → c ≠ b) ∧ ∀ p ∈ X.pn ++ pins, p.1 ≠ b
theorem Inv.fpOk {X : Cx} {pins : List (Addr × Obj)} {σ : St} {H H' : Hp} {s : Shared} {b : Addr} (I : Inv X pins σ H s) (hb : s.heap.objs.size ≤ b) (hn : H' b = none) : FpOk X pins H' b := by
  refine ⟨hn, Nat.ne_of_gt (Nat.lt_of_lt_of_le I.lt hb), I.nofs hb, .inr (Nat.le_trans I.sz hb), fun x c e z => ?_, fun p hp z => ?_⟩
  · obtain ⟨v, q⟩ := I.cell x c e
    exact absurd (Nat.lt_of_lt_of_le q.lt (by rw [z]; exact hb)) (Nat.lt_irrefl _)
  · exact absurd (Nat.lt_of_lt_of_le (Heap.lt_size (I.pin p hp).1) (by rw [z]; exact hb)) (Nat.lt_irrefl _)
structure Turn (P : Program) (w : World) (K : PySem.W.Frag) (tg : Expr) (J : It) (fp : List Addr) (it : Addr) (tn : Nat → Heap → Prop) : Prop where
  mem : it ∈ fp
  obj : ∀ i h, tn i h → ∀ b ∈ fp, ∃ o, h.get? b = some o ∧ ∀ v, o.data ≠ .cell v
  keep : ∀ i h h', tn i h → (∀ b ∈ fp, ∀ o, h.get? b = some o → h'.get? b = some o) → tn i h'
  item : ∀ (X : Cx), X.prog = P → X.w = w → X.K = K → X.calm = true → ∀ (i : Nat) (pins : List (Addr × Obj)) (s : Shared) (σ : St) (H : Hp) (E : Value → Shared → Prop), Inv X pins σ H s → (∀ b ∈ fp, FpOk X pins H b) → tn i s.heap → J.go i H →
    wpAny (model P w) X.A (pyNext (.ref it)) (fun r s1 => ∃ u, r = some u ∧
      wpAny (model P w) X.A (letOwnedTupleGo tg (.ref it) u) (fun _ s2 => ∃ x H', Inv X pins σ H' s2 ∧ RelV x u ∧ J.yld i H x H' ∧ tn (i + 1) s2.heap ∧ ∀ b ∈ fp, H' b = none) E s1) E s
  done : ∀ (X : Cx), X.prog = P → X.w = w → X.K = K → X.calm = true → ∀ (i : Nat) (pins : List (Addr × Obj)) (s : Shared) (σ : St) (H : Hp) (E : Value → Shared → Prop), Inv X pins σ H s → (∀ b ∈ fp, FpOk X pins H b) → tn i s.heap → J.stop i H →
    wpAny (model P w) X.A (pyNext (.ref it)) (fun r s1 => r = none ∧ Inv X pins σ H s1) E s
  self : ∀ (A : Around) (i : Nat) (s : Shared) (Q : Value → Shared → Prop) (E : Value → Shared → Prop), tn i s.heap → Q (.ref it) s → wpAny (model P w) A (pyIter (.ref it)) Q E s
abbrev TI := St → Hp → (It → Hp → Prop) → Prop
/-- an iterator has come -/
def PIE (X : Cx) (pins : List (Addr × Obj)) (σ : St) (tg : Expr) (R : It → Hp → Prop) (itv : Value) (s2 : Shared) : Prop :=
  ∃ (it : Addr) (fp : List Addr) (tn : Nat → Heap → Prop) (J : It) (H' : Hp), itv = .ref it ∧ Inv X pins σ H' s2 ∧ Turn X.prog X.w X.K tg J fp it tn ∧ tn 0 s2.heap ∧ (∀ b ∈ fp, FpOk X pins H' b) ∧ R J H'
def PI (X : Cx) (tg iter : Expr) (wi : TI) : Prop :=
  ∀ (pins : List (Addr × Obj)) (s : Shared) (σ : St) (H : Hp) (R : It → Hp → Prop), Inv X pins σ H s → wi σ H R →
    wpAny (model X.prog X.w) X.A (eval iter X.env) (fun v s1 => wpAny (model X.prog X.w) X.A (pyIter v) (PIE X pins σ tg R) X.xe s1) X.xe s

/-- the step ahead of the store is nothing for an iterator that keeps no tuple -/
theorem go_of {M : Model} {A : Around} {E : Value → Shared → Prop} {s : Shared} {tg : Expr} {it : Addr} {u : Value} {o : Obj} {n : String} {vs : Array Value} {Q : Unit → Shared → Prop} (ho : s.heap.get? it = some o) (hc : o.cls = .type n) (hd : o.data = .fields vs)
    (hn : ["enumerate", "zip", "dict_itemiterator", "dict_reverseitemiterator", "odict_iterator", "itertools.zip_longest", "itertools.pairwise"].contains n = false) (hQ : Q () s) : wpAny M A (letOwnedTupleGo tg (.ref it) u) Q E s := by
  unfold letOwnedTupleGo
  cases tg <;> first
    | exact wpAny_pure hQ
    | (cases u <;> first
        | exact wpAny_pure hQ
        | (refine wpAny_bind (wpAny_load ho ?_)
           rw [hc, hd]
           show wpAny M A (if (["enumerate", "zip", "dict_itemiterator", "dict_reverseitemiterator", "odict_iterator", "itertools.zip_longest", "itertools.pairwise"].contains n && vs[0]? == some (rawInt _)) = true then _ else _) Q E s
           rw [if_neg (by intro h; rw [hn, Bool.false_and] at h; cases h)]
           exact wpAny_pure hQ))

/-- the list at a, as it stands at each turn (a loop may append to it) -/
def Itl (K : PySem.W.Frag) (a : Addr) : It :=
  ⟨fun i H => ∃ xs x, SqL K H a xs ∧ xs[i]? = some x, fun i H x H' => H' = H ∧ ∀ xs, SqL K H a xs → xs[i]? = some x, fun i H => ∃ xs, SqL K H a xs ∧ xs.length ≤ i⟩
def Itt (K : PySem.W.Frag) (a : Addr) : It :=
  ⟨fun i H => ∃ xs x, SqT K H a xs ∧ xs[i]? = some x, fun i H x H' => H' = H ∧ ∀ xs, SqT K H a xs → xs[i]? = some x, fun i H => ∃ xs, SqT K H a xs ∧ xs.length ≤ i⟩
/-- lo, lo + 1, .. (n of them) -/
def Itr (lo : Int) (n : Nat) : It := ⟨fun i _ => i < n, fun i H x H' => H' = H ∧ x = .int (lo + i), fun i _ => n ≤ i⟩
theorem turn_list {P : Program} {w : World} {K : PySem.W.Frag} {tg : Expr} (a it : Addr) : Turn P w K tg (Itl K a) [it] it (fun i h => h.IsListIter it a i) where
  mem := by simp
  obj := fun i h st b hb => by
    have e : b = it := by simpa using hb
    subst e
    obtain ⟨o, e, c, d⟩ := st
    exact ⟨o, e, fun v z => by rw [d] at z; cases z⟩
  keep := fun i h h' st k => st.at fun o e => k it (by simp) o e
  item := by
    intro X hP hw hK hc i pins s σ H E I hf st hg
    subst hP hw hK
    obtain ⟨xs, x, hq, hx⟩ := hg
    obtain ⟨its, rv, p, hz⟩ := I.list hq
    obtain ⟨u, hu, ru⟩ := rv.get hx
    obtain ⟨f0, f1, f2, f3, f4, f5⟩ := hf it (by simp)
    refine wpAny_pyNext_list_item st p.isList (x := u) (by simpa using hu) fun h' st' sb => ?_
    have I1 : Inv X pins σ H { s with heap := h' } := I.turned (t' := s.toks) (fun b o hb e => (sb.2 b hb).trans e) f0 f1 f3 f4 f5
    obtain ⟨o, e, c, d⟩ := id st'
    exact ⟨u, rfl, go_of (s := { s with heap := h' }) e c d (by decide) ⟨x, H, I1, ru, ⟨rfl, fun ys hy => by rw [I.list_inj hy hq]; exact hx⟩, st', fun b hb => (hf b hb).1⟩⟩
  done := by
    intro X hP hw hK hc i pins s σ H E I hf st hg
    subst hP hw hK
    obtain ⟨xs, hq, hx⟩ := hg
    obtain ⟨its, rv, p, hz⟩ := I.list hq
    obtain ⟨f0, f1, f2, f3, f4, f5⟩ := hf it (by simp)
    have hl := rv.length
    exact wpAny_pyNext_list_end (I.ok.hd hc) st p.isList (by simp; omega) fun h' eb => ⟨rfl, I.turned (t' := s.toks) (fun b o hb e => eb b o hb e) f0 f1 f3 f4 f5⟩
  self := fun _ _ _ _ _ st h => wpAny_pyIter_listiter st h
theorem turn_tuple {P : Program} {w : World} {K : PySem.W.Frag} {tg : Expr} (a it : Addr) : Turn P w K tg (Itt K a) [it] it (fun i h => h.IsTupleIter it a i) where
  mem := by simp
  obj := fun i h st b hb => by
    have e : b = it := by simpa using hb
    subst e
    obtain ⟨o, e, c, d⟩ := st
    exact ⟨o, e, fun v z => by rw [d] at z; cases z⟩
  keep := fun i h h' st k => st.at fun o e => k it (by simp) o e
  item := by
    intro X hP hw hK hc i pins s σ H E I hf st hg
    subst hP hw hK
    obtain ⟨xs, x, hq, hx⟩ := hg
    obtain ⟨its, rv, p, hz⟩ := I.tuple hq
    obtain ⟨u, hu, ru⟩ := rv.get hx
    obtain ⟨f0, f1, f2, f3, f4, f5⟩ := hf it (by simp)
    refine wpAny_pyNext_tuple_item st (show s.heap.IsTuple a its.toArray from p) (x := u) (by simpa using hu) fun h' st' sb => ?_
    have I1 : Inv X pins σ H { s with heap := h' } := I.turned (t' := s.toks) (fun b o hb e => (sb.2 b hb).trans e) f0 f1 f3 f4 f5
    obtain ⟨o, e, c, d⟩ := id st'
    exact ⟨u, rfl, go_of (s := { s with heap := h' }) e c d (by decide) ⟨x, H, I1, ru, ⟨rfl, fun ys hy => by rw [I.tuple_inj hy hq]; exact hx⟩, st', fun b hb => (hf b hb).1⟩⟩
  done := by
    intro X hP hw hK hc i pins s σ H E I hf st hg
    subst hP hw hK
    obtain ⟨xs, hq, hx⟩ := hg
    obtain ⟨its, rv, p, hz⟩ := I.tuple hq
    obtain ⟨f0, f1, f2, f3, f4, f5⟩ := hf it (by simp)
    have hl := rv.length
    exact wpAny_pyNext_tuple_end (I.ok.hd hc) st (show s.heap.IsTuple a its.toArray from p) (by simp; omega) fun h' eb => ⟨rfl, I.turned (t' := s.toks) (fun b o hb e => eb b o hb e) f0 f1 f3 f4 f5⟩
  self := fun _ _ _ _ _ st h => wpAny_pyIter_tupleiter st h
theorem turn_range {P : Program} {w : World} {K : PySem.W.Frag} {tg : Expr} (it : Addr) (lo : Int) (n : Nat) : Turn P w K tg (Itr lo n) [it] it (fun i h => IsRangeIter h it (lo + (i : Nat) * 1) ((n : Int) - (i : Nat)) 1) where
  mem := by simp
  obj := fun i h st b hb => by
    have e : b = it := by simpa using hb
    subst e
    exact ⟨_, st, fun v z => by
      have z' : Data.fields _ = Data.cell v := z
      cases z'⟩
  keep := fun i h h' st k => k it (by simp) _ st
  item := by
    intro X hP hw hK hc i pins s σ H E I hf st hg
    subst hP hw hK
    obtain ⟨f0, f1, f2, f3, f4, f5⟩ := hf it (by simp)
    have W := Walks.range (prog := X.prog) (w := X.w) (I.ok.hd hc) it lo 1 n
    refine W.item i s _ _ hg st fun v h' tk hv st' kk => ?_
    obtain ⟨t, rfl⟩ := hv
    have I1 : Inv X pins σ H { s with heap := h', toks := tk } := I.turned (fun b o hb e => kk b o (by simpa using hb) e) f0 f1 f3 f4 f5
    refine ⟨_, rfl, go_of (s := { s with heap := h', toks := tk }) (n := "range_iterator") st' rfl rfl (by decide) ⟨.int (lo + i), H, I1, ⟨t, ?_⟩, ⟨rfl, rfl⟩, st', fun b hb => (hf b hb).1⟩⟩
    rw [Int.mul_one]
  done := by
    intro X hP hw hK hc i pins s σ H E I hf st hg
    subst hP hw hK
    obtain ⟨f0, f1, f2, f3, f4, f5⟩ := hf it (by simp)
    exact wpAny_pyNext_range_end (I.ok.hd hc) st (by have : n ≤ i := hg; omega) fun h' eb => ⟨rfl, I.turned (t' := s.toks) (fun b o hb e => eb b o hb e) f0 f1 f3 f4 f5⟩
  self := fun _ _ _ _ _ st h => wpAny_pyIter_rangeiter st h
end L2

namespace L2
open PySem PySem.Spec PyProof.Rows
section
variable {X : Cx} {tg : Expr}
inductive iListX (K : PySem.W.Frag) (R : It → Hp → Prop) (x : V) (H1 : Hp) : Prop
  | mk (a : Addr) (e : x = .ref a) (h : ∃ xs, SqL K H1 a xs) (q : R (Itl K a) H1) : iListX K R x H1
def iList (K : PySem.W.Frag) (tl : TE) : TI := fun σ H R => tl σ H fun x H1 => iListX K R x H1
theorem pi_list {l : Expr} {tl : TE} (hl : PE X l tl) : PI X tg l (iList X.K tl) := by
  intro pins s σ H R I h
  refine thn (hl pins s σ H _ I h) fun v s1 ⟨x, H1, I1, r1, q1⟩ => ?_
  obtain ⟨a, e, ⟨xs, hq⟩, q⟩ := q1
  subst e
  cases r1
  obtain ⟨its, rv, p, hz⟩ := I1.list hq
  refine wpAny_pyIter_list p.isList ?_
  refine ⟨s1.heap.objs.size, [s1.heap.objs.size], _, _, H1, rfl, I1.kept (t' := s1.toks) fun b o e => Heap.get?_push_of_some _ e, turn_list a _, ⟨_, Heap.get?_push_size _ rfl, rfl, rfl⟩, fun b hb => ?_, q⟩
  have e : b = s1.heap.objs.size := by simpa using hb
  subst e
  exact I1.fpOk (Nat.le_refl _) (I1.hok.fresh (Nat.le_refl _))
/-- a range object just made, walked -/
theorem range_it {pins : List (Addr × Obj)} {σ : St} {H : Hp} {s : Shared} {R : It → Hp → Prop} {E : Value → Shared → Prop} {lo hi : Int} {t u v : Tok} {tk : Nat} (I : Inv X pins σ H s) (h1 : -(2 ^ 62) ≤ lo) (h2 : lo < 2 ^ 62) (h3 : -(2 ^ 62) ≤ hi) (h4 : hi < 2 ^ 62)
    (q : R (Itr lo (hi - lo).toNat) H) : wpAny (model X.prog X.w) X.A (pyIter (.ref s.heap.objs.size)) (PIE X pins σ tg R) E { s with heap := s.heap.push { cls := .type "range", data := .fields #[.int lo t, .int hi u, .int 1 v] }, toks := tk } := by
  refine wpAny_pyIter_range (IsRange.new ..) (small_one h1 h2 h3 h4) ?_
  have I1 : Inv X pins σ H { s with heap := s.heap.push { cls := .type "range", data := .fields #[.int lo t, .int hi u, .int 1 v] }, toks := tk } := I.kept fun b o e => Heap.get?_push_of_some _ e
  refine ⟨(s.heap.push { cls := .type "range", data := .fields #[.int lo t, .int hi u, .int 1 v] }).objs.size, [(s.heap.push { cls := .type "range", data := .fields #[.int lo t, .int hi u, .int 1 v] }).objs.size], _, _, H, rfl,
    I1.kept (t' := tk) fun b o e => Heap.get?_push_of_some _ e, turn_range _ lo (hi - lo).toNat, ?_, fun b hb => ?_, q⟩
  · have e1 : lo + ((0 : Nat) : Int) * 1 = lo := by simp
    have e2 : (((hi - lo).toNat : Nat) : Int) - ((0 : Nat) : Int) = Builtin.Range.rangeSize lo hi 1 := by rw [rangeSize_one]; split <;> omega
    show IsRangeIter _ _ (lo + ((0 : Nat) : Int) * 1) ((((hi - lo).toNat : Nat) : Int) - ((0 : Nat) : Int)) 1
    rw [e1, e2]
    exact Heap.get?_push_size _ rfl
  · have e : b = (s.heap.push { cls := .type "range", data := .fields #[.int lo t, .int hi u, .int 1 v] }).objs.size := by simpa using hb
    subst e
    exact I1.fpOk (Nat.le_refl _) (I1.hok.fresh (Nat.le_refl _))
inductive iRng1X (R : It → Hp → Prop) (vs : List V) (H1 : Hp) : Prop
  | mk (j : Int) (e : vs = [.int j]) (h1 : -(2 ^ 62) ≤ j) (h2 : j < 2 ^ 62) (q : R (Itr 0 j.toNat) H1) : iRng1X R vs H1
def iRng1 (ta : TA) : TI := fun σ H R => ta σ H fun vs H1 => iRng1X R vs H1
def iRng2 (ta : TA) : TI := fun σ H R => ta σ H fun vs H1 => ∃ i j : Int, vs = [.int i, .int j] ∧ (-(2 ^ 62) ≤ i ∧ i < 2 ^ 62 ∧ -(2 ^ 62) ≤ j ∧ j < 2 ^ 62) ∧ R (Itr i (j - i).toNat) H1
theorem pi_range1 {a : Expr} {ta : TA} {p pos : Pos} (hg : Gl X "range") (hm : X.mg "range" = none) (ha : PA X [a] ta) (hs : starEach [a] X.env = [(false, eval a X.env)] := by rfl) : PI X tg (.Call (.Name "range" p) [a] [] pos) (iRng1 ta) := by
  intro pins s σ H R I h
  refine Call_ (ld_blt I hg hm boot_range (PyProof.Rows.callWith_type1 (thn (ha pos pins s σ H _ I h) fun us s1 ⟨vs, H1, I1, r1, q1⟩ => ?_) hs rfl))
  obtain ⟨j, e, q1, q2, q⟩ := q1
  subst e
  cases r1 with
  | cons r rr =>
    cases rr
    obtain ⟨t, rfl⟩ := r
    exact call_range_1 (range_it I1 (by omega) (by omega) q1 q2 (by simpa using q))
theorem pi_range2 {a b : Expr} {ta : TA} {p pos : Pos} (hg : Gl X "range") (hm : X.mg "range" = none) (ha : PA X [a, b] ta) (hs : starEach [a, b] X.env = [(false, eval a X.env), (false, eval b X.env)] := by rfl) (hs2 : starEach [b] X.env = [(false, eval b X.env)] := by rfl) :
    PI X tg (.Call (.Name "range" p) [a, b] [] pos) (iRng2 ta) := by
  intro pins s σ H R I h
  refine Call_ (ld_blt I hg hm boot_range (PyProof.Rows.callWith_type1 (thn (ha pos pins s σ H _ I h) fun us s1 ⟨vs, H1, I1, r1, q1⟩ => ?_) (by rw [hs, hs2]) (by rw [hs2]; rfl)))
  obtain ⟨i, j, e, ⟨q1, q2, q3, q4⟩, q⟩ := q1
  subst e
  cases r1 with
  | cons r rr =>
    cases rr with
    | cons r' rr =>
      cases rr
      obtain ⟨t, rfl⟩ := r
      obtain ⟨t', rfl⟩ := r'
      exact call_range_2 (range_it I1 q1 q2 q3 q4 q)

/-! ### for -/
/-- W: the invariant by the turn and a measure; N: what the body is to reach -/
def tFor (wi : TI) (g : TG) (tb : TS) : TS := fun D σ H => wi σ H fun J H1 => ∃ W : Nat → Nat → St → Hp → Prop, (∃ m, W 0 m σ H1) ∧ ∀ i m σ H, W i m σ H →
  (J.stop i H ∧ D.nx σ H) ∨ (J.go i H ∧ ∃ N : St → Hp → Prop, (∀ σ' H', N σ' H' → ∃ m', m' < m ∧ W (i + 1) m' σ' H') ∧ ∀ x H', J.yld i H x H' → g x σ H' fun σ2 H2 => tb { D with nx := N, ct := N, bk := D.nx } σ2 H2)
/-- the records at fp as they stand -/
def pinsAt (fp : List Addr) (h : Heap) : List (Addr × Obj) := fp.filterMap fun b => (h.get? b).map fun o => (b, o)
theorem mem_pinsAt {fp : List Addr} {h : Heap} {b : Addr} {o : Obj} (hb : b ∈ fp) (e : h.get? b = some o) : (b, o) ∈ pinsAt fp h := List.mem_filterMap.mpr ⟨b, hb, by rw [e]; rfl⟩
theorem of_pinsAt {fp : List Addr} {h : Heap} {p : Addr × Obj} (hp : p ∈ pinsAt fp h) : p.1 ∈ fp ∧ h.get? p.1 = some p.2 := by
  obtain ⟨b, hb, e⟩ := List.mem_filterMap.mp hp
  cases q : h.get? b with
  | none => rw [q] at e; cases e
  | some o =>
    rw [q] at e
    have e' : (b, o) = p := Option.some.inj e
    subst e'
    exact ⟨hb, q⟩
theorem Inv.pinned {pins : List (Addr × Obj)} {σ : St} {H : Hp} {s : Shared} {fp : List Addr} (I : Inv X pins σ H s) (hf : ∀ b ∈ fp, FpOk X pins H b) (ho : ∀ b ∈ fp, ∃ o, s.heap.get? b = some o ∧ ∀ v, o.data ≠ .cell v) : Inv X (pins ++ pinsAt fp s.heap) σ H s :=
  I.pins_of fun p hp => (List.mem_append.mp hp).elim (fun z => I.pin p (List.mem_append_right _ z)) fun z => by
    obtain ⟨hb, e⟩ := of_pinsAt z
    obtain ⟨f0, f1, f2, _⟩ := hf p.1 hb
    obtain ⟨o, e', d⟩ := ho p.1 hb
    rw [e] at e'; cases e'
    exact ⟨e, f0, f1, f2, d⟩
theorem Inv.unpinned {pins pl : List (Addr × Obj)} {σ : St} {H : Hp} {s : Shared} (I : Inv X (pins ++ pl) σ H s) : Inv X pins σ H s := I.pins_of fun p hp => I.pin p (List.mem_append_right _ (List.mem_append_left _ hp))
theorem ps_for {iter : Expr} {body : List Stmt} {wi : TI} {g : TG} {tb : TS} {pos : Pos} (hp : PassesOwn (model X.prog X.w) X.A X.env X.xe) (hc : X.calm = true) (hi : PI X tg iter wi) (hg : PG X tg g) (hb : PSs X body tb)
    (hs : ∀ x, foldedSetIterable iter X.env x = pure x := by intro _; rfl) : PS X (.For tg iter body [] pos) (tFor wi g tb) := by
  refine ⟨?_⟩
  intro pins s σ H D I h
  refine wpAny_For (thn (hi pins s σ H _ I h) fun v s1 h1 => thn h1 fun itv s2 h2 => ?_) hs
  obtain ⟨it, fp, tn, J, H2, e, I2, T, st2, f2, W, ⟨m0, w0⟩, turn⟩ := h2
  subst e
  have stat : ∀ {H' : Hp}, (∀ b ∈ fp, H' b = none) → ∀ b ∈ fp, FpOk X pins H' b := fun hn b hb => ⟨hn b hb, (f2 b hb).2⟩
  refine codeAny_forLoop_any (fun n s' => ∃ i σ' H', Inv X pins σ' H' s' ∧ tn i s'.heap ∧ (∀ b ∈ fp, H' b = none) ∧ W i n σ' H') ?_ m0 ⟨0, σ, H2, I2, st2, fun b hb => (f2 b hb).1, w0⟩
  rintro n s3 ⟨i, σ3, H3, I3, st3, fr3, w3⟩
  rcases turn i n σ3 H3 w3 with ⟨stop, qn⟩ | ⟨go, N, hN, step⟩
  · refine wpAny_passesOwn hp (thn (T.done X rfl rfl rfl hc i pins s3 σ3 H3 X.xe I3 (stat fr3) st3 stop) fun r s4 ⟨hr, I4⟩ => ?_)
    subst hr
    exact wpAny_execs_nil ⟨σ3, H3, I4, qn⟩
  · refine wpAny_passesOwn hp (thn (T.item X rfl rfl rfl hc i pins s3 σ3 H3 X.xe I3 (stat fr3) st3 go) fun r s4 ⟨u, hr, h4⟩ => ?_)
    subst hr
    refine wpAny_passesOwn hp (thn h4 fun _ s5 ⟨x, H5, I5, r5, y5, st5, fr5⟩ => ?_)
    have I5' := I5.pinned (stat fr5) (T.obj _ _ st5)
    refine wpAny_passesOwn hp (thn (hg _ s5 σ3 H5 x u _ I5' r5 (step x H5 y5)) fun _ s6 ⟨σ6, H6, I6, q6⟩ => ?_)
    refine wpAny_passesOwn hp (thn (hb _ s6 σ6 H6 _ I6 q6) fun f s7 q7 => ?_)
    have again : ∀ {σ7 : St} {H7 : Hp}, Inv X (pins ++ pinsAt fp s5.heap) σ7 H7 s7 → N σ7 H7 → ∃ m, m < n ∧ ∃ i σ' H', Inv X pins σ' H' s7 ∧ tn i s7.heap ∧ (∀ b ∈ fp, H' b = none) ∧ W i m σ' H' := fun {σ7 H7} I7 n7 => by
      obtain ⟨m', hm, w7⟩ := hN σ7 H7 n7
      refine ⟨m', hm, i + 1, σ7, H7, I7.unpinned, T.keep _ _ _ st5 fun b hb o e => (I7.pin (b, o) (List.mem_append_right _ (List.mem_append_right _ (mem_pinsAt hb e)))).1, fun b hb => ?_, w7⟩
      obtain ⟨o, e, d⟩ := T.obj _ _ st5 b hb
      exact (I7.pin (b, o) (List.mem_append_right _ (List.mem_append_right _ (mem_pinsAt hb e)))).2.1
    cases f with
    | next => obtain ⟨σ7, H7, I7, n7⟩ := q7; exact again I7 n7
    | cont => obtain ⟨σ7, H7, I7, n7⟩ := q7; exact again I7 n7
    | brk => obtain ⟨σ7, H7, I7, q7⟩ := q7; exact ⟨σ7, H7, I7.unpinned, q7⟩
    | ret v => obtain ⟨x7, σ7, H7, I7, r7, q7⟩ := q7; exact ⟨x7, σ7, H7, I7.unpinned, r7, q7⟩
end

/-! ### the forms one uses -/
theorem for_range {lo : Int} {n : Nat} {g : TG} {tb : TS} {D : Ends} {σ : St} {H : Hp} (Pv : Nat → St → Hp → Prop) (h0 : Pv 0 σ H)
    (hs : ∀ i σ H, i < n → Pv i σ H → g (.int (lo + i)) σ H fun σ2 H2 => tb { D with nx := Pv (i + 1), ct := Pv (i + 1), bk := D.nx } σ2 H2) (hd : ∀ σ H, Pv n σ H → D.nx σ H) :
    ∃ W : Nat → Nat → St → Hp → Prop, (∃ m, W 0 m σ H) ∧ ∀ i m σ H, W i m σ H →
      ((Itr lo n).stop i H ∧ D.nx σ H) ∨ ((Itr lo n).go i H ∧ ∃ N : St → Hp → Prop, (∀ σ' H', N σ' H' → ∃ m', m' < m ∧ W (i + 1) m' σ' H') ∧ ∀ x H', (Itr lo n).yld i H x H' → g x σ H' fun σ2 H2 => tb { D with nx := N, ct := N, bk := D.nx } σ2 H2) := by
  refine ⟨fun i m σ H => m = n - i ∧ i ≤ n ∧ Pv i σ H, ⟨n, by simp, Nat.zero_le _, h0⟩, ?_⟩
  rintro i m σ H ⟨rfl, hi, p⟩
  by_cases hlt : i < n
  · refine .inr ⟨hlt, Pv (i + 1), fun σ' H' p' => ⟨n - (i + 1), by omega, rfl, hlt, p'⟩, fun x H' y => ?_⟩
    obtain ⟨e, y⟩ := y
    subst e y
    exact hs i σ _ hlt p
  · have e : i = n := by omega
    subst e
    exact .inl ⟨Nat.le_refl _, hd σ H p⟩
end L2

namespace L2
open PySem PySem.Spec PyProof.Rows

abbrev R2 := V → V → Hp → VK → Prop
/-- a two-place operation on values: f is binaryOp op, inplaceOp op or compareOp op -/
def OpR (X : Cx) (f : Value → Value → Sem Value) (r : R2) : Prop :=
  ∀ (pins : List (Addr × Obj)) (s : Shared) (σ : St) (H : Hp) (x y : V) (v u : Value) (Q : VK), Inv X pins σ H s → RelV x v → RelV y u → r x y H Q →
    wpAny (model X.prog X.w) X.A (f v u) (EP X pins σ Q) X.xe s
/-- a call of a value that is known (a builtin, a type) with values -/
def CallR (X : Cx) (f : Value) (r : List V → Hp → VK → Prop) : Prop :=
  ∀ (pins : List (Addr × Obj)) (s : Shared) (σ : St) (H : Hp) (xs : List V) (us : List Value) (Q : VK), Inv X pins σ H s → Vals xs us → r xs H Q →
    wpAny (model X.prog X.w) X.A (call f us) (EP X pins σ Q) X.xe s
/-- a value's truth -/
def TruR (X : Cx) (r : V → Hp → (Bool → Hp → Prop) → Prop) : Prop :=
  ∀ (pins : List (Addr × Obj)) (s : Shared) (σ : St) (H : Hp) (x : V) (v : Value) (Q : Bool → Hp → Prop), Inv X pins σ H s → RelV x v → r x H Q →
    wpAny (model X.prog X.w) X.A (truthy v) (TP X pins σ Q) X.xe s

def tOp (r : R2) (ta tb : TE) : TE := fun σ H Q => ta σ H fun x H1 => tb σ H1 fun y H2 => r x y H2 Q
/-- ints in, under C, and a value out -/
inductive rI (C : Int → Int → Prop) (g : Int → Int → V) (x y : V) (H : Hp) (Q : VK) : Prop
  | mk (i j : Int) (e1 : x = .int i) (e2 : y = .int j) (c : C i j) (q : Q (g i j) H) : rI C g x y H Q
inductive rI0 (g : Int → Int → V) (x y : V) (H : Hp) (Q : VK) : Prop
  | mk (i j : Int) (e1 : x = .int i) (e2 : y = .int j) (q : Q (g i j) H) : rI0 g x y H Q

section
variable {X : Cx} {a b c : Expr} {ta tb tc : TE} {pos : Pos}

theorem binT (ha : PE X a ta) (hb : PE X b tb) {pins : List (Addr × Obj)} {s : Shared} {σ : St} {H : Hp} {R : V → V → Hp → Prop} (I : Inv X pins σ H s)
    (h : ta σ H fun x H1 => tb σ H1 fun y H2 => R x y H2) {Q : Value → Shared → Prop} {f : Value → Value → Sem Value}
    (hf : ∀ v u s2 x y H2, Inv X pins σ H2 s2 → RelV x v → RelV y u → R x y H2 → wpAny (model X.prog X.w) X.A (f v u) Q X.xe s2) :
    wpAny (model X.prog X.w) X.A (eval a X.env) (fun v s₁ => wpAny (model X.prog X.w) X.A (eval b X.env) (fun u s₂ => wpAny (model X.prog X.w) X.A (f v u) Q X.xe s₂) X.xe s₁) X.xe s := by
  refine thn (ha pins s σ H _ I h) fun v s1 ⟨x, H1, I1, r1, q1⟩ => ?_
  refine thn (hb pins s1 σ H1 _ I1 q1) fun u s2 ⟨y, H2, I2, r2, q2⟩ => ?_
  exact hf v u s2 x y H2 I2 r1 r2 q2

theorem pe_op {op : Operator} {r : R2} (ho : OpR X (binaryOp op) r) (ha : PE X a ta) (hb : PE X b tb) : PE X (.BinOp a op b pos) (tOp r ta tb) := by
  refine ⟨?_⟩
  intro pins s σ H Q I h
  exact wpAny_BinOp (binT ha hb I h fun v u s2 x y H2 I2 rx ry q => ho pins s2 σ H2 x y v u Q I2 rx ry q)

/-! ### ints -/
theorem opI {f : Value → Value → Sem Value} {C : Int → Int → Prop} {g : Int → Int → Int}
    (rule : ∀ (i j : Int) (t u : Tok) (s : Shared) (Q : Value → Shared → Prop) (E : Value → Shared → Prop), C i j → Q (.int (g i j) s.toks) { s with toks := s.toks + 1 } → wpAny (model X.prog X.w) X.A (f (.int i t) (.int j u)) Q E s) :
    OpR X f (rI C fun i j => .int (g i j)) := by
  intro pins s σ H x y v u Q I rx ry h
  obtain ⟨i, j, rfl, rfl, hc, q⟩ := h
  obtain ⟨t, rfl⟩ := rx
  obtain ⟨t', rfl⟩ := ry
  exact rule i j t t' s _ _ hc ⟨.int (g i j), H, I.tok _, ⟨_, rfl⟩, q⟩
theorem opI0 {f : Value → Value → Sem Value} {g : Int → Int → Int}
    (rule : ∀ (i j : Int) (t u : Tok) (s : Shared) (Q : Value → Shared → Prop) (E : Value → Shared → Prop), Q (.int (g i j) s.toks) { s with toks := s.toks + 1 } → wpAny (model X.prog X.w) X.A (f (.int i t) (.int j u)) Q E s) :
    OpR X f (rI0 fun i j => .int (g i j)) := by
  intro pins s σ H x y v u Q I rx ry h
  obtain ⟨i, j, rfl, rfl, q⟩ := h
  obtain ⟨t, rfl⟩ := rx
  obtain ⟨t', rfl⟩ := ry
  exact rule i j t t' s _ _ ⟨.int (g i j), H, I.tok _, ⟨_, rfl⟩, q⟩
theorem opB0 {f : Value → Value → Sem Value} {g : Int → Int → Bool}
    (rule : ∀ (i j : Int) (t u : Tok) (s : Shared) (Q : Value → Shared → Prop) (E : Value → Shared → Prop), Q (.bool (g i j)) s → wpAny (model X.prog X.w) X.A (f (.int i t) (.int j u)) Q E s) :
    OpR X f (rI0 fun i j => .bl (g i j)) := by
  intro pins s σ H x y v u Q I rx ry h
  obtain ⟨i, j, rfl, rfl, q⟩ := h
  obtain ⟨t, rfl⟩ := rx
  obtain ⟨t', rfl⟩ := ry
  exact rule i j t t' s _ _ ⟨.bl (g i j), H, I, rfl, q⟩

def CPow (i j : Int) : Prop := 0 ≤ j ∧ j ≤ 1000000 ∧ i.natAbs < 2 ^ 64
def CMul (i j : Int) : Prop := (-(2 ^ 64) < i ∧ i < 2 ^ 64) ∨ (-(2 ^ 64) < j ∧ j < 2 ^ 64)
theorem CMul.ok {i j : Int} (h : CMul i j) : IntMulOk i j := by
  rcases h with ⟨h1, h2⟩ | ⟨h1, h2⟩
  · exact .of_left (intBits_le_64 h1 h2)
  · exact .of_right (intBits_le_64 h1 h2)

theorem op_add : OpR X (binaryOp .Add) (rI0 fun i j => .int (i + j)) := opI0 fun _ _ _ _ _ _ _ q => add_int q
theorem op_sub : OpR X (binaryOp .Sub) (rI0 fun i j => .int (i - j)) := opI0 fun _ _ _ _ _ _ _ q => sub_int q
theorem op_mul : OpR X (binaryOp .Mult) (rI CMul fun i j => .int (i * j)) := opI fun _ _ _ _ _ _ _ hc q => mul_int q hc.ok
/-- % by a positive divisor of any size -/
theorem op_mod : OpR X (binaryOp .Mod) (rI (fun _ j => 0 < j) fun i j => .int (i % j)) := opI fun i j _ _ _ _ _ hc q => by
  have h1 : (0 : Int) < j := hc
  exact mod_int' (by omega) (by rw [Int.fmod_eq_emod_of_nonneg i (by omega)]; exact q)
theorem op_pow : OpR X (binaryOp .Pow) (rI CPow fun i j => .int (i ^ j.toNat)) := opI fun _ _ _ _ _ _ _ hc q => pow_int_small hc.1 hc.2.1 hc.2.2 q



/-! ### bools among ints: n += (a < b) -/
end

/-! ### comparisons -/
/-- the scalars that == tells apart as data does -/
def scal : V → V → Bool
  | .non, .non => true | .non, .int _ => true | .int _, .non => true | .non, .bl _ => true | .bl _, .non => true | .non, .str _ => true | .str _, .non => true
  | .int _, .int _ => true | .bl _, .bl _ => true | .str _, .str _ => true | .byt _, .byt _ => true
  | .int _, .str _ => true | .str _, .int _ => true | .bl _, .str _ => true | .str _, .bl _ => true
  | _, _ => false
def rEq : R2 := fun x y H Q => scal x y = true ∧ Q (.bl (decide (x = y))) H
def rNe : R2 := fun x y H Q => scal x y = true ∧ Q (.bl (!decide (x = y))) H

theorem dec_int {i j : Int} : decide (V.int i = V.int j) = (i == j) := by
  rw [Bool.eq_iff_iff]
  simp
theorem dec_bl {i j : Bool} : decide (V.bl i = V.bl j) = (i == j) := by
  rw [Bool.eq_iff_iff]
  simp
theorem dec_str {i j : Str} : decide (V.str i = V.str j) = (i == j) := by
  rw [Bool.eq_iff_iff]
  simp
theorem dec_byt {i j : Array UInt8} : decide (V.byt i = V.byt j) = (i.toList == j.toList) := by
  rw [Bool.eq_iff_iff]
  cases i
  cases j
  simp

section
variable {X : Cx} {a b c : Expr} {ta tb tc : TE} {pos : Pos}
theorem fin_bl {pins : List (Addr × Obj)} {σ : St} {H : Hp} {s : Shared} {Q : VK} {k k' : Bool} (I : Inv X pins σ H s) (q : Q (.bl k) H) (e : k = k') : EP X pins σ Q (.bool k') s := by
  subst e
  exact ⟨.bl k, H, I, rfl, q⟩
theorem op_eq : OpR X (compareOp .Eq) rEq := by
  intro pins s σ H x y v u Q I rx ry h
  obtain ⟨hs, q⟩ := h
  cases x with
  | non =>
    cases rx
    cases y with
    | non => cases ry; exact PySem.EqNone.eq_none_none (fin_bl I q (by simp))
    | bl j => cases ry; exact PySem.EqNone.eq_none_bool (fin_bl I q (by simp))
    | int j => obtain ⟨t', rfl⟩ := ry; exact PySem.EqNone.eq_none_int (fin_bl I q (by simp))
    | str j => obtain ⟨t', rfl⟩ := ry; exact PySem.EqNone.eq_none_str (fin_bl I q (by simp))
    | _ => exact absurd (show false = true from hs) Bool.false_ne_true
  | bl i =>
    cases rx
    cases y with
    | non => cases ry; exact PySem.EqNone.eq_bool_none (fin_bl I q (by simp))
    | bl j => cases ry; exact eq_bool (fin_bl I q dec_bl)
    | str j => obtain ⟨t', rfl⟩ := ry; exact PySem.EqMixed.eq_bool_str (fin_bl I q (by simp))
    | _ => exact absurd (show false = true from hs) Bool.false_ne_true
  | int i =>
    obtain ⟨t, rfl⟩ := rx
    cases y with
    | non => cases ry; exact PySem.EqNone.eq_int_none (fin_bl I q (by simp))
    | int j => obtain ⟨t', rfl⟩ := ry; exact eq_int (fin_bl I q dec_int)
    | str j => obtain ⟨t', rfl⟩ := ry; exact PySem.EqMixed.eq_int_str (fin_bl I q (by simp))
    | _ => exact absurd (show false = true from hs) Bool.false_ne_true
  | str i =>
    obtain ⟨t, rfl⟩ := rx
    cases y with
    | non => cases ry; exact PySem.EqNone.eq_str_none (fin_bl I q (by simp))
    | bl j => cases ry; exact PySem.EqMixed.eq_str_bool (fin_bl I q (by simp))
    | int j => obtain ⟨t', rfl⟩ := ry; exact PySem.EqMixed.eq_str_int (fin_bl I q (by simp))
    | str j => obtain ⟨t', rfl⟩ := ry; exact eq_str (fin_bl I q dec_str)
    | _ => exact absurd (show false = true from hs) Bool.false_ne_true
  | byt i =>
    obtain ⟨t, rfl⟩ := rx
    cases y with
    | byt j => obtain ⟨t', rfl⟩ := ry; exact PySem.W.eq_bytes (fin_bl I q dec_byt)
    | _ => exact absurd (show false = true from hs) Bool.false_ne_true
  | _ => cases y <;> exact absurd (show false = true from hs) Bool.false_ne_true
theorem op_ne : OpR X (compareOp .NotEq) rNe := by
  intro pins s σ H x y v u Q I rx ry h
  obtain ⟨hs, q⟩ := h
  cases x with
  | non =>
    cases rx
    cases y with
    | non => cases ry; exact PySem.EqNone.ne_none_none (fin_bl I q (by simp))
    | bl j => cases ry; exact PySem.EqNone.ne_none_bool (fin_bl I q (by simp))
    | int j => obtain ⟨t', rfl⟩ := ry; exact PySem.EqNone.ne_none_int (fin_bl I q (by simp))
    | str j => obtain ⟨t', rfl⟩ := ry; exact PySem.EqNone.ne_none_str (fin_bl I q (by simp))
    | _ => exact absurd (show false = true from hs) Bool.false_ne_true
  | bl i =>
    cases rx
    cases y with
    | non => cases ry; exact PySem.EqNone.ne_bool_none (fin_bl I q (by simp))
    | bl j => cases ry; exact ne_bool (fin_bl I q (congrArg not dec_bl))
    | str j => obtain ⟨t', rfl⟩ := ry; exact PySem.EqMixed.ne_bool_str (fin_bl I q (by simp))
    | _ => exact absurd (show false = true from hs) Bool.false_ne_true
  | int i =>
    obtain ⟨t, rfl⟩ := rx
    cases y with
    | non => cases ry; exact PySem.EqNone.ne_int_none (fin_bl I q (by simp))
    | int j => obtain ⟨t', rfl⟩ := ry; exact ne_int (fin_bl I q (congrArg not dec_int))
    | str j => obtain ⟨t', rfl⟩ := ry; exact PySem.EqMixed.ne_int_str (fin_bl I q (by simp))
    | _ => exact absurd (show false = true from hs) Bool.false_ne_true
  | str i =>
    obtain ⟨t, rfl⟩ := rx
    cases y with
    | non => cases ry; exact PySem.EqNone.ne_str_none (fin_bl I q (by simp))
    | bl j => cases ry; exact PySem.EqMixed.ne_str_bool (fin_bl I q (by simp))
    | int j => obtain ⟨t', rfl⟩ := ry; exact PySem.EqMixed.ne_str_int (fin_bl I q (by simp))
    | str j => obtain ⟨t', rfl⟩ := ry; exact ne_str (fin_bl I q (congrArg not dec_str))
    | _ => exact absurd (show false = true from hs) Bool.false_ne_true
  | byt i =>
    obtain ⟨t, rfl⟩ := rx
    cases y with
    | byt j => obtain ⟨t', rfl⟩ := ry; exact PySem.W.ne_bytes (fin_bl I q (congrArg not dec_byt))
    | _ => exact absurd (show false = true from hs) Bool.false_ne_true
  | _ => cases y <;> exact absurd (show false = true from hs) Bool.false_ne_true

theorem op_lt : OpR X (compareOp .Lt) (rI0 fun i j => .bl (decide (i < j))) := opB0 fun _ _ _ _ _ _ _ q => lt_int q
theorem op_le : OpR X (compareOp .LtE) (rI0 fun i j => .bl (decide (i ≤ j))) := opB0 fun _ _ _ _ _ _ _ q => le_int q
theorem op_gt : OpR X (compareOp .Gt) (rI0 fun i j => .bl (decide (j < i))) := opB0 fun _ _ _ _ _ _ _ q => gt_int q
theorem op_ge : OpR X (compareOp .GtE) (rI0 fun i j => .bl (decide (j ≤ i))) := opB0 fun _ _ _ _ _ _ _ q => ge_int q
/-- the one string within the other -/
theorem op_in_str : OpR X (compareOp .In) (fun x y H Q => ∃ i j, x = .str i ∧ y = .str j ∧ Q (.bl (!(Builtin.Str.occurrences j i 0 j.length 1).isEmpty)) H) := by
  intro pins s σ H x y v u Q I rx ry h
  obtain ⟨i, j, rfl, rfl, q⟩ := h
  obtain ⟨t, rfl⟩ := rx
  obtain ⟨t', rfl⟩ := ry
  exact in_str (fin_bl I q rfl)

theorem op_notN : OpR X (compareOp .IsNot) (fun x y H Q => y = .non ∧ Q (.bl (!decide (x = .non))) H) := by
  intro pins s σ H x y v u Q I rx ry h
  obtain ⟨rfl, q⟩ := h
  cases ry
  refine isnot_none_gen (fin_bl I q ?_)
  cases x <;> first
    | (cases rx; rfl)
    | (obtain ⟨t, rfl⟩ := rx; rfl)



theorem nomark (b : Expr) {op : CmpOp} (h : op ≠ .In := by decide) (h2 : op ≠ .NotIn := by decide) : behindInMarks op b = false := by
  have e1 : (op == CmpOp.In) = false := by cases op <;> first | rfl | exact absurd rfl h
  have e2 : (op == CmpOp.NotIn) = false := by cases op <;> first | rfl | exact absurd rfl h2
  cases b <;> simp [behindInMarks, e1, e2]
/-- a comparison as a value; hm: nomark b, or (for in, not in) by with_unfolding_all rfl -/
theorem pe_cmpR {op : CmpOp} {r : R2} (ho : OpR X (compareOp op) r) (ha : PE X a ta) (hb : PE X b tb) (hm : behindInMarks op b = false) : PE X (.Compare a [op] [b] pos) (tOp r ta tb) := by
  refine ⟨?_⟩
  intro pins s σ H Q I h
  exact wpAny_Compare1 (binT ha hb I h fun v u s2 x y H2 I2 rx ry q => ho pins s2 σ H2 x y v u Q I2 rx ry q) hm
/-- a reading of a value as a test -/
def tTest (t : TE) : TT := fun σ H Q => t σ H fun x H' => ∃ k, x = .bl k ∧ Q k H'
theorem pt_cmpR {op : CmpOp} {r : R2} (ho : OpR X (compareOp op) r) (ha : PE X a ta) (hb : PE X b tb) (hm : behindInMarks op b = false) : PT X (.Compare a [op] [b] pos) (tTest (tOp r ta tb)) := by
  refine ⟨?_⟩
  intro pins s σ H Q I h
  refine wpAny_isTrue_Compare1 (thn (ha pins s σ H _ I h) fun v s1 ⟨x, H1, I1, r1, q1⟩ => thn (hb pins s1 σ H1 _ I1 q1) fun u s2 ⟨y, H2, I2, r2, q2⟩ =>
    thn (ho pins s2 σ H2 x y v u _ I2 r1 r2 q2) fun c s3 ⟨z, H3, I3, r3, k, e, q3⟩ => ?_) hm
  subst e
  cases r3
  exact wpAny_truthy_bool ⟨H3, I3, q3⟩
/-- a op1 b op2 c -/
def tChain (r r' : R2) (ta tb tc : TE) : TE := fun σ H Q => ta σ H fun x H1 => tb σ H1 fun y H2 => r x y H2 fun z H3 => ∃ k, z = .bl k ∧
  (if k = true then tc σ H3 fun w' H4 => r' y w' H4 Q else Q (.bl false) H3)
theorem pe_chain {op op' : CmpOp} {r r' : R2} (ho : OpR X (compareOp op) r) (ho' : OpR X (compareOp op') r') (ha : PE X a ta) (hb : PE X b tb) (hc : PE X c tc)
    (hm : lastMarks [op, op'] [b, c] = false := by with_unfolding_all rfl) : PE X (.Compare a [op, op'] [b, c] pos) (tChain r r' ta tb tc) := by
  refine ⟨?_⟩
  intro pins s σ H Q I h
  refine Compare_chain (thn (ha pins s σ H _ I h) fun v s1 ⟨x, H1, I1, r1, q1⟩ => chain_link (thn (hb pins s1 σ H1 _ I1 q1) fun u s2 ⟨y, H2, I2, r2, q2⟩ =>
    thn (ho pins s2 σ H2 x y v u _ I2 r1 r2 q2) fun d s3 ⟨z, H3, I3, r3, k, e, q3⟩ => ?_)) hm
  subst e
  cases r3
  refine wpAny_truthy_bool ?_
  cases k with
  | false => exact ite_ff ⟨.bl false, H3, I3, rfl, q3⟩
  | true => exact ite_tt (chain_last (thn (hc pins s3 σ H3 _ I3 q3) fun w' s4 ⟨z', H4, I4, r4, q4⟩ => ho' pins s4 σ H4 y z' u w' Q I4 r2 r4 q4))

/-! ### truth -/
/-- a value's truth by the abstract heap -/
def TruV (K : PySem.W.Frag) (x : V) (H : Hp) (k : Bool) : Prop :=
  match x with
  | .non => k = false
  | .bl b => k = b
  | .int i => k = (i != 0)
  | .str y => y.length ≤ sizeLine ∧ k = ((y.length : Int) != 0)
  | .byt y => y.size ≤ sizeLine ∧ k = ((y.size : Int) != 0)
  | .ref p => (∃ xs, SqL K H p xs ∧ k = !xs.isEmpty) ∨ (∃ xs, SqT K H p xs ∧ k = !xs.isEmpty) ∨ ∃ kvs, H p = some (.dK kvs) ∧ k = !kvs.isEmpty
  | _ => False
theorem isEmpty_kv {κ : Type} {kvs : List (κ × V)} {vs : List (κ × Value)} (r : KV kvs vs) : (!vs.isEmpty) = !kvs.isEmpty := by
  cases r <;> rfl
theorem isEmpty_of {xs : List V} {its : List Value} (r : Vals xs its) : (!its.toArray.isEmpty) = !xs.isEmpty := by
  cases r <;> simp
theorem line63 : (sizeLine : Nat) < 2 ^ 63 := by rw [sizeLine_eq]; decide
theorem tru_ok : TruR X (fun x H Q => ∃ k, TruV X.K x H k ∧ Q k H) := by
  intro pins s σ H x v Q I rx h
  obtain ⟨k, e, q⟩ := h
  have hl := line63
  have hs : sizeLine = 16777216 := sizeLine_eq
  cases x with
  | non =>
    cases rx
    have e' : k = false := e
    subst e'
    exact truthy_none ⟨H, I, q⟩
  | bl b =>
    cases rx
    have e' : k = b := e
    subst e'
    exact wpAny_truthy_bool ⟨H, I, q⟩
  | int i =>
    obtain ⟨t, rfl⟩ := rx
    have e' : k = (i != 0) := e
    subst e'
    exact PySem.P.truthy_int ⟨H, I, q⟩
  | str y =>
    obtain ⟨t, rfl⟩ := rx
    obtain ⟨hy, e'⟩ : y.length ≤ sizeLine ∧ k = ((y.length : Int) != 0) := e
    subst e'
    exact PySem.P.truthy_str (by omega) ⟨H, I.tok _, q⟩
  | byt y =>
    obtain ⟨t, rfl⟩ := rx
    obtain ⟨hy, e'⟩ : y.size ≤ sizeLine ∧ k = ((y.size : Int) != 0) := e
    subst e'
    exact PySem.W.truthy_bytes (by omega) ⟨H, I.tok _, q⟩
  | ref p =>
    cases rx
    have e' : (∃ xs, SqL X.K H p xs ∧ k = !xs.isEmpty) ∨ (∃ xs, SqT X.K H p xs ∧ k = !xs.isEmpty) ∨ ∃ kvs, H p = some (.dK kvs) ∧ k = !kvs.isEmpty := e
    rcases e' with ⟨xs, hx, e'⟩ | ⟨xs, hx, e'⟩ | ⟨kvs, hx, e'⟩
    · subst e'
      obtain ⟨its, r, pl, hz⟩ := I.list hx
      have hlen := r.length
      exact wpAny_truthy_list pl.isList (by simp only [List.size_toArray]; omega) ⟨H, I.tok _, by rw [isEmpty_of r]; exact q⟩
    · subst e'
      obtain ⟨its, r, pl, hz⟩ := I.tuple hx
      have hlen := r.length
      exact truthy_tuple pl (by simp only [List.size_toArray]; omega) ⟨H, I.tok _, by rw [isEmpty_of r]; exact q⟩
    · subst e'
      obtain ⟨hz, hS, vs, r, m⟩ : kvs.length ≤ sizeLine ∧ (p == sysModules) = false ∧ ∃ vs, KV kvs vs ∧ s.heap.DictOf (mixKind X.prog X.w) p vs := I.hok p _ hx
      have hlen : kvs.length = vs.length := Paired.length r
      exact wpAny_truthy_dict hS m (by omega) ⟨H, I.tok _, by rw [isEmpty_kv r]; exact q⟩
  | _ => exact (show False from e).elim
/-- any expression whose test is its value's truth (a name, a call, a subscript, a field ..: he by fun _ => rfl) -/
theorem pt_truth (ha : PE X a ta) (he : ∀ whole, isTrue a X.env whole = (do let v ← whole; standAt a.pos; holding [v] (truthy v))) :
    PT X a (fun σ H Q => ta σ H fun x H' => ∃ k, TruV X.K x H' k ∧ Q k H') := by
  refine ⟨?_⟩
  intro pins s σ H Q I h
  exact isTrue_plain (thn (ha pins s σ H _ I h) fun v s1 ⟨x, H1, I1, r1, q1⟩ => tru_ok pins s1 σ H1 x v Q I1 r1 q1) (he _)

/-! ### strs and bytes -/


/-! ### scalar builtins, by CallR -/
theorem vals1 {x : V} {us : List Value} (r : Vals [x] us) : ∃ u, us = [u] ∧ RelV x u := by
  cases r with
  | cons r1 r2 => cases r2; exact ⟨_, rfl, r1⟩
theorem vals2 {x y : V} {us : List Value} (r : Vals [x, y] us) : ∃ u w', us = [u, w'] ∧ RelV x u ∧ RelV y w' := by
  cases r with
  | cons r1 r2 =>
    cases r2 with
    | cons r3 r4 => cases r4; exact ⟨_, _, rfl, r1, r3⟩
theorem call_abs : CallR X (.builtin "abs") (fun xs H Q => ∃ i, xs = [.int i] ∧ Q (.int (if i < 0 then -i else i)) H) := by
  intro pins s σ H xs us Q I r h
  obtain ⟨i, rfl, q⟩ := h
  obtain ⟨u, rfl, t, rfl⟩ := vals1 r
  exact call_abs_int fun u tk => ⟨.int (if i < 0 then -i else i), H, I.tok _, ⟨_, rfl⟩, q⟩
theorem call_max2 (hc : X.calm = true) : CallR X (.builtin "max") (fun xs H Q => ∃ i j, xs = [.int i, .int j] ∧ Q (.int (if j > i then j else i)) H) := by
  intro pins s σ H xs us Q I r h
  obtain ⟨i, j, rfl, q⟩ := h
  obtain ⟨u, w', rfl, ⟨t, rfl⟩, ⟨t', rfl⟩⟩ := vals2 r
  refine max_two_ints (I.ok.hd hc) fun h' tk k => ⟨_, H, I.kept k, ?_, q⟩
  by_cases hj : j > i
  · rw [if_pos hj, if_pos hj]; exact ⟨_, rfl⟩
  · rw [if_neg hj, if_neg hj]; exact ⟨_, rfl⟩
theorem call_min2 (hc : X.calm = true) : CallR X (.builtin "min") (fun xs H Q => ∃ i j, xs = [.int i, .int j] ∧ Q (.int (if j < i then j else i)) H) := by
  intro pins s σ H xs us Q I r h
  obtain ⟨i, j, rfl, q⟩ := h
  obtain ⟨u, w', rfl, ⟨t, rfl⟩, ⟨t', rfl⟩⟩ := vals2 r
  refine min_two_ints (I.ok.hd hc) fun h' tk k => ⟨_, H, I.kept k, ?_, q⟩
  by_cases hj : j < i
  · rw [if_pos hj, if_pos hj]; exact ⟨_, rfl⟩
  · rw [if_neg hj, if_neg hj]; exact ⟨_, rfl⟩
theorem call_int1 : CallR X (.type "int") (fun xs H Q => (∃ i, xs = [.int i] ∧ Q (.int i) H) ∨ ∃ k, xs = [.bl k] ∧ Q (.int (if k then 1 else 0)) H) := by
  intro pins s σ H xs us Q I r h
  rcases h with ⟨i, rfl, q⟩ | ⟨k, rfl, q⟩
  · obtain ⟨u, rfl, t, rfl⟩ := vals1 r
    exact call_int_int ⟨.int i, H, I, ⟨_, rfl⟩, q⟩
  · obtain ⟨u, rfl, r1⟩ := vals1 r
    cases r1
    exact call_int_bool ⟨.int (if k then 1 else 0), H, I.tok _, ⟨_, rfl⟩, q⟩
end
end L2

namespace L2
open PySem PySem.Spec PyProof.Rows

/-! ### an instance, its attributes a map -/
structure ObjM (h : Heap) (x dx C : Addr) (mA : Str → Option Value) : Prop where
  obj : h.get? x = some (PySem.W.instObj C dx)
  ns : h.Ns1 dx mA
  ne : dx ≠ x

theorem lookIn_ns {h : Heap} {dx : Addr} {mA : Str → Option Value} (n : h.Ns1 dx mA) : ∃ od, h.get? dx = some od ∧ ∀ name, PySem.W.lookIn name od = some (mA name) := by
  obtain ⟨o, es, ep, ho, hd, hk, _, hm⟩ := n
  refine ⟨o, ho, fun name => ?_⟩
  have e := hm name
  unfold nsFind findBy at e
  rw [← Array.find?_toList] at e
  unfold PySem.W.lookIn
  rw [hd]
  dsimp only
  split
  · rename_i y q
    rw [q] at e
    exact congrArg some e
  · rename_i q
    rw [q] at e
    have a : es.toList.any (·.refKey) = false := by
      rw [List.any_eq_false]
      intro y hy
      obtain ⟨z, t, hkey⟩ := hk y (Array.mem_toList_iff.mp hy)
      simp [DictEntry.refKey, hkey]
    have a' : ¬ es.toList.any (·.refKey) = true := by rw [a]; exact Bool.false_ne_true
    rw [if_neg a']
    exact congrArg some e

theorem ObjM.look {h : Heap} {x dx C : Addr} {mA : Str → Option Value} (I : ObjM h x dx C mA) : ∃ od, PySem.W.InstAt h x (PySem.W.instObj C dx) C (some od) ∧ ∀ name, PySem.W.lookIn name od = some (mA name) :=
  let ⟨od, ho, hl⟩ := lookIn_ns I.ns
  ⟨od, ⟨I.obj, rfl, rfl, ho⟩, hl⟩

section
variable {prog : Program} {w : World} {A : Around} {E : Value → Shared → Prop} {s : Shared} {K : PySem.W.Frag} {x dx C f : Addr} {mA : Str → Option Value} {name : Str} {v : Value}

theorem get_map {expr : Bool} {Q : Value → Shared → Prop} (X : K.In s.heap) (I : ObjM s.heap x dx C mA) (hg : PySem.W.plainGet K C name = true) (hh : PySem.W.hasDictIn K C = true)
    (ha : PySem.W.findIn K (.ref C) name = some none) (hv : mA name = some v) (hv' : PySem.W.handedIn v = true) (h : Q v { s with toks := s.toks + 1 }) :
    wpAny (model prog w) A (getAttr (.ref x) name expr) Q E s := by
  obtain ⟨od, J, hl⟩ := I.look
  exact PySem.W.get_value X J (PySem.W.plainGet_of hg).1 (PySem.W.findObj_own hh ha rfl (by rw [hl, hv])) hv' h


theorem get_meth {pl : Sem Bool} {Q : Value × List Value → Shared → Prop} (X : K.In s.heap) (I : ObjM s.heap x dx C mA) (hg : PySem.W.plainGet K C name = true)
    (hf : PySem.W.findIn K (.ref C) name = some (some (.ref f))) (ht : PySem.W.isFn K (.ref f) = true) (hv : mA name = none) (h : Q (.ref f, [.ref x]) s) :
    wpAny (model prog w) A (getMethod (.ref x) name pl) Q E s := by
  obtain ⟨od, J, hl⟩ := I.look
  exact PySem.W.method_fn X J (PySem.W.plainGet_of hg).1 (PySem.W.plainGet_of hg).2 hf (beq_iff_eq.mp ht) (by show (PySem.W.lookIn name od).map (·.isSome) = some false; rw [hl, hv]; rfl) h

theorem set_map {ns : List Str} {Q : Unit → Shared → Prop} (X : K.In s.heap) (I : ObjM s.heap x dx C mA)
    (hs : PySem.W.findIn K (.ref C) "__setattr__" = some (some (.builtin "object.__setattr__"))) (hp : PySem.W.plainOver K C = true) (ht : PySem.W.takerIn K C name = some none) (hh : PySem.W.hasDictIn K C = true)
    (hw : PySem.Within mA ns) (hsz : ns.length ≤ sizeLine)
    (h : ∀ h', ObjM h' x dx C (fun y => if y = name then some v else mA y) → Heap.SameBut dx s.heap h' → Q () { s with heap := h', toks := s.toks + 2 }) :
    wpAny (model prog w) A (setAttr (.ref x) name v) Q E s := by
  obtain ⟨od, J, hl⟩ := I.look
  refine PySem.W.set_plain X J hs (PySem.W.osa_open (s := { s with toks := s.toks + 1 }) (r := none) X J hp ht fun b => ?_)
  obtain ⟨cd, hc, hd'⟩ := PySem.W.any_some hh
  have hx : s.heap.get? x = some ⟨.ref C, some dx, .plain, #[]⟩ := I.obj
  refine wpAny_bind (wpAny_pure (wpAny_bind (wpAny_bind (wpAny_loadPart hx (wpAny_bind (PySem.W.Looks.here (s := { s with toks := s.toks + 1 }) (PySem.W.looks_clsIn X hc) ?_))))))
  rw [hd']
  refine wpAny_pure (a := some dx) (wpAny_bind (wpAny_pure (wpAny_bind ?_)))
  refine wpAny_nsSet1 (s := { s with toks := s.toks + 1 }) I.ns fun h' hn2 hs2 => ?_
  obtain ⟨oD, esD, epD, hoD, hdD, hcD⟩ := hn2.count (PySem.Within.cons name v hw)
  refine wpAny_bind (wpAny_lookBehind hoD (by rw [hdD]; exact pastItsLine_dict (Nat.le_trans hcD (by rw [List.length_cons]; omega))) ?_)
  exact wpAny_pure (h _ ⟨(hs2.2 _ (Ne.symm I.ne)).trans I.obj, hn2, I.ne⟩ hs2)

/-- C(..): the dict at the heap's end, the instance behind it; then its __init__ -/
theorem make_map {R : Result → Shared → Prop} {vs : List Value} {kw : List (Str × Value)} (X : K.In s.heap) (hm : PySem.W.makesIn K C = true)
    (hi : PySem.W.findIn K (.ref C) "__init__" = some (some (.ref f))) (hf : PySem.W.typeIn K (.ref f) = some (.type "function"))
    (h : codeAny (model prog w) (A.under (.builtin "type.__call__" ⟨.ref C :: vs, kw⟩)) (.call (.ref f) ⟨.ref (s.heap.objs.size + 1) :: vs, kw⟩) (PySem.W.InitBack (s.heap.objs.size + 1) R)
      { s with heap := (s.heap.push PySem.W.emptyDict).push (PySem.W.instObj C s.heap.objs.size) }) :
    codeAny (model prog w) A (.call (.ref C) ⟨vs, kw⟩) R s := by
  obtain ⟨hh, g, d, t, os⟩ := s
  exact PySem.W.make_core (PySem.W.makes_of X hm) (PySem.W.looks_findIn X hi) (fun self => PySem.W.bind_fn X self hf) (.inl rfl) h
end

/-! ### the attributes as a list of pairs -/
def putF (f : Str) (v : V) : List (Str × V) → List (Str × V)
  | [] => [(f, v)]
  | (g, x) :: r => if g = f then (g, v) :: r else (g, x) :: putF f v r
theorem lookup_putF (f g : Str) (v : V) : ∀ fs : List (Str × V), (putF f v fs).lookup g = if g = f then some v else fs.lookup g
  | [] => by
    show List.lookup g [(f, v)] = _
    by_cases h : g = f
    · have hb : (g == f) = true := beq_iff_eq.mpr h
      simp only [List.lookup, hb, if_pos h]
    · have hb : (g == f) = false := beq_eq_false_iff_ne.mpr h
      simp only [List.lookup, hb, if_neg h]
  | (k, x) :: r => by
    have ih := lookup_putF f g v r
    rw [show putF f v ((k, x) :: r) = (if k = f then (k, v) :: r else (k, x) :: putF f v r) from rfl]
    by_cases hk : k = f
    · rw [if_pos hk]
      by_cases h : g = k
      · have hb : (g == k) = true := beq_iff_eq.mpr h
        simp only [List.lookup, hb, if_pos (h.trans hk)]
      · have hb : (g == k) = false := beq_eq_false_iff_ne.mpr h
        simp only [List.lookup, hb, if_neg (fun e : g = f => h (e.trans hk.symm))]
    · rw [if_neg hk]
      by_cases h : g = k
      · have hb : (g == k) = true := beq_iff_eq.mpr h
        simp only [List.lookup, hb, if_neg (fun e : g = f => hk (h.symm.trans e))]
      · have hb : (g == k) = false := beq_eq_false_iff_ne.mpr h
        simp only [List.lookup, hb]
        exact ih
theorem keys_putF (f : Str) (v : V) : ∀ fs : List (Str × V), f ∈ (putF f v fs).map (·.1) ∧ ∀ g, g ∈ fs.map (·.1) → g ∈ (putF f v fs).map (·.1)
  | [] => ⟨by simp [putF], fun g h => by simp at h⟩
  | (k, x) :: r => by
    obtain ⟨i1, i2⟩ := keys_putF f v r
    rw [show putF f v ((k, x) :: r) = (if k = f then (k, v) :: r else (k, x) :: putF f v r) from rfl]
    by_cases hk : k = f
    · rw [if_pos hk]
      subst hk
      exact ⟨by simp, fun g h => by simpa using h⟩
    · rw [if_neg hk]
      refine ⟨?_, fun g h => ?_⟩
      · rw [List.map_cons]
        exact List.mem_cons_of_mem _ i1
      · rw [List.map_cons] at h ⊢
        rcases List.mem_cons.mp h with e | e
        · exact List.mem_cons.mpr (.inl e)
        · exact List.mem_cons_of_mem _ (i2 g e)
theorem length_putF (f : Str) (v : V) : ∀ fs : List (Str × V), (putF f v fs).length ≤ fs.length + 1
  | [] => by simp [putF]
  | (k, x) :: r => by
    have ih := length_putF f v r
    rw [show putF f v ((k, x) :: r) = (if k = f then (k, v) :: r else (k, x) :: putF f v r) from rfl]
    by_cases hk : k = f
    · rw [if_pos hk, List.length_cons, List.length_cons]; omega
    · rw [if_neg hk, List.length_cons, List.length_cons]; omega

theorem RelO.some_of {v : V} {o : Option Value} (r : RelO (some v) o) : ∃ u, o = some u ∧ RelV v u := by
  cases o with
  | none => exact (show False from r).elim
  | some u => exact ⟨u, rfl, r⟩
theorem RelO.none_of {o : Option Value} (r : RelO none o) : o = none := by
  cases o with
  | none => rfl
  | some u => exact (show False from r).elim
theorem handed_of {v : V} {u : Value} (r : RelV v u) : PySem.W.handedIn u = true := by
  cases v with
  | non => cases (show u = Value.none from r); rfl
  | bl b => cases (show u = Value.bool b from r); rfl
  | int i => obtain ⟨t, e⟩ := (show ∃ t, u = Value.int i t from r); cases e; rfl
  | str x => obtain ⟨t, e⟩ := (show ∃ t, u = Value.str x t from r); cases e; rfl
  | byt b => obtain ⟨t, e⟩ := (show ∃ t, u = Value.bytes b t from r); cases e; rfl
  | flt b => obtain ⟨t, e⟩ := (show ∃ t, u = Value.float b t from r); cases e; rfl
  | ref a => cases (show u = Value.ref a from r); rfl
  | ty n => cases (show u = Value.type n from r); rfl

section
variable {P : Program} {w : World} {H H' : Hp} {h h' : Heap} {a C dx : Addr} {fs fs' : List (Str × V)}
theorem ins_get (hok : HOk P w H h) (e : H a = some (.ins C dx fs)) : ∃ mA, ObjM h a dx C mA ∧ (∀ f, RelO (fs.lookup f) (mA f)) ∧ PySem.Within mA (fs.map (·.1)) ∧ fs.length ≤ 1000 ∧ H dx = some (.own a) := by
  obtain ⟨d, z, ne, ob, mA, n, r, q⟩ := (show ObjOk P w H h a (.ins C dx fs) from hok a _ e)
  exact ⟨mA, ⟨ob, n, ne⟩, r, q, z, d⟩
end

/-! ### what of the text a class must have -/
structure Cls (K : PySem.W.Frag) (C : Addr) : Prop where
  pg : PySem.W.plainGet K C Str.empty = true
  hd : PySem.W.hasDictIn K C = true
  po : PySem.W.plainOver K C = true
  sa : PySem.W.findIn K (.ref C) "__setattr__" = some (some (.builtin "object.__setattr__"))
theorem Cls.get {K : PySem.W.Frag} {C : Addr} (c : Cls K C) (f : Str) : PySem.W.plainGet K C f = true := c.pg
/-- no class of it has the name -/
def NoAttr (K : PySem.W.Frag) (C : Addr) (f : Str) : Prop := PySem.W.findIn K (.ref C) f = some none
theorem NoAttr.taker {K : PySem.W.Frag} {C : Addr} {f : Str} (n : NoAttr K C f) : PySem.W.takerIn K C f = some none := by
  unfold PySem.W.takerIn
  rw [show PySem.W.findIn K (.ref C) f = some none from n]
  rfl
/-- a method: a plain def of the class or of one above it -/
structure Meth (K : PySem.W.Frag) (C : Addr) (m : Str) (f : Addr) : Prop where
  at_ : PySem.W.findIn K (.ref C) m = some (some (.ref f))
  fn : PySem.W.isFn K (.ref f) = true
  kp : PySem.W.keepIn K (.ref f) = true

section
variable {X : Cx} {pins : List (Addr × Obj)} {σ : St} {H : Hp} {s : Shared} {a C dx : Addr} {fs : List (Str × V)} {f : Str} {v : V} {A : Around} {E : Value → Shared → Prop}

theorem getattr_ok {b : Bool} {Q : Value → Shared → Prop} (I : Inv X pins σ H s) (e : H a = some (.ins C dx fs)) (c : Cls X.K C) (n : NoAttr X.K C f) (l : fs.lookup f = some v)
    (h : ∀ u s', Inv X pins σ H s' → RelV v u → Q u s') : wpAny (model X.prog X.w) A (getAttr (.ref a) f b) Q E s := by
  obtain ⟨mA, O, r, _, _, _⟩ := ins_get I.hok e
  obtain ⟨u, hu, ru⟩ := RelO.some_of (v := v) (o := mA f) (by rw [← l]; exact r f)
  exact get_map I.kIn O (c.get f) c.hd n hu (handed_of ru) (h u _ (I.tok _) ru)


theorem getmeth_ok {m : Str} {g : Addr} {pl : Sem Bool} {Q : Value × List Value → Shared → Prop} (I : Inv X pins σ H s) (e : H a = some (.ins C dx fs)) (c : Cls X.K C) (k : Meth X.K C m g) (l : fs.lookup m = none)
    (h : Q (.ref g, [.ref a]) s) : wpAny (model X.prog X.w) A (getMethod (.ref a) m pl) Q E s := by
  obtain ⟨mA, O, r, _, _, _⟩ := ins_get I.hok e
  have hn : mA m = none := RelO.none_of (by rw [← l]; exact r m)
  exact get_meth I.kIn O (c.get m) k.at_ k.fn hn h

theorem setattr_ok {y : V} {u : Value} {Q : Unit → Shared → Prop} (I : Inv X pins σ H s) (e : H a = some (.ins C dx fs)) (c : Cls X.K C) (n : NoAttr X.K C f) (hl : fs.length < 1000) (ry : RelV y u)
    (h : ∀ s', Inv X pins σ (upd H a (.ins C dx (putF f y fs))) s' → Q () s') : wpAny (model X.prog X.w) A (setAttr (.ref a) f u) Q E s := by
  obtain ⟨mA, O, r, wi, _, ho⟩ := ins_get I.hok e
  have hz : (fs.map (·.1)).length ≤ sizeLine := by rw [List.length_map, sizeLine_eq]; omega
  refine set_map I.kIn O c.sa c.po n.taker c.hd wi hz fun h' O' sb => h _ ?_
  have hd : ∃ o, h'.get? dx = some o := let ⟨o, _, _, e', _⟩ := O'.ns; ⟨o, e'⟩
  refine I.write (x := a) (e := dx) (by rw [e]; exact True.intro) (.inr ho) (fun b q hb z => (sb.2 b hb).trans z) hd ?_
  refine ⟨by rw [upd_ne O.ne]; exact ho, ?_, O.ne, O'.obj, _, O'.ns, fun g => ?_, fun g hg => ?_⟩
  · have := length_putF f y fs; omega
  · show RelO ((putF f y fs).lookup g) (if g = f then some u else mA g)
    rw [lookup_putF]
    by_cases q : g = f
    · rw [if_pos q, if_pos q]; exact ry
    · rw [if_neg q, if_neg q]; exact r g
  · by_cases q : g = f
    · rw [q]; exact (keys_putF f y fs).1
    · refine (keys_putF f y fs).2 g (wi g fun z => hg ?_)
      show (if g = f then some u else mA g) = none
      rw [if_neg q]; exact z

/-- a new instance, tracked, without attributes -/
theorem Inv.made (I : Inv X pins σ H s) : Inv X pins σ (upd (upd H s.heap.objs.size (.own (s.heap.objs.size + 1))) (s.heap.objs.size + 1) (.ins C s.heap.objs.size []))
    { s with heap := (s.heap.push PySem.W.emptyDict).push (PySem.W.instObj C s.heap.objs.size) } := by
  have e1 : (s.heap.push PySem.W.emptyDict).get? s.heap.objs.size = some PySem.W.emptyDict := Heap.get?_push_size s.heap rfl
  have e2 : ((s.heap.push PySem.W.emptyDict).push (PySem.W.instObj C s.heap.objs.size)).get? (s.heap.objs.size + 1) = some (PySem.W.instObj C s.heap.objs.size) := by
    have := Heap.get?_push_size (s.heap.push PySem.W.emptyDict) (o := PySem.W.instObj C s.heap.objs.size) rfl
    rwa [Heap.size_push] at this
  have e3 : (s.heap.push PySem.W.emptyDict).Ns s.heap.objs.size (fun _ => none) := ⟨PySem.W.emptyDict, #[], _, e1, rfl, (fun e he => absurd he (by simp)), fun _ => rfl⟩
  have I1 := I.laid (a := s.heap.objs.size) (o := .own (s.heap.objs.size + 1)) (h' := s.heap.push PySem.W.emptyDict) (t' := s.toks) (fun b u q => Heap.get?_push_of_some _ q) (Nat.le_refl _) ⟨_, e1⟩
  refine I1.laid (a := s.heap.objs.size + 1) (o := .ins C s.heap.objs.size []) (t' := s.toks) (fun b u q => Heap.get?_push_of_some _ q) (Nat.le_of_eq (Heap.size_push _ _)) ?_
  have ne : s.heap.objs.size ≠ s.heap.objs.size + 1 := Nat.ne_of_lt (Nat.lt_succ_self _)
  refine ⟨by rw [upd_ne ne, upd_same], Nat.zero_le _, ne, e2, fun _ => none, (Heap.Ns1.of_empty e3).at fun o q => Heap.get?_push_of_some _ q, fun _ => True.intro, fun y hy => absurd rfl hy⟩

/-- e.f where nothing but the object is asked: through attributeBase (super) and the last hold -/
theorem attr_of {prog : Program} {w : World} {env : Env} {e : Expr} {f : Str} {pos : Pos} {s : Shared} {Q : Value → Shared → Prop} (hb : attributeBase e f env (eval e env) = eval e env)
    (h : wpAny (model prog w) A (eval e env) (fun o s₁ => wpAny (model prog w) A (getAttr o f true) Q E s₁) E s) : wpAny (model prog w) A (eval (.Attribute e f pos) env) Q E s :=
  Attribute_any_ h (by rw [arm_eval_Attribute, hb])
end

/-! ### readings and rules -/
/-- e.f, an attribute of the instance -/
inductive rFld (K : PySem.W.Frag) (f : Str) (x : V) (H1 : Hp) (Q : VK) : Prop
  | mk (a C dx : Addr) (fs : List (Str × V)) (v : V) (e : x = .ref a) (h : H1 a = some (.ins C dx fs)) (c : Cls K C) (n : NoAttr K C f) (l : fs.lookup f = some v) (q : Q v H1) : rFld K f x H1 Q
def tFld (K : PySem.W.Frag) (ta : TE) (f : Str) : TE := fun σ H Q => ta σ H fun x H1 => rFld K f x H1 Q
/-- e.f = value -/
def sFld (K : PySem.W.Frag) (ta tv : TE) (f : Str) : TS := fun D σ H => tv σ H fun y H1 => ta σ H1 fun x H2 => ∃ a C dx fs, x = .ref a ∧ H2 a = some (.ins C dx fs) ∧ Cls K C ∧ NoAttr K C f ∧ fs.length < 1000 ∧
  D.nx σ (upd H2 a (.ins C dx (putF f y fs)))

section
variable {X : Cx} {o e value : Expr} {f : Str} {pos pos' tpos : Pos} {ta tv : TE}
theorem pe_fld (he : PE X e ta) (hb : attributeBase e f X.env (eval e X.env) = eval e X.env) : PE X (.Attribute e f pos) (tFld X.K ta f) := by
  refine ⟨?_⟩
  intro pins s σ H Q I h
  refine attr_of hb (thn (he pins s σ H _ I h) fun u s1 ⟨x, H1, I1, rx, a, C, dx, fs, v, ex, ea, c, n, l, q⟩ => ?_)
  subst ex
  obtain rfl : u = Value.ref a := rx
  exact getattr_ok I1 ea c n l fun u' s2 I2 ru => ⟨v, H1, I2, ru, q⟩
theorem ps_fld (ha : PE X o ta) (hv : PE X value tv) (hs : swapsWith value (some (.Attribute o f pos')) pos.line X.env = pure false) : PS X (.Assign [.Attribute o f pos'] value pos) (sFld X.K ta tv f) := by
  refine ⟨?_⟩
  intro pins s σ H D I h
  refine plainObj_wpAny_Assign_Attribute (thn (hv pins s σ H _ I h) fun u s1 ⟨y, H1, I1, ry, q⟩ => thn (ha pins s1 σ H1 _ I1 q) fun ov s2 ⟨x, H2, I2, rx, a, C, dx, fs, ex, ea, c, n, l, q2⟩ => ?_) hs
  subst ex
  obtain rfl : ov = Value.ref a := rx
  exact setattr_ok I2 ea c n l ry fun s3 I3 => ⟨σ, _, I3, q2⟩

end

/-! ### isinstance -/
section
variable {X : Cx} {pins : List (Addr × Obj)} {σ : St} {H : Hp} {s : Shared} {A : Around} {E : Value → Shared → Prop} {Q : Value → Shared → Prop} {c : Value} {b : Bool}
end
end L2

namespace L2
open PySem PySem.Spec PyProof.Rows

/-! ### room -/
structure Room (k : Nat) (A : Around) : Prop where
  hd : A.handled = none
  dp : A.depth + 3 * k + 5 < recursionLimit
  un : A.units + 16 * k + 200 < cLine
  gd : A.guards = some []
theorem Room.mono {j k : Nat} {A : Around} (r : Room k A) (h : j ≤ k) : Room j A := ⟨r.hd, by have := r.dp; omega, by have := r.un; omega, r.gd⟩
theorem Room.deeper {k : Nat} {A : Around} (r : Room (k + 1) A) (env : Env) : Room k (A.deeper env) :=
  ⟨r.hd, by have := r.dp; show A.depth + 1 + 3 * k + 5 < _; omega, by have := r.un; show A.units + 3 + 16 * k + 200 < _; omega, r.gd⟩
theorem Room.in1 {k : Nat} {A : Around} (r : Room (k + 1) A) : Room k A.in1 :=
  ⟨r.hd, by have := r.dp; show A.depth + 3 * k + 5 < _; omega, by have := r.un; show A.units + 1 + 16 * k + 200 < _; omega, r.gd⟩
theorem make_depth {A : Around} {C : Addr} {us : List Value} {kw : List (Str × Value)} : (A.under (.builtin "type.__call__" ⟨.ref C :: us, kw⟩)).depth = A.depth + 1 := by
  first | rfl | simp [Around.under, Code.weight, Code.isCreation, Code.isGuard, Code.isCaller, Code.frames, Code.isFrame, guardIds]
theorem make_units {A : Around} {C : Addr} {us : List Value} {kw : List (Str × Value)} : (A.under (.builtin "type.__call__" ⟨.ref C :: us, kw⟩)).units = A.units + 1 := by
  first | rfl | simp [Around.under, Code.cUnits, Code.frames, Code.isFrame]
theorem make_guards {A : Around} {C : Addr} {us : List Value} {kw : List (Str × Value)} : (A.under (.builtin "type.__call__" ⟨.ref C :: us, kw⟩)).guards = A.guards := by
  first | rfl | simp [Around.under, Code.weight, Code.isCreation, Code.isGuard, Code.isCaller, Code.frames, Code.isFrame, guardIds]
theorem Room.make {k : Nat} {A : Around} (r : Room (k + 1) A) (C : Addr) (us : List Value) (kw : List (Str × Value)) : Room k (A.under (.builtin "type.__call__" ⟨.ref C :: us, kw⟩)) :=
  ⟨r.hd, by have := r.dp; rw [make_depth]; omega, by have := r.un; rw [make_units]; omega, by rw [make_guards]; exact r.gd⟩
theorem Room.depth {k : Nat} {A : Around} (r : Room k A) : A.depth < recursionLimit := by have := r.dp; omega
theorem Room.units {k : Nat} {A : Around} (r : Room k A) : A.units + 64 < cLine := by have := r.un; omega

/-! ### argument lists and displays -/
abbrev tNil : TA := fun _ H Q => Q [] H
abbrev tCons (ta : TE) (tr : TA) : TA := fun σ H Q => ta σ H fun x H1 => tr σ H1 fun xs H2 => Q (x :: xs) H2
section
variable {X : Cx} {e : Expr} {es : List Expr} {te : TE} {t : TA} {pos : Pos}
theorem pa_nil : PA X [] tNil := .mk fun _ _ _ _ H Q I h => Calls.spliced_nil ⟨[], H, I, .nil, h⟩
theorem pa_cons (ha : PE X e te) (hr : PA X es t) (hs : starEach (e :: es) X.env = (false, eval e X.env) :: starEach es X.env := by rfl) : PA X (e :: es) (tCons te t) := by
  refine ⟨?_⟩
  intro pos pins s σ H Q I h
  rw [hs]
  show wpAny _ _ (spliced ((false, eval e X.env) :: backTo pos (starEach es X.env))) _ _ s
  refine Calls.spliced_cons (thn (ha pins s σ H _ I h) fun u s1 ⟨x, H1, I1, r1, q1⟩ => ?_)
  exact thn (hr pos pins s1 σ H1 _ I1 q1) fun us s2 ⟨xs, H2, I2, r2, q2⟩ => ⟨x :: xs, H2, I2, .cons r1 r2, q2⟩

/-- a tuple, a list of written items -/
def tTup (t : TA) : TE := fun σ H Q => t σ H fun xs H1 => xs.length ≤ sizeLine ∧ ∀ p, H1 p = none → Q (.ref p) (upd H1 p (.tup xs))
def tLst (t : TA) : TE := fun σ H Q => t σ H fun xs H1 => xs.length ≤ sizeLine ∧ ∀ p, H1 p = none → Q (.ref p) (upd H1 p (.lst xs))
theorem pe_tup {x1} (h : PA X es t) : PE X (.Tuple es x1 pos) (tTup t) := by
  refine ⟨?_⟩
  intro pins s σ H Q I hq
  refine wpAny_Tuple_spliced (thn (h pos pins s σ H _ I hq) fun us s1 ⟨xs, H1, I1, r, z, q⟩ => ⟨by rw [← r.length]; exact z, ?_⟩)
  have hf : H1 s1.heap.objs.size = none := I1.hok.fresh (Nat.le_refl _)
  refine ⟨.ref s1.heap.objs.size, upd H1 s1.heap.objs.size (.tup xs), I1.laid (t' := s1.toks) (fun b u e => Heap.get?_push_of_some _ e) (Nat.le_refl _) ?_, rfl, q _ hf⟩
  exact ⟨z, us, r, ⟨_, Heap.get?_push_size _ rfl, rfl, _, rfl⟩⟩
theorem pe_lst (h : PA X es t) : PE X (.List es pos) (tLst t) := by
  refine ⟨?_⟩
  intro pins s σ H Q I hq
  refine wpAny_List_spliced (thn (h pos pins s σ H _ I hq) fun us s1 ⟨xs, H1, I1, r, z, q⟩ => ⟨by rw [← r.length]; exact z, ?_⟩)
  have hf : H1 s1.heap.objs.size = none := I1.hok.fresh (Nat.le_refl _)
  refine ⟨.ref s1.heap.objs.size, upd H1 s1.heap.objs.size (.lst xs), I1.laid (t' := s1.toks) (fun b u e => Heap.get?_push_of_some _ e) (Nat.le_refl _) ?_, rfl, q _ hf⟩
  exact ⟨z, us, 0, r, Heap.get?_push_size _ rfl⟩
end

/-! ### what a def promises -/
/-- a def's promise: the bound arguments in the parameters' order, the heap, the wanted end, the wanted exception -/
abbrev Sp := List V → Hp → VK → XK → Prop
/-- how an exception lies behind a call (file 08 gives it): the callers' frames, abstract heap and state ahead of the call, the wish, the exception, the state -/
abbrev CXT := List Env → Hp → Shared → XK → Value → Shared → Prop

/-- the state at a call -/
structure Env0 (P : Program) (w : World) (K : PySem.W.Frag) (mg : Str → Option Value) (base : Heap) (A : Around) (outer : List Env) (s : Shared) (H : Hp) : Prop where
  frames : A.frames = some outer
  mod : Mod K mg base
  bs : ∀ b o, base.get? b = some o → s.heap.get? b = some o ∧ H b = none
  bsz : base.objs.size ≤ s.heap.objs.size
  funs : s.heap.FunFrames base outer
  frf : ∀ b ∈ frs outer, H b = none
  hok : HOk P w H s.heap
  bare : AllBare s.gens
/-- a call's end -/
def CE (outer : List Env) (P : Program) (w : World) (H : Hp) (s : Shared) (Q : VK) (u : Value) (s' : Shared) : Prop :=
  ∃ v H', s'.os = s.os ∧ AllBare s'.gens ∧ Un (frs outer) [] H H' s.heap s'.heap ∧ HOk P w H' s'.heap ∧ RelV v u ∧ Q v H'
def CR (CX : CXT) (outer : List Env) (P : Program) (w : World) (H : Hp) (s : Shared) (Q : VK) (E : XK) (r : Result) (s' : Shared) : Prop :=
  match r with
  | .ok (.ret u) => CE outer P w H s Q u s'
  | .ok _ => False
  | .error e => CX outer H s E e s'
structure FnOk (P : Program) (w : World) (K : PySem.W.Frag) (mg : Str → Option Value) (base : Heap) (CX : CXT) (k : Nat) (f : Addr) (fd : FuncData) (ps : List Str) (sp : Sp) : Prop where
  len : ∀ vs H Q E, sp vs H Q E → vs.length = ps.length
  run : ∀ (A : Around) (outer : List Env) (s : Shared) (H : Hp) (args : Args) (us : List Value) (vs : List V) (Q : VK) (E : XK), Room k A → Env0 P w K mg base A outer s H → BindsTo s fd args (ps.zip us) → Vals vs us → sp vs H Q E →
    codeAny (model P w) A (.call (.ref f) args) (CR CX outer P w H s Q E) s

theorem Env0.make {P : Program} {w : World} {K : PySem.W.Frag} {mg : Str → Option Value} {base : Heap} {A : Around} {outer : List Env} {s : Shared} {H : Hp} (e : Env0 P w K mg base A outer s H) (C : Addr) (us : List Value) (kw : List (Str × Value)) :
    Env0 P w K mg base (A.under (.builtin "type.__call__" ⟨.ref C :: us, kw⟩)) outer s H := ⟨by first | exact e.frames | (simpa [Around.under, Code.envs, Code.isFrame, pushEnvs] using e.frames), e.mod, e.bs, e.bsz, e.funs, e.frf, e.hok, e.bare⟩

section
variable {X : Cx} {pins : List (Addr × Obj)} {σ : St} {H : Hp} {s s' : Shared}
/-- from a body: what a callee wants -/
theorem Inv.env0 (I : Inv X pins σ H s) : Env0 X.prog X.w X.K X.mg X.base X.A X.stack s H :=
  ⟨I.ok.frames, I.ok.mod, I.bs, Nat.le_trans I.ok.bsz I.sz, I.stack, I.stkFree, I.hok, I.bare⟩
/-- behind a call -/
theorem Inv.after {Q : VK} {u : Value} (I : Inv X pins σ H s) (h : CE X.stack X.prog X.w H s Q u s') : EP X pins σ Q u s' := by
  obtain ⟨v, H', os, bare, un, hok, r, q⟩ := h
  obtain ⟨hh, g, d, t, os'⟩ := s'
  obtain rfl : os' = s.os := os
  exact ⟨v, H', I.call (h' := hh) (g' := g) (d' := d) (t' := t) (ch := []) un hok bare (fun b z => absurd z (by simp)), r, q⟩
end

/-! ### calls -/
/-- f(..): the written arguments, then the defaults dvs; E: what is wanted of an exception -/
abbrev tCall (sp : Sp) (dvs : List V) (E : XK) (t : TA) : TE := fun σ H Q => t σ H fun vs H1 => sp (vs ++ dvs) H1 Q E
/-- o.m(..) of an instance of the class at C -/
inductive rMeth (C : Addr) (m : Str) (x : V) (H1 : Hp) (R : Prop) : Prop
  | mk (a dx : Addr) (fs : List (Str × V)) (e : x = .ref a) (h : H1 a = some (.ins C dx fs)) (l : fs.lookup m = none) (q : R) : rMeth C m x H1 R
def tMeth (C : Addr) (m : Str) (sp : Sp) (dvs : List V) (E : XK) (ta : TE) (t : TA) : TE := fun σ H Q => ta σ H fun x H1 => rMeth C m x H1 (t σ H1 fun vs H2 => sp (x :: (vs ++ dvs)) H2 Q E)
/-- C(..): a new instance and its dict, then __init__ -/
def tMake (C : Addr) (sp : Sp) (dvs : List V) (E : XK) (t : TA) : TE := fun σ H Q => t σ H fun vs H1 => ∀ x dx, H1 x = none → H1 dx = none → dx ≠ x →
  sp (.ref x :: (vs ++ dvs)) (upd (upd H1 dx (.own x)) x (.ins C dx [])) (fun v H2 => v = .non ∧ Q (.ref x) H2) E

/-- how the parameters are bound: us the positional arguments, kw the keywords' values by name, ds the defaults that fill up -/
def Binds (K : PySem.W.Frag) (fd : FuncData) (ps : List Str) (ds : List Value) : Prop :=
  ∀ (s : Shared) (us : List Value), K.In s.heap → (us ++ ds).length = ps.length → BindsTo s fd ⟨us, []⟩ (ps.zip (us ++ ds))
/-- every parameter is given -/
theorem Binds.all {K : PySem.W.Frag} {fd : FuncData} {ps : List Str} (h : ∀ us : List Value, us.length = ps.length → bindArgs fd ⟨us, []⟩ = pure (ps.zip us)) : Binds K fd ps [] := fun s us _ hl => by
  rw [List.append_nil] at hl ⊢
  exact .of_eq (h us hl)

/-- an exception of a callee reaches what this body wants of exceptions -/
def Passes (CX : CXT) (X : Cx) (E : XK) : Prop := ∀ (pins : List (Addr × Obj)) (σ : St) (H : Hp) (s : Shared) (e : Value) (s' : Shared), Inv X pins σ H s → CX X.stack H s E e s' → X.xe e s'

section
variable {X : Cx} {CX : CXT} {k : Nat} {f C : Addr} {fd : FuncData} {ps : List Str} {sp : Sp} {dvs : List V} {ds : List Value} {E : XK} {x m : Str} {p pos apos : Pos} {e o : Expr} {es : List Expr} {ta : TE} {t : TA}

/-- the callee runs -/
theorem run_fn {pins : List (Addr × Obj)} {σ : St} {H : Hp} {s : Shared} {Q : VK} {us : List Value} {vs : List V} (F : FnOk X.prog X.w X.K X.mg X.base CX k f fd ps sp) (hr : Room k X.A) (hb : Binds X.K fd ps ds) (hd : Vals dvs ds) (hx : Passes CX X E)
    (I : Inv X pins σ H s) (r : Vals vs us) (h : sp (vs ++ dvs) H Q E) : wpAny (model X.prog X.w) X.A (call (.ref f) us) (EP X pins σ Q) X.xe s := by
  have r2 : Vals (vs ++ dvs) (us ++ ds) := r.append hd
  have hl : (us ++ ds).length = ps.length := by rw [← r2.length]; exact F.len _ _ _ _ h
  refine wpAny_call (codeAny_mono (F.run X.A X.stack s H ⟨us, []⟩ (us ++ ds) (vs ++ dvs) Q E hr I.env0 (hb s us I.kIn hl) r2 h) fun r s' hq => ?_)
  cases r with
  | error e => exact hx pins σ H s e s' I hq
  | ok fl =>
    cases fl with
    | ret u => exact I.after hq
    | next => exact False.elim hq
    | brk => exact False.elim hq
    | cont => exact False.elim hq

theorem pe_call (F : FnOk X.prog X.w X.K X.mg X.base CX k f fd ps sp) (hr : Room k X.A) (hg : Gl X x) (hm : X.mg x = some (.ref f)) (hk : PySem.W.keepIn X.K (.ref f) = true) (hb : Binds X.K fd ps ds) (hd : Vals dvs ds) (hx : Passes CX X E)
    (ha : PA X (e :: es) t) (hdb : (x == ("__debug__" : Str)) = false := by decide) (he : starEach (e :: es) X.env = (false, eval e X.env) :: starEach es X.env := by rfl) (hpl : (backTo pos (starEach es X.env)).any (·.1) = false := by rfl) :
    PE X (.Call (.Name x p) (e :: es) [] pos) (tCall sp dvs E t) := by
  refine ⟨?_⟩
  intro pins s σ H Q I h
  refine wpAny_Call_Name_kw (ld_glob I hg hm ?_ hdb)
  refine PySem.W.callWith_K (h₀ := X.base) I.ok.mod.kin hk (thn (ha pos pins s σ H _ I h) fun us s1 ⟨vs, H1, I1, r, q⟩ => ⟨I1.kIn, ?_⟩) he hpl
  exact run_fn F hr hb hd hx I1 r q

/-- o.m(e, ..) -/
theorem pe_meth {pl : Sem Bool} (he : PE X o ta) (c : Cls X.K C) (hm : Meth X.K C m f) (F : FnOk X.prog X.w X.K X.mg X.base CX k f fd ps sp) (hr : Room k X.A) (hb : Binds X.K fd ps ds) (hd : Vals dvs ds) (hx : Passes CX X E) (ha : PA X (e :: es) t)
    (hst : starEach (e :: es) X.env = (false, eval e X.env) :: starEach es X.env := by rfl) (hpl : (backTo pos (starEach es X.env)).any (·.1) = false := by rfl)
    (ht : eval (.Call (.Attribute o m apos) (e :: es) [] pos) X.env = (do
      let ov ← eval o X.env
      standAt apos.atName
      let (f, first) ← holding [ov] (getMethod ov m pl)
      callWith pos f first (backTo pos (starEach (e :: es) X.env)) (backToKw pos (keywordEach [] X.env))) := by rfl) :
    PE X (.Call (.Attribute o m apos) (e :: es) [] pos) (tMeth C m sp dvs E ta t) := by
  refine ⟨?_⟩
  intro pins s σ H Q I h
  refine PySem.W.methodCall_KW (pl := pl) (thn (he pins s σ H _ I h) fun u s1 ⟨x, H1, I1, rx, a, dx, fs, ex, ea, l, q⟩ => ?_) ht
  subst ex
  obtain rfl : u = Value.ref a := rx
  refine getmeth_ok I1 ea c hm l ?_
  refine PySem.W.callWith_K (first := [.ref a]) (h₀ := X.base) I.ok.mod.kin hm.kp (thn (ha pos pins s1 σ H1 _ I1 q) fun us s2 ⟨vs, H2, I2, r, q2⟩ => ⟨I2.kIn, ?_⟩) hst hpl
  exact run_fn (us := .ref a :: us) (vs := .ref a :: vs) F hr hb hd hx I2 (.cons rfl r) q2
/-- o.m() -/
theorem pe_meth0 {pl : Sem Bool} (he : PE X o ta) (c : Cls X.K C) (hm : Meth X.K C m f) (F : FnOk X.prog X.w X.K X.mg X.base CX k f fd ps sp) (hr : Room k X.A) (hb : Binds X.K fd ps ds) (hd : Vals dvs ds) (hx : Passes CX X E)
    (ht : eval (.Call (.Attribute o m apos) [] [] pos) X.env = (do
      let ov ← eval o X.env
      standAt apos.atName
      let (f, first) ← holding [ov] (getMethod ov m pl)
      callWith pos f first (backTo pos (starEach [] X.env)) (backToKw pos (keywordEach [] X.env))) := by rfl) :
    PE X (.Call (.Attribute o m apos) [] [] pos) (tMeth C m sp dvs E ta tNil) := by
  refine ⟨?_⟩
  intro pins s σ H Q I h
  refine PySem.W.methodCall_KW (pl := pl) (thn (he pins s σ H _ I h) fun u s1 ⟨x, H1, I1, rx, a, dx, fs, ex, ea, l, q⟩ => ?_) ht
  subst ex
  obtain rfl : u = Value.ref a := rx
  refine getmeth_ok I1 ea c hm l ?_
  exact PySem.W.callWith_K0 (first := [.ref a]) I1.kIn hm.kp (run_fn (us := [.ref a]) (vs := [.ref a]) F hr hb hd hx I1 (.cons rfl .nil) q)

/-- what a class must have to be made -/
structure Mk (K : PySem.W.Frag) (C f : Addr) : Prop where
  makes : PySem.W.makesIn K C = true
  init : PySem.W.findIn K (.ref C) "__init__" = some (some (.ref f))
  fn : PySem.W.isFn K (.ref f) = true
  kp : PySem.W.keepIn K (.ref C) = true

theorem run_make {pins : List (Addr × Obj)} {σ : St} {H : Hp} {s : Shared} {Q : VK} {us : List Value} {vs : List V} (M : Mk X.K C f) (F : FnOk X.prog X.w X.K X.mg X.base CX k f fd ps sp) (hr : Room (k + 1) X.A) (hb : Binds X.K fd ps ds) (hd : Vals dvs ds)
    (hx : Passes CX X E) (I : Inv X pins σ H s) (r : Vals vs us)
    (h : ∀ x dx, H x = none → H dx = none → dx ≠ x → sp (.ref x :: (vs ++ dvs)) (upd (upd H dx (.own x)) x (.ins C dx [])) (fun v H2 => v = .non ∧ Q (.ref x) H2) E) :
    wpAny (model X.prog X.w) X.A (call (.ref C) us) (EP X pins σ Q) X.xe s := by
  have hq := h (s.heap.objs.size + 1) s.heap.objs.size (I.hok.fresh (Nat.le_succ _)) (I.hok.fresh (Nat.le_refl _)) (Nat.ne_of_lt (Nat.lt_succ_self _))
  have I2 := Inv.made (C := C) I
  have r2 : Vals (V.ref (s.heap.objs.size + 1) :: (vs ++ dvs)) (Value.ref (s.heap.objs.size + 1) :: (us ++ ds)) := .cons rfl (r.append hd)
  have hl : (Value.ref (s.heap.objs.size + 1) :: us ++ ds).length = ps.length := by
    have e := r2.length
    rw [F.len _ _ _ _ hq] at e
    exact e.symm
  refine wpAny_call (make_map (f := f) I.kIn M.makes M.init (beq_iff_eq.mp M.fn) (codeAny_mono (F.run _ X.stack _ _ ⟨Value.ref (s.heap.objs.size + 1) :: us, []⟩ (Value.ref (s.heap.objs.size + 1) :: (us ++ ds)) _ _ E (hr.make C us [])
    (I2.env0.make C us []) (hb _ (Value.ref (s.heap.objs.size + 1) :: us) I2.kIn hl) r2 hq) fun r s' hq' => ?_))
  cases r with
  | error e => exact hx pins σ _ _ e s' I2 hq'
  | ok fl =>
    cases fl with
    | ret u =>
      obtain ⟨v, H', I3, rv, ev, q3⟩ := I2.after hq'
      subst ev
      exact ⟨rv, ⟨V.ref (s.heap.objs.size + 1), H', I3, rfl, q3⟩⟩
    | next => exact False.elim hq'
    | brk => exact False.elim hq'
    | cont => exact False.elim hq'
theorem pe_make (M : Mk X.K C f) (F : FnOk X.prog X.w X.K X.mg X.base CX k f fd ps sp) (hr : Room (k + 1) X.A) (hg : Gl X x) (hm : X.mg x = some (.ref C)) (hb : Binds X.K fd ps ds) (hd : Vals dvs ds) (hx : Passes CX X E)
    (ha : PA X (e :: es) t) (hdb : (x == ("__debug__" : Str)) = false := by decide) (he : starEach (e :: es) X.env = (false, eval e X.env) :: starEach es X.env := by rfl) (hpl : (backTo pos (starEach es X.env)).any (·.1) = false := by rfl) :
    PE X (.Call (.Name x p) (e :: es) [] pos) (tMake C sp dvs E t) := by
  refine ⟨?_⟩
  intro pins s σ H Q I h
  refine wpAny_Call_Name_kw (ld_glob I hg hm ?_ hdb)
  refine PySem.W.callWith_K (h₀ := X.base) I.ok.mod.kin M.kp (thn (ha pos pins s σ H _ I h) fun us s1 ⟨vs, H1, I1, r, q⟩ => ⟨I1.kIn, ?_⟩) he hpl
  exact run_make M F hr hb hd hx I1 r q
end

/-! ### keywords -/
/-- the values of the keywords, from the left -/
def PK (X : Cx) (kws : List Keyword) (t : TA) : Prop :=
  ∀ (pos : Pos) (pins : List (Addr × Obj)) (s : Shared) (σ : St) (H : Hp) (Q : List V → Hp → Prop), Inv X pins σ H s → t σ H Q → wpAny (model X.prog X.w) X.A (evalAll ((backToKw pos (keywordEach kws X.env)).map (·.2))) (AP X pins σ Q) X.xe s
section
variable {X : Cx} {CX : CXT} {k : Nat} {f C : Addr} {fd : FuncData} {ps ks : List Str} {sp : Sp} {E : XK} {x m : Str} {p pos apos kpos : Pos} {e o : Expr} {es : List Expr} {kws : List Keyword} {te ta : TE} {t tk : TA} {nm : Option Str}
theorem pk_nil : PK X [] tNil := fun _ _ _ _ H Q I h => wpAny_evalAll_nil ⟨[], H, I, .nil, h⟩
theorem pk_cons (ha : PE X e te) (hr : PK X kws t) : PK X (⟨nm, e, kpos⟩ :: kws) (tCons te t) := by
  intro pos pins s σ H Q I h
  show wpAny _ _ (evalAll ((do let v ← eval e X.env; standAt pos; pure v) :: (backToKw pos (keywordEach kws X.env)).map (·.2))) _ _ s
  refine wpAny_evalAll_cons (wpAny_bind (thn (ha pins s σ H _ I h) fun u s1 ⟨x, H1, I1, r1, q1⟩ => wpAny_bind (wpAny_standAt (wpAny_pure ?_))))
  exact thn (hr pos pins s1 σ H1 _ I1 q1) fun us s2 ⟨xs, H2, I2, r2, q2⟩ => ⟨x :: xs, H2, I2, .cons r1 r2, q2⟩

variable {g : List Value → List Value → List Value} {gV : List V → List V → List V}
end

/-! ### a def's body keeps its promise -/
/-- names: the parameters first -/
structure FnScope (N P : List Str) (sc : Scope) : Prop where
  kind : sc.kind = .function
  co : sc.isCoroutine = false
  gen : sc.isGenerator = false
  nd : N.Nodup
  pre : N.take P.length = P
  par : ∀ x ∈ P, sc.names.lookup x = some .local ∨ sc.names.lookup x = some .cell
  nofree : ∀ y ∈ sc.names, y.2 ≠ .free

theorem bindL_out {kindOf : Str → Option NameKind} {x : Str} : ∀ {binds : List (Str × Value)} {m : Str → Option Value}, (∀ v, (x, v) ∉ binds) → bindL kindOf binds m x = m x
  | [], _, _ => rfl
  | (n, v) :: r, m, h => by
    unfold bindL
    rw [bindL_out fun w hw => h w (List.mem_cons_of_mem _ hw)]
    split
    · have : x ≠ n := by rintro rfl; exact h v List.mem_cons_self
      simp [this]
    · rfl
theorem bindC_out {kindOf : Str → Option NameKind} {x : Str} : ∀ {binds : List (Str × Value)} {m : Str → Option Value}, (∀ v, (x, v) ∉ binds) → bindC kindOf binds m x = m x
  | [], _, _ => rfl
  | (n, v) :: r, m, h => by
    unfold bindC
    rw [bindC_out fun w hw => h w (List.mem_cons_of_mem _ hw)]
    split
    · rfl
    · have : x ≠ n := by rintro rfl; exact h v List.mem_cons_self
      simp [this]
theorem bindL_get {kindOf : Str → Option NameKind} {x : Str} {v : Value} : ∀ {P : List Str} {vs : List Value} {i : Nat} {m : Str → Option Value}, P.Nodup → P[i]? = some x → vs[i]? = some v → kindOf x = some .local →
    bindL kindOf (P.zip vs) m x = some v
  | [], _, _, _, _, h, _, _ => by simp at h
  | _ :: _, [], _, _, _, _, h, _ => by simp at h
  | p :: P, w :: vs, 0, m, nd, h1, h2, hk => by
    simp at h1 h2; subst h1; subst h2
    show bindL kindOf ((p, w) :: P.zip vs) m p = _
    unfold bindL
    rw [bindL_out fun v hv => (List.nodup_cons.mp nd).1 (List.of_mem_zip hv).1, if_pos hk]
    simp
  | p :: P, w :: vs, i + 1, m, nd, h1, h2, hk => by
    show bindL kindOf ((p, w) :: P.zip vs) m x = _
    unfold bindL
    exact bindL_get (i := i) (List.nodup_cons.mp nd).2 (by simpa using h1) (by simpa using h2) hk
theorem bindC_get {kindOf : Str → Option NameKind} {x : Str} {v : Value} : ∀ {P : List Str} {vs : List Value} {i : Nat} {m : Str → Option Value}, P.Nodup → P[i]? = some x → vs[i]? = some v → kindOf x ≠ some .local →
    bindC kindOf (P.zip vs) m x = some v
  | [], _, _, _, _, h, _, _ => by simp at h
  | _ :: _, [], _, _, _, _, h, _ => by simp at h
  | p :: P, w :: vs, 0, m, nd, h1, h2, hk => by
    simp at h1 h2; subst h1; subst h2
    show bindC kindOf ((p, w) :: P.zip vs) m p = _
    unfold bindC
    rw [bindC_out fun v hv => (List.nodup_cons.mp nd).1 (List.of_mem_zip hv).1, if_neg hk]
    simp
  | p :: P, w :: vs, i + 1, m, nd, h1, h2, hk => by
    show bindC kindOf ((p, w) :: P.zip vs) m x = _
    unfold bindC
    exact bindC_get (i := i) (List.nodup_cons.mp nd).2 (by simpa using h1) (by simpa using h2) hk

/-- the names' values at the entry -/
def start (N : List Str) (vs : List V) : St := vs.map some ++ List.replicate (N.length - vs.length) none

/-- the context of a def's body, at its entry; an exception leaves the frame, then lies as CX says -/
def cxOf (CX : CXT) (P : Program) (w : World) (K : PySem.W.Frag) (mg : Str → Option Value) (base : Heap) (N : List Str) (qual : Str) (scope : Scope) (f : Addr) (cd : Value) (A : Around) (outer : List Env) (s : Shared) (H : Hp) (E : XK) : Cx where
  prog := P
  w := w
  K := K
  mg := mg
  base := base
  A := A.deeper (envOfC qual scope s.heap.objs.size f cd)
  N := N
  s₀ := s
  H₀ := H
  env := envOfC qual scope s.heap.objs.size f cd
  outer := outer
  stack := envOfC qual scope s.heap.objs.size f cd :: outer
  ex := []
  calm := true
  fn := fun _ => true
  pn := []
  xe := fun e s' => wpAny (model P w) (A.deeper (envOfC qual scope s.heap.objs.size f cd)) (leaving (envOfC qual scope s.heap.objs.size f cd) e) (fun _ s'' => CX outer H s E e s'') (fun e' s'' => CX outer H s E e' s'') s'

theorem cell_has {sc : Scope} {n : Nat} {x : Str} (h : sc.names.lookup x = some .cell) : ∃ c, (cellsFrom n sc.names []).lookup x = some c := by
  have q := PySem.W.cellsFrom_some sc.names n [] (.inl h)
  exact Option.isSome_iff_exists.mp q

theorem inv_start {CX : CXT} {P : Program} {w : World} {K : PySem.W.Frag} {mg : Str → Option Value} {base : Heap} {N ps : List Str} {qual : Str} {scope : Scope} {f : Addr} {cd : Value} {A : Around} {outer : List Env} {s s1 : Shared} {H : Hp} {E : XK} {us : List Value} {vs : List V}
    (S : FnScope N ps scope) (hd : A.handled = none) (e0 : Env0 P w K mg base A outer s H) (hl : vs.length = ps.length) (r : Vals vs us)
    (x : InCallC s s.heap.objs.size (bindL (envOfC qual scope s.heap.objs.size f cd).kindOf (ps.zip us) fun _ => none) (cellsFrom (s.heap.objs.size + 1) scope.names []) (bindC (envOfC qual scope s.heap.objs.size f cd).kindOf (ps.zip us) fun _ => none) s1) :
    Inv (cxOf CX P w K mg base N qual scope f cd A outer s H E) [] (start N vs) H s1 := by
  have hpl : ps.length ≤ N.length := by have := congrArg List.length S.pre; rw [List.length_take] at this; omega
  obtain ⟨h1, tk, rfl, hk⟩ := x.done
  have noA : ∀ b : Addr, b ∉ (cxOf CX P w K mg base N qual scope f cd A outer s H E).ex := fun b z => absurd (show b ∈ ([] : List Addr) from z) (by simp)
  refine ⟨⟨e0.mod, S.kind, rfl, rfl, Nat.le_refl _, fun y z c h1 h2 => ?_, fun y hy => ?_, fun y c _ h => ?_, fun _ => hd, Around.frames_deeper e0.frames, .inr ⟨rfl, rfl⟩, fun b z => absurd z (noA b), e0.bs, e0.bsz, fun b _ _ => noA b, fun b z => absurd z (noA b), e0.funs, e0.frf⟩,
    rfl, e0.bare, Un.kept hk, ⟨_, x.toInCall.ns, fun i y v h1 h2 h3 => ?_⟩, fun y c h => ⟨_, x.cell y c h⟩, e0.hok.fresh (Nat.le_refl _), fun y c h => ?_, fun p hp => absurd (show p ∈ ([] : List (Addr × Obj)) from hp) (by simp), e0.hok.kept hk, ?_⟩
  · exact name_of_addr x.apart (PySem.mem_of_lookup h1) (PySem.mem_of_lookup h2)
  · have hy : scope.names.lookup y = some .cell ∨ scope.names.lookup y = some .free := hy
    rcases hy with hy | hy
    · exact cell_has hy
    · exact absurd rfl (S.nofree _ (PySem.mem_of_lookup hy))
  · exact Nat.le_of_lt (x.above y c (PySem.mem_of_lookup h))
  · have hi : i < vs.length := by
      unfold start at h2
      by_cases hi : i < vs.length
      · exact hi
      · rw [List.getElem?_append_right (by simpa using hi)] at h2
        rw [List.getElem?_replicate] at h2
        split at h2 <;> cases h2
    have ha : vs[i]? = some v := by
      unfold start at h2
      rw [List.getElem?_append_left (by simpa using hi), List.getElem?_map] at h2
      cases e : vs[i]? with
      | none => rw [e] at h2; cases h2
      | some a => rw [e] at h2; cases h2; rfl
    obtain ⟨u, hu, rv⟩ := r.get ha
    have hp : ps[i]? = some y := by
      rw [← S.pre, List.getElem?_take_of_lt (by omega)]; exact h1
    have ndP : ps.Nodup := by rw [← S.pre]; exact S.nd.sublist (List.take_sublist _ _)
    refine ⟨u, rv, ?_⟩
    rcases S.par y (List.mem_of_getElem? hp) with k | k
    · exact .inl ⟨k, bindL_get ndP hp hu k⟩
    · obtain ⟨c, e⟩ := cell_has (n := s.heap.objs.size + 1) k
      refine .inr ⟨.inl k, c, e, ?_⟩
      have q := x.cell y c e
      rw [bindC_get ndP hp hu (by show scope.names.lookup y ≠ _; rw [k]; decide)] at q
      exact q
  · exact e0.hok.fresh (Nat.le_of_lt (x.above y c (PySem.mem_of_lookup h)))
  · unfold start
    show _ = N.length
    rw [List.length_append, List.length_map, List.length_replicate]
    omega

/-- THE RULE: a def (or a method) of the text, by its body. The body's reading t is chosen for each entry; it is run at the parameters' values -/
theorem fn_of {CX : CXT} {P : Program} {w : World} {K : PySem.W.Frag} {mg : Str → Option Value} {base : Heap} {k : Nat} {f : Addr} {name qual : Str} {params : Arguments} {body : List Stmt} {scope : Scope} {dV kV doc pm cdv ct oc : Value} {an od : Option Addr}
    {osl : Array (Option Value)} {N ps : List Str} {sp : Sp} (lk : K.lookup f = some ⟨oc, od, .func (PySem.W.fnOf name qual params body scope dV kV doc pm an cdv ct), osl⟩) (hcd : PySem.W.codeIn K cdv qual = true) (S : FnScope N ps scope)
    (len : ∀ vs H Q E, sp vs H Q E → vs.length = ps.length)
    (hbody : ∀ (A : Around) (outer : List Env) (s : Shared) (H : Hp) (vs : List V) (Q : VK) (E : XK), Room k (A.deeper (envOfC qual scope s.heap.objs.size f cdv)) → sp vs H Q E →
      ∃ t, PSs (cxOf CX P w K mg base N qual scope f cdv A outer s H E) body t ∧ t { nx := fun _ H' => Q .non H', rt := Q } (start N vs) H) :
    FnOk P w K mg base CX (k + 1) f (PySem.W.fnOf name qual params body scope dV kV doc pm an cdv ct) ps sp := by
  refine ⟨len, fun A outer s H args us vs Q E hr e0 hb r hsp => ?_⟩
  have hl := len _ _ _ _ hsp
  have KX : K.In s.heap := e0.mod.kin.keeps fun b o e => (e0.bs b o e).1
  have lim : s.heap.NoLimit := e0.mod.nolimit.keeps fun b o e => (e0.bs b o e).1
  have hkind : ∀ y ∈ ps.zip us, scope.names.lookup y.1 = some .local ∨ (scope.names.lookup y.1 = some .cell ∧ ((cellsFrom (s.heap.objs.size + 1) scope.names []).lookup y.1).isSome = true) := fun ⟨n, v⟩ hy => by
    rcases S.par n (List.of_mem_zip hy).1 with q | q
    · exact .inl q
    · exact .inr ⟨q, PySem.W.cellsFrom_some _ _ _ (.inl q)⟩
  refine codeAny_call_function hr.depth (KX _ _ lk) rfl S.co S.gen rfl (PySem.W.codeRec_of KX hcd) (hb _ _ _ _ ?_)
  refine wpAny_newFunctionEnv_cells S.kind hkind fun env he s1 x => ?_
  subst he
  refine ⟨lim.keeps x.toInCall.keep, codeAny_func ?_⟩
  obtain ⟨t, ht, hq⟩ := hbody A outer s H vs Q E (hr.deeper _) hsp
  have I : Inv (cxOf CX P w K mg base N qual scope f cdv A outer s H E) [] (start N vs) H s1 := inv_start S hr.hd e0 hl r x
  refine wpAny_mono (ht [] s1 (start N vs) H _ I hq) (fun fl s' hs => ?_) fun e s' hs => hs
  have fin : ∀ {σ' : St} {H' : Hp} {v : V} {u : Value}, Inv (cxOf CX P w K mg base N qual scope f cdv A outer s H E) [] σ' H' s' → RelV v u → Q v H' → CE outer P w H s Q u s' :=
    fun {σ' H' v u} J rv q => ⟨v, H', J.os, J.bare, J.base, J.hok, rv, q⟩
  cases fl with
  | ret u =>
    obtain ⟨v, σ', H', J, rv, q⟩ := hs
    exact fin J rv q
  | next =>
    obtain ⟨σ', H', J, q⟩ := hs
    exact fin (v := V.non) (u := Value.none) J rfl q
  | brk =>
    obtain ⟨_, _, _, q⟩ := hs
    exact False.elim q
  | cont =>
    obtain ⟨_, _, _, q⟩ := hs
    exact False.elim q
end L2

namespace L2
open PySem PySem.Spec PyProof.Rows
section
variable {X : Cx} {x : Str} {p pos : Pos} {e : Expr} {es : List Expr} {t : TA} {id T : String} {r : List V → Hp → VK → Prop}

def tCB (r : List V → Hp → VK → Prop) (t : TA) : TE := fun σ H Q => t σ H fun vs H1 => r vs H1 Q
/-- f(e, ..), f a built-in function -/
theorem pe_callB (hc : CallR X (.builtin id) r) (hg : Gl X x) (hm : X.mg x = none) (hv : bootBuiltins x = some (.builtin id)) (ha : PA X (e :: es) t) (hn : x ≠ "__name__" := by decide) (hdb : (x == ("__debug__" : Str)) = false := by decide)
    (he : starEach (e :: es) X.env = (false, eval e X.env) :: starEach es X.env := by rfl) (hpl : (backTo pos (starEach es X.env)).any (·.1) = false := by rfl) : PE X (.Call (.Name x p) (e :: es) [] pos) (tCB r t) := by
  refine ⟨?_⟩
  intro pins s σ H Q I h
  refine wpAny_Call_Name_kw (ld_blt I hg hm hv ?_ hn hdb)
  exact PyProof.Rows.callWith_builtin1 (thn (ha pos pins s σ H _ I h) fun us s1 ⟨vs, H1, I1, r1, q1⟩ => hc pins s1 σ H1 vs us Q I1 r1 q1) he hpl
/-- T(e, ..), T a built-in type -/
theorem pe_callTy (hc : CallR X (.type T) r) (hg : Gl X x) (hm : X.mg x = none) (hv : bootBuiltins x = some (.type T)) (ha : PA X (e :: es) t) (hn : x ≠ "__name__" := by decide) (hdb : (x == ("__debug__" : Str)) = false := by decide)
    (he : starEach (e :: es) X.env = (false, eval e X.env) :: starEach es X.env := by rfl) (hpl : (backTo pos (starEach es X.env)).any (·.1) = false := by rfl) : PE X (.Call (.Name x p) (e :: es) [] pos) (tCB r t) := by
  refine ⟨?_⟩
  intro pins s σ H Q I h
  refine wpAny_Call_Name_kw (ld_blt I hg hm hv ?_ hn hdb)
  exact PyProof.Rows.callWith_type1 (thn (ha pos pins s σ H _ I h) fun us s1 ⟨vs, H1, I1, r1, q1⟩ => hc pins s1 σ H1 vs us Q I1 r1 q1) he hpl
end
end L2

namespace HT
open PySem PyProof.Rows



section
open PySem.SeqAt
open PySem.AutoSeq1 (wpAny_loadPart')
open PySem.MeetsSeq PySem.MeetsSeq2 PySem.MeetsSeq3

end

section
variable {prog : Program} {w : World} {A : Around} {E : Value → Shared → Prop} {s : Shared}


/-- t + u, t not empty -/
theorem cat_tup {t b : Addr} {vs ws : List Value} {Q : Value → Shared → Prop} (ht : IsTup s.heap t vs.toArray) (hb : IsTup s.heap b ws.toArray) (hv : vs ≠ [])
    (h1 : ws = [] → Q (.ref t) s) (h2 : ws ≠ [] → Q (.ref s.heap.objs.size) { s with heap := s.heap.push { cls := .type "tuple", data := .seq (vs ++ ws).toArray } })
    (hsz : vs.length + ws.length ≤ sizeLine) : wpAny (model prog w) A (binaryOp .Add (.ref t) (.ref b)) Q E s := by
  obtain ⟨⟨cls, dd, data, sl⟩, ho, hc, n, hd⟩ := id ht
  obtain ⟨⟨cls2, dd2, data2, sl2⟩, ho2, hc2, n2, hd2⟩ := id hb
  simp only at hc hd hc2 hd2
  subst hc hd hc2 hd2
  have e : vs.toArray ++ ws.toArray = (vs ++ ws).toArray := by simp
  by_cases hw : ws = []
  · exact concat_meets ⟨_, ho, rfl⟩ ⟨_, ho2, rfl⟩ noFill_tuple_add seq_tuple_add PySem.F.slot_tuple_add PySem.F.entry_tuple_add (PySem.F.args_tuple_add_2 _ _)
      (tuple_addW1 t b vs.toArray ws.toArray n n2 dd dd2 sl sl2 (by simpa using hv) (by simp [hw])) ⟨ho, ho2, h1 hw⟩
  · refine concat_meets ⟨_, ho, rfl⟩ ⟨_, ho2, rfl⟩ noFill_tuple_add seq_tuple_add PySem.F.slot_tuple_add PySem.F.entry_tuple_add (PySem.F.args_tuple_add_2 _ _)
      (tuple_addW2 t b vs.toArray ws.toArray n n2 dd dd2 sl sl2 (by simpa using hv) (by simpa using hw) (by rw [List.size_toArray, List.size_toArray]; exact hsz)) ⟨ho, ho2, ?_⟩
    rw [e]
    exact h2 hw

/-! ### t[a:b], not the whole -/

end
end HT

namespace L2
open PySem PySem.Spec PyProof.Rows

/-! ### the parts of a slice -/


section
variable {X : Cx} {e : Expr} {te : TE} {lo hi : Option Expr} {tl th : TO} {pos p2 : Pos}




/-! ### t < u, t + u -/
/-- t + u, t not empty: u empty gives t itself -/
def rCatT (K : PySem.W.Frag) : R2 := fun x y H Q => ∃ a b xs ys, x = .ref a ∧ y = .ref b ∧ SqT K H a xs ∧ SqT K H b ys ∧ xs ≠ [] ∧ xs.length + ys.length ≤ sizeLine ∧
  (ys = [] → Q (.ref a) H) ∧ (ys ≠ [] → ∀ p, H p = none → Q (.ref p) (upd H p (.tup (xs ++ ys))))
theorem Vals.nil_iff {xs : List V} {us : List Value} (r : Vals xs us) : us = [] ↔ xs = [] := by
  cases r with
  | nil => simp
  | cons _ _ => simp
theorem op_catT : OpR X (binaryOp .Add) (rCatT X.K) := by
  intro pins s σ H x y v u Q I rx ry h
  obtain ⟨a, b, xs, ys, rfl, rfl, ha, hb, hx, hz, q1, q2⟩ := h
  cases rx
  cases ry
  obtain ⟨its, r1, p1, _⟩ := I.tuple ha
  obtain ⟨its2, r2, p2, _⟩ := I.tuple hb
  refine HT.cat_tup p1 p2 (fun z => hx (r1.nil_iff.mp z)) (fun z => ⟨.ref a, H, I, rfl, q1 (r2.nil_iff.mp z)⟩) (fun z => ?_) (by rw [← r1.length, ← r2.length]; exact hz)
  refine ⟨.ref s.heap.objs.size, _, I.laid (t' := s.toks) (o := .tup (xs ++ ys)) (fun b ob q => Heap.get?_push_of_some _ q) (Nat.le_refl _) ?_, rfl, q2 (fun w => z (r2.nil_iff.mpr w)) _ (I.hok.fresh (Nat.le_refl _))⟩
  exact ⟨by rw [List.length_append]; exact hz, _, r1.append r2, IsTup.new _ _⟩
end
end L2

namespace L2
open PySem PySem.Spec PyProof.Rows

/-! ### places -/
/-- the place that an index of any sign means -/
def ixN (n : Nat) (i : Int) : Option Nat := if 0 ≤ i then (if i < n then some i.toNat else none) else if -(n : Int) ≤ i then some (i + n).toNat else none
def atI {α : Type} (xs : List α) (i : Int) : Option α := (ixN xs.length i).bind fun j => xs[j]?
theorem ixN_seq {n : Nat} {i : Int} {j : Nat} (h : ixN n i = some j) : seqIndex? i n = some j ∧ j < n ∧ -(n : Int) ≤ i ∧ i < n := by
  unfold ixN at h
  by_cases h0 : 0 ≤ i
  · rw [if_pos h0] at h
    by_cases h1 : i < n
    · rw [if_pos h1] at h
      have e : i.toNat = j := Option.some.inj h
      exact ⟨by rw [seqIndex_of h0 h1, e], by omega, by omega, h1⟩
    · rw [if_neg h1] at h; cases h
  · rw [if_neg h0] at h
    by_cases h1 : -(n : Int) ≤ i
    · rw [if_pos h1] at h
      have e : (i + n).toNat = j := Option.some.inj h
      exact ⟨by rw [seqIndex_neg (by omega) h1, e], by omega, h1, by omega⟩
    · rw [if_neg h1] at h; cases h
theorem atI_get {α : Type} {xs : List α} {i : Int} {v : α} (h : atI xs i = some v) : ∃ j, seqIndex? i xs.length = some j ∧ xs[j]? = some v ∧ j < xs.length ∧ -(xs.length : Int) ≤ i ∧ i < xs.length := by
  unfold atI at h
  cases e : ixN xs.length i with
  | none => rw [e] at h; cases h
  | some j =>
    rw [e] at h
    obtain ⟨h1, h2, h3, h4⟩ := ixN_seq e
    exact ⟨j, h1, h, h2, h3, h4⟩
theorem atI_nat {α : Type} {xs : List α} {j : Nat} {v : α} (h : xs[j]? = some v) : atI xs (j : Int) = some v := by
  have hj : j < xs.length := (List.getElem?_eq_some_iff.mp h).1
  have e : ixN xs.length (j : Int) = some j := by
    unfold ixN
    rw [if_pos (by omega), if_pos (by omega)]; simp
  unfold atI; rw [e]; exact h

/-! ### what may be subscripted -/
/-- what stands as an index of a plain subscript -/
def PlainIx (b : Expr) : Prop := ∀ o i, subscripted b false o i = operate [o, i] (getItem o i)
/-- a subscript by values -/
def IxR (X : Cx) (r : R2) : Prop :=
  ∀ (value slice : Expr) (pins : List (Addr × Obj)) (s : Shared) (σ : St) (H : Hp) (x y : V) (v u : Value) (Q : VK), Inv X pins σ H s → RelV x v → RelV y u → r x y H Q →
    subscripted slice false v u = operate [v, u] (getItem v u) → wpAny (model X.prog X.w) X.A (subscriptTail value slice v u) (EP X pins σ Q) X.xe s
/-- a call of a builtin's method by values: the receiver, the arguments -/
def MtR (X : Cx) (id : String) (r : V → List V → Hp → VK → Prop) : Prop :=
  ∀ (pins : List (Addr × Obj)) (s : Shared) (σ : St) (H : Hp) (x : V) (xs : List V) (v : Value) (us : List Value) (Q : VK), Inv X pins σ H s → RelV x v → Vals xs us → r x xs H Q →
    wpAny (model X.prog X.w) X.A (call (.builtin id) (v :: us)) (EP X pins σ Q) X.xe s
section
variable {X : Cx} {a b : Expr} {ta tb : TE} {pos : Pos}
/-- a[b] -/
theorem pe_ix {r : R2} (hr : IxR X r) (ha : PE X a ta) (hb : PE X b tb) (hs : PlainIx b) : PE X (.Subscript a b pos) (tOp r ta tb) := by
  refine ⟨?_⟩
  intro pins s σ H Q I h
  exact Subscript_ (binT ha hb I h fun v u s2 x y H2 I2 rx ry q => hr a b pins s2 σ H2 x y v u Q I2 rx ry q (hs _ _))

inductive rIxL (K : PySem.W.Frag) (x y : V) (H : Hp) (Q : VK) : Prop
  | mk (p : Addr) (xs : List V) (i : Int) (v : V) (e1 : x = .ref p) (e2 : y = .int i) (h : SqL K H p xs) (e : atI xs i = some v) (q : Q v H) : rIxL K x y H Q
inductive rIxT (K : PySem.W.Frag) (x y : V) (H : Hp) (Q : VK) : Prop
  | mk (p : Addr) (xs : List V) (i : Int) (v : V) (e1 : x = .ref p) (e2 : y = .int i) (h : SqT K H p xs) (e : atI xs i = some v) (q : Q v H) : rIxT K x y H Q
def rIxS : R2 := fun x y H Q => ∃ z i c, x = .str z ∧ y = .int i ∧ z.length ≤ sizeLine ∧ atI z.cps.toList i = some c ∧ Q (.str ⟨#[c]⟩) H
theorem ix_list : IxR X (rIxL X.K) := by
  intro value slice pins s σ H x y v u Q I rx ry h hs
  obtain ⟨p, xs, i, z, rfl, rfl, hq, he, q⟩ := h
  cases rx
  obtain ⟨t, rfl⟩ := ry
  obtain ⟨its, r, pl, hz⟩ := I.list hq
  obtain ⟨j, h1, h2, h3, h4, h5⟩ := atI_get he
  obtain ⟨w, ew, rw'⟩ := r.get h2
  have hl := r.length
  have hn := line63
  have fin : EP X pins σ Q w s := ⟨z, H, I, rw', q⟩
  by_cases h0 : 0 ≤ i
  · have hj : i.toNat = j := by
      rw [seqIndex_of h0 h5] at h1
      exact Option.some.inj h1
    exact item_listR pl.isList h0 (by omega) (by rw [hj]; simpa using ew) fin hs
  · have hj : (i + (its.toArray.size : Int)).toNat = j := by
      rw [seqIndex_neg (by omega) h4] at h1
      rw [List.size_toArray, ← hl]
      exact Option.some.inj h1
    exact subscriptTail_builtinR (x := w) pl.isList.typeIs slot_list_getitem.lookup
      (wpAny_getItem_list_neg (Q := fun r s' => r = w ∧ EP X pins σ Q r s') pl.isList (by omega) (by rw [List.size_toArray] <;> omega) (by omega) (by rw [hj]; simpa using ew) ⟨rfl, fin⟩) hs
theorem ix_tup : IxR X (rIxT X.K) := by
  intro value slice pins s σ H x y v u Q I rx ry h hs
  obtain ⟨p, xs, i, z, rfl, rfl, hq, he, q⟩ := h
  cases rx
  obtain ⟨t, rfl⟩ := ry
  obtain ⟨its, r, pl, hz⟩ := I.tuple hq
  obtain ⟨j, h1, h2, h3, h4, h5⟩ := atI_get he
  obtain ⟨w, ew, rw'⟩ := r.get h2
  have hl := r.length
  have hn := line63
  have fin : EP X pins σ Q w s := ⟨z, H, I, rw', q⟩
  exact subscriptTail_builtinR (x := w) pl.typeIs slot_tuple_getitem.lookup
    (getItem_tuple (j := j) (Q := fun r s' => r = w ∧ EP X pins σ Q r s') pl (by omega) (by omega) (by rw [List.size_toArray, ← hl]; exact h1) (by simpa using ew) ⟨rfl, fin⟩) hs
theorem ix_str : IxR X rIxS := by
  intro value slice pins s σ H x y v u Q I rx ry h hs
  obtain ⟨z, i, c, rfl, rfl, hz, he, q⟩ := h
  obtain ⟨t, rfl⟩ := rx
  obtain ⟨t', rfl⟩ := ry
  obtain ⟨j, h1, h2, h3, h4, h5⟩ := atI_get he
  have hl : z.cps.toList.length = z.length := by simp [Str.length]
  rw [hl] at h1 h4 h5
  have hn := line63
  exact tail_any (typeIs_str s z t) slot_str_getitem.lookup (getItem_str (c := c) (by
    have e1 : decide (i < -(2 ^ 63 : Int)) = false := decide_eq_false (by omega)
    have e2 : decide (i ≥ 2 ^ 63) = false := decide_eq_false (by omega)
    rw [e1, e2, Bool.or_false]) (by rw [h1]; simpa using h2) ⟨.str ⟨#[c]⟩, H, I.tok _, ⟨_, rfl⟩, q⟩) hs

/-! ### xs[i] = v, any sign -/
/-- the list's object behind a store -/
theorem mapSeq_set (its : List Value) (n j : Nat) (u : Value) : Obj.mapSeq (·.setIfInBounds j u) { cls := .type "list", data := .seq its.toArray n } = { cls := .type "list", data := .seq (its.set j u).toArray n } := by
  simp [Obj.mapSeq]
theorem Inv.lst {pins : List (Addr × Obj)} {σ : St} {H : Hp} {s : Shared} {p : Addr} {xs : List V} (I : Inv X pins σ H s) (h : H p = some (.lst xs)) :
    ∃ (its : List Value) (n : Nat), Vals xs its ∧ s.heap.get? p = some { cls := .type "list", data := .seq its.toArray n } ∧ xs.length ≤ sizeLine := by
  obtain ⟨z, its, n, r, e⟩ := I.hok p _ h
  exact ⟨its, n, r, e, z⟩
/-- the list at p is written by an update of its object -/
theorem Inv.lstUpd {pins : List (Addr × Obj)} {σ : St} {H : Hp} {s : Shared} {p : Addr} {xs ys : List V} {its its' : List Value} {n n' : Nat} {f : Obj → Obj} (I : Inv X pins σ H s) (h : H p = some (.lst xs))
    (ho : s.heap.get? p = some { cls := .type "list", data := .seq its.toArray n }) (hf : f { cls := .type "list", data := .seq its.toArray n } = { cls := .type "list", data := .seq its'.toArray n' }) (r : Vals ys its') (hz : ys.length ≤ sizeLine) (t : Nat) :
    Inv X pins σ (upd H p (.lst ys)) { s with heap := s.heap.update p f, toks := t } := by
  have e : (s.heap.update p f).get? p = some { cls := .type "list", data := .seq its'.toArray n' } := by
    rw [Heap.get?_update_self f ho (by rw [hf] <;> rfl), hf]
  refine I.write (x := p) (e := p) (by rw [h]; trivial) (.inl rfl) (fun b u hb q => (Heap.get?_update_other _ _ (Ne.symm hb)).trans q) ⟨_, e⟩ ?_
  exact ⟨hz, its', n', r, e⟩
def rSetL : V → V → V → Hp → (Hp → Prop) → Prop := fun o i v H Q => ∃ p xs k j, o = .ref p ∧ i = .int k ∧ H p = some (.lst xs) ∧ ixN xs.length k = some j ∧ Q (upd H p (.lst (xs.set j v)))
theorem set_list : PSet X rSetL := by
  intro pins s σ H o i v ov iv u Q I ro ri rv h
  obtain ⟨p, xs, k, j, rfl, rfl, hp, hj, q⟩ := h
  cases ro
  obtain ⟨t, rfl⟩ := ri
  obtain ⟨its, n, r, ho, hz⟩ := I.lst hp
  obtain ⟨h1, h2, h3, h4⟩ := ixN_seq hj
  have hl := r.length
  have hn := line63
  have I' : Inv X pins σ (upd H p (.lst (xs.set j v))) { s with heap := s.heap.update p (Obj.mapSeq (·.setIfInBounds j u)) } :=
    I.lstUpd hp ho (mapSeq_set its n j u) (r.set rv j) (by rw [List.length_set]; exact hz) s.toks
  by_cases h0 : 0 ≤ k
  · have hk : k.toNat = j := by
      rw [seqIndex_of h0 h4] at h1
      exact Option.some.inj h1
    exact PySem.W.ki_setAt ho h0 (by omega) (by rw [List.size_toArray, ← hl]; exact h4) (by rw [hk]; exact ⟨_, I', q⟩)
  · have hk : (k + (its.toArray.size : Int)).toNat = j := by
      rw [seqIndex_neg (by omega) h3] at h1
      rw [List.size_toArray, ← hl]
      exact Option.some.inj h1
    exact PySem.W.ki_setBack ho (by omega) (by rw [List.size_toArray, ← hl]; exact h3) (by omega) (by rw [hk]; exact ⟨_, I', q⟩)

/-! ### slices -/

/-! ### in, not in: flat items -/
def flatV : V → Bool
  | .non => true
  | .bl _ => true
  | .int _ => true
  | .str _ => true
  | _ => false
/-- == of flat values -/
def eqV : V → V → Bool
  | .non, .non => true
  | .bl a, .bl b => a == b
  | .bl a, .int b => (if a then 1 else 0) == b
  | .int a, .bl b => a == (if b then 1 else 0)
  | .int a, .int b => a == b
  | .str a, .str b => a == b
  | _, _ => false
theorem eqAt_V {A : Around} {s : Shared} {y x : V} {u v : Value} (ry : RelV y u) (rx : RelV x v) (fy : flatV y = true) (fx : flatV x = true) : SeqAt.EqAt A s u v (eqV y x) := by
  cases y with
  | non =>
    cases ry
    cases x with
    | non => cases rx; exact SeqAt.EqAt.same _
    | bl b => cases rx; exact SeqAt.EqAt.none_bool b
    | int b => obtain ⟨t, rfl⟩ := rx; exact SeqAt.EqAt.none_int b t
    | str b => obtain ⟨t, rfl⟩ := rx; exact SeqAt.EqAt.none_str b t
    | _ => exact absurd (show false = true from fx) Bool.false_ne_true
  | bl a =>
    cases ry
    cases x with
    | non => cases rx; exact SeqAt.EqAt.bool_none a
    | bl b => cases rx; exact SeqAt.EqAt.bool_bool a b
    | int b => obtain ⟨t, rfl⟩ := rx; exact SeqAt.EqAt.bool_int a b t
    | str b => obtain ⟨t, rfl⟩ := rx; exact SeqAt.EqAt.bool_str a b t
    | _ => exact absurd (show false = true from fx) Bool.false_ne_true
  | int a =>
    obtain ⟨t', rfl⟩ := ry
    cases x with
    | non => cases rx; exact SeqAt.EqAt.int_none a t'
    | bl b => cases rx; exact SeqAt.EqAt.int_bool a t' b
    | int b => obtain ⟨t, rfl⟩ := rx; exact SeqAt.EqAt.int_int a t' b t
    | str b => obtain ⟨t, rfl⟩ := rx; exact SeqAt.EqAt.int_str a t' b t
    | _ => exact absurd (show false = true from fx) Bool.false_ne_true
  | str a =>
    obtain ⟨t', rfl⟩ := ry
    cases x with
    | non => cases rx; exact SeqAt.EqAt.str_none a t'
    | bl b => cases rx; exact SeqAt.EqAt.str_bool a t' b
    | int b => obtain ⟨t, rfl⟩ := rx; exact SeqAt.EqAt.str_int a t' b t
    | str b => obtain ⟨t, rfl⟩ := rx; exact SeqAt.EqAt.str_str a t' b t
    | _ => exact absurd (show false = true from fx) Bool.false_ne_true
  | _ => exact absurd (show false = true from fy) Bool.false_ne_true
/-- the items' answers, read off the values (a value's own answer does not lean on its token) -/
def eqU (x : V) (u : Value) : Bool := match u with
  | .none => eqV .non x
  | .bool b => eqV (.bl b) x
  | .int i _ => eqV (.int i) x
  | .str z _ => eqV (.str z) x
  | _ => false
theorem eqU_of {x y : V} {u : Value} (r : RelV y u) (f : flatV y = true) : eqU x u = eqV y x := by
  cases y with
  | non => cases r; rfl
  | bl b => cases r; rfl
  | int i => obtain ⟨t, rfl⟩ := r; rfl
  | str z => obtain ⟨t, rfl⟩ := r; rfl
  | _ => exact absurd (show false = true from f) Bool.false_ne_true
theorem any_eqU {x : V} : ∀ {xs : List V} {us : List Value}, Vals xs us → xs.all flatV = true → us.any (eqU x) = xs.any fun y => eqV y x
  | _, _, .nil, _ => rfl
  | y :: xs, u :: us, .cons r t, f => by
    rw [List.all_cons, Bool.and_eq_true] at f
    rw [List.any_cons, List.any_cons, eqU_of r f.1, any_eqU t f.2]
theorem mem_eqAt {A : Around} {s : Shared} {x : V} {v : Value} (rx : RelV x v) (fx : flatV x = true) : ∀ {xs : List V} {us : List Value}, Vals xs us → xs.all flatV = true → ∀ u ∈ us, SeqAt.EqAt A s u v (eqU x u)
  | _, _, .nil, _ => fun u hu => by cases hu
  | y :: xs, u :: us, .cons r t, f => fun u' hu => by
    rw [List.all_cons, Bool.and_eq_true] at f
    rcases List.mem_cons.mp hu with rfl | hu
    · rw [eqU_of r f.1]; exact eqAt_V r rx f.1 fx
    · exact mem_eqAt rx fx t f.2 u' hu
def inV (x : V) (xs : List V) : Bool := xs.any fun y => eqV y x
/-- x in a list or tuple of flat items -/
def rIn (K : PySem.W.Frag) (neg : Bool) : R2 := fun x y H Q => ∃ p xs, y = .ref p ∧ (SqL K H p xs ∨ SqT K H p xs) ∧ flatV x = true ∧ xs.all flatV = true ∧ Q (.bl (if neg then !inV x xs else inV x xs)) H
theorem op_in_seq : OpR X (compareOp .In) (rIn X.K false) := by
  intro pins s σ H x y v u Q I rx ry h
  obtain ⟨p, xs, rfl, hq, fx, fs, q⟩ := h
  cases ry
  rcases hq with hq | hq
  · obtain ⟨its, r, pl, hz⟩ := I.list hq
    refine SeqAt.in_listAt (eqU x) pl.isList (fun w hw => mem_eqAt rx fx r fs w (by simpa using hw)) ⟨.bl _, H, I, rfl, ?_⟩
    rw [show its.toArray.any (eqU x) = its.any (eqU x) by simp, any_eqU r fs]
    exact q
  · obtain ⟨its, r, pl, hz⟩ := I.tuple hq
    refine SeqAt.in_tupleAt (eqU x) pl (fun w hw => mem_eqAt rx fx r fs w (by simpa using hw)) ⟨.bl _, H, I, rfl, ?_⟩
    rw [show its.toArray.any (eqU x) = its.any (eqU x) by simp, any_eqU r fs]
    exact q
theorem op_notIn_seq : OpR X (compareOp .NotIn) (rIn X.K true) := by
  intro pins s σ H x y v u Q I rx ry h
  obtain ⟨p, xs, rfl, hq, fx, fs, q⟩ := h
  cases ry
  rcases hq with hq | hq
  · obtain ⟨its, r, pl, hz⟩ := I.list hq
    refine SeqAt.notIn_listAt (eqU x) pl.isList (fun w hw => mem_eqAt rx fx r fs w (by simpa using hw)) ⟨.bl _, H, I, rfl, ?_⟩
    rw [show its.toArray.any (eqU x) = its.any (eqU x) by simp, any_eqU r fs]
    exact q
  · obtain ⟨its, r, pl, hz⟩ := I.tuple hq
    refine SeqAt.notIn_tupleAt (eqU x) pl (fun w hw => mem_eqAt rx fx r fs w (by simpa using hw)) ⟨.bl _, H, I, rfl, ?_⟩
    rw [show its.toArray.any (eqU x) = its.any (eqU x) by simp, any_eqU r fs]
    exact q

/-! ### len, list(x), tuple(x) of any list or tuple that is read -/
theorem call_len_seq : CallR X (.builtin "len") (fun xs H Q => ∃ p ys, xs = [.ref p] ∧ (SqL X.K H p ys ∨ SqT X.K H p ys) ∧ Q (.int ys.length) H) := by
  intro pins s σ H xs us Q I r h
  obtain ⟨p, ys, rfl, hq, q⟩ := h
  obtain ⟨u, rfl, rx⟩ := vals1 r
  cases rx
  have hn := line63
  rcases hq with hq | hq
  · obtain ⟨its, r', pl, hz⟩ := I.list hq
    have hlen := r'.length
    exact Calls.call_len_list pl.isList (by simp only [List.size_toArray] <;> omega) ⟨.int ys.length, H, I.tok _, ⟨s.toks + 1, by rw [List.size_toArray, hlen]⟩, q⟩
  · obtain ⟨its, r', pl, hz⟩ := I.tuple hq
    have hlen := r'.length
    exact len_tuple pl (by simp only [List.size_toArray] <;> omega) ⟨.int ys.length, H, I.tok _, ⟨s.toks + 1, by rw [List.size_toArray, hlen]⟩, q⟩
theorem call_len_str : CallR X (.builtin "len") (fun xs H Q => ∃ z, xs = [.str z] ∧ z.length ≤ sizeLine ∧ Q (.int z.length) H) := by
  intro pins s σ H xs us Q I r h
  obtain ⟨z, rfl, hz, q⟩ := h
  obtain ⟨u, rfl, t, rfl⟩ := vals1 r
  have hn := line63
  exact len_str (by omega) ⟨.int z.length, H, I.tok _, ⟨_, rfl⟩, q⟩
theorem call_list_of : CallR X (.type "list") (fun xs H Q => ∃ p ys, xs = [.ref p] ∧ (SqL X.K H p ys ∨ SqT X.K H p ys) ∧ ∀ l, H l = none → Q (.ref l) (upd H l (.lst ys))) := by
  intro pins s σ H xs us Q I r h
  obtain ⟨p, ys, rfl, hq, q⟩ := h
  obtain ⟨u, rfl, rx⟩ := vals1 r
  cases rx
  have fin : ∀ (its : List Value), Vals ys its → ys.length ≤ sizeLine → ∀ (h' : Heap) (c' : Nat), (∀ b o', s.heap.get? b = some o' → h'.get? b = some o') →
      h'.get? s.heap.objs.size = some { cls := .type "list", dict := none, data := .seq its.toArray c', slots := #[] } → EP X pins σ Q (.ref s.heap.objs.size) { s with heap := h' } := fun its r' hz h' c' kp e =>
    ⟨.ref s.heap.objs.size, _, I.laid (t' := s.toks) kp (Nat.le_refl _) (show ObjOk X.prog X.w _ h' _ (.lst ys) from ⟨hz, its, c', r', e⟩), rfl, q _ (I.hok.fresh (Nat.le_refl _))⟩
  rcases hq with hq | hq
  · obtain ⟨its, r', pl, hz⟩ := I.list hq
    have hlen := r'.length
    obtain ⟨o, ho, hc, n, hd⟩ := pl.isList
    exact call_list_seq p (.inl rfl) ho hc hd (fun h' c' kp e => fin its r' hz h' c' kp e) (by simp only [List.size_toArray] <;> omega)
  · obtain ⟨its, r', pl, hz⟩ := I.tuple hq
    have hlen := r'.length
    obtain ⟨o, ho, hc, n, hd⟩ := pl
    exact call_list_seq p (.inr rfl) ho hc hd (fun h' c' kp e => fin its r' hz h' c' kp e) (by simp only [List.size_toArray] <;> omega)
theorem call_tuple_of : CallR X (.type "tuple") (fun xs H Q => ∃ p ys, xs = [.ref p] ∧ ((SqL X.K H p ys ∧ ∀ l, H l = none → Q (.ref l) (upd H l (.tup ys))) ∨ (SqT X.K H p ys ∧ Q (.ref p) H))) := by
  intro pins s σ H xs us Q I r h
  obtain ⟨p, ys, rfl, h⟩ := h
  obtain ⟨u, rfl, rx⟩ := vals1 r
  cases rx
  rcases h with ⟨hq, q⟩ | ⟨hq, q⟩
  · obtain ⟨its, r', pl, hz⟩ := I.list hq
    have hlen := r'.length
    refine call_tuple_list pl.isList (fun h' kp => ?_) (by simp only [List.size_toArray] <;> omega)
    have I1 : Inv X pins σ H { s with heap := h' } := I.kept (t' := s.toks) kp
    have I2 : Inv X pins σ (upd H h'.objs.size (.tup ys)) { s with heap := h'.push { cls := .type "tuple", data := .seq its.toArray } } :=
      I1.laid (t' := s.toks) (fun b o e => Heap.get?_push_of_some _ e) (Nat.le_refl _) (show ObjOk X.prog X.w _ _ _ (.tup ys) from ⟨hz, its, r', IsTup.new _ _⟩)
    exact ⟨.ref h'.objs.size, _, I2, rfl, q _ (I1.hok.fresh (Nat.le_refl _))⟩
  · obtain ⟨its, r', pl, hz⟩ := I.tuple hq
    exact call_tuple_same pl ⟨.ref p, H, I, rfl, q⟩

/-! ### the call of a builtin's method: o.m(..) -/
/-- the value is of that builtin type -/
def tyV (K : PySem.W.Frag) (T : String) (x : V) (H : Hp) : Prop := match x with
  | .str _ => T = "str"
  | .int _ => T = "int"
  | .ref p => (T = "list" ∧ ∃ xs, SqL K H p xs) ∨ (T = "tuple" ∧ ∃ o, K.lookup p = some o ∧ o.cls = .type "tuple" ∧ o.dict = none) ∨
      (T = "dict" ∧ ((∃ kvs, H p = some (.dK kvs)) ∨ ∃ kvs, H p = some (.dT kvs))) ∨ (T = "set" ∧ ∃ S n, H p = some (.set S n))
  | _ => False
theorem tyV_is {pins : List (Addr × Obj)} {σ : St} {H : Hp} {s : Shared} {T : String} {x : V} {v : Value} (I : Inv X pins σ H s) (r : RelV x v) (ty : tyV X.K T x H) :
    s.TypeIs v T ∧ ∀ a, v = .ref a → ∃ ob, s.heap.get? a = some ob ∧ ob.dict = none := by
  cases x with
  | str z =>
    obtain ⟨t, rfl⟩ := r
    cases (show T = "str" from ty)
    exact ⟨typeIs_str s z t, fun _ e => nomatch e⟩
  | int i =>
    obtain ⟨t, rfl⟩ := r
    cases (show T = "int" from ty)
    exact ⟨typeIs_int s i t, fun _ e => nomatch e⟩
  | ref p =>
    cases r
    rcases ty with ⟨rfl, xs, hq⟩ | ⟨rfl, o, hk, hc, hd⟩ | ⟨rfl, hk⟩ | ⟨rfl, S, n, hk⟩
    · obtain ⟨its, _, pl, _⟩ := I.list hq
      refine ⟨pl.isList.typeIs, fun a e => ?_⟩
      cases e
      obtain ⟨o, n, e, c, hd, _⟩ := pl
      exact ⟨o, e, hd⟩
    · refine ⟨⟨o, I.kIn p o hk, hc⟩, fun a e => ?_⟩
      cases e
      exact ⟨o, I.kIn _ o hk, hd⟩
    · have z : ∃ o, s.heap.get? p = some o ∧ o.ExactDict := by
        rcases hk with ⟨kvs, hk⟩ | ⟨kvs, hk⟩
        · obtain ⟨_, _, _, _, o, _, _, e, ex, _⟩ := I.hok p _ hk
          exact ⟨o, e, ex⟩
        · obtain ⟨_, _, _, _, o, _, _, e, ex, _⟩ := I.hok p _ hk
          exact ⟨o, e, ex⟩
      obtain ⟨o, e, ex⟩ := z
      refine ⟨⟨o, e, ex.1⟩, fun a e2 => ?_⟩
      cases e2
      exact ⟨o, e, ex.2.1⟩
    · obtain ⟨o, _, _, _, e, ex, _⟩ := I.hok p _ hk
      refine ⟨⟨o, e, ex.1⟩, fun a e2 => ?_⟩
      cases e2
      exact ⟨o, e, ex.2.1⟩
  | _ => exact False.elim ty
def tBM (K : PySem.W.Frag) (T : String) (r : V → List V → Hp → VK → Prop) (to : TE) (t : TA) : TE := fun σ H Q => to σ H fun x H1 => tyV K T x H1 ∧ t σ H1 fun xs H2 => r x xs H2 Q
variable {o e : Expr} {es : List Expr} {to : TE} {t : TA} {name : Str} {apos cpos : Pos} {T id : String} {r : V → List V → Hp → VK → Prop}
theorem pe_bm (pa : PlainAttrs T) (slot : Slot T name id) (hty : typeOf (.builtin id) = pure (.type "method_descriptor")) (hm : MtR X id r) (ho : PE X o to) (ha : PA X (e :: es) t)
    (hbase : attributeBase o name X.env (eval o X.env) = eval o X.env := by rfl)
    (hfew : ((backTo cpos (starEach (e :: es) X.env)).all (fun x => !x.1) && (backToKw cpos (keywordEach [] X.env)).all (fun x => x.1.isSome)
      && decide ((e :: es).length + ([] : List Keyword).length + (if ([] : List Keyword).isEmpty then 0 else 1) < 30)) = true := by rfl)
    (hline : (apos.endLine == cpos.line) = true := by rfl) (hs : starEach (e :: es) X.env = (false, eval e X.env) :: starEach es X.env := by rfl) (hplain : (backTo cpos (starEach es X.env)).any (·.1) = false := by rfl) :
    PE X (.Call (.Attribute o name apos) (e :: es) [] cpos) (tBM X.K T r to t) := by
  refine ⟨?_⟩
  intro pins s σ H Q I h
  refine wpAny_Call_method_late hbase hfew hline rfl (thn (ho pins s σ H _ I h) fun v s1 ⟨x, H1, I1, r1, ty, q1⟩ => ?_)
  obtain ⟨h1, h2⟩ := tyV_is I1 r1 ty
  refine ⟨T, id, pa, slot, hty, h1, h2, ?_⟩
  have hA := ha cpos pins s1 σ H1 _ I1 q1
  rw [hs] at hA ⊢
  refine Calls.callWith_builtin (by show (false || (backTo cpos (starEach es X.env)).any (·.1)) = false; rw [hplain] <;> rfl) (Calls.evalArgs_plain ?_)
  exact thn hA fun us s2 ⟨vs, H2, I2, r2, q2⟩ => hm pins s2 σ H2 x vs v us Q I2 r1 r2 q2
/- xs.append(e), list.index on a module's tuple .. are MtR facts of 06m -/
end
end L2

namespace L2
open PySem PySem.Spec PyProof.Rows

def MtM (X : Cx) (id : String) (r : V → List V → Hp → VK → Prop) : Prop :=
  ∀ (pins : List (Addr × Obj)) (s : Shared) (σ : St) (H : Hp) (x : V) (xs : List V) (v : Value) (us : List Value) (Q : VK), Inv X pins σ H s → RelV x v → Vals xs us → r x xs H Q →
    wpAny (model X.prog X.w) X.A (call (.builtin id) (v :: us)) (EP X pins σ Q) X.xe s

/-! ### lists of values -/
theorem Vals.one : ∀ {x : V} {us : List Value}, Vals [x] us → ∃ u, us = [u] ∧ RelV x u
  | _, _, .cons r .nil => ⟨_, rfl, r⟩
theorem Vals.two : ∀ {x y : V} {us : List Value}, Vals [x, y] us → ∃ u v, us = [u, v] ∧ RelV x u ∧ RelV y v
  | _, _, _, .cons r (.cons q .nil) => ⟨_, _, rfl, r, q⟩
theorem Vals.eraseIdx : ∀ {xs : List V} {us : List Value} (i : Nat), Vals xs us → Vals (xs.eraseIdx i) (us.eraseIdx i)
  | _, _, _, .nil => .nil
  | _, _, 0, .cons _ t => t
  | _, _, i + 1, .cons r t => .cons r (Vals.eraseIdx i t)
theorem len_erase {α : Type} : ∀ (l : List α) (i : Nat), (l.eraseIdx i).length ≤ l.length
  | [], _ => Nat.le_refl _
  | _ :: _, 0 => Nat.le_succ _
  | _ :: r, i + 1 => Nat.succ_le_succ (len_erase r i)

section
variable {X : Cx} {pins : List (Addr × Obj)} {σ : St} {H : Hp} {s : Shared} {l b : Addr} {xs ys zs : List V}

/-! ### the two steps: a tracked list is rewritten, a new list is laid -/
theorem Inv.lset {its its' : List Value} {n : Nat} {f : Array Value → Array Value} {t' : Nat} (I : Inv X pins σ H s) (hH : H l = some (.lst xs))
    (e : s.heap.get? l = some { cls := .type "list", data := .seq its.toArray n }) (hf : f its.toArray = its'.toArray) (hv : Vals ys its') (hz : ys.length ≤ sizeLine) :
    Inv X pins σ (upd H l (.lst ys)) { s with heap := s.heap.update l (Obj.mapSeq f), toks := t' } := by
  have q := PySem.IsL.update e f
  rw [hf] at q
  refine I.write (x := l) (e := l) (by rw [hH]; exact trivial) (.inl rfl) (fun b' u hb hu => (Heap.get?_update_other s.heap (Obj.mapSeq f) (Ne.symm hb)).trans hu) ⟨_, q⟩ ?_
  exact ⟨hz, its', _, hv, q⟩
theorem Inv.lnew {its : List Value} {t' : Nat} (I : Inv X pins σ H s) (hv : Vals ys its) (hz : ys.length ≤ sizeLine) :
    Inv X pins σ (upd H s.heap.objs.size (.lst ys)) { s with heap := s.heap.push { cls := .type "list", data := .seq its.toArray }, toks := t' } :=
  I.laid (fun _ _ q => Heap.get?_push_of_some _ q) (Nat.le_refl _) ⟨hz, its, 0, hv, Heap.get?_push_size _ rfl⟩
theorem Inv.fresh (I : Inv X pins σ H s) : H s.heap.objs.size = none := I.hok.fresh (Nat.le_refl _)
theorem Inv.lstM (I : Inv X pins σ H s) (hH : H l = some (.lst xs)) : xs.length ≤ sizeLine ∧ ∃ (its : List Value) (n : Nat), Vals xs its ∧ xs.length = its.length ∧ s.heap.get? l = some { cls := .type "list", data := .seq its.toArray n } := by
  obtain ⟨z, its, n, r, e⟩ := I.hok l _ hH
  exact ⟨z, its, n, r, r.length, e⟩

end

section
variable {X : Cx}

/-! ### methods -/
def rAppend : V → List V → Hp → VK → Prop := fun x vs H Q => ∃ l xs y, x = .ref l ∧ vs = [y] ∧ H l = some (.lst xs) ∧ xs.length < sizeLine ∧ Q .non (upd H l (.lst (xs ++ [y])))
theorem mt_append : MtM X "list.append" rAppend := by
  intro pins s σ H x vs v us Q I rx rv h
  obtain ⟨l, xs, y, rfl, rfl, hH, hz, q⟩ := h
  cases rx
  obtain ⟨u, rfl, ru⟩ := rv.one
  obtain ⟨z, its, n, r, hl, e⟩ := I.lstM hH
  refine call_meets F.slot_list_append ⟨_, e, rfl⟩ F.entry_list_append (F.args_list_append_2 _ _) (PySem.list_append l its.toArray n u (by rw [List.size_toArray]; omega)) ⟨e, ?_⟩
  refine ⟨.non, _, I.lset (its' := its ++ [u]) hH e (by simp) (r.append (.cons ru .nil)) ?_, rfl, q⟩
  rw [List.length_append, List.length_singleton]
  omega



def rPopAt : V → List V → Hp → VK → Prop := fun x vs H Q => ∃ l xs i k y, x = .ref l ∧ vs = [.int i] ∧ H l = some (.lst xs) ∧ -(2 ^ 63) ≤ i ∧ i < 2 ^ 63 ∧ seqIndex? i xs.length = some k ∧ xs[k]? = some y ∧ Q y (upd H l (.lst (xs.eraseIdx k)))
theorem mt_popAt : MtM X "list.pop" rPopAt := by
  intro pins s σ H x vs v us Q I rx rv h
  obtain ⟨l, xs, i, k, y, rfl, rfl, hH, h1, h2, hk, hy, q⟩ := h
  cases rx
  obtain ⟨u, rfl, ru⟩ := rv.one
  obtain ⟨t, rfl⟩ := ru
  obtain ⟨z, its, n, r, hl, e⟩ := I.lstM hH
  obtain ⟨w, hw, rw'⟩ := r.get hy
  refine call_meets F.slot_list_pop ⟨_, e, rfl⟩ F.entry_list_pop (F.args_list_pop_2 _ _)
    (MeetsSeq.list_pop_at l its.toArray n i t k w (fitsIndex_both h1 h2) (by rw [List.size_toArray, ← hl]; exact hk) (by rw [← Array.getElem?_toList]; exact hw) (by rw [List.size_toArray]; omega)) ⟨e, ?_⟩
  refine ⟨y, _, I.lset (its' := its.eraseIdx k) hH e ?_ (r.eraseIdx k) ?_, rw', q⟩
  · show its.toArray.eraseIdxIfInBounds k = (its.eraseIdx k).toArray
    rw [List.eraseIdxIfInBounds_toArray]
  · have := len_erase xs k
    omega



/-! ### list + list, list += list, list * int -/
def rCat : R2 := fun x y H Q => ∃ l b xs zs, x = .ref l ∧ y = .ref b ∧ H l = some (.lst xs) ∧ H b = some (.lst zs) ∧ xs.length + zs.length ≤ sizeLine ∧ ∀ p, H p = none → Q (.ref p) (upd H p (.lst (xs ++ zs)))
theorem op_cat : OpR X (binaryOp .Add) rCat := by
  intro pins s σ H x y v u Q I rx ry h
  obtain ⟨l, b, xs, zs, rfl, rfl, hH, hB, hz, q⟩ := h
  cases rx
  cases ry
  obtain ⟨z, its, n, r, hl, e⟩ := I.lstM hH
  obtain ⟨z2, its2, n2, r2, hl2, e2⟩ := I.lstM hB
  refine PySem.P.add_list e e2 ?_ (by rw [List.size_toArray, List.size_toArray]; omega)
  have ea : its.toArray ++ its2.toArray = (its ++ its2).toArray := by simp
  rw [ea]
  exact ⟨.ref _, _, I.lnew (t' := s.toks) (r.append r2) (by rw [List.length_append]; omega), rfl, q _ I.fresh⟩

/-! ### del xs[i] -/
end

/-! ### xs[a:b] = ys -/
section
variable {prog : Program} {w : World} {A : Around} {E : Value → Shared → Prop} {s : Shared}
end

section
variable {X : Cx}
end
end L2

namespace Att
open PySem PySem.W PySem.Calls PyProof.Rows

/-! ### the script -/
theorem ints_of_wellAll {P : Params} {h : Heap} : ∀ (ns : List Int) (vs : List Value), WellAll P h vs (ns.map WData.int) → IntsAre vs ns := by
  intro ns
  induction ns with
  | nil =>
    intro vs w
    rw [List.map_nil] at w
    cases w
    exact .nil
  | cons n ns ih =>
    intro vs w
    rw [List.map_cons] at w
    cases w with
    | cons a b =>
      cases a
      exact .cons _ _ (ih _ b)

theorem script_of {l : OpenLaw} {n : Nat} (hn : l.most = some n) {P : Params} {h : Heap} {args : List WData} {vals : List Value}
    (hpre : l.row.toRowW.claim.pre args = true) (hwl : WellAll P h vals args) :
    ∃ a vs ns, vals = [Value.ref a] ∧ args = [WData.list (ns.map WData.int)] ∧ h.get? a = some { cls := .type "list", data := .seq vs.toArray } ∧ IntsAre vs ns ∧ ns.length ≤ n := by
  have hsh : WShape.hasAll [] args [.list .int] = true := (pre_splitW hpre).1
  have hc : l.pre.holds [] { args := args } = true := (pre_splitW hpre).2
  obtain ⟨d, r, rfl, h1, h2⟩ := hasAllW_cons hsh
  obtain rfl := hasAllW_nil h2
  obtain ⟨xs, rfl, h3⟩ := hasW_list h1
  obtain ⟨ns, rfl⟩ := items_int h3
  have hlen : ns.length ≤ n := by
    unfold OpenLaw.pre at hc
    have h4 : (WTm.not (.lt (.lit (.int (n : Int))) (.len (.arg 0)))).holds [] { args := [.list (ns.map .int)] } = true := by
      have h4 := (holds_andW hc).1
      rw [hn] at h4
      exact h4
    have h5 := condW_of h4 (w_not (w_lt w_lit (w_len_list (w_arg rfl))))
    rw [List.length_map] at h5
    refine Nat.le_of_not_lt fun q => ?_
    have q' : (n : Int) < ((ns.length : Nat) : Int) := by omega
    first
      | (rw [decide_eq_true q'] at h5; exact absurd h5 (by decide))
      | (simp at h5; omega)
  cases hwl with
  | cons w1 w2 =>
    cases w2
    cases w1 with
    | list ho hall => exact ⟨_, _, ns, rfl, rfl, ho, ints_of_wellAll ns _ hall, hlen⟩

theorem post_true (l : OpenLaw) (args : List WData) : l.row.toRowW.claim.post args (.bool true) args = true :=
  postW_of (r := l.row.toRowW) (X := (true == true))
    (show WShape.has [] (.bool true) .bool = true by first | rfl | decide | simp [WShape.has, WShape.arms, WShape.armsAll])
    (show (WTm.eq .res (.lit (.bool true))).value [] { args := args, res := some (.bool true), after := args } = some (.bool (true == true)) from w_eq_bool (w_res rfl) w_lit) rfl

/-! ### the attachment: holds_open's last premise (the goal 'hc' behind k_head) from a wpAny of the law's body -/

/-- the same from a codeAny of the CALL (for a layer whose function contracts speak of calls) -/
theorem attach_call {l : OpenLaw} {n : Nat} {q : Program} {loose : List Str} {XP : (Str → Option Value) → Heap → Prop} {YP : World → Heap → Prop} {d : DefRec}
    (hn : l.most = some n) (hdf : d.params.defaults = [])
    (call : ∀ (w : World) (s₀ s₁ : Shared) (mg mb : Str → Option Value) (fa : Addr) (o : Obj) (pm cd doc : Value) (a : Addr) (vs : List Value) (ns : List Int),
      Ground q loose [] XP w s₀ mg mb s₁.heap → YP w s₁.heap →
      s₁.heap.get? fa = some o → o.data = .func (docDef d.name d.params d.body d.scope pm cd doc) → s₁.heap.CodeRec cd d.name → mg d.name = some (.ref fa) →
      s₁.heap.get? a = some { cls := .type "list", data := .seq vs.toArray } → IntsAre vs ns → ns.length ≤ n → s₁.gens = #[] →
      codeAny (model l.prog w) callerA (.call (.ref fa) ⟨[.ref a], []⟩) (fun r s' => r = .ok (.ret (.bool true)) ∧ OldK s₁.heap s'.heap ∧ s'.os = s₁.os ∧ AllBare s'.gens) s₁) :
    WalkO q loose XP YP l.row.toRowW d [] (fun f vs => PySem.call f vs) := by
  intro w s₀ s₁ mg mb G Y fa o pm cd doc dV kV ho hd hcd hD hmg hg args vals as hpre hlay hrd hwl hlo
  obtain rfl : dV = .none := Dflts.none hD hdf
  obtain rfl : kV = .none := Dflts.noKw hD
  obtain ⟨a, vs, ns, rfl, rfl, hobj, hints, hlen⟩ := script_of hn hpre hwl
  refine enter_call (codeAny_mono (call w s₀ s₁ mg mb fa o pm cd doc a vs ns G Y ho (fd_plain hd) hcd hmg hobj hints hlen hg) fun r s' hq => ?_)
  obtain ⟨rfl, h2, h3, h4⟩ := hq
  exact ⟨.inl ⟨.bool true, .bool true, [], rfl, fun _ => rfl, .bool true, post_true l _, fun _ => ⟨List.Pairwise.nil, fun _ hm => (nomatch hm)⟩⟩, h2, h3, h4⟩


/-! ### rules over ANY heap (no ledger) from facts about the written part K: the library's own take a ledger (News) for what they write -/
section
variable {prog : Program} {w : World} {A : Around} {E : Value → Shared → Prop} {s : Shared} {K : Frag}





/-! the whole heap as the ledger: makes every rule that writes through a ledger a rule over any heap -/

end
end Att

namespace L2
open PySem PySem.Spec PyProof.Rows

theorem vals_ints : ∀ {vs : List Value} {ns : List Int}, IntsAre vs ns → Vals (ns.map V.int) vs
  | _, _, .nil => .nil
  | _, _, .cons n t h => .cons ⟨t, rfl⟩ (vals_ints h)

/-- nothing is tracked but the script, known to the object (or it is an object of the module) -/
def Only (H : Hp) : Prop := ∀ b, H b = none ∨ ∃ o xs, H b = some (.frz o (.lst xs))

/-- THE HEAD: the law's promise, at the heap behind the top. F, the promise of the law's def, may use that base is part of the heap (so K.In base, base.Ns mainGlobals mg stand in Mod) -/
theorem law_call {P : Program} {w : World} {K : PySem.W.Frag} {mg mb : Str → Option Value} {CX : CXT} {k : Nat} {fa a : Addr} {fd : FuncData} {x : Str} {sp : Sp} {s₁ : Shared} {vs : List Value} {ns : List Int}
    (KX : K.In s₁.heap) (hns : s₁.heap.Ns mainGlobals mg) (hb : s₁.heap.Ns builtinsNs mb) (hbb : ∀ x : Str, x ≠ "__name__" → mb x = bootBuiltins x) (hlim : s₁.heap.NoLimit) (hg : s₁.gens = #[])
    (ha : s₁.heap.get? a = some { cls := .type "list", data := .seq vs.toArray }) (hi : IntsAre vs ns) (hl : ns.length ≤ sizeLine) (hr : Room k callerA)
    (F : ∀ base : Heap, K.In base → base.Ns mainGlobals mg → FnOk P w K mg base CX k fa fd [x] sp) (hbind : ∀ (s : Shared) (u : Value), BindsTo s fd ⟨[u], []⟩ [(x, u)])
    (hsp : ∀ H : Hp, Only H → SqL K H a (ns.map V.int) → sp [.ref a] H (fun v _ => v = .bl true) fun _ _ _ => False)
    (hCX : ∀ H e s', CX [] H s₁ (fun _ _ _ => False) e s' → False) :
    codeAny (model P w) callerA (.call (.ref fa) ⟨[.ref a], []⟩) (fun r s' => r = .ok (.ret (.bool true)) ∧ OldK s₁.heap s'.heap ∧ s'.os = s₁.os ∧ AllBare s'.gens) s₁ := by
  have rv := vals_ints hi
  have lenV := hi.length
  have core : ∀ H : Hp, Only H → SqL K H a (ns.map V.int) → HOk P w H s₁.heap → (∀ b, H b ≠ none → b = a) → (H a ≠ none → K.lookup a = none) →
      codeAny (model P w) callerA (.call (.ref fa) ⟨[.ref a], []⟩) (fun r s' => r = .ok (.ret (.bool true)) ∧ OldK s₁.heap s'.heap ∧ s'.os = s₁.os ∧ AllBare s'.gens) s₁ := by
    intro H hO hS hok hA hK
    have base_of : ∀ {b : Addr} {o : Obj}, s₁.heap.get? b = some o → H b = none → (hidT s₁.heap H).get? b = some o := fun e n => hidT_get e n
    have noA : ∀ {b : Addr} {o : Obj} {es : Array DictEntry} {ep : Nat}, s₁.heap.get? b = some o → o.data = .dict es ep → H b = none := fun {b o es ep} e d => by
      cases q : H b with
      | none => rfl
      | some u =>
        have e' : b = a := hA b (by rw [q]; simp)
        subst e'
        rw [ha] at e; cases e
        have d' : Data.seq vs.toArray _ = Data.dict es ep := d
        cases d'
    have nsK : ∀ {b : Addr} {m : Str → Option Value}, s₁.heap.Ns b m → (hidT s₁.heap H).Ns b m := fun {b m} ⟨o, es, ep, e, d, r⟩ => ⟨o, es, ep, base_of e (noA e d), d, r⟩
    have hKb : K.In (hidT s₁.heap H) := fun b o e => base_of (KX b o e) (by
      cases q : H b with
      | none => rfl
      | some u =>
        have e' : b = a := hA b (by rw [q]; simp)
        subst e'
        rw [hK (by rw [q]; simp)] at e; cases e)
    have hM : Mod K mg (hidT s₁.heap H) := ⟨hKb, nsK hns, ⟨mb, nsK hb, hbb⟩, let ⟨mc, h1, h2⟩ := hlim; ⟨mc, nsK h1, h2⟩⟩
    have e0 : Env0 P w K mg (hidT s₁.heap H) callerA [] s₁ H := ⟨rfl, hM, fun b o e => of_hidT e, Nat.le_of_eq (hidT_size _ _), trivial, fun b hb => absurd (show b ∈ ([] : List Addr) from hb) (by simp), hok, .of_eq hg⟩
    refine codeAny_mono ((F _ hKb (nsK hns)).run callerA [] s₁ H ⟨[.ref a], []⟩ [.ref a] [.ref a] _ _ hr e0 (hbind s₁ (.ref a)) (.cons rfl .nil) (hsp H hO hS)) fun r s' h => ?_
    cases r with
    | error e => exact (hCX H e s' h).elim
    | ok fl =>
      cases fl with
      | next => exact False.elim h
      | brk => exact False.elim h
      | cont => exact False.elim h
      | ret u =>
        obtain ⟨v, H', os, bare, un, hok', r', q⟩ := h
        have q' : v = .bl true := q
        subst q'
        obtain rfl : u = Value.bool true := r'
        refine ⟨rfl, OldK.of_keep fun b o e => ?_, os, bare⟩
        cases q : H b with
        | none => exact un.keep b o e q (by intro z; exact absurd (show b ∈ ([] : List Addr) from z) (by simp)) (by simp)
        | some u =>
          rcases hO b with z | ⟨ob, xs, z⟩
          · rw [q] at z; cases z
          · have z2 := un.frzs b ob _ z
            obtain ⟨e1, _⟩ := hok b _ z
            obtain ⟨e2, _⟩ := hok' b _ z2
            rw [e] at e1; cases e1
            exact e2
  cases hk : K.lookup a with
  | some o =>
    have e := KX a o hk
    rw [ha] at e
    cases e
    refine core (fun _ => none) (fun _ => .inl rfl) (.inr ⟨_, vs.toArray, _, hk, rfl, rfl, rfl, by rw [List.size_toArray, lenV]; exact hl, by simpa using rv⟩) (fun b u z => by have z' : (none : Option HO) = some u := z; cases z') (fun b z => absurd rfl z) fun z => absurd rfl z
  | none =>
    refine core (fun b => if b = a then some (.frz { cls := .type "list", data := .seq vs.toArray } (.lst (ns.map V.int))) else none) (fun b => ?_) (.inl (.inr ⟨{ cls := .type "list", data := .seq vs.toArray }, if_pos rfl⟩)) (fun b u z => ?_) (fun b z => ?_) fun _ => hk
    · by_cases hb : b = a
      · exact .inr ⟨_, _, if_pos hb⟩
      · exact .inl (if_neg hb)
    · by_cases hb : b = a
      · have z' := (if_pos hb).symm.trans z
        cases z'
        subst hb
        exact ⟨ha, by rw [List.length_map]; exact hl, vs, _, rv, ha⟩
      · have z' := (if_neg hb).symm.trans z
        cases z'
    · by_cases hb : b = a
      · exact hb
      · exact absurd (if_neg hb) z
end L2

namespace L2
open PySem PySem.Spec PyProof.Rows

abbrev KOf {K : PySem.W.Frag} {h : Heap} (_ : K.In h) : PySem.W.Frag := K

/-- the goal that k_head leaves (case hc), from the law's promise. F gives the function object fd (K's own) once, then the promise over every base -/
theorem walk_of {l : PySem.W.OpenLaw} {n k : Nat} {q : Program} {loose : List Str} {XP : (Str → Option Value) → Heap → Prop} {YP : World → Heap → Prop} {d : DefRec} {K : Params → PySem.W.Frag} {CX : World → CXT} {sp : World → Sp} {x : Str}
    (hn : l.most = some n) (hn2 : n ≤ sizeLine) (hdf : d.params.defaults = []) (hr : Room k callerA)
    (hY : ∀ (w : World) (h : Heap), YP w h → (K w.params).In h)
    (F : ∀ (w : World) (mg : Str → Option Value) (fa : Addr) (h : Heap), (K w.params).In h → h.Ns mainGlobals mg → mg d.name = some (.ref fa) →
      ∃ fd : FuncData, (∀ (s : Shared) (u : Value), BindsTo s fd ⟨[u], []⟩ [(x, u)]) ∧
        ∀ base : Heap, (K w.params).In base → base.Ns mainGlobals mg → FnOk l.prog w (K w.params) mg base (CX w) k fa fd [x] (sp w))
    (hsp : ∀ (w : World) (H : Hp) (a : Addr) (ns : List Int), ns.length ≤ n → Only H → SqL (K w.params) H a (ns.map V.int) → sp w [.ref a] H (fun v _ => v = .bl true) fun _ _ _ => False)
    (hCX : ∀ (w : World) (H : Hp) (s : Shared) (e : Value) (s' : Shared), CX w [] H s (fun _ _ _ => False) e s' → False) :
    PySem.W.WalkO q loose XP YP l.row.toRowW d [] (fun f vs => PySem.call f vs) := by
  refine Att.attach_call hn hdf fun w s₀ s₁ mg mb fa o pm cd doc a vs ns G Y ho hd hcd hmg hobj hints hlen hg => ?_
  have KX := hY w _ Y
  obtain ⟨fd, hb, hF⟩ := F w mg fa _ KX G.T.g hmg
  exact law_call KX G.T.g G.T.b G.T.builtins G.T.nolimit hg hobj hints (Nat.le_trans hlen hn2) hr hF hb (fun H hO hS => hsp w H a ns hlen hO hS) fun H e s' => hCX w H s₁ e s'
end L2

/- THE LAST THEOREM (shape; LID, My.* are yours):
   My.Adr: a structure of the addresses that your layer names (classes, functions); My.Txt K t: a structure (Prop) of the equations over K;
   My.txt_mk : {K} {implicit addresses ..} (e1 : nsIn K mainGlobals "law" = some (some (.ref f))) (e2 : K.lookup f = some ⟨oc, od, .func (fnOf "law" "law" params body scope dV kV doc pm an cdv ct), sl⟩) (e3 : codeIn K cdv "law" = true) .. : ∃ t, My.Txt K t

set_option maxRecDepth 100000 in
set_option maxHeartbeats 0 in
theorem PySem.Challenge.cw_LID_holds : PySem.Challenge.rw_LID.Holds := by
  w_on; o_law; k_head; (case hw => w_witness2)
  k_fill
  refine L2.walk_of (l := PySem.Challenge.rw_LID) (n := 63) (k := 40) (x := "script") (CX := fun w => ..) (sp := fun _ => My.sp_law) rfl (by decide) rfl ⟨rfl, by decide, by decide⟩ (fun w h Y => PySem.W.kIn_of Y) ?F ?S ?C
  case F =>
    intro w mg fa h KX G hmg
    have T : ∃ t, My.Txt (L2.KOf KX) t := by
      dsimp only [L2.KOf]                          -- K must stand as «<heap const> w.params» for k_is
      refine' My.txt_mk ?e1 ?e2 ?e3 ..
      (case e1 => PySem.W.k_is)                    -- in the order: a name -> its address -> its object -> its parts
      (case e2 => PySem.W.k_is)
      ..
    obtain ⟨t, T⟩ := T
    have e0 := hmg.symm.trans (PySem.W.mg_of KX G T.law)
    cases e0                                       -- fa is the law's own address
    exact ⟨_, fun s u => .of_eq rfl, fun base kb nb => My.law_fn T kb nb⟩     -- if «.of_eq rfl» comes too early: refine' ⟨_, ?b, fun base kb nb => My.law_fn T kb nb⟩; exact fun s u => .of_eq rfl
  case S => exact fun w H a ns hl hO hS => ..
  case C => exact ..
(the tactic k_is has no namespace: write k_is) -/

/-! SHORT WORDS over the layer: a def of the text, its body, what a loop and a test want. -/
namespace L2
open PySem PySem.Spec PyProof.Rows

/-! ### the text by places -/
/-- the j-th statement of a class's body -/
def inClass (s : Stmt) (j : Nat) : Stmt := match s with
  | .ClassDef _ _ _ body _ _ _ _ _ _ _ => body.getD j (.Pass ⟨0, 0, 0, 0⟩)
  | _ => .Pass ⟨0, 0, 0, 0⟩
def defArgs (s : Stmt) : Arguments := match s with
  | .FunctionDef _ a _ _ _ _ _ _ _ _ => a
  | _ => { posonlyargs := [], args := [], vararg := none, kwonlyargs := [], kw_defaults := [], kwarg := none, defaults := [] }
def defBody (s : Stmt) : List Stmt := match s with
  | .FunctionDef _ _ b _ _ _ _ _ _ _ => b
  | _ => []
def defScope (s : Stmt) : Scope := match s with
  | .FunctionDef _ _ _ _ _ _ sc _ _ _ => sc
  | _ => { kind := .function, names := [], isGenerator := false, isCoroutine := false }

/-! ### no exception leaves a def -/
abbrev CX0 : CXT := fun _ _ _ _ _ _ => False
abbrev E0 : XK := fun _ _ _ => False
theorem pass0 {X : Cx} : Passes CX0 X E0 := fun _ _ _ _ _ _ _ h => h.elim

/-! ### a def (or method) of the text as it stands behind the top -/
structure Fun (K : PySem.W.Frag) (x qual : Str) (st : Stmt) (f : Addr) (fd : FuncData) : Prop where
  ex : ∃ (oc : Value) (od : Option Addr) (kV doc pm : Value) (an : Option Addr) (cdv ct : Value) (osl : Array (Option Value)),
    fd = PySem.W.fnOf x qual (defArgs st) (defBody st) (defScope st) .none kV doc pm an cdv ct ∧ K.lookup f = some ⟨oc, od, .func fd, osl⟩ ∧ PySem.W.codeIn K cdv qual = true
  kp : PySem.W.keepIn K (.ref f) = true
section
variable {P : Program} {w : World} {K : PySem.W.Frag} {mg : Str → Option Value} {base : Heap}
/-- THE RULE for a def: its body as a term of rules, and the reading of that term -/
theorem Fun.ok {x qual : Str} {st : Stmt} {f : Addr} {fd : FuncData} {N ps : List Str} {k : Nat} {sp : Sp} (F : Fun K x qual st f fd) (S : FnScope N ps (defScope st)) (len : ∀ vs H Q E, sp vs H Q E → vs.length = ps.length)
    (hbody : ∀ (cdv : Value) (A : Around) (outer : List Env) (s : Shared) (H : Hp) (vs : List V) (Q : VK) (E : XK), Room k (A.deeper (envOfC qual (defScope st) s.heap.objs.size f cdv)) → sp vs H Q E →
      ∃ t, PSs (cxOf CX0 P w K mg base N qual (defScope st) f cdv A outer s H E).nox (defBody st) t ∧ t { nx := fun _ H' => Q .non H', rt := Q } (start N vs) H) : FnOk P w K mg base CX0 (k + 1) f fd ps sp := by
  obtain ⟨oc, od, kV, doc, pm, an, cdv, ct, osl, rfl, lk, hcd⟩ := F.ex
  refine fn_of lk hcd S len fun A outer s H vs Q E hr hsp => ?_
  obtain ⟨t, h, q⟩ := hbody cdv A outer s H vs Q E hr hsp
  exact ⟨t, h.nox, q⟩
/-- how its arguments bind (no defaults): h is «fun _ _ _ _ _ _ us hl => match us, hl with | [_, _], _ => rfl», one _ a parameter -/
theorem Fun.binds {x qual : Str} {st : Stmt} {f : Addr} {fd : FuncData} {ps : List Str} (F : Fun K x qual st f fd)
    (h : ∀ (kV doc pm : Value) (an : Option Addr) (cdv ct : Value) (us : List Value), us.length = ps.length → bindArgs (PySem.W.fnOf x qual (defArgs st) (defBody st) (defScope st) .none kV doc pm an cdv ct) ⟨us, []⟩ = pure (ps.zip us)) : Binds K fd ps [] := by
  obtain ⟨oc, od, kV, doc, pm, an, cdv, ct, osl, rfl, lk, hcd⟩ := F.ex
  exact .all (h kV doc pm an cdv ct)
theorem fun_mk {x qual : Str} {st : Stmt} {f : Addr} {oc : Value} {od an : Option Addr} {osl : Array (Option Value)} {kV doc pm cdv ct : Value} (l : K.lookup f = some ⟨oc, od, .func (PySem.W.fnOf x qual (defArgs st) (defBody st) (defScope st) .none kV doc pm an cdv ct), osl⟩)
    (c : PySem.W.codeIn K cdv qual = true) (k : PySem.W.keepIn K (.ref f) = true) : Fun K x qual st f (PySem.W.fnOf x qual (defArgs st) (defBody st) (defScope st) .none kV doc pm an cdv ct) := ⟨⟨oc, od, kV, doc, pm, an, cdv, ct, osl, rfl, l, c⟩, k⟩
end
theorem hu_of {A : Around} {k : Nat} (hr : Room k A) : A.units + 1 < cLine := Nat.lt_of_le_of_lt (Nat.add_le_add_left (by decide : 1 ≤ 64) _) hr.units
theorem small1000 {n : Nat} (h : n ≤ 1000) : n < sizeLine := Nat.lt_of_le_of_lt h (by decide)

/-! ### expressions in short: the name that stands in the i-th slot -/
section
variable {X : Cx}
theorem pv (i : Nat) {x : Str} {pos : Pos} (hN : X.N[i]? = some x := by rfl) (hv : Vis X.env.scope x := by first | exact Or.inl rfl | exact Or.inr (Or.inl rfl) | exact Or.inr (Or.inr rfl)) (hd : (x == ("__debug__" : Str)) = false := by decide)
    (hcd : (x == ("__classdict__" : Str)) = false := by decide) : PE X (.Name x pos) (tVar i) := pe_var hN hv hd hcd
end

/-! ### tests -/
theorem iteF {A B : Prop} (h : B) : if false = true then A else B := by
  rw [if_neg Bool.false_ne_true]
  exact h
theorem iteT {A B : Prop} (h : A) : if true = true then A else B := by
  rw [if_pos rfl]
  exact h
theorem ite2 {c A B : Prop} [Decidable c] (h1 : c → A) (h2 : ¬ c → B) : if c then A else B := by
  by_cases h : c
  · rw [if_pos h]
    exact h1 h
  · rw [if_neg h]
    exact h2 h

/-! ### heaps -/
/-- all that was tracked is as it was -/
def Same (H H' : Hp) : Prop := ∀ b o, H b = some o → H' b = some o
theorem Same.refl (H : Hp) : Same H H := fun _ _ h => h
theorem Same.trans {H H1 H2 : Hp} (a : Same H H1) (b : Same H1 H2) : Same H H2 := fun c o h => b c o (a c o h)
theorem Same.free {H H' : Hp} (e : Same H H') {l : Addr} (h : H' l = Option.none) : H l = Option.none := by
  cases q : H l with
  | none => rfl
  | some o =>
    rw [e l o q] at h
    cases h
theorem Same.seq {K : PySem.W.Frag} {H H' : Hp} {a : Addr} {xs : List V} (e : Same H H') (h : SqL K H a xs) : SqL K H' a xs := by
  rcases h with (h | ⟨o, h⟩) | h
  · exact .inl (.inl (e _ _ h))
  · exact .inl (.inr ⟨o, e _ _ h⟩)
  · exact .inr h

end L2
set_option Elab.async false
set_option linter.all false
set_option maxRecDepth 100000
/-! MORE CALLS over the hand layer: sum, all, divmod, isinstance, o[i] op= e. -/
namespace L2
open PySem PySem.Spec PyProof.Rows

theorem noPylong_big {x y : Int} (h : y.natAbs < 2 ^ 300) : Builtin.divisionGoesByPylong x y = false := by
  refine PyProof.noPylong_of_log2 ?_
  by_cases h0 : y.natAbs = 0
  · rw [h0]; decide +kernel
  · have h30 : y.natAbs.log2 < 300 := (Nat.log2_lt h0).mpr h
    omega
/-- a divisor from 1 on, of at most sixty figures -/
def CDivB (_i j : Int) : Prop := 0 < j ∧ j < 2 ^ 300
section
variable {X : Cx} {a b : Expr} {ta tb : TE} {pos : Pos}
theorem op_fdivB : OpR X (binaryOp .FloorDiv) (rI CDivB fun i j => .int (i / j)) := opI fun i j _ _ _ _ _ hc q => by
  obtain ⟨h1, h2⟩ := hc
  refine floordiv_int (by omega) ?_ (.inl (noPylong_big (by omega)))
  rw [Int.fdiv_eq_ediv_of_nonneg i (by omega)]
  exact q


theorem bools_at {bs : List Bool} {its : List Value} (rv : Vals (bs.map V.bl) its) {i : Nat} {v : Value} (e : its[i]? = some v) : v = .bool (bs.getD i true) := by
  have hl := rv.length
  rw [List.length_map] at hl
  have hi : i < its.length := (List.getElem?_eq_some_iff.mp e).1
  have hn : bs[i]? = some (bs[i]'(by omega)) := List.getElem?_eq_getElem (by omega)
  obtain ⟨u, hu, ru⟩ := rv.get (i := i) (x := V.bl (bs[i]'(by omega))) (by rw [List.getElem?_map, hn]; rfl)
  rw [e] at hu
  cases hu
  rw [List.getD_eq_getElem?_getD, hn]
  exact ru
theorem all_getD (bs : List Bool) : ((List.range bs.length).all fun i => bs.getD i true) = bs.all id := by
  rw [Bool.eq_iff_iff, List.all_eq_true, List.all_eq_true]
  constructor
  · intro h b hb
    obtain ⟨i, hi, e⟩ := List.getElem_of_mem hb
    have := h i (List.mem_range.mpr hi)
    rw [List.getD_eq_getElem?_getD, List.getElem?_eq_getElem hi, e] at this
    exact this
  · intro h i hi
    have hi' := List.mem_range.mp hi
    rw [List.getD_eq_getElem?_getD, List.getElem?_eq_getElem hi']
    exact h _ (List.getElem_mem hi')
theorem call_all_seq (hc : X.calm = true) : CallR X (.builtin "all") (fun xs H Q => ∃ (p : Addr) (bs : List Bool), xs = [.ref p] ∧ SqL X.K H p (bs.map V.bl) ∧ Q (.bl (bs.all id)) H) := by
  intro pins s σ H xs us Q I r h
  obtain ⟨p, bs, rfl, hq, q⟩ := h
  obtain ⟨u, rfl, rx⟩ := vals1 r
  cases rx
  have hh : X.A.in1.handled = none := I.ok.hd hc
  obtain ⟨its, rv, pl, hz⟩ := I.list hq
  have hp : p < s.heap.objs.size := by obtain ⟨o, e, _⟩ := pl.isList; exact Heap.lt_size e
  have hl := rv.length
  rw [List.length_map] at hl
  refine call_all_walk (wpAny_pyIter_list pl.isList ?_)
  refine ⟨s.heap.objs.size, [s.heap.objs.size, p], [s.heap.objs.size], _, _, _, fun i => bs.getD i true, rfl, Walks.list hh _ p (Nat.ne_of_lt hp) its.toArray, ⟨⟨_, Heap.get?_push_size _ rfl, rfl, rfl⟩, pl.isList.at fun o e => Heap.get?_push_of_some _ e⟩, ?_, ?_⟩
  · intro i v s' Q' E' e q'
    have e' : its[i]? = some v := by simpa using e
    rw [bools_at rv e']
    exact wpAny_pure q'
  · intro h' tk k
    have e : ((List.range its.toArray.size).all fun i => bs.getD i true) = bs.all id := by rw [List.size_toArray, ← hl]; exact all_getD bs
    rw [e]
    exact ⟨.bl (bs.all id), H, I.kept fun b ob e => k b ob (by simp; exact Nat.ne_of_lt (Heap.lt_size e)) (Heap.get?_push_of_some _ e), rfl, q⟩

/-! ### isinstance -/
inductive TyS (H : Hp) : V → Value → Prop
  | bl (y : Bool) : TyS H (.bl y) (.type "bool")
  | int (i : Int) : TyS H (.int i) (.type "int")
  | lst {a : Addr} {xs : List V} (ea : H a = some (.lst xs)) : TyS H (.ref a) (.type "list")
  | tup {a : Addr} {xs : List V} (ea : H a = some (.tup xs)) : TyS H (.ref a) (.type "tuple")
theorem ty_kit {pins : List (Addr × Obj)} {σ : St} {H : Hp} {s : Shared} {x : V} {u t : Value} (I : Inv X pins σ H s) (rx : RelV x u) (ty : TyS H x t) : ∃ Hx : Heap → Prop, PySem.W.KitX X.K u t Hx ∧ Hx s.heap ∧ u ≠ .builtin "__main__.__loader__#opaque" := by
  cases ty with
  | bl y => cases (show u = Value.bool y from rx); exact ⟨_, PySem.W.kitx_bool, True.intro, fun z => nomatch z⟩
  | int i => obtain ⟨t, q⟩ := (show ∃ t, u = Value.int i t from rx); cases q; exact ⟨_, PySem.W.kitx_int, True.intro, fun z => nomatch z⟩
  | @lst a xs ea =>
    cases (show u = Value.ref a from rx)
    obtain ⟨_, _, n, _, h1⟩ := (show ObjOk X.prog X.w H s.heap a (.lst xs) from I.hok a _ ea)
    exact ⟨_, PySem.W.kitx_list, ⟨_, h1, rfl⟩, fun z => nomatch z⟩
  | @tup a xs ea =>
    cases (show u = Value.ref a from rx)
    obtain ⟨_, _, _, p⟩ := (show ObjOk X.prog X.w H s.heap a (.tup xs) from I.hok a _ ea)
    obtain ⟨o, h1, h2, _⟩ := p
    exact ⟨_, PySem.W.kitx_tuple, ⟨o, h1, h2⟩, fun z => nomatch z⟩
theorem pe_ty {x : Str} {T : String} (hg : Gl X x) (hm : X.mg x = none) (hv : bootBuiltins x = some (.type T)) (hn : x ≠ "__name__" := by decide) (hd : (x == ("__debug__" : Str)) = false := by decide) : PE X (.Name x pos) (tC (.ty T)) := pe_bltn hg hm hv rfl hn hd

/-! ### o[i] by values -/
end

example (K : PySem.W.Frag) : PySem.W.kitOne K (.type "bool") (.type "int") = some true := by rfl
example (K : PySem.W.Frag) : PySem.W.kitOne K (.type "int") (.type "bool") = some false := by rfl
example (K : PySem.W.Frag) : PySem.W.kitAny K (.type "tuple") [.type "list", .type "tuple"] = some true := by rfl
example (K : PySem.W.Frag) : PySem.W.kitAny K (.type "str") [.type "list", .type "tuple"] = some false := by rfl
end L2
set_option Elab.async false
set_option linter.all false
set_option maxRecDepth 100000
/-! reversed(t) of a tuple, walked by a for. -/
namespace L2
open PySem PySem.Spec PyProof.Rows

namespace RF
end RF



section
variable {prog : Program} {w : World} {A : Around} {E : Value → Shared → Prop} {s : Shared}
end


section
variable {X : Cx} {tg : Expr}
end
end L2
set_option Elab.async false
set_option linter.all false
set_option maxRecDepth 100000
/-! LIST COMPREHENSIONS over the hand layer: one clause, a plain name, none or one test. -/
namespace L2
open PySem PySem.Spec PyProof.Rows

/-! ### the closure -/
def clStep (cells : List (Str × Addr)) (cs : List (Str × Addr)) (p : Str × NameKind) : List (Str × Addr) :=
  if (p.2 == NameKind.free) = true then (match cells.lookup p.1 with | some a => (p.1, a) :: cs | none => cs) else cs
def clOf (sc : Scope) (cells : List (Str × Addr)) : List (Str × Addr) := sc.names.foldl (clStep cells) []

theorem closure_eq {sc : Scope} {env : Env} (h : ∀ p ∈ sc.names, p.2 = .free → ∃ a, env.cells.lookup p.1 = some a) : closureFor sc env = pure (clOf sc env.cells) := by
  have key : ∀ (l : List (Str × NameKind)) (cs : List (Str × Addr)), (∀ p ∈ l, p.2 = .free → ∃ a, env.cells.lookup p.1 = some a) →
      (forIn l cs fun (x : Str × NameKind) (r : List (Str × Addr)) => match x with
        | (name, kind) => if (kind == NameKind.free) = true then (do let a ← cellOf env name; pure (ForInStep.yield ((name, a) :: r))) else (pure (ForInStep.yield r) : Sem (ForInStep (List (Str × Addr))))) = (pure (l.foldl (clStep env.cells) cs) : Sem (List (Str × Addr))) := by
    intro l
    induction l with
    | nil => intro cs _; rfl
    | cons p r ih =>
      intro cs hp
      obtain ⟨n, k⟩ := p
      rw [List.forIn_cons, List.foldl_cons]
      by_cases hk : (k == NameKind.free) = true
      · obtain ⟨a, ea⟩ := hp (n, k) List.mem_cons_self (by simpa using hk)
        have e1 : clStep env.cells cs (n, k) = (n, a) :: cs := by unfold clStep; rw [if_pos hk]; dsimp only; dsimp only at ea; rw [ea]
        rw [e1]
        dsimp only at ea ⊢
        rw [if_pos hk]
        unfold cellOf
        rw [ea]
        simp only [pure_bind]
        exact ih _ fun q hq => hp q (List.mem_cons_of_mem _ hq)
      · have e1 : clStep env.cells cs (n, k) = cs := by unfold clStep; rw [if_neg hk]
        rw [e1]
        dsimp only
        rw [if_neg hk]
        simp only [pure_bind]
        exact ih _ fun q hq => hp q (List.mem_cons_of_mem _ hq)
  unfold closureFor clOf
  rw [← key sc.names [] h]
  simp only [bind_pure]

theorem clOf_sub (sc : Scope) (cells : List (Str × Addr)) {y : Str} {c : Addr} : (clOf sc cells).lookup y = some c → cells.lookup y = some c := by
  have key : ∀ (l : List (Str × NameKind)) (cs : List (Str × Addr)), (∀ y c, cs.lookup y = some c → cells.lookup y = some c) → ∀ y c, (l.foldl (clStep cells) cs).lookup y = some c → cells.lookup y = some c := by
    intro l
    induction l with
    | nil => intro cs h; exact h
    | cons p r ih =>
      intro cs h
      rw [List.foldl_cons]
      refine ih _ ?_
      intro y c e
      unfold clStep at e
      split at e
      · split at e
        · rename_i a ea
          rw [List.lookup_cons] at e
          cases q : y == p.1 with
          | true =>
            rw [q] at e
            cases e
            rw [eq_of_beq q]; exact ea
          | false => rw [q] at e; exact h y c e
        · exact h y c e
      · exact h y c e
  exact key sc.names [] (fun _ _ h => by cases h) y c

theorem clOf_has (sc : Scope) (cells : List (Str × Addr)) (h : ∀ p ∈ sc.names, p.2 = .free → ∃ a, cells.lookup p.1 = some a) {y : Str} (hy : (y, NameKind.free) ∈ sc.names) : ∃ c, (clOf sc cells).lookup y = some c := by
  have mono : ∀ (l : List (Str × NameKind)) (cs : List (Str × Addr)), (∃ c, cs.lookup y = some c) → ∃ c, (l.foldl (clStep cells) cs).lookup y = some c := by
    intro l
    induction l with
    | nil => intro cs h; exact h
    | cons p r ih =>
      intro cs hc
      rw [List.foldl_cons]
      refine ih _ ?_
      unfold clStep
      split
      · split
        · rw [List.lookup_cons]
          cases q : y == p.1 with
          | true => exact ⟨_, rfl⟩
          | false => exact hc
        · exact hc
      · exact hc
  have key : ∀ (l : List (Str × NameKind)) (cs : List (Str × Addr)), (∀ p ∈ l, p.2 = .free → ∃ a, cells.lookup p.1 = some a) → (y, NameKind.free) ∈ l → ∃ c, (l.foldl (clStep cells) cs).lookup y = some c := by
    intro l
    induction l with
    | nil => intro cs _ hm; cases hm
    | cons p r ih =>
      intro cs hp hm
      rw [List.foldl_cons]
      rcases List.mem_cons.mp hm with e | hm
      · subst e
        obtain ⟨a, ea⟩ := hp (y, .free) List.mem_cons_self rfl
        refine mono r _ ⟨a, ?_⟩
        unfold clStep
        rw [if_pos (show (NameKind.free == NameKind.free) = true by decide)]
        dsimp only at ea ⊢
        rw [ea, List.lookup_cons, beq_self_eq_true]
      · exact ih _ (fun q hq => hp q (List.mem_cons_of_mem _ hq)) hm
  exact key sc.names [] h hy

/-! ### the block's context -/
def cxLC (X : Cx) (x : Str) (scope : Scope) (C : Addr) (fp : List Addr) (s : Shared) (H : Hp) : Cx where
  prog := X.prog
  w := X.w
  K := X.K
  mg := X.mg
  base := X.base
  A := X.A
  N := x :: X.N
  s₀ := s
  H₀ := H
  env := compEnvC scope (clOf scope X.env.cells) C X.env
  outer := X.stack
  stack := X.stack
  ex := fp
  fn := fun _ => false
  calm := X.calm
  pn := []
  xe := fun _ _ => False

/-- what a comprehension's scope must be -/
structure LcScope (X : Cx) (x : Str) (sc : Scope) : Prop where
  kind : sc.kind = .function
  nocell : ∀ p ∈ sc.names, p.2 ≠ .cell
  loc : sc.names.lookup x = some .local
  names : ∀ p ∈ sc.names, p.2 = .local → sc.names.lookup p.1 = some .local
  apart : ∀ y ∈ X.N, sc.names.lookup y ≠ some .local
  nd : X.N.Nodup
  free : ∀ p ∈ sc.names, p.2 = .free → X.env.kindOf p.1 = some .cell ∨ X.env.kindOf p.1 = some .free

section
variable {X : Cx} {pins : List (Addr × Obj)} {σ : St} {H : Hp} {s : Shared} {x : Str} {sc : Scope} {C : Addr} {fp : List Addr}

theorem relabel_look {env : Env} : ∀ {names : List (Str × NameKind)} {y : Str} {k : NameKind}, (names.map fun (n, k) => if (k == NameKind.free && env.scope.kind == .function && env.kindOf n == some .cell) then (n, NameKind.cell) else (n, k)).lookup y = some k →
    ∃ k', names.lookup y = some k' ∧ (k = k' ∨ (k' = .free ∧ k = .cell))
  | [], _, _, h => by simp at h
  | (n, k0) :: r, y, k, h => by
    have ih := @relabel_look env r y k
    have h : List.lookup y ((if (k0 == NameKind.free && env.scope.kind == .function && env.kindOf n == some .cell) = true then (n, NameKind.cell) else (n, k0)) :: (r.map _)) = some k := h
    cases hx : y == n with
    | true =>
      refine ⟨k0, by rw [List.lookup_cons, hx], ?_⟩
      by_cases hc : (k0 == NameKind.free && env.scope.kind == .function && env.kindOf n == some .cell) = true
      · rw [if_pos hc, List.lookup_cons, hx] at h
        cases h
        simp only [Bool.and_eq_true, beq_iff_eq] at hc
        exact .inr ⟨hc.1.1, rfl⟩
      · rw [if_neg hc, List.lookup_cons, hx] at h
        cases h
        exact .inl rfl
    | false =>
      by_cases hc : (k0 == NameKind.free && env.scope.kind == .function && env.kindOf n == some .cell) = true
      · rw [if_pos hc, List.lookup_cons, hx] at h
        rw [List.lookup_cons, hx]; exact ih h
      · rw [if_neg hc, List.lookup_cons, hx] at h
        rw [List.lookup_cons, hx]; exact ih h

theorem LcScope.cells (S : LcScope X x sc) (ok : X.Ok) : ∀ p ∈ sc.names, p.2 = .free → ∃ a, X.env.cells.lookup p.1 = some a := fun p hp e => ok.has p.1 (S.free p hp e)

theorem Inv.okLC (I : Inv X pins σ H s) (S : LcScope X x sc) (hC : s.heap.objs.size ≤ C) (hf : ∀ b ∈ fp, FpOk X pins H b) (hlt : ∀ b ∈ fp, b < s.heap.objs.size) : (cxLC X x sc C fp s H).Ok where
  mod := I.ok.mod
  kind := S.kind
  glob := I.ok.glob
  blt := I.ok.blt
  above := hC
  inj := fun y z c e1 e2 => I.ok.inj y z c (clOf_sub sc X.env.cells e1) (clOf_sub sc X.env.cells e2)
  has := fun y hy => by
    have hy' : (relabel sc X.env).names.lookup y = some .cell ∨ (relabel sc X.env).names.lookup y = some .free := hy
    have fr : sc.names.lookup y = some .free := by
      rcases hy' with h | h
      · obtain ⟨k', e, q⟩ := relabel_look h
        rcases q with q | ⟨q, _⟩
        · subst q; exact absurd rfl (S.nocell _ (PySem.mem_of_lookup e))
        · rw [e, q]
      · obtain ⟨k', e, q⟩ := relabel_look h
        rcases q with q | ⟨_, q⟩
        · rw [e, ← q]
        · cases q
    exact clOf_has sc X.env.cells (S.cells I.ok) (PySem.mem_of_lookup fr)
  cab := fun y c e => by cases (show false = true from e)
  hd := I.ok.hd
  frames := I.ok.frames
  stk := .inl rfl
  exf := fun b hb => ⟨Nat.ne_of_lt (Nat.lt_of_lt_of_le (hlt b hb) hC), fun y c e => (hf b hb).2.2.2.2.1 y c (clOf_sub sc X.env.cells e)⟩
  bs := I.bs
  bsz := Nat.le_trans I.ok.bsz I.sz
  noex := fun b o e hb => by
    rcases (hf b hb).2.2.2.1 with q | q
    · exact I.ok.noex b o e q
    · exact absurd (Nat.lt_of_lt_of_le (Heap.lt_size e) (Nat.le_trans I.ok.bsz q)) (Nat.lt_irrefl _)
  exfs := fun b hb z => by
    rcases List.mem_cons.mp (I.stkSub b z) with q | q
    · exact (hf b hb).2.1 q
    · exact (hf b hb).2.2.1 q
  funs := I.stack
  frf := I.stkFree

/-- the block begins: a new list at D, a new frame at C -/
theorem Inv.startLC {D : Addr} {h1 : Heap} {m : Str → Option Value} {tk : Nat} (I : Inv X pins σ H s) (S : LcScope X x sc) (hf : ∀ b ∈ fp, FpOk X pins H b) (hlt : ∀ b ∈ fp, b < s.heap.objs.size)
    (hD : D = s.heap.objs.size) (hC : s.heap.objs.size ≤ C) (hDC : C ≠ D) (hk : ∀ b o, s.heap.get? b = some o → h1.get? b = some o) (hn : h1.Ns C m) (hl : h1.get? D = some { cls := .type "list", data := .seq ([] : List Value).toArray 0 }) :
    Inv (cxLC X x sc C fp s H) [] (none :: σ) (upd H D (.lst [])) { s with heap := h1, toks := tk } := by
  have hDle : s.heap.objs.size ≤ D := by rw [hD]; exact Nat.le_refl _
  have cells : ∀ y c, (clOf sc X.env.cells).lookup y = some c → c < s.heap.objs.size := fun y c e => by
    obtain ⟨v, q⟩ := I.cell y c (clOf_sub sc X.env.cells e)
    exact q.lt
  refine ⟨I.okLC S hC hf hlt, rfl, I.bare, Un.laid hk hDle (I.hok.fresh hDle), ⟨m, hn, fun i y v e1 e2 e3 => ?_⟩, fun y c e => ?_, ?_, fun y c e => ?_, fun p hp => absurd (show p ∈ ([] : List (Addr × Obj)) from hp) (by simp), I.hok.laid hk hDle ⟨Nat.zero_le _, [], 0, .nil, hl⟩, ?_⟩
  · cases i with
    | zero => cases (show some (none : Option V) = some (some v) from e2)
    | succ j =>
      have e1' : X.N[j]? = some y := e1
      have e2' : σ[j]? = some (some v) := e2
      have e3' : Vis (relabel sc X.env) y := e3
      have ny : sc.names.lookup y ≠ some .local := S.apart y (List.mem_of_getElem? e1')
      have fr : sc.names.lookup y = some .free ∧ ((relabel sc X.env).names.lookup y = some .cell ∨ (relabel sc X.env).names.lookup y = some .free) := by
        rcases e3' with h | h | h
        · obtain ⟨k', e, q⟩ := relabel_look h
          rcases q with q | ⟨_, q⟩
          · subst q; exact absurd e ny
          · cases q
        · obtain ⟨k', e, q⟩ := relabel_look h
          rcases q with q | ⟨q, _⟩
          · subst q; exact absurd rfl (S.nocell _ (PySem.mem_of_lookup e))
          · exact ⟨by rw [e, q], .inl h⟩
        · obtain ⟨k', e, q⟩ := relabel_look h
          rcases q with q | ⟨_, q⟩
          · exact ⟨by rw [e, ← q], .inr h⟩
          · cases q
      have ok := S.free (y, .free) (PySem.mem_of_lookup fr.1) rfl
      obtain ⟨m0, hn0, hl0⟩ := I.loc
      obtain ⟨u, r, l⟩ := hl0 j y v e1' e2' (.inr ok)
      refine ⟨u, r, .inr ⟨fr.2, ?_⟩⟩
      rcases l with ⟨k, _⟩ | ⟨_, c, ec, z⟩
      · rcases ok with q | q <;> (rw [show X.env.kindOf y = some .local from k] at q; cases q)
      · obtain ⟨c', ec'⟩ := clOf_has sc X.env.cells (S.cells I.ok) (PySem.mem_of_lookup fr.1)
        have := clOf_sub sc X.env.cells ec'
        rw [ec] at this
        cases this
        obtain ⟨o, ho, hd⟩ := z
        exact ⟨c, ec', o, hk _ _ ho, hd⟩
  · obtain ⟨v, o, ho, hd⟩ := I.cell y c (clOf_sub sc X.env.cells e)
    exact ⟨v, o, hk _ _ ho, hd⟩
  · show upd H D (.lst []) C = none
    rw [upd_ne hDC]
    exact I.hok.fresh hC
  · show upd H D (.lst []) c = none
    rw [upd_ne (Nat.ne_of_lt (Nat.lt_of_lt_of_le (cells y c e) hDle))]
    exact I.freeC y c (clOf_sub sc X.env.cells e)
  · show (none :: σ).length = (x :: X.N).length
    rw [List.length_cons, List.length_cons, I.len]

/-- the frame C of a block let go: nothing of ours stands there -/
theorem Inv.butC {h' : Heap} (I : Inv X pins σ H s) (hs : Heap.SameBut C s.heap h') (hC : X.s₀.heap.objs.size ≤ C) (hn : H C = none) (hL : C ≠ X.env.locals) (hc : ∀ y c, X.env.cells.lookup y = some c → c ≠ C) (hp : ∀ p ∈ X.pn ++ pins, p.1 ≠ C) :
    Inv X pins σ H { s with heap := h' } := I.turned (t' := s.toks) (fun b o hb e => (hs.2 b hb).trans e) hn hL (.inr hC) hc hp

/-- the block is through: back in the context around it -/
theorem Inv.endLC {s2 : Shared} {H2 : Hp} {st : St} {pl : List (Addr × Obj)} (I : Inv X pins σ H s) (J : Inv (cxLC X x sc C fp s H) pl st H2 s2) (hf : ∀ b ∈ fp, FpOk X pins H b) : Inv X pins σ H2 s2 :=
  I.call' (ch := fp) J.os J.base J.hok J.bare fun b hb => ⟨(hf b hb).2.2.2.1, (hf b hb).2.1, (hf b hb).2.2.2.2.1, (hf b hb).2.2.2.2.2⟩
end

/-! ### the tests -/
def PTs (X : Cx) (ifs : List Expr) (t : TT) : Prop :=
  ∀ (pins : List (Addr × Obj)) (s : Shared) (σ : St) (H : Hp) (Q : Bool → Hp → Prop), Inv X pins σ H s → t σ H Q →
    wpAny (model X.prog X.w) X.A (forIn ifs true fun c r => if r = true then do let ok ← isTrue c X.env (eval c X.env); pure (ForInStep.yield ok) else pure (ForInStep.yield r)) (TP X pins σ Q) X.xe s
def tYes : TT := fun _ H Q => Q true H
theorem pts_nil {X : Cx} : PTs X [] tYes := fun _ _ _ H _ I h => wpAny_tests_nil ⟨H, I, h⟩
theorem pts_one {X : Cx} {c : Expr} {t : TT} (h : PT X c t) : PTs X [c] t := fun pins s σ H Q I q => wpAny_tests_one (h pins s σ H Q I q)

/-! ### the loop, the step ahead of the store kept -/
theorem compLoop_own {prog : Program} {w : World} {A : Around} {R : Result → Shared → Prop} {s : Shared} {elt target iter : Expr} {ifs : List Expr} {scope : Scope} {pos : Pos} {it acc : Value} {env : Env} (I : Nat → Shared → Prop)
    (turn : ∀ n s, I n s → wpAny (model prog w) A (pyNext it) (fun r s1 => match r with
      | none => R (.ok .next) s1
      | some v => wpAny (model prog w) A (letOwnedTupleGo target it v) (fun _ s1 => wpAny (model prog w) A (assign target env v) (fun _ s2 =>
          wpAny (model prog w) A (forIn ifs true fun c r => if r = true then do let ok ← isTrue c env (eval c env); pure (ForInStep.yield ok) else pure (ForInStep.yield r)) (fun ok s3 =>
            if ok = true then wpAny (model prog w) A (eval elt env) (fun x s4 =>
              wpAny (model prog w) A (call (.builtin "list.append") [acc, x]) (fun _ s5 => ∃ m, m < n ∧ I m s5) (fun _ _ => False) s4) (fun _ _ => False) s3
            else ∃ m, m < n ∧ I m s3) (fun _ _ => False) s2) (fun _ _ => False) s1) (fun _ _ => False) s1) (fun _ _ => False) s)
    (n : Nat) (h : I n s) :
    codeAny (model prog w) A (.compLoop (.ListComp elt [⟨target, iter, ifs, 0⟩] scope pos) 0 it acc env) R s := by
  refine codeAny_loop rfl I (fun n s hI => ?_) n h
  show wpAny _ A ((compTurn (.ListComp elt [⟨target, iter, ifs, 0⟩] scope pos) 0 it acc env).onRaise (fun x => do noteFrame x env; theTreesLotGoes x)) _ _ s
  refine wpAny_noted ?_
  rw [compTurn_list]
  refine wpAny_bind (wpAny_standAt (wpAny_bind (wpAny_mono (turn n s hI) (fun r s1 h1 => ?_) fun _ _ h' => h'.elim)))
  cases r with
  | none => exact wpAny_pure h1
  | some v =>
    refine wpAny_bind (wpAny_mono h1 (fun _ s1 h1 => ?_) fun _ _ h' => h'.elim)
    refine wpAny_bind (wpAny_mono h1 (fun _ s2 h2 => wpAny_bind (wpAny_mono h2 (fun ok s3 h3 => ?_) fun _ _ h' => h'.elim)) fun _ _ h' => h'.elim)
    cases ok with
    | false => exact wpAny_pure ⟨rfl, h3⟩
    | true =>
      exact wpAny_bind (wpAny_bind (wpAny_mono h3 (fun x s4 h4 => wpAny_bind (wpAny_mono h4 (fun _ s5 h5 => wpAny_pure (wpAny_pure ⟨rfl, h5⟩)) fun _ _ h' => h'.elim)) fun _ _ h' => h'.elim))

/-! ### the reading -/
/-- acc = []; for x in ..: if ..: acc.append(..), the list at D -/
def lcGo (tc : TT) (te : TE) (σ : St) (J : It) (D : Addr) (Fin : Hp → Prop) (H : Hp) : Prop :=
  ∃ W : Nat → Nat → List V → Hp → Prop, (∃ m, W 0 m [] (upd H D (.lst []))) ∧ ∀ i m ys H, W i m ys H → H D = some (.lst ys) ∧
    ((J.stop i H ∧ Fin H) ∨ (J.go i H ∧ ∀ x H', J.yld i H x H' → tc (some x :: σ) H' fun b H2 => if b = true then te (some x :: σ) H2 fun y H3 => H3 D = some (.lst ys) ∧ ys.length < sizeLine ∧ ∃ m', m' < m ∧ W (i + 1) m' (ys ++ [y]) (upd H3 D (.lst (ys ++ [y])))
      else ∃ m', m' < m ∧ W (i + 1) m' ys H2))
def tLC (wi : TI) (tc : TT) (te : TE) : TE := fun σ H Q => wi σ H fun J H1 => ∀ D, H1 D = none → lcGo tc te σ J D (fun H2 => Q (.ref D) H2) H1

section
variable {X : Cx} {x : Str} {sc : Scope} {elt iter : Expr} {ifs : List Expr} {px pos : Pos} {wi : TI} {tc : TT} {te : TE}
/-- from the iterator on -/
theorem lc_block {pins : List (Addr × Obj)} {σ : St} {H : Hp} {s : Shared} {it : Addr} {fp : List Addr} {tn : Nat → Heap → Prop} {J : It} {Fin : Addr → Hp → Prop} {RR : Value → Addr → Result → Shared → Prop} {E : Value → Shared → Prop}
    (hc : X.calm = true) (S : LcScope X x sc) (I : Inv X pins σ H s) (T : Turn X.prog X.w X.K (.Name x px) J fp it tn) (st : tn 0 s.heap) (hf : ∀ b ∈ fp, FpOk X pins H b)
    (ht : ∀ C s0 H0, PTs (cxLC X x sc C fp s0 H0) ifs tc) (he : ∀ C s0 H0, PE (cxLC X x sc C fp s0 H0) elt te) (q : ∀ D, H D = none → lcGo tc te σ J D (Fin D) H)
    (hR : ∀ D C H2 s2 m, s.heap.objs.size ≤ C → Inv X pins σ H2 s2 → H2 C = none → s2.heap.Ns C m → Fin D H2 → RR (.ref D) C (.ok .next) s2) :
    wpAny (model X.prog X.w) X.A (newList []) (fun acc s3 => wpAny (model X.prog X.w) X.A (newFunctionEnv sc X.env.globals (clOf sc X.env.cells) [] X.env.qual none .none (some X.env)) (fun cenv s4 =>
      codeAny (model X.prog X.w) X.A (.compStart (.ListComp elt [⟨.Name x px, iter, ifs, 0⟩] sc pos) 0 (.ref it) acc { cenv with scope := relabel sc X.env }) (RR acc cenv.locals) s4) E s3) E s := by
  have hlt : ∀ b ∈ fp, b < s.heap.objs.size := fun b hb => by
    obtain ⟨o, e, _⟩ := T.obj 0 _ st b hb
    exact Heap.lt_size e
  refine wpAny_newObj_type (wpAny_newFunctionEnv S.nocell (by intro y hy; simp at hy) (fun h1 hns1 hsb1 => ?_) S.kind)
  dsimp only at hns1 hsb1 ⊢
  generalize hH2 : s.heap.push { cls := .type "list", dict := none, data := .seq ([] : List Value).toArray } = G at hns1 hsb1 ⊢
  have hC : G.objs.size = s.heap.objs.size + 1 := by rw [← hH2, Heap.size_push]
  have hCle : s.heap.objs.size ≤ G.objs.size := by rw [hC]; exact Nat.le_succ _
  have hDC : G.objs.size ≠ s.heap.objs.size := by rw [hC]; exact Nat.succ_ne_self _
  have old : ∀ b o, s.heap.get? b = some o → h1.get? b = some o := fun b o e => hsb1.extBut b o (Nat.ne_of_lt (Nat.lt_of_lt_of_le (Heap.lt_size e) hCle)) (Heap.get?_push_of_some _ (hH2 ▸ Heap.get?_push_of_some _ e))
  have hacc : h1.get? s.heap.objs.size = some { cls := .type "list", data := .seq ([] : List Value).toArray 0 } := hsb1.extBut _ _ (Ne.symm hDC) (Heap.get?_push_of_some _ (hH2 ▸ Heap.get?_push_size _ rfl))
  have hDn : H s.heap.objs.size = none := I.hok.fresh (Nat.le_refl _)
  obtain ⟨W, ⟨m0, w0⟩, turn⟩ := q s.heap.objs.size hDn
  have st1 : tn 0 h1 := T.keep _ _ _ st fun b _ o e => old b o e
  have I1 := fun tk => I.startLC (tk := tk) S hf hlt rfl hCle hDC old hns1 hacc
  have fr1 : ∀ b ∈ fp, upd H s.heap.objs.size (.lst []) b = none := fun b hb => by rw [upd_ne (Nat.ne_of_lt (hlt b hb))]; exact (hf b hb).1
  have loop : ∀ s3 : Shared, s3 = { s with heap := h1, toks := s.toks + ([] : List (Str × Value)).length } →
      codeAny (model X.prog X.w) X.A (.compLoop (.ListComp elt [⟨.Name x px, iter, ifs, 0⟩] sc pos) 0 (.ref it) (.ref s.heap.objs.size) (compEnvC sc (clOf sc X.env.cells) G.objs.size X.env))
        (RR (.ref s.heap.objs.size) G.objs.size) s3 := by
    rintro s3 rfl
    have fpk : ∀ {H' : Hp}, (∀ b ∈ fp, H' b = none) → ∀ b ∈ fp, FpOk (cxLC X x sc G.objs.size fp s H) [] H' b := fun hn b hb =>
      ⟨hn b hb, Nat.ne_of_lt (Nat.lt_of_lt_of_le (hlt b hb) hCle), (I.okLC (C := G.objs.size) S hCle hf hlt).exfs b hb, .inl hb, fun y c e => (hf b hb).2.2.2.2.1 y c (clOf_sub sc X.env.cells e), fun p hp => absurd (show p ∈ ([] : List (Addr × Obj)) from hp) (by simp)⟩
    refine compLoop_own (fun n s' => ∃ i w ys H', Inv (cxLC X x sc G.objs.size fp s H) [] (w :: σ) H' s' ∧ tn i s'.heap ∧ (∀ b ∈ fp, H' b = none) ∧ W i n ys H') ?_ m0 ⟨0, none, [], _, I1 _, st1, fr1, w0⟩
    rintro n s3 ⟨i, v0, ys, H3, I3, st3, fr3, w3⟩
    obtain ⟨hD3, turn3⟩ := turn i n ys H3 w3
    rcases turn3 with ⟨stop, fin⟩ | ⟨go, step⟩
    · refine thn (T.done (cxLC X x sc G.objs.size fp s H) rfl rfl rfl hc i [] s3 _ H3 _ I3 (fpk fr3) st3 stop) fun r s4 ⟨hr, I4⟩ => ?_
      subst hr
      obtain ⟨m4, hn4, _⟩ := I4.loc
      exact hR _ _ H3 s4 m4 hCle (I.endLC I4 hf) I4.free hn4 fin
    · refine thn (T.item (cxLC X x sc G.objs.size fp s H) rfl rfl rfl hc i [] s3 _ H3 _ I3 (fpk fr3) st3 go) fun r s4 ⟨u, hr, h4⟩ => ?_
      subst hr
      refine thn h4 fun _ s5 ⟨y, H5, I5, r5, y5, st5, fr5⟩ => ?_
      have I5' := I5.pinned (fpk fr5) (T.obj _ _ st5)
      have hN : (x :: X.N).Nodup := List.nodup_cons.mpr ⟨fun hm => S.apart x hm S.loc, S.nd⟩
      have pg : PG (cxLC X x sc G.objs.size fp s H) (.Name x px) (gName 0) := pg_name hN rfl (.inl (lookup_relabel_local S.loc)) (.inr (lookup_relabel_local S.loc))
      refine thn (pg _ s5 _ H5 y u (fun σ6 H6 => σ6 = some y :: σ ∧ H6 = H5) I5' r5 ⟨rfl, rfl⟩) fun _ s6 ⟨σ6, H6, I6, e6, e6'⟩ => ?_
      subst e6; subst e6'
      refine thn (ht G.objs.size s H _ s6 _ H6 _ I6 (step y H6 y5)) fun ok s7 ⟨H7, I7, q7⟩ => ?_
      have again : ∀ {H8 : Hp} {s8 : Shared} {zs : List V}, Inv (cxLC X x sc G.objs.size fp s H) ([] ++ pinsAt fp s5.heap) (some y :: σ) H8 s8 → (∃ m', m' < n ∧ W (i + 1) m' zs H8) → ∃ m, m < n ∧ ∃ i w ys H', Inv (cxLC X x sc G.objs.size fp s H) [] (w :: σ) H' s8 ∧ tn i s8.heap ∧ (∀ b ∈ fp, H' b = none) ∧ W i m ys H' := fun {H8 s8 zs} I8 ⟨m', hm, w8⟩ => by
        refine ⟨m', hm, i + 1, some y, zs, H8, I8.unpinned, T.keep _ _ _ st5 fun b hb o e => (I8.pin (b, o) (List.mem_append_right _ (List.mem_append_right _ (mem_pinsAt hb e)))).1, fun b hb => ?_, w8⟩
        obtain ⟨o, e, d⟩ := T.obj _ _ st5 b hb
        exact (I8.pin (b, o) (List.mem_append_right _ (List.mem_append_right _ (mem_pinsAt hb e)))).2.1
      cases ok with
      | false =>
        rw [if_neg Bool.false_ne_true] at q7 ⊢
        exact again I7 q7
      | true =>
        rw [if_pos rfl] at q7 ⊢
        refine thn (he G.objs.size s H _ s7 _ H7 _ I7 q7) fun z s8 ⟨zv, H8, I8, r8, hD8, hz8, w8⟩ => ?_
        refine thn (mt_append _ s8 _ H8 (.ref s.heap.objs.size) [zv] (.ref s.heap.objs.size) [z] (fun _ H9 => ∃ m', m' < n ∧ W (i + 1) m' (ys ++ [zv]) H9) I8 rfl (.cons r8 .nil) ⟨_, ys, zv, rfl, rfl, hD8, hz8, w8⟩) fun _ s9 ⟨_, H9, I9, _, w9⟩ => ?_
        exact again I9 w9
  exact codeAny_compStart_list (loop _ rfl) (T.self X.A 0 _ _ _ st1 (loop _ rfl))

theorem pe_lc (hc : X.calm = true) (S : LcScope X x sc) (hi : PI X (.Name x px) iter wi) (ht : ∀ C fp s0 H0, PTs (cxLC X x sc C fp s0 H0) ifs tc) (he : ∀ C fp s0 H0, PE (cxLC X x sc C fp s0 H0) elt te)
    (hs : ∀ v, foldedSetIterable iter X.env v = pure v := by intro _; rfl) : PE X (.ListComp elt [⟨.Name x px, iter, ifs, 0⟩] sc pos) (tLC wi tc te) := by
  refine ⟨?_⟩
  intro pins s σ H Q I h
  rw [eval_ListComp]
  refine wpAny_comprehension_free (use := none) rfl hs (closure_eq (S.cells I.ok)) S.kind S.names (thn (hi pins s σ H _ I h) fun v s1 h1 => thn h1 fun itv s2 h2 => ?_)
  obtain ⟨it, fp, tn, J, H2, e, I2, T, st2, f2, q2⟩ := h2
  subst e
  refine lc_block (RR := fun acc C => compPost (model X.prog X.w) X.A X.xe none (EP X pins σ Q) acc C) (Fin := fun D H3 => Q (.ref D) H3) hc S I2 T st2 f2 (fun C s0 H0 => ht C fp s0 H0) (fun C s0 H0 => he C fp s0 H0) q2 ?_
  intro D C H3 s3 m hC I3 hn hN q3
  refine ⟨m, hN, fun h' hs' => ⟨.ref D, H3, I3.butC hs' (Nat.le_trans I2.sz hC) hn (Nat.ne_of_gt (Nat.lt_of_lt_of_le I2.lt hC)) (fun y c e => ?_) (fun p hp => ?_), rfl, q3⟩⟩
  · obtain ⟨v, z⟩ := I2.cell y c e
    exact Nat.ne_of_lt (Nat.lt_of_lt_of_le z.lt hC)
  · exact Nat.ne_of_lt (Nat.lt_of_lt_of_le (Heap.lt_size (I2.pin p hp).1) hC)

/-- name = [.. for ..]: the name is stored ahead of the block's names' going -/
theorem ps_setLC {i : Nat} {y : Str} {py spos : Pos} (hc : X.calm = true) (hi' : X.N[i]? = some y) (hy : X.env.scope.names.lookup y = some .local) (S : LcScope X x sc) (hi : PI X (.Name x px) iter wi) (ht : ∀ C fp s0 H0, PTs (cxLC X x sc C fp s0 H0) ifs tc) (he : ∀ C fp s0 H0, PE (cxLC X x sc C fp s0 H0) elt te)
    (hsw : swapsWith (.ListComp elt [⟨.Name x px, iter, ifs, 0⟩] sc pos) (some (.Name y py)) spos.line X.env = pure true := by rfl) (hs : ∀ v, foldedSetIterable iter X.env v = pure v := by intro _; rfl) :
    PS X (.Assign [.Name y py] (.ListComp elt [⟨.Name x px, iter, ifs, 0⟩] sc pos) spos) (tAsg (tLC wi tc te) (gName i)) := by
  refine ⟨?_⟩
  intro pins s σ H Dn I h
  rw [exec_Assign_Name_used _ _ _ _ hsw]
  refine wpAny_bind (wpAny_standAt (wpAny_bind ?_))
  show wpAny _ X.A (do let _ ← comprehension (.ListComp elt [⟨.Name x px, iter, ifs, 0⟩] sc pos) sc X.env _ (newList []) false (eval iter X.env) (some (assign (.Name y py) X.env))) _ _ s
  refine wpAny_bind (wpAny_mono (wpAny_comprehension_free (use := some (assign (.Name y py) X.env)) (Q := fun _ s' => SP X pins Dn .next s') rfl hs (closure_eq (S.cells I.ok)) S.kind S.names
    (thn (hi pins s σ H _ I h) fun v s1 h1 => thn h1 fun itv s2 h2 => ?_)) (fun _ s' hq => wpAny_pure (wpAny_pure hq)) fun _ _ e => e)
  obtain ⟨it, fp, tn, J, H2, e, I2, T, st2, f2, q2⟩ := h2
  subst e
  refine lc_block (RR := fun acc C => compPost (model X.prog X.w) X.A X.xe (some (assign (.Name y py) X.env)) (fun _ s' => SP X pins Dn .next s') acc C) (Fin := fun D H3 => gName i (.ref D) σ H3 Dn.nx) hc S I2 T st2 f2 (fun C s0 H0 => ht C fp s0 H0) (fun C s0 H0 => he C fp s0 H0) q2 ?_
  intro D C H3 s3 m hC I3 hn hN q3
  show wpAny _ _ (assign (.Name y py) X.env (.ref D)) _ _ s3
  have cne : ∀ y c, X.env.cells.lookup y = some c → c ≠ C := fun y c e => by
    obtain ⟨v, z⟩ := I2.cell y c e
    exact Nat.ne_of_lt (Nat.lt_of_lt_of_le z.lt hC)
  refine wpAny_assign_Name (store_ok2 I3 S.nd hi' (.inl hy) (show RelV (.ref D) (.ref D) from rfl) (fun s4 I4 ⟨a, hs4, ha⟩ => ?_) (.inr hy))
  have haC : C ≠ a := by
    rcases ha with e | e
    · rw [e]; exact Nat.ne_of_gt (Nat.lt_of_lt_of_le I2.lt hC)
    · exact Ne.symm (cne y a e)
  refine ⟨m, hN.sameBut hs4 haC, fun h' hs' => ⟨_, H3, I4.butC hs' (Nat.le_trans I2.sz hC) hn (Nat.ne_of_gt (Nat.lt_of_lt_of_le I2.lt hC)) cne (fun p hp => ?_), q3⟩⟩
  exact Nat.ne_of_lt (Nat.lt_of_lt_of_le (Heap.lt_size (I2.pin p hp).1) hC)
end

/-! ### the forms one uses -/
end L2
set_option Elab.async false
set_option linter.all false
set_option maxRecDepth 100000
set_option Elab.async false
set_option linter.all false
set_option maxRecDepth 100000
namespace L2
open PySem PySem.Spec PyProof.Rows
/-! ### defs of the text, and what they promise -/
structure Fn (K : PySem.W.Frag) (mg : Str → Option Value) (x : Str) (st : Stmt) (ps : List Str) (f : Addr) (fd : FuncData) : Prop where
  fn : Fun K x x st f fd
  m : mg x = some (.ref f)
  b : Binds K fd ps []
structure Fm (K : PySem.W.Frag) (C : Addr) (x qual : Str) (st : Stmt) (ps : List Str) (f : Addr) (fd : FuncData) : Prop where
  fn : Fun K x qual st f fd
  m : Meth K C x f
  b : Binds K fd ps []
def Can (P : Program) (w : World) (K : PySem.W.Frag) (mg : Str → Option Value) (base : Heap) (k : Nat) (x : Str) (ps : List Str) (sp : Sp) : Prop :=
  ∃ f fd, FnOk P w K mg base CX0 k f fd ps sp ∧ mg x = some (.ref f) ∧ PySem.W.keepIn K (.ref f) = true ∧ Binds K fd ps []
def CanM (P : Program) (w : World) (K : PySem.W.Frag) (mg : Str → Option Value) (base : Heap) (C : Addr) (k : Nat) (x : Str) (ps : List Str) (sp : Sp) : Prop :=
  ∃ f fd, FnOk P w K mg base CX0 k f fd ps sp ∧ Meth K C x f ∧ Binds K fd ps []
section
variable {P : Program} {w : World} {K : PySem.W.Frag} {mg : Str → Option Value} {base : Heap}
theorem fn_can {x : Str} {st : Stmt} {N ps : List Str} {k : Nat} {sp : Sp} (h : ∃ f fd, Fn K mg x st ps f fd) (S : FnScope N ps (defScope st)) (len : ∀ vs H Q E, sp vs H Q E → vs.length = ps.length)
    (hbody : ∀ (f : Addr) (cdv : Value) (A : Around) (outer : List Env) (s : Shared) (H : Hp) (vs : List V) (Q : VK) (E : XK), Room k (A.deeper (envOfC x (defScope st) s.heap.objs.size f cdv)) → sp vs H Q E →
      ∃ t, PSs (cxOf CX0 P w K mg base N x (defScope st) f cdv A outer s H E).nox (defBody st) t ∧ t { nx := fun _ H' => Q .non H', rt := Q } (start N vs) H) : Can P w K mg base (k + 1) x ps sp := by
  obtain ⟨f, fd, F⟩ := h
  exact ⟨f, fd, F.fn.ok S len fun cdv A outer s H vs Q E hr h => hbody f cdv A outer s H vs Q E hr h, F.m, F.fn.kp, F.b⟩
theorem fm_can {C : Addr} {x qual : Str} {st : Stmt} {N ps : List Str} {k : Nat} {sp : Sp} (h : ∃ f fd, Fm K C x qual st ps f fd) (S : FnScope N ps (defScope st)) (len : ∀ vs H Q E, sp vs H Q E → vs.length = ps.length)
    (hbody : ∀ (f : Addr) (cdv : Value) (A : Around) (outer : List Env) (s : Shared) (H : Hp) (vs : List V) (Q : VK) (E : XK), Room k (A.deeper (envOfC qual (defScope st) s.heap.objs.size f cdv)) → sp vs H Q E →
      ∃ t, PSs (cxOf CX0 P w K mg base N qual (defScope st) f cdv A outer s H E).nox (defBody st) t ∧ t { nx := fun _ H' => Q .non H', rt := Q } (start N vs) H) : CanM P w K mg base C (k + 1) x ps sp := by
  obtain ⟨f, fd, F⟩ := h
  exact ⟨f, fd, F.fn.ok S len fun cdv A outer s H vs Q E hr h => hbody f cdv A outer s H vs Q E hr h, F.m, F.b⟩
end
section
variable {X : Cx} {k k' : Nat} {x m : Str} {ps : List Str} {sp : Sp} {p pos apos : Pos} {e o : Expr} {es : List Expr} {ta : TE} {t : TA} {C : Addr}
theorem pe_can (h : Can X.prog X.w X.K X.mg X.base k x ps sp) (hr : Room k' X.A) (ha : PA X (e :: es) t) (hg : Gl X x := by rfl) (hk : k ≤ k' := by decide) (hdb : (x == ("__debug__" : Str)) = false := by decide)
    (hs : starEach (e :: es) X.env = (false, eval e X.env) :: starEach es X.env := by rfl) (hpl : (backTo pos (starEach es X.env)).any (·.1) = false := by rfl) : PE X (.Call (.Name x p) (e :: es) [] pos) (tCall sp [] E0 t) := by
  obtain ⟨f, fd, F, hm, kp, b⟩ := h
  exact pe_call F (hr.mono hk) hg hm kp b .nil pass0 ha hdb hs hpl
theorem pe_canM {pl : Sem Bool} (ho : PE X o ta) (c : Cls X.K C) (h : CanM X.prog X.w X.K X.mg X.base C k m ps sp) (hr : Room k' X.A) (ha : PA X (e :: es) t) (hk : k ≤ k' := by decide)
    (hst : starEach (e :: es) X.env = (false, eval e X.env) :: starEach es X.env := by rfl) (hpl : (backTo pos (starEach es X.env)).any (·.1) = false := by rfl)
    (ht : eval (.Call (.Attribute o m apos) (e :: es) [] pos) X.env = (do
      let ov ← eval o X.env
      standAt apos.atName
      let (f, first) ← holding [ov] (getMethod ov m pl)
      callWith pos f first (backTo pos (starEach (e :: es) X.env)) (backToKw pos (keywordEach [] X.env))) := by rfl) : PE X (.Call (.Attribute o m apos) (e :: es) [] pos) (tMeth C m sp [] E0 ta t) := by
  obtain ⟨f, fd, F, hm, b⟩ := h
  exact pe_meth (pl := pl) ho c hm F (hr.mono hk) b .nil pass0 ha hst hpl ht
theorem pe_canM0 {pl : Sem Bool} (ho : PE X o ta) (c : Cls X.K C) (h : CanM X.prog X.w X.K X.mg X.base C k m ps sp) (hr : Room k' X.A) (hk : k ≤ k' := by decide)
    (ht : eval (.Call (.Attribute o m apos) [] [] pos) X.env = (do
      let ov ← eval o X.env
      standAt apos.atName
      let (f, first) ← holding [ov] (getMethod ov m pl)
      callWith pos f first (backTo pos (starEach [] X.env)) (backToKw pos (keywordEach [] X.env))) := by rfl) : PE X (.Call (.Attribute o m apos) [] [] pos) (tMeth C m sp [] E0 ta tNil) := by
  obtain ⟨f, fd, F, hm, b⟩ := h
  exact pe_meth0 (pl := pl) ho c hm F (hr.mono hk) b .nil pass0 ht
theorem pe_gi {n : Int} (h : ∃ t, X.mg x = some (.int n t)) (hg : Gl X x := by rfl) (hd : (x == ("__debug__" : Str)) = false := by decide) : PE X (.Name x pos) (tC (.int n)) := by
  obtain ⟨t, h⟩ := h
  exact pe_glob hg h ⟨t, rfl⟩ hd
/-- T-names, builtins in short -/
theorem pe_b {id : String} {r : List V → Hp → VK → Prop} (hc : CallR X (.builtin id) r) (hm : X.mg x = none) (hv : bootBuiltins x = some (.builtin id)) (ha : PA X (e :: es) t) (hg : Gl X x := by rfl) (hn : x ≠ "__name__" := by decide) (hdb : (x == ("__debug__" : Str)) = false := by decide)
    (he : starEach (e :: es) X.env = (false, eval e X.env) :: starEach es X.env := by rfl) (hpl : (backTo pos (starEach es X.env)).any (·.1) = false := by rfl) : PE X (.Call (.Name x p) (e :: es) [] pos) (tCB r t) := pe_callB hc hg hm hv ha hn hdb he hpl
theorem pe_t {T : String} {r : List V → Hp → VK → Prop} (hc : CallR X (.type T) r) (hm : X.mg x = none) (hv : bootBuiltins x = some (.type T)) (ha : PA X (e :: es) t) (hg : Gl X x := by rfl) (hn : x ≠ "__name__" := by decide) (hdb : (x == ("__debug__" : Str)) = false := by decide)
    (he : starEach (e :: es) X.env = (false, eval e X.env) :: starEach es X.env := by rfl) (hpl : (backTo pos (starEach es X.env)).any (·.1) = false := by rfl) : PE X (.Call (.Name x p) (e :: es) [] pos) (tCB r t) := pe_callTy hc hg hm hv ha hn hdb he hpl
theorem pa1 {a : Expr} {ta : TE} (ha : PE X a ta) (hs : starEach [a] X.env = (false, eval a X.env) :: starEach [] X.env := by rfl) : PA X [a] (tCons ta tNil) := pa_cons ha pa_nil hs
theorem pa2 {a b : Expr} {ta tb : TE} (ha : PE X a ta) (hb : PE X b tb) (hs : starEach [a, b] X.env = (false, eval a X.env) :: starEach [b] X.env := by rfl) (hs2 : starEach [b] X.env = (false, eval b X.env) :: starEach [] X.env := by rfl) : PA X [a, b] (tCons ta (tCons tb tNil)) := pa_cons ha (pa_cons hb pa_nil hs2) hs
theorem pa3 {a b c : Expr} {ta tb tc : TE} (ha : PE X a ta) (hb : PE X b tb) (hc : PE X c tc) (hs : starEach [a, b, c] X.env = (false, eval a X.env) :: starEach [b, c] X.env := by rfl) (hs1 : starEach [b, c] X.env = (false, eval b X.env) :: starEach [c] X.env := by rfl) (hs2 : starEach [c] X.env = (false, eval c X.env) :: starEach [] X.env := by rfl) : PA X [a, b, c] (tCons ta (tCons tb (tCons tc tNil))) := pa_cons ha (pa_cons hb (pa_cons hc pa_nil hs2) hs1) hs
end
/-- all that was tracked but p is as it was -/
def But (p : Addr) (H H' : Hp) : Prop := ∀ b o, H b = some o → b ≠ p → H' b = some o
theorem But.trans {p : Addr} {H H1 H2 : Hp} (a : But p H H1) (b : But p H1 H2) : But p H H2 := fun c o h n => b c o (a c o h n) n
theorem Same.but {p : Addr} {H H' : Hp} (a : Same H H') : But p H H' := fun b o h _ => a b o h
theorem Same.upd {H : Hp} {p : Addr} {o : HO} (h : H p = none) : Same H (upd H p o) := fun b u e => by rw [upd_ne (ne_of_none e h)]; exact e
end L2
set_option Elab.async false
set_option linter.all false
set_option maxRecDepth 100000
namespace L2
open PySem PySem.Spec PyProof.Rows
theorem ul1 : ∀ {us : List Value}, us.length = 1 → ∃ a, us = [a]
  | [a], _ => ⟨a, rfl⟩
theorem ul2 {us : List Value} (h : us.length = 2) : ∃ a b, us = [a, b] := by
  cases us with
  | nil => cases h
  | cons a r => obtain ⟨b, rfl⟩ := ul1 (Nat.succ.inj h); exact ⟨a, b, rfl⟩
theorem ul3 {us : List Value} (h : us.length = 3) : ∃ a b c, us = [a, b, c] := by
  cases us with
  | nil => cases h
  | cons a r => obtain ⟨b, c, rfl⟩ := ul2 (Nat.succ.inj h); exact ⟨a, b, c, rfl⟩
theorem ul4 {us : List Value} (h : us.length = 4) : ∃ a b c d, us = [a, b, c, d] := by
  cases us with
  | nil => cases h
  | cons a r => obtain ⟨b, c, d, rfl⟩ := ul3 (Nat.succ.inj h); exact ⟨a, b, c, d, rfl⟩
theorem ul5 {us : List Value} (h : us.length = 5) : ∃ a b c d e, us = [a, b, c, d, e] := by
  cases us with
  | nil => cases h
  | cons a r => obtain ⟨b, c, d, e, rfl⟩ := ul4 (Nat.succ.inj h); exact ⟨a, b, c, d, e, rfl⟩
section
variable {K : PySem.W.Frag} {x qual p q r s t u : Str} {st : Stmt} {g : Addr} {fd : FuncData}
abbrev fnQ (x qual : Str) (st : Stmt) (kV doc pm : Value) (an : Option Addr) (cdv ct : Value) : FuncData := PySem.W.fnOf x qual (defArgs st) (defBody st) (defScope st) .none kV doc pm an cdv ct
theorem Fun.b1 (F : Fun K x qual st g fd) (h : ∀ kV doc pm an cdv ct a, bindArgs (fnQ x qual st kV doc pm an cdv ct) ⟨[a], []⟩ = pure [(p, a)]) : Binds K fd [p] [] := F.binds fun kV doc pm an cdv ct us hl => by
  obtain ⟨a, rfl⟩ := ul1 hl
  exact h kV doc pm an cdv ct a
theorem Fun.b2 (F : Fun K x qual st g fd) (h : ∀ kV doc pm an cdv ct a b, bindArgs (fnQ x qual st kV doc pm an cdv ct) ⟨[a, b], []⟩ = pure [(p, a), (q, b)]) : Binds K fd [p, q] [] := F.binds fun kV doc pm an cdv ct us hl => by
  obtain ⟨a, b, rfl⟩ := ul2 hl
  exact h kV doc pm an cdv ct a b
theorem Fun.b3 (F : Fun K x qual st g fd) (h : ∀ kV doc pm an cdv ct a b c, bindArgs (fnQ x qual st kV doc pm an cdv ct) ⟨[a, b, c], []⟩ = pure [(p, a), (q, b), (r, c)]) : Binds K fd [p, q, r] [] := F.binds fun kV doc pm an cdv ct us hl => by
  obtain ⟨a, b, c, rfl⟩ := ul3 hl
  exact h kV doc pm an cdv ct a b c
theorem Fun.b4 (F : Fun K x qual st g fd) (h : ∀ kV doc pm an cdv ct a b c d, bindArgs (fnQ x qual st kV doc pm an cdv ct) ⟨[a, b, c, d], []⟩ = pure [(p, a), (q, b), (r, c), (s, d)]) : Binds K fd [p, q, r, s] [] := F.binds fun kV doc pm an cdv ct us hl => by
  obtain ⟨a, b, c, d, rfl⟩ := ul4 hl
  exact h kV doc pm an cdv ct a b c d
theorem Fun.b5 (F : Fun K x qual st g fd) (h : ∀ kV doc pm an cdv ct a b c d e, bindArgs (fnQ x qual st kV doc pm an cdv ct) ⟨[a, b, c, d, e], []⟩ = pure [(p, a), (q, b), (r, c), (s, d), (t, e)]) : Binds K fd [p, q, r, s, t] [] := F.binds fun kV doc pm an cdv ct us hl => by
  obtain ⟨a, b, c, d, e, rfl⟩ := ul5 hl
  exact h kV doc pm an cdv ct a b c d e
end
end L2
set_option Elab.async false
set_option linter.all false
set_option maxRecDepth 100000
/-! errors of own classes: raise, and how they pass through defs -/
namespace L2
open PySem PySem.Spec PyProof.Rows
section
variable {P : Program} {w : World} {H H' : Hp} {h h' : Heap} {a : Addr} {o : HO}
theorem ObjOk.there (x : ObjOk P w H h a o) : ∃ ob, h.get? a = some ob := by
  cases o with
  | lst xs => obtain ⟨_, _, _, _, e⟩ := x; exact ⟨_, e⟩
  | tup xs => obtain ⟨_, _, _, ob, e, _⟩ := x; exact ⟨_, e⟩
  | dK kvs => obtain ⟨_, _, _, _, o, _, _, e, _⟩ := x; exact ⟨_, e⟩
  | dT kvs => obtain ⟨_, _, _, _, o, _, _, e, _⟩ := x; exact ⟨_, e⟩
  | set S n => obtain ⟨o, _, _, _, e, _⟩ := x; exact ⟨_, e⟩
  | ins C dx fs => obtain ⟨_, _, _, e, _⟩ := x; exact ⟨_, e⟩
  | own y => exact x
  | xd fs => obtain ⟨_, ⟨_, _, _, e, _⟩, _⟩ := x; exact ⟨_, e⟩
  | rng lo hi => obtain ⟨_, _, _, e⟩ := x; exact ⟨_, e⟩
  | frz ob u => obtain ⟨e, _⟩ := x; exact ⟨_, e⟩
  | tbl ps => exact ⟨_, x⟩
  | met f y => exact ⟨_, x⟩
  | ext φ => obtain ⟨_, ⟨_, e⟩, _⟩ := x; exact ⟨_, e⟩
theorem HOk.none (x : HOk P w H h) (e : h.get? a = .none) : H a = .none := by
  cases q : H a with
  | none => rfl
  | some u => obtain ⟨_, e'⟩ := (x a u q).there; rw [e] at e'; cases e'
theorem funs_un {base : Heap} {fs : List Addr} (u : Un fs [] H H' h h') : ∀ {l : List Env}, (∀ b ∈ frs l, b ∈ fs ∧ H b = .none) → h.FunFrames base l → h'.FunFrames base l
  | [], _, _ => trivial
  | env :: r, hs, hl => by
    obtain ⟨hk, ⟨L, o, hf, hn, ho, hd⟩, hr⟩ := hl
    have hL := hs L (by unfold frs; rw [List.filterMap_cons, hf]; exact List.mem_cons_self)
    obtain ⟨sl, e⟩ := u.slot L o ho hL.2 hL.1 (by simp)
    exact ⟨hk, ⟨L, _, hf, hn, e, hd⟩, funs_un u (fun b hb => hs b (by unfold frs; rw [List.filterMap_cons, hf]; exact List.mem_cons_of_mem _ hb)) hr⟩
end
/-- how an error's record stands: new, or with its traceback; g: the heap ahead of it -/
inductive XRec (g h : Heap) (H' : Hp) (a : Addr) (cls : Value) : Bool → Prop
  | new (oe : Obj) (vs : Array Value) (he : h.get? a = some oe) (hc : oe.cls = cls) (hd : oe.data = .fields vs) (hdi : oe.dict = none) (hn : H' a = none) (hg : g.get? a = none) (h1 : vs[1]? = some .none) : XRec g h H' a cls true
  | old (oe : Obj) (vs : Array Value) (he : h.get? a = some oe) (hc : oe.cls = cls) (hd : oe.data = .fields vs) (hdi : oe.dict = none) (hn : H' a = none) (hg : g.get? a = none) (T : Addr) (oT : Obj) (ts : Array Value) (h1 : vs[1]? = some (.ref T)) (ht : T ≠ a) (hT : h.get? T = some oT)
      (hdT : oT.data = .fields ts) (h3 : ts[3]? = some .none) (hnT : H' T = none) (hgT : g.get? T = none) : XRec g h H' a cls false
theorem XRec.base {g h : Heap} {H' : Hp} {a : Addr} {cls : Value} {b : Bool} (x : XRec g h H' a cls b) : H' a = none ∧ g.get? a = none := by
  cases x with
  | new oe vs he hc hd hdi hn hg => exact ⟨hn, hg⟩
  | old oe vs he hc hd hdi hn hg => exact ⟨hn, hg⟩
structure EX (P : Program) (w : World) (st : List Env) (H : Hp) (s : Shared) (new : Bool) (cls : Value) (a : Addr) (H' : Hp) (s' : Shared) : Prop where
  os : s'.os = s.os
  bare : AllBare s'.gens
  un : Un (frs st) [] H H' s.heap s'.heap
  hok : HOk P w H' s'.heap
  rc : XRec s.heap s'.heap H' a cls new
def CX1 (P : Program) (w : World) : CXT := fun outer H s E e s' => ∃ a cls H', e = .ref a ∧ EX P w outer H s false cls a H' s' ∧ E cls none H'
section
variable {X : Cx} {pins : List (Addr × Obj)} {σ : St} {H H' : Hp} {s s₁ : Shared} {cls : Value} {a : Addr} {new : Bool}
/-- behind an error, in the same def -/
theorem EX.inv (I : Inv X pins σ H s) (x : EX X.prog X.w X.stack H s new cls a H' s₁) : Inv X pins σ H' s₁ := I.call' x.os x.un x.hok x.bare fun b hb => by simp at hb
/-- what a frame's note leaves -/
structure Noted (fs : List Addr) (e : Addr) (oe : Obj) (h h₃ : Heap) : Prop where
  stay : ∀ b o, b ∉ fs → b ≠ e → h.get? b = some o → h₃.get? b = some o
  slot : ∀ b ∈ fs, ∀ o, h.get? b = some o → ∃ sl, h₃.get? b = some { o with slots := sl }
  tr : ∃ T oT ts, h.objs.size ≤ T ∧ h₃.get? e = some (oe.mapFields fun z => z.setIfInBounds 1 (.ref T)) ∧ h₃.get? T = some oT ∧ oT.data = .fields ts ∧ ts[3]? = some .none
theorem x_entry {M : Model} {A : Around} {E : Value → Shared → Prop} {s : Shared} {base : Heap} {env : Env} {outer : List Env} {L e : Addr} {oe : Obj} {vs : Array Value} {head : Value} {hadNext : Bool} {Q : Unit → Shared → Prop}
    (hfr : A.frames = some (env :: outer)) (hl : s.heap.FunFrames base (env :: outer)) (hf : env.frame = some L) (he : s.heap.get? e = some oe) (hd : oe.data = .fields vs) (hsz : 1 < vs.size) (h : ∀ h₃, Noted (frs (env :: outer)) e oe s.heap h₃ → Q () { s with heap := h₃ }) :
    wpAny M A (do let a ← frameOf env; let pl ← entryPlaceOf L hadNext; let b ← EntryCells.newEntry head a .none (rawInt L) .none pl; setField (.ref e) 1 b) (fun _ s' => wpAny M A (setFlight (.ref e) none) Q E s') E s := by
  have hene : e ∉ frs (env :: outer) := fun hm => by
    obtain ⟨_, o, ho, hnf⟩ := hl.mem hm
    rw [he] at ho; cases ho; exact hnf vs hd
  refine wpAny_bind (wpAny_frameOf_fun hfr hl hf fun h₁ hs₁ => wpAny_bind (wpAny_entryPlaceOf fun pl hpl => ?_))
  unfold EntryCells.newEntry newFields
  refine wpAny_bind (wpAny_newObj_type ?_ (hpl.sizeOk5 _ _ _ _ _))
  generalize htb : ({ cls := .type "traceback", dict := none, data := .fields ([head, .ref L, .none, rawInt L, .none] ++ (if pl.isEmpty then List.replicate 6 Value.none else pl)).toArray } : Obj) = tb
  have he₁ : h₁.get? e = some oe := (hs₁.2.1 e hene).trans he
  have he₂ : (h₁.push tb).get? e = some oe := Heap.get?_push_of_some _ he₁
  refine wpAny_setField he₂ hd hsz ?_
  have nTe : h₁.objs.size ≠ e := Nat.ne_of_gt (Heap.lt_size he₁)
  have hd₃ := Obj.data_mapFields hd fun z => z.setIfInBounds 1 (Value.ref h₁.objs.size)
  have he₃ := Heap.get?_update_self (Obj.mapFields fun z => z.setIfInBounds 1 (Value.ref h₁.objs.size)) he₂ (Obj.isFreed_of_fields hd₃)
  have dtb : tb.data = .fields ([head, .ref L, .none, rawInt L, .none] ++ (if pl.isEmpty then List.replicate 6 Value.none else pl)).toArray := by rw [← htb]
  have htbf : tb.isFreed = false := Obj.isFreed_of_fields dtb
  have hT₃ := (Heap.get?_update_other (h₁.push tb) (Obj.mapFields fun z => z.setIfInBounds 1 (Value.ref h₁.objs.size)) (Ne.symm nTe)).trans (Heap.get?_push_size h₁ htbf)
  unfold setFlight
  refine wpAny_bind (wpAny_field he₃ hd₃ (x := .ref h₁.objs.size) (by simp [hsz]) ?_)
  rw [if_pos (show (Value.ref h₁.objs.size != Value.none) = true by simp)]
  have sz5 : 3 < ([head, .ref L, .none, rawInt L, .none] ++ (if pl.isEmpty then List.replicate 6 Value.none else pl)).toArray.size := by
    rw [List.size_toArray, List.length_append]
    exact Nat.lt_of_lt_of_le (by decide : 3 < 5) (Nat.le_add_right _ _)
  refine wpAny_setField hT₃ dtb sz5 (h _ ⟨fun b o hb hbe hbo => ?_, fun b hb o hbo => ?_, ?_⟩)
  · have hb1 : h₁.get? b = some o := (hs₁.2.1 b hb).trans hbo
    rw [Heap.get?_update_other _ _ (Nat.ne_of_gt (Heap.lt_size hb1)), Heap.get?_update_other _ _ (Ne.symm hbe)]
    exact Heap.get?_push_of_some _ hb1
  · obtain ⟨sl, hb1⟩ := hs₁.2.2 b o hbo
    refine ⟨sl, ?_⟩
    rw [Heap.get?_update_other _ _ (Nat.ne_of_gt (Heap.lt_size hb1)), Heap.get?_update_other _ _ (fun q => hene (by rw [q]; exact hb))]
    exact Heap.get?_push_of_some _ hb1
  · refine ⟨h₁.objs.size, _, _, Nat.le_of_eq hs₁.1.symm, ?_, Heap.get?_update_self _ hT₃ (Obj.isFreed_of_fields (Obj.data_mapFields dtb _)), Obj.data_mapFields dtb _, ?_⟩
    · rw [Heap.get?_update_other _ _ nTe]; exact he₃
    · rw [Array.getElem?_setIfInBounds_self_of_lt sz5]
      rfl
theorem EX.fin (I : Inv X pins σ H s) (x : EX X.prog X.w X.stack H s new cls a H' s₁) {oe : Obj} {vs : Array Value} (he : s₁.heap.get? a = some oe) (hc : oe.cls = cls) (hd : oe.data = .fields vs) (hdi : oe.dict = none) (hv : 1 < vs.size) {T0 : Option Addr}
    (hT0 : ∀ T, T0 = some T → H' T = none ∧ s.heap.get? T = none) {g h₃ : Heap} (hg : ∀ b o, (∀ T, T0 = some T → b ≠ T) → s₁.heap.get? b = some o → g.get? b = some o) (hgf : ∀ b ∈ frs X.stack, ∀ o, s₁.heap.get? b = some o → g.get? b = some o) (hgs : s₁.heap.objs.size ≤ g.objs.size)
    (hge : g.get? a = some oe) (nt : Noted (frs X.stack) a oe g h₃) : EX X.prog X.w X.stack H s false cls a H' { s₁ with heap := h₃ } := by
  obtain ⟨stay, slot, T, oT, ts, hTs, heT, hT, hdT, h3⟩ := nt
  obtain ⟨b1, b2⟩ := x.rc.base
  have frm : ∀ b ∈ frs X.stack, ∀ o, s.heap.get? b = some o → ∃ sl, h₃.get? b = some { o with slots := sl } := fun b hb o e => by
    obtain ⟨sl, e1⟩ := x.un.slot b o e (I.stkFree b hb) hb (by simp)
    obtain ⟨sl', e2⟩ := slot b hb _ (hgf b hb _ e1)
    exact ⟨sl', e2⟩
  have frn : ∀ b ∈ frs X.stack, H' b = none := fun b hb => by
    obtain ⟨_, o, ho, _⟩ := I.stack.mem hb
    exact x.un.free b o ho (I.stkFree b hb) (by simp)
  refine ⟨x.os, x.bare, ⟨fun b o e n hb _ => ?_, fun b o e n hb _ => frm b hb o e, x.un.free, fun b o e _ => ?_, x.un.tups, x.un.frzs, x.un.tbls⟩, fun b ob e => ?_, ?_⟩
  · refine stay b o hb (fun q => by rw [q, b2] at e; cases e) (hg b o (fun T hT q => by rw [q, (hT0 T hT).2] at e; cases e) (x.un.keep b o e n hb (by simp)))
  · by_cases hm : b ∈ frs X.stack
    · obtain ⟨sl, e2⟩ := frm b hm o e
      exact ⟨_, e2⟩
    · obtain ⟨o', e1⟩ := x.un.there b o e (by simp)
      exact ⟨o', stay b o' hm (fun q => by rw [q, b2] at e; cases e) (hg b o' (fun T hT q => by rw [q, (hT0 T hT).2] at e; cases e) e1)⟩
  · refine (x.hok b ob e).stay (fun c u hc q => ?_) (fun _ q => q) fun _ _ q => q
    have tr : ∃ v, H' c = some v := by
      rcases hc with rfl | hc
      · exact ⟨_, e⟩
      · exact ⟨_, hc⟩
    obtain ⟨v, tr⟩ := tr
    refine stay c u (fun hm => ?_) (fun z => ?_) (hg c u (fun T hT z => ?_) q)
    · rw [frn c hm] at tr; cases tr
    · rw [z, b1] at tr; cases tr
    · rw [z, (hT0 T hT).1] at tr; cases tr
  · have hTn : s₁.heap.get? T = none := Heap.get?_none_of_le (Nat.le_trans hgs hTs)
    have hTa : T ≠ a := fun z => by rw [z, he] at hTn; cases hTn
    refine .old _ _ heT ((Obj.cls_mapFields ..).trans hc) (Obj.data_mapFields hd _) ?_ b1 b2 T oT ts (by simp [hv]) hTa hT hdT h3 (x.hok.none hTn) ?_
    · obtain ⟨c0, d0, dt, sl⟩ := oe
      dsimp only at hd hdi
      subst hd hdi
      rfl
    · cases q : s.heap.get? T with
      | none => rfl
      | some o => obtain ⟨o', e2⟩ := x.un.there T o q (by simp); rw [hTn] at e2; cases e2
/-- the frame is noted in the error's traceback -/
theorem note_ex {M : Model} {A : Around} {Q : Unit → Shared → Prop} {E : Value → Shared → Prop} (I : Inv X pins σ H s) (hst : X.stack = X.env :: X.outer) (hf : X.env.frame = some X.env.locals) (hA : A.frames = some X.stack) (x : EX X.prog X.w X.stack H s new cls a H' s₁)
    (h : ∀ h₃, EX X.prog X.w X.stack H s false cls a H' { s₁ with heap := h₃ } → Q () { s₁ with heap := h₃ }) : wpAny M A (noteFrame (.ref a) X.env) (fun _ s₂ => wpAny M A (setFlight (.ref a) none) Q E s₂) E s₁ := by
  have hfun : s₁.heap.FunFrames X.base X.stack := funs_un x.un (fun b hb => ⟨hb, I.stkFree b hb⟩) I.stack
  have rc := x.rc
  cases rc with
  | new oe vs he hc hd hdi hn hg h1 =>
    unfold noteFrame
    simp only [hf]
    refine wpAny_bind (wpAny_field he hd h1 ?_)
    rw [if_neg (by decide)]
    rw [hst] at hA hfun
    refine x_entry hA hfun hf he hd (Array.getElem?_eq_some_iff.mp h1).1 fun h₃ nt => h h₃ (x.fin I he hc hd hdi (Array.getElem?_eq_some_iff.mp h1).1 (T0 := none) (fun _ z => nomatch z) (g := s₁.heap) (fun _ _ _ e => e) (fun _ _ _ e => e) (Nat.le_refl _) he ?_)
    rw [hst]
    exact nt
  | old oe vs he hc hd hdi hn hg T oT ts h1 ht hT hdT h3 hnT hgT =>
    unfold noteFrame
    simp only [hf]
    refine wpAny_bind (wpAny_field he hd h1 ?_)
    rw [if_pos (show (Value.ref T != Value.none) = true by simp)]
    refine wpAny_bind (wpAny_field hT hdT h3 ?_)
    rw [if_neg (show ¬ ((Value.none == rawInt X.env.locals) = true) by simp [rawInt])]
    refine wpAny_bind (wpAny_setField hT hdT (Array.getElem?_eq_some_iff.mp h3).1 ?_)
    have oth : ∀ c, c ≠ T → (s₁.heap.update T (Obj.mapFields fun z => z.setIfInBounds 3 Value.none)).get? c = s₁.heap.get? c := fun c hc => Heap.get?_update_other _ _ (Ne.symm hc)
    have nrec : ∀ c o, s₁.heap.get? c = some o → (∀ z, o.data ≠ .fields z) → c ≠ T := fun c o hc hnf q => by rw [q, hT] at hc; cases hc; exact hnf ts hdT
    have nfr : ∀ c ∈ frs X.stack, c ≠ T := fun c hc q => by
      obtain ⟨_, o, ho, hnf⟩ := hfun.mem hc
      exact nrec c o ho hnf q
    have hfun2 : (s₁.heap.update T (Obj.mapFields fun z => z.setIfInBounds 3 Value.none)).FunFrames X.base X.stack := hfun.of_keeps fun c o hc hnf => ⟨o, (oth c (nrec c o hc hnf)).trans hc, rfl⟩
    rw [hst] at hA hfun2
    have hv := (Array.getElem?_eq_some_iff.mp h1).1
    refine x_entry hA hfun2 hf ((oth a (Ne.symm ht)).trans he) hd hv fun h₃ nt => h h₃ (x.fin I he hc hd hdi hv (T0 := some T) (fun T' z => by cases z; exact ⟨hnT, hgT⟩) (g := s₁.heap.update T (Obj.mapFields fun z => z.setIfInBounds 3 Value.none)) (fun c o n e => (oth c (n T rfl)).trans e) (fun c hc o e => (oth c (nfr c hc)).trans e) (Nat.le_of_eq (Heap.size_after_update ..).symm) ((oth a (Ne.symm ht)).trans he) ?_)
    rw [hst]
    exact nt
/-- an error leaves a def -/
theorem leave_ex {M : Model} {A : Around} {Q : Unit → Shared → Prop} {E : Value → Shared → Prop} (I : Inv X pins σ H s) (hst : X.stack = X.env :: X.outer) (hf : X.env.frame = some X.env.locals) (hA : A.frames = some X.stack) (x : EX X.prog X.w X.stack H s new cls a H' s₁)
    (h : ∀ h₃, EX X.prog X.w X.stack H s false cls a H' { s₁ with heap := h₃ } → Q () { s₁ with heap := h₃ }) : wpAny M A (leaving X.env (.ref a)) Q E s₁ := by
  unfold leaving
  exact wpAny_bind (note_ex I hst hf hA x h)
/-- as the callers see it -/
theorem EX.out (I : Inv X pins σ H s) (hex : X.ex = []) (x : EX X.prog X.w X.stack H s false cls a H' s₁) : EX X.prog X.w X.outer X.H₀ X.s₀ false cls a H' s₁ := by
  have base := I.base
  rw [hex] at base
  have gone : ∀ {b : Addr}, s.heap.get? b = none → X.s₀.heap.get? b = none := fun {b} e => by
    cases q : X.s₀.heap.get? b with
    | none => rfl
    | some o => obtain ⟨o', e2⟩ := base.there b o q (by simp); rw [e] at e2; cases e2
  have nst : ∀ {b : Addr} {o : Obj}, X.s₀.heap.get? b = some o → b ∉ X.fs → b ∉ frs X.stack := fun {b o} e n hm => by
    rcases List.mem_cons.mp (I.stkSub b hm) with z | z
    · exact absurd (Nat.lt_of_lt_of_le (Heap.lt_size e) I.ok.above) (by rw [z]; exact Nat.lt_irrefl _)
    · exact n z
  refine ⟨x.os.trans I.os, x.bare, ⟨fun b o e n hb _ => x.un.keep b o (base.keep b o e n hb (by simp)) (base.free b o e n (by simp)) (nst e hb) (by simp), fun b o e n hb _ => ?_, fun b o e n _ => ?_, fun b o e _ => ?_, fun b xs e => x.un.tups b xs (base.tups b xs e), fun b o u e => x.un.frzs b o u (base.frzs b o u e), fun b ps e => ?_⟩, x.hok, ?_⟩
  · obtain ⟨sl, e1⟩ := base.slot b o e n hb (by simp)
    obtain ⟨sl', e2⟩ := x.un.any e1 (base.free b o e n (by simp)) (by simp)
    exact ⟨sl', e2⟩
  · obtain ⟨sl, e1⟩ := base.any e n (by simp)
    exact x.un.free b _ e1 (base.free b o e n (by simp)) (by simp)
  · obtain ⟨o', e1⟩ := base.there b o e (by simp)
    exact x.un.there b o' e1 (by simp)
  · obtain ⟨m1, e1⟩ := base.tbls b ps e
    obtain ⟨m2, e2⟩ := x.un.tbls b _ e1
    exact ⟨m1 ++ m2, by rw [e2, Array.append_assoc]⟩
  · have rc := x.rc
    cases rc with
    | old oe vs he hc hd hdi hn hg T oT ts h1 ht hT hdT h3 hnT hgT => exact .old oe vs he hc hd hdi hn (gone hg) T oT ts h1 ht hT hdT h3 hnT (gone hgT)
end
/-- what a context wishes of errors -/
structure Wish (X : Cx) (E : XK) : Prop where
  go : ∀ (pins : List (Addr × Obj)) (σ : St) (H : Hp) (s : Shared) (new : Bool) (cls : Value) (a : Addr) (H' : Hp) (s₁ : Shared), Inv X pins σ H s → EX X.prog X.w X.stack H s new cls a H' s₁ → E cls none H' → X.xe (.ref a) s₁
theorem Wish.pass {X : Cx} {E : XK} (W : Wish X E) : Passes (CX1 X.prog X.w) X E := fun pins σ H s e s' I ⟨a, cls, H', e1, x, q⟩ => by
  subst e1
  exact W.go pins σ H s false cls a H' s' I x q
/-- a def's body -/
theorem wish_def {P : Program} {w : World} {K : PySem.W.Frag} {mg : Str → Option Value} {base : Heap} {N : List Str} {qual : Str} {scope : Scope} {f : Addr} {cd : Value} {A : Around} {outer : List Env} {s : Shared} {H : Hp} {E : XK} : Wish (cxOf (CX1 P w) P w K mg base N qual scope f cd A outer s H E) E where
  go := fun pins σ H1 s1 new cls a H' s₁ I x q => by
    show wpAny (model P w) (A.deeper (envOfC qual scope s.heap.objs.size f cd)) (leaving (envOfC qual scope s.heap.objs.size f cd) (.ref a)) _ _ s₁
    refine leave_ex I rfl rfl I.ok.frames x fun h₃ x' => ⟨a, cls, H', rfl, x'.out I rfl, q⟩
end L2
set_option Elab.async false
set_option linter.all false
set_option maxRecDepth 100000
namespace L2
open PySem PySem.Spec PyProof.Rows
/-- an own class of errors, as it lies -/
theorem own_at {K : PySem.W.Frag} {h : Heap} {C : Addr} {bmB : List Value} {newId : String} (X : K.In h) (q : PySem.W.excIn K C bmB newId = true) :
    ∃ bm N nm q bs hdct sn sub ab col dd k0 k1 k2 k3 k5 mN, h.get? C = some (excClassObj nm q C N bs bm hdct sn sub ab col dd k0 k1 k2 k3 k5 newId) ∧ h.Ns N mN ∧ mN "__init__" = none ∧ OwnTail h bmB bm := by
  unfold PySem.W.excIn at q
  split at q
  · rename_i dd cd sl ho
    split at q
    · rename_i C' bm k0 k1 k2 k3 n k5 hm hs
      simp only [Bool.and_eq_true, beq_iff_eq, Bool.not_eq_true'] at q
      obtain ⟨⟨⟨⟨⟨rfl, rfl⟩, hdel⟩, ht⟩, hok⟩, hni⟩ := q
      obtain ⟨nm, bs, mro, ns, qn, hd, sn, sub, ab, col, del⟩ := cd
      dsimp only at hm hdel hok hni
      subst hm hdel
      have hsl : sl = #[k0, k1, k2, k3, some (.builtin n), k5] := by obtain ⟨l⟩ := sl; simp only at hs; rw [hs]
      subst hsl
      exact ⟨bm, ns, nm, qn, bs, hd, sn, sub, ab, col, dd, k0, k1, k2, k3, k5, _, X _ _ ho, .of_isNs (PySem.W.isNs_of_in X hok), PySem.W.nsMap_none_of_in X hok hni, PySem.W.tail_of_in X ht⟩
    · cases q
  · cases q
abbrev bmV : List Value := [.type "ValueError", .type "Exception", .type "BaseException", .type "object"]
/-- an own class of errors over ValueError, by its name -/
structure XCls (K : PySem.W.Frag) (mg : Str → Option Value) (x : Str) (C : Addr) : Prop where
  m : mg x = some (.ref C)
  ok : PySem.W.excIn K C bmV "ValueError.__new__" = true
/-- raise C(..) -/
inductive tRaise (t : TA) (cls : Value) (E : XK) (D : Ends) (σ : St) (H : Hp) : Prop
  | mk (h : t σ H fun vs H1 => vs.length ≤ sizeLine ∧ E cls none H1) : tRaise t cls E D σ H
section
variable {X : Cx} {E : XK} {x : Str} {C : Addr} {e₀ : Expr} {rest : List Expr} {t : TA} {np cpos pos : Pos}
theorem ps_raise (W : Wish X E) (hc : X.calm = true) (hC : XCls X.K X.mg x C) (ha : PA X (e₀ :: rest) t) (hg : Gl X x := by rfl) (he : starEach (e₀ :: rest) X.env = (false, eval e₀ X.env) :: starEach rest X.env := by rfl)
    (hpl : (backTo cpos (starEach rest X.env)).any (·.1) = false := by rfl) (hdb : (x == ("__debug__" : Str)) = false := by decide) : PS X (.Raise (some (.Call (.Name x np) (e₀ :: rest) [] cpos)) none pos) (tRaise t (.ref C) E) := by
  refine ⟨?_⟩
  intro pins s σ H D I h
  obtain ⟨h⟩ := h
  obtain ⟨bm, N, nm, q, bs, hdct, sn, sub, ab, col, dd, k0, k1, k2, k3, k5, mN, hCo, hN, hni, T⟩ := own_at I.mod.kin hC.ok
  refine wpAny_Raise_call_subT (C := C) (nm := nm) (q := q) (N := N) (bs := bs) (bm := bm) (hdct := hdct) (sn := sn) (sub := sub) (ab := ab) (col := col) (dd := dd) (k0 := k0) (k1 := k1) (k2 := k2) (k3 := k3) (k5 := k5) PySem.F.excBase_ValueError (mN := mN)
    (T.hasType PySem.F.excBase_ValueError.hasBase) (I.ok.hd hc) (by rw [he]; show (false || (backTo cpos (starEach rest X.env)).any (·.1)) = false; rw [hpl]; rfl) hni (ld_glob I hg hC.m ⟨rfl, ?_⟩ hdb)
  have hw := ha cpos pins s σ H _ I h
  rw [he] at hw ⊢
  refine Calls.evalArgs_plain (wpAny_mono hw (fun us s₂ h₂ => ?_) fun _ _ y => y)
  obtain ⟨vs, H1, I1, r, hl, qe⟩ := h₂
  refine ⟨rfl, by rw [← r.length]; exact hl, I1.bk _ _ hCo, hN.keeps I1.bk, T.keeps I1.bk, fun h' e hm => ?_⟩
  obtain ⟨tt, he', _, _⟩ := hm.there
  exact W.go pins σ H1 s₂ true (.ref C) e H1 { s₂ with heap := h' } I1 ⟨rfl, I1.bare, Un.kept hm.keeps, I1.hok.kept hm.keeps, .new _ _ he' rfl rfl rfl (I1.hok.none hm.new) hm.new rfl⟩ qe
end
section
variable {P : Program} {w : World} {K : PySem.W.Frag} {mg : Str → Option Value} {base : Heap}
end
section
variable {X : Cx} {k k' : Nat} {x : Str} {ps : List Str} {sp : Sp} {p pos : Pos} {e : Expr} {es : List Expr} {t : TA} {E : XK}
end
/-! ### try -/
abbrev Cx.tryC (X : Cx) (pn : List (Addr × Obj)) (xe : Value → Shared → Prop) : Cx := { X with pn := pn, xe := xe }
abbrev Cx.mark (X : Cx) (a : Addr) : Cx := { X with A := X.A.mark (some (.ref a)), calm := false, xe := fun _ _ => False }
section
variable {X : Cx} {pins pins2 : List (Addr × Obj)} {σ : St} {H : Hp} {s : Shared} {xe : Value → Shared → Prop} {a : Addr}
theorem Cx.Ok.tryC (ok : X.Ok) (pn : List (Addr × Obj)) (xe : Value → Shared → Prop) : (X.tryC pn xe).Ok :=
  ⟨ok.mod, ok.kind, ok.glob, ok.blt, ok.above, ok.inj, ok.has, ok.cab, ok.hd, ok.frames, ok.stk, ok.exf, ok.bs, ok.bsz, ok.noex, ok.exfs, ok.funs, ok.frf⟩
theorem Cx.Ok.untry {pn : List (Addr × Obj)} (ok : (X.tryC pn xe).Ok) : X.Ok :=
  ⟨ok.mod, ok.kind, ok.glob, ok.blt, ok.above, ok.inj, ok.has, ok.cab, ok.hd, ok.frames, ok.stk, ok.exf, ok.bs, ok.bsz, ok.noex, ok.exfs, ok.funs, ok.frf⟩
theorem Inv.tryC (I : Inv X pins σ H s) (xe : Value → Shared → Prop) : Inv (X.tryC (X.pn ++ pins) xe) [] σ H s :=
  ⟨I.ok.tryC _ _, I.os, I.bare, I.base, I.loc, I.cell, I.free, I.freeC, fun p hp => I.pin p (by simpa using hp), I.hok, I.len⟩
theorem Inv.untry (I : Inv (X.tryC (X.pn ++ pins) xe) pins2 σ H s) : Inv X pins σ H s :=
  ⟨I.ok.untry, I.os, I.bare, I.base, I.loc, I.cell, I.free, I.freeC, fun p hp => I.pin p (List.mem_append_left _ hp), I.hok, I.len⟩
theorem SP.untry {D : Ends} {f : Flow} {s' : Shared} (h : SP (X.tryC (X.pn ++ pins) xe) pins2 D f s') : SP X pins D f s' := by
  cases f with
  | next => obtain ⟨σ', H', I, q⟩ := h; exact ⟨σ', H', I.untry, q⟩
  | brk => obtain ⟨σ', H', I, q⟩ := h; exact ⟨σ', H', I.untry, q⟩
  | cont => obtain ⟨σ', H', I, q⟩ := h; exact ⟨σ', H', I.untry, q⟩
  | ret u => obtain ⟨v, σ', H', I, r, q⟩ := h; exact ⟨v, σ', H', I.untry, r, q⟩
theorem Inv.mark (I : Inv X pins σ H s) (a : Addr) : Inv (X.mark a) pins σ H s :=
  ⟨⟨I.ok.mod, I.ok.kind, I.ok.glob, I.ok.blt, I.ok.above, I.ok.inj, I.ok.has, I.ok.cab, (fun z => nomatch z), I.ok.frames, I.ok.stk, I.ok.exf, I.ok.bs, I.ok.bsz, I.ok.noex, I.ok.exfs, I.ok.funs, I.ok.frf⟩, I.os, I.bare, I.base, I.loc, I.cell, I.free, I.freeC, I.pin, I.hok, I.len⟩
theorem Inv.unmark (ok : X.Ok) (I : Inv (X.mark a) pins σ H s) : Inv X pins σ H s := ⟨ok, I.os, I.bare, I.base, I.loc, I.cell, I.free, I.freeC, I.pin, I.hok, I.len⟩
theorem SP.unmark (ok : X.Ok) {D : Ends} {f : Flow} {s' : Shared} (h : SP (X.mark a) pins D f s') : SP X pins D f s' := by
  cases f with
  | next => obtain ⟨σ', H', I, q⟩ := h; exact ⟨σ', H', I.unmark ok, q⟩
  | brk => obtain ⟨σ', H', I, q⟩ := h; exact ⟨σ', H', I.unmark ok, q⟩
  | cont => obtain ⟨σ', H', I, q⟩ := h; exact ⟨σ', H', I.unmark ok, q⟩
  | ret u => obtain ⟨v, σ', H', I, r, q⟩ := h; exact ⟨v, σ', H', I.unmark ok, r, q⟩
end
/-- the clauses of a try, at an error of that class -/
def PHs (X : Cx) (hs : List ExceptHandler) (th : Value → TS) : Prop :=
  ∀ (pins : List (Addr × Obj)) (s : Shared) (σ : St) (H : Hp) (D : Ends) (a : Addr) (cls : Value) (g : Heap), Inv X pins σ H s → XRec g s.heap H a cls false → X.s₀.heap.get? a = none → (∀ p ∈ X.pn ++ pins, p.1 ≠ a) → th cls D σ H → wpAny (model X.prog X.w) X.A (handleBy (.ref a) X.env hs) (SP X pins D) X.xe s
def tTry (n : Nat) (t : XK → TS) (th : Value → TS) : TS := fun D σ H => t (fun cls _ H' => ∀ σ' : St, σ'.length = n → th cls D σ' H') D σ H
section
variable {X : Cx} {body : List Stmt} {h₀ : ExceptHandler} {hs : List ExceptHandler} {t : XK → TS} {th : Value → TS} {pos : Pos}
theorem ps_try {n : Nat} (hb : ∀ (pn : List (Addr × Obj)) (xe : Value → Shared → Prop) (E : XK), Wish (X.tryC pn xe) E → PSs (X.tryC pn xe) body (t E)) (hh : PHs X (h₀ :: hs) th) (hst : X.stack = X.env :: X.outer := by rfl) (hf : X.env.frame = some X.env.locals := by rfl) (hn : X.N.length = n := by rfl) (hex : X.ex = [] := by rfl) :
    PS X (.Try body (h₀ :: hs) [] [] pos) (tTry n t th) := by
  refine ⟨?_⟩
  intro pins s σ H D I h
  refine wpAny_Try_except (wpAny_mono (hb (X.pn ++ pins) (fun e s₁ => wpAny (model X.prog X.w) X.A (noteFrame e X.env) (fun _ s₂ => wpAny (model X.prog X.w) X.A (setFlight e none) (fun _ s₃ => wpAny (model X.prog X.w) X.A (handleBy e X.env (h₀ :: hs)) (SP X pins D) X.xe s₃) X.xe s₂) X.xe s₁) _ ⟨fun pins2 σ2 H2 s2 new cls a H' s₁ I2 x q => ?_⟩ [] s σ H D (I.tryC _) h) (fun f s₁ q => ?_) fun _ _ z => z)
  · have I2' : Inv X pins σ2 H2 s2 := I2.untry
    refine note_ex I2' hst hf I2'.ok.frames x fun h₃ x3 => ?_
    have I3 := x3.inv I2'
    have fr := x3.rc.base.2
    refine hh pins _ σ2 H' D a cls s2.heap I3 x3.rc ?_ (fun p hp z => ?_) (q σ2 (I3.len.trans hn))
    · cases e : X.s₀.heap.get? a with
      | none => rfl
      | some o => obtain ⟨o', e2⟩ := I2'.base.there a o e (by rw [hex]; simp); rw [fr] at e2; cases e2
    · have e := (I2'.pin p hp).1
      rw [z, fr] at e
      cases e
  · cases f with
    | next =>
      obtain ⟨σ', H', I', q'⟩ := q
      exact pss_nil pins s₁ σ' H' D I'.untry q'
    | ret v => exact q.untry
    | brk => exact q.untry
    | cont => exact q.untry
end
end L2
set_option Elab.async false
set_option linter.all false
set_option maxRecDepth 100000
/-! the clauses of a try -/
namespace L2
open PySem PySem.Spec PyProof.Rows
theorem set3 {ts : Array Value} (h : ts[3]? = some Value.none) : ts.setIfInBounds 3 Value.none = ts := by
  obtain ⟨hl, e⟩ := Array.getElem?_eq_some_iff.mp h
  refine Array.ext (by simp) fun i h1 h2 => ?_
  rw [Array.getElem_setIfInBounds h2]
  by_cases hi : 3 = i
  · subst hi; simp [e]
  · simp [hi]
theorem map3 {o : Obj} {ts : Array Value} (hd : o.data = .fields ts) (h : ts[3]? = some Value.none) : Obj.mapFields (fun z => z.setIfInBounds 3 Value.none) o = o := by
  obtain ⟨c, d, dt, sl⟩ := o
  dsimp only at hd
  subst hd
  unfold Obj.mapFields
  simp [set3 h]
theorem keep3 {h : Heap} {T : Addr} {oT : Obj} {ts : Array Value} (hT : h.get? T = some oT) (hd : oT.data = .fields ts) (h3 : ts[3]? = some Value.none) : ∀ b u, h.get? b = some u → (h.update T (Obj.mapFields fun z => z.setIfInBounds 3 Value.none)).get? b = some u := fun b u e => by
  by_cases hb : b = T
  · subst hb
    rw [hT] at e
    cases e
    rw [Heap.get?_update_self _ hT (by rw [map3 hd h3]; exact Obj.isFreed_of_fields hd), map3 hd h3]
  · rw [Heap.get?_update_other _ _ (Ne.symm hb)]; exact e
section
variable {X : Cx} {x n : Str} {C : Addr} {b₀ : Stmt} {suite : List Stmt} {rest : List ExceptHandler} {pos np : Pos} {th : Value → TS}
theorem ph_nil : PHs X [] (fun _ _ _ _ => False) := fun _ _ _ _ _ _ _ _ _ _ _ _ h => h.elim
/-- the match, and the mark set down -/
theorem h_test {pins : List (Addr × Obj)} {σ : St} {H : Hp} {s : Shared} {a : Addr} {cls : Value} {g : Heap} {b : Bool} {name : Option Str} {Q : Flow → Shared → Prop} (I : Inv X pins σ H s) (xr : XRec g s.heap H a cls false) (hC : X.mg x = some (.ref C)) (hg : Gl X x) (hb : PySem.W.exmOne X.K cls (.ref C) = some b) (hdb : (x == ("__debug__" : Str)) = false)
    (h : if b = true then codeAny (model X.prog X.w) (X.A.mark (some (.ref a))) (.handlers (.ref a) [.ExceptHandler none name (b₀ :: suite) pos] X.env) (fun r s₂ => match r with
          | .ok f => (match name with | none => Q f s₂ | some n => wpAny (model X.prog X.w) X.A (do bindName X.env n .none; unbindBehindTheSuite X.env n pos) (fun _ s₃ => Q f s₃) X.xe s₂)
          | .error e => cameBackBy (model X.prog X.w) X.A X.env X.xe e s₂) s
      else wpAny (model X.prog X.w) X.A (handleBy (.ref a) X.env rest) Q X.xe s) :
    wpAny (model X.prog X.w) X.A (handleBy (.ref a) X.env (.ExceptHandler (some (.Name x np)) name (b₀ :: suite) pos :: rest)) Q X.xe s := by
  refine wpAny_handleBy_cons (codeAny_handlers_test (ld_glob (X := X.mark a) (I.mark a) hg hC ?_ hdb)) (by intro z; cases z)
  have LT : PySem.W.Looks (model X.prog X.w) s.heap (typeOf (.ref a)) cls := by
    cases xr with
    | old oe vs he hc => rw [← hc]; exact (PySem.W.Looks.ld he).andThen .now
  refine (PySem.W.exm_one (M := model X.prog X.w) I.kIn LT hb).here ?_
  cases b with
  | true => exact h
  | false => exact h
inductive tH (K : PySem.W.Frag) (C : Addr) (ts : TS) (th : Value → TS) (cls : Value) (D : Ends) (σ : St) (H : Hp) : Prop
  | mk (b : Bool) (e : PySem.W.exmOne K cls (.ref C) = some b) (q : if b = true then ts D σ H else th cls D σ H) : tH K C ts th cls D σ H
/-- except C: .. -/
theorem ph0 {ts : TS} (hC : X.mg x = some (.ref C)) (hs : ∀ a, PSs (X.mark a) (b₀ :: suite) ts) (hr : PHs X rest th) (hg : Gl X x := by rfl) (hdb : (x == ("__debug__" : Str)) = false := by decide) : PHs X (.ExceptHandler (some (.Name x np)) none (b₀ :: suite) pos :: rest) (tH X.K C ts th) := by
  intro pins s σ H D a cls g I xr x0 xp h
  obtain ⟨b, e, q⟩ := h
  refine h_test I xr hC hg e hdb ?_
  cases b with
  | false => exact hr pins s σ H D a cls g I xr x0 xp q
  | true =>
    refine codeAny_handlers_suite ?_
    cases xr with
    | old oe vs he hc hd hdi hn hgg T oT ts' h1 ht hT hdT h3 hnT hgT =>
      refine wpAny_setFlight_none he hd h1 hT hdT (Array.getElem?_eq_some_iff.mp h3).1 ?_
      have I' : Inv X pins σ H { s with heap := s.heap.update T (Obj.mapFields fun z => z.setIfInBounds 3 Value.none) } := I.kept (t' := s.toks) (keep3 hT hdT h3)
      exact wpAny_mono (hs a pins _ σ H D (I'.mark a) q) (fun f s₂ z => z.unmark I.ok) fun _ _ z => z.elim
end
end L2
set_option Elab.async false
set_option linter.all false
set_option maxRecDepth 100000
/-! isinstance of an error -/
namespace L2
open PySem PySem.Spec PySem.W PyProof.Rows
structure XAttr (K : Frag) (C : Addr) : Prop where
  ga : findIn K (.ref C) "__getattribute__" = some (some (.builtin "BaseException.__getattribute__"))
  gn : findIn K (.ref C) "__getattr__" = some none
  fo : findObj K C none "__class__" = some (.bind (.builtin "getset_descriptor.__get__") (.builtin "object.__class__"))
  mo : mroIn K C (.type "object") = some true
  sb : subIn K (.ref C) (.type "BaseException") = some true
section
variable {prog : Program} {w : World} {A : Around} {E : Value → Shared → Prop} {s : Shared} {K : Frag} {a C : Addr} {oe : Obj}
end
end L2
namespace L2
open PySem PySem.Spec PyProof.Rows
end L2
set_option Elab.async false
set_option linter.all false
set_option maxRecDepth 100000
namespace L2
open PySem PySem.Spec PyProof.Rows
section
variable {X : Cx} {CX : CXT} {k : Nat} {f C : Addr} {fd : FuncData} {ps : List Str} {sp : Sp} {dvs : List V} {ds : List Value} {E : XK} {x m : Str} {p pos apos : Pos} {e o : Expr} {es : List Expr} {ta : TE} {t : TA}
end
section
variable {P : Program} {w : World} {K : PySem.W.Frag} {mg : Str → Option Value} {base : Heap}
end
section
variable {X : Cx} {k k' : Nat} {x : Str} {ps : List Str} {sp : Sp} {p pos : Pos} {e : Expr} {es : List Expr} {t : TA}
end
end L2
set_option Elab.async false
set_option linter.all false
set_option maxRecDepth 100000
/-! the own classes of errors that a text names -/
namespace L2
open PySem PySem.Spec PyProof.Rows
/-- where the class stands that a name of the module means -/
def cOf (mg : Str → Option Value) (x : Str) : Addr := match mg x with
  | some (.ref C) => C
  | _ => 0
theorem cOf_eq {mg : Str → Option Value} {x : Str} {C : Addr} (h : mg x = some (.ref C)) : cOf mg x = C := by unfold cOf; rw [h]
structure XC (K : PySem.W.Frag) (mg : Str → Option Value) (x : Str) : Prop where
  m : mg x = some (.ref (cOf mg x))
  ok : PySem.W.excIn K (cOf mg x) bmV "ValueError.__new__" = true
  at_ : XAttr K (cOf mg x)
  cl : (PySem.W.clsIn K (cOf mg x)).isSome = true
theorem XC.cls {K : PySem.W.Frag} {mg : Str → Option Value} {x : Str} (h : XC K mg x) : XCls K mg x (cOf mg x) := ⟨h.m, h.ok⟩
theorem xc_mk {K : PySem.W.Frag} {mg : Str → Option Value} {x : Str} {C : Addr} (m : mg x = some (.ref C)) (ok : PySem.W.excIn K C bmV "ValueError.__new__" = true)
    (ga : PySem.W.findIn K (.ref C) "__getattribute__" = some (some (.builtin "BaseException.__getattribute__"))) (gn : PySem.W.findIn K (.ref C) "__getattr__" = some none)
    (fo : PySem.W.findIn K (.ref C) "__class__" = some (some (.builtin "object.__class__"))) (sp : PySem.W.specialIn K (.builtin "object.__class__") "__get__" = some (some (.builtin "getset_descriptor.__get__"))) (tk : PySem.W.takesIn K (.builtin "object.__class__") = some true) (mo : PySem.W.mroIn K C (.type "object") = some true) (sb : PySem.W.subIn K (.ref C) (.type "BaseException") = some true) {cd : ClassData} (cl : PySem.W.clsIn K C = some cd) : XC K mg x := by
  refine ⟨?_, ?_, ?_, ?_⟩ <;> rw [cOf_eq m]
  · exact m
  · exact ok
  · refine ⟨ga, gn, ?_, mo, sb⟩
    unfold PySem.W.findObj
    rw [cl, Option.bind_some, fo, Option.bind_some]
    simp [sp, tk]
  · rw [cl]; rfl
end L2
set_option Elab.async false
set_option linter.all false
set_option maxRecDepth 100000
namespace Pr
open PySem L2
def top (i : Nat) : Stmt := PySem.Challenge.pw_peakroll_k31_what_is_counted.main.body.getD i (.Pass ⟨0, 0, 0, 0⟩)
abbrev s_in_order : Stmt := top 2
abbrev s_place_of : Stmt := top 3
abbrev s_is_list : Stmt := top 11
abbrev s_is_list_from : Stmt := top 12
abbrev s_is_word : Stmt := top 13
abbrev s_is_source : Stmt := top 14
abbrev s_are_sources : Stmt := top 17
abbrev s_law_pot : Stmt := top 20
abbrev s_law_digit : Stmt := top 21
abbrev s_law_sources : Stmt := top 22
abbrev s_law_key : Stmt := top 23
abbrev s_law_wide : Stmt := top 24
abbrev s_law_order : Stmt := top 25
abbrev s_law_taken : Stmt := top 26
abbrev s_law_tells : Stmt := top 27
abbrev s_law_counted : Stmt := top 28
abbrev s_law_entries : Stmt := top 29
abbrev s_law_agrees : Stmt := top 30
abbrev s_law : Stmt := top 31
abbrev sm_init : Stmt := inClass (top 18) 0
abbrev sm_order : Stmt := inClass (top 18) 1
abbrev sm_put : Stmt := inClass (top 18) 2
abbrev sm_take : Stmt := inClass (top 18) 3
abbrev sm_rank : Stmt := inClass (top 18) 4
abbrev sm_tells : Stmt := inClass (top 18) 5
abbrev sm_counted : Stmt := inClass (top 18) 6
abbrev sm_entries : Stmt := inClass (top 18) 7
structure Txt (K : PySem.W.Frag) (mg : Str → Option Value) (C : Addr) : Prop where
  f_in_order : ∃ f fd, Fn K mg "in_order" s_in_order ["entries"] f fd
  f_place_of : ∃ f fd, Fn K mg "place_of" s_place_of ["entry"] f fd
  f_is_list : ∃ f fd, Fn K mg "is_list" s_is_list ["value"] f fd
  f_is_list_from : ∃ f fd, Fn K mg "is_list_from" s_is_list_from ["value", "fewest", "most"] f fd
  f_is_word : ∃ f fd, Fn K mg "is_word" s_is_word ["value", "signs", "most"] f fd
  f_is_source : ∃ f fd, Fn K mg "is_source" s_is_source ["value"] f fd
  f_are_sources : ∃ f fd, Fn K mg "are_sources" s_are_sources ["value"] f fd
  f_law_pot : ∃ f fd, Fn K mg "_law_pot" s_law_pot ["_law_script", "_law_k"] f fd
  f_law_digit : ∃ f fd, Fn K mg "_law_digit" s_law_digit ["_law_pot_here", "_law_many"] f fd
  f_law_sources : ∃ f fd, Fn K mg "_law_sources" s_law_sources ["_law_pot_here"] f fd
  f_law_key : ∃ f fd, Fn K mg "_law_key" s_law_key ["_law_pot_here", "_law_keys"] f fd
  f_law_wide : ∃ f fd, Fn K mg "_law_wide" s_law_wide ["_law_pot_here"] f fd
  f_law_order : ∃ f fd, Fn K mg "_law_order" s_law_order ["_law_pot_here", "_law_sources_here"] f fd
  f_law_taken : ∃ f fd, Fn K mg "_law_taken" s_law_taken ["_law_book", "_law_source", "_law_key_here"] f fd
  f_law_tells : ∃ f fd, Fn K mg "_law_tells" s_law_tells ["_law_ranks", "_law_known", "_law_key_here"] f fd
  f_law_counted : ∃ f fd, Fn K mg "_law_counted" s_law_counted ["_law_ranks", "_law_known", "_law_key_here"] f fd
  f_law_entries : ∃ f fd, Fn K mg "_law_entries" s_law_entries ["_law_ranks", "_law_known"] f fd
  f_law_agrees : ∃ f fd, Fn K mg "_law_agrees" s_law_agrees ["_law_book", "_law_ranks", "_law_known", "_law_key_here"] f fd
  f_law : ∃ f fd, Fn K mg "law" s_law ["_law_script"] f fd
  c_LETTERS : ∃ t, mg "LETTERS" = some (.str "abcdefghijklmnopqrstuvwxyz" t)
  c_MOST_SOURCE_SIGNS : ∃ t, mg "MOST_SOURCE_SIGNS" = some (.int 6 t)
  c_MOST_SOURCES : ∃ t, mg "MOST_SOURCES" = some (.int 6 t)
  b_ValueError : mg "ValueError" = none
  b_abs : mg "abs" = none
  b_all : mg "all" = none
  b_int : mg "int" = none
  b_isinstance : mg "isinstance" = none
  b_len : mg "len" = none
  b_list : mg "list" = none
  b_max : mg "max" = none
  b_min : mg "min" = none
  b_range : mg "range" = none
  b_set : mg "set" = none
  b_sorted : mg "sorted" = none
  b_str : mg "str" = none
  b_tuple : mg "tuple" = none
  cl : Cls K C
  mgC : mg "Book" = some (.ref C)
  n_best_first : NoAttr K C "best_first"
  n_told : NoAttr K C "told"
  m_init : ∃ f fd, Fun K "__init__" "Book.__init__" sm_init f fd ∧ Mk K C f ∧ Binds K fd ["self", "sources"] []
  m_order : ∃ f fd, Fm K C "order" "Book.order" sm_order ["self"] f fd
  m_put : ∃ f fd, Fm K C "put" "Book.put" sm_put ["self", "source", "key", "moment", "value"] f fd
  m_take : ∃ f fd, Fm K C "take" "Book.take" sm_take ["self", "source", "key"] f fd
  m_rank : ∃ f fd, Fm K C "rank" "Book.rank" sm_rank ["self", "order"] f fd
  m_tells : ∃ f fd, Fm K C "tells" "Book.tells" sm_tells ["self", "key"] f fd
  m_counted : ∃ f fd, Fm K C "counted" "Book.counted" sm_counted ["self", "key"] f fd
  m_entries : ∃ f fd, Fm K C "entries" "Book.entries" sm_entries ["self"] f fd
  x_PeakError : XC K mg "PeakError"
  x_NoSources : XC K mg "NoSources"
  x_NoTell : XC K mg "NoTell"
  kv_NoSources : PySem.W.kitOne K (.ref (cOf mg "NoSources")) (.type "ValueError") = some true
  k_NoSources_PeakError : PySem.W.kitOne K (.ref (cOf mg "NoSources")) (.ref (cOf mg "PeakError")) = some true
  e_NoSources_PeakError : PySem.W.exmOne K (.ref (cOf mg "NoSources")) (.ref (cOf mg "PeakError")) = some true
  k_NoSources_NoSources : PySem.W.kitOne K (.ref (cOf mg "NoSources")) (.ref (cOf mg "NoSources")) = some true
  e_NoSources_NoSources : PySem.W.exmOne K (.ref (cOf mg "NoSources")) (.ref (cOf mg "NoSources")) = some true
  k_NoSources_NoTell : PySem.W.kitOne K (.ref (cOf mg "NoSources")) (.ref (cOf mg "NoTell")) = some false
  e_NoSources_NoTell : PySem.W.exmOne K (.ref (cOf mg "NoSources")) (.ref (cOf mg "NoTell")) = some false
  kv_NoTell : PySem.W.kitOne K (.ref (cOf mg "NoTell")) (.type "ValueError") = some true
  k_NoTell_PeakError : PySem.W.kitOne K (.ref (cOf mg "NoTell")) (.ref (cOf mg "PeakError")) = some true
  e_NoTell_PeakError : PySem.W.exmOne K (.ref (cOf mg "NoTell")) (.ref (cOf mg "PeakError")) = some true
  k_NoTell_NoSources : PySem.W.kitOne K (.ref (cOf mg "NoTell")) (.ref (cOf mg "NoSources")) = some false
  e_NoTell_NoSources : PySem.W.exmOne K (.ref (cOf mg "NoTell")) (.ref (cOf mg "NoSources")) = some false
  k_NoTell_NoTell : PySem.W.kitOne K (.ref (cOf mg "NoTell")) (.ref (cOf mg "NoTell")) = some true
  e_NoTell_NoTell : PySem.W.exmOne K (.ref (cOf mg "NoTell")) (.ref (cOf mg "NoTell")) = some true
end Pr
set_option Elab.async false
set_option linter.all false
set_option maxRecDepth 100000
namespace HT
open PySem PyProof.Rows
section
variable {prog : Program} {w : World} {A : Around} {E : Value → Shared → Prop} {s : Shared}
end
end HT
namespace L2
open PySem PySem.Spec PyProof.Rows
section
variable {X : Cx} {e : Expr} {te : TE} {pos p2 : Pos}
end
end L2
set_option Elab.async false
set_option linter.all false
set_option maxRecDepth 100000
namespace L2
open PySem PySem.Spec PyProof.Rows
/-! ### the forms of a comprehension that one uses -/
/-- an element has come: y goes onto the list at D -/
def LcNx (n i : Nat) (D : Addr) (ys : List V) (Pv : Nat → List V → Hp → Prop) (y : V) (H3 : Hp) : Prop :=
  H3 D = some (.lst ys) ∧ ys.length < sizeLine ∧ ∃ m', m' < n - i ∧ (m' = n - (i + 1) ∧ i + 1 ≤ n ∧ Pv (i + 1) (ys ++ [y]) (upd H3 D (.lst (ys ++ [y]))))
/-- none has come -/
def LcNo (n i : Nat) (ys : List V) (Pv : Nat → List V → Hp → Prop) (H3 : Hp) : Prop := ∃ m', m' < n - i ∧ (m' = n - (i + 1) ∧ i + 1 ≤ n ∧ Pv (i + 1) ys H3)
theorem LcNx.mk {n i : Nat} {D : Addr} {ys : List V} {Pv : Nat → List V → Hp → Prop} {y : V} {H3 : Hp} (hi : i < n) (hn : n ≤ 1000) (hl : ys.length ≤ i) (h : H3 D = some (.lst ys)) (p : Pv (i + 1) (ys ++ [y]) (upd H3 D (.lst (ys ++ [y])))) : LcNx n i D ys Pv y H3 :=
  ⟨h, small1000 (by omega), n - (i + 1), by omega, rfl, hi, p⟩
theorem LcNo.mk {n i : Nat} {ys : List V} {Pv : Nat → List V → Hp → Prop} {H3 : Hp} (hi : i < n) (p : Pv (i + 1) ys H3) : LcNo n i ys Pv H3 := ⟨n - (i + 1), by omega, rfl, hi, p⟩
theorem lc_go {tc : TT} {te : TE} {σ : St} {J : It} {D : Addr} {Fin : Hp → Prop} {H : Hp} {n : Nat} (Pv : Nat → List V → Hp → Prop) (h0 : Pv 0 [] (upd H D (.lst [])))
    (hD : ∀ i ys H, Pv i ys H → H D = some (.lst ys)) (hend : ∀ ys H, Pv n ys H → J.stop n H ∧ Fin H)
    (hgo : ∀ i ys H, i < n → Pv i ys H → J.go i H ∧ ∀ x H', J.yld i H x H' → tc (some x :: σ) H' fun b H2 => if b = true then te (some x :: σ) H2 (LcNx n i D ys Pv) else LcNo n i ys Pv H2) : lcGo tc te σ J D Fin H := by
  refine ⟨fun i m ys H => m = n - i ∧ i ≤ n ∧ Pv i ys H, ⟨n, rfl, Nat.zero_le _, h0⟩, ?_⟩
  rintro i m ys H ⟨rfl, hi, p⟩
  refine ⟨hD i ys H p, ?_⟩
  by_cases hlt : i < n
  · exact .inr (hgo i ys H hlt p)
  · have e : i = n := by omega
    subst e
    exact .inl (hend ys H p)
theorem lc_list {K : PySem.W.Frag} {a : Addr} {xs : List V} {tc : TT} {te : TE} {σ : St} {D : Addr} {Fin : Hp → Prop} {H : Hp} (Pv : Nat → List V → Hp → Prop) (h0 : Pv 0 [] (upd H D (.lst [])))
    (hD : ∀ i ys H, Pv i ys H → H D = some (.lst ys) ∧ SqL K H a xs) (hend : ∀ ys H, Pv xs.length ys H → Fin H)
    (hgo : ∀ i x ys H, i < xs.length → xs[i]? = some x → Pv i ys H → tc (some x :: σ) H fun b H2 => if b = true then te (some x :: σ) H2 (LcNx xs.length i D ys Pv) else LcNo xs.length i ys Pv H2) : lcGo tc te σ (Itl K a) D Fin H := by
  refine lc_go Pv h0 (fun i ys H p => (hD i ys H p).1) (fun ys H p => ⟨⟨xs, (hD _ _ _ p).2, Nat.le_refl _⟩, hend ys H p⟩) fun i ys H hi p => ?_
  refine ⟨⟨xs, xs[i], (hD _ _ _ p).2, List.getElem?_eq_getElem hi⟩, fun x H' y => ?_⟩
  obtain ⟨e, y⟩ := y
  subst e
  exact hgo i x ys _ hi (y xs (hD _ _ _ p).2) p
theorem lc_range {lo : Int} {n : Nat} {tc : TT} {te : TE} {σ : St} {D : Addr} {Fin : Hp → Prop} {H : Hp} (Pv : Nat → List V → Hp → Prop) (h0 : Pv 0 [] (upd H D (.lst [])))
    (hD : ∀ i ys H, Pv i ys H → H D = some (.lst ys)) (hend : ∀ ys H, Pv n ys H → Fin H)
    (hgo : ∀ i ys H, i < n → Pv i ys H → tc (some (.int (lo + i)) :: σ) H fun b H2 => if b = true then te (some (.int (lo + i)) :: σ) H2 (LcNx n i D ys Pv) else LcNo n i ys Pv H2) : lcGo tc te σ (Itr lo n) D Fin H := by
  refine lc_go Pv h0 hD (fun ys H p => ⟨Nat.le_refl _, hend ys H p⟩) fun i ys H hi p => ?_
  refine ⟨hi, fun x H' y => ?_⟩
  obtain ⟨e, y⟩ := y
  subst e y
  exact hgo i ys _ hi p
/-! within a comprehension's block the readings must not name the block's context -/
section
variable {X : Cx}
theorem ix_tupK (K : PySem.W.Frag) (e : X.K = K := by rfl) : IxR X (rIxT K) := by rw [← e]; exact ix_tup
theorem ix_listK (K : PySem.W.Frag) (e : X.K = K := by rfl) : IxR X (rIxL K) := by rw [← e]; exact ix_list
end
theorem yesI {σ : St} {H : Hp} {A B : Hp → Prop} (h : A H) : tYes σ H (fun b H2 => if b = true then A H2 else B H2) := by
  show if true = true then A H else B H
  rw [if_pos rfl]
  exact h
theorem lcS {X : Cx} {x : Str} {sc scp : Scope} {N ps : List Str} (S : FnScope N ps scp) (hN : X.N = N := by rfl) (hs : X.env.scope = scp := by rfl) (h1 : sc.kind = .function := by rfl) (h2 : ∀ p ∈ sc.names, p.2 ≠ .cell := by decide +kernel) (h3 : sc.names.lookup x = some .local := by rfl)
    (h4 : ∀ p ∈ sc.names, p.2 = .local → sc.names.lookup p.1 = some .local := by decide +kernel) (h5 : ∀ y ∈ N, sc.names.lookup y ≠ some .local := by decide +kernel)
    (h7 : ∀ p ∈ sc.names, p.2 = .free → scp.names.lookup p.1 = some .cell ∨ scp.names.lookup p.1 = some .free := by decide +kernel) : LcScope X x sc :=
  ⟨h1, h2, h3, h4, by rw [hN]; exact h5, by rw [hN]; exact S.nd, fun p hp e => by
    show X.env.scope.names.lookup p.1 = _ ∨ X.env.scope.names.lookup p.1 = _
    rw [hs]
    exact h7 p hp e⟩
theorem Paired.get {α β : Type} {F : α → β → Prop} : ∀ {xs : List α} {ys : List β} {i : Nat} {x : α}, Paired F xs ys → xs[i]? = some x → ∃ y, ys[i]? = some y ∧ F x y
  | _, _, _, _, .nil, e => by simp at e
  | _, _, 0, _, .cons r _, e => by simp at e; subst e; exact ⟨_, rfl, r⟩
  | _, _, i + 1, x, .cons _ t, e => by
    obtain ⟨u, h1, h2⟩ := Paired.get (i := i) (x := x) t (by simpa using e)
    exact ⟨u, by simpa using h1, h2⟩
end L2
set_option Elab.async false
set_option linter.all false
set_option maxRecDepth 100000
/-! The rules once more, with K named: a reading then does not bear the whole context. -/
namespace L2
open PySem PySem.Spec PyProof.Rows
section
variable {X : Cx} {tg : Expr}
theorem pi_listK (K : PySem.W.Frag) {l : Expr} {tl : TE} (hl : PE X l tl) (e : X.K = K := by rfl) : PI X tg l (iList K tl) := by subst e; exact pi_list hl
inductive cLen (K : PySem.W.Frag) (xs : List V) (H : Hp) (Q : VK) : Prop
  | mk (p : Addr) (ys : List V) (e : xs = [.ref p]) (h : SqL K H p ys ∨ SqT K H p ys) (q : Q (.int ys.length) H) : cLen K xs H Q
theorem call_lenK (K : PySem.W.Frag) (e : X.K = K := by rfl) : CallR X (.builtin "len") (cLen K) := by
  subst e
  intro pins s σ H xs us Q I r h
  obtain ⟨p, ys, e, h, q⟩ := h
  exact call_len_seq pins s σ H xs us Q I r ⟨p, ys, e, h, q⟩
theorem call_all_seqK (K : PySem.W.Frag) (hc : X.calm = true) (e : X.K = K := by rfl) : CallR X (.builtin "all") (fun xs H Q => ∃ (p : Addr) (bs : List Bool), xs = [.ref p] ∧ SqL K H p (bs.map V.bl) ∧ Q (.bl (bs.all id)) H) := by subst e; exact call_all_seq hc
theorem call_list_ofK (K : PySem.W.Frag) (e : X.K = K := by rfl) : CallR X (.type "list") (fun xs H Q => ∃ p ys, xs = [.ref p] ∧ (SqL K H p ys ∨ SqT K H p ys) ∧ ∀ l, H l = none → Q (.ref l) (upd H l (.lst ys))) := by subst e; exact call_list_of
theorem pe_fldK (K : PySem.W.Frag) {e : Expr} {f : Str} {ta : TE} {pos : Pos} (he : PE X e ta) (hb : attributeBase e f X.env (eval e X.env) = eval e X.env) (ek : X.K = K := by rfl) : PE X (.Attribute e f pos) (tFld K ta f) := by subst ek; exact pe_fld he hb
theorem pg_tupK (K : PySem.W.Frag) {es : List Expr} {k : Nat} {t : TGs} {n : Nat} {pos : Pos} (hc : X.calm = true) (h : PGs X es t) (hn : (assignEach es X.env).length = n := by rfl) (hst : (assignEach es X.env).findIdx? (·.1) = none := by rfl) (ek : X.K = K := by rfl) : PG X (.Tuple es k pos) (gTup K n t) := by subst ek; exact pg_tup hc h hn hst
theorem pe_bmK (K : PySem.W.Frag) {o e : Expr} {es : List Expr} {to : TE} {t : TA} {name : Str} {apos cpos : Pos} {T id : String} {r : V → List V → Hp → VK → Prop} (pa : PlainAttrs T) (slot : Slot T name id) (hty : typeOf (.builtin id) = pure (.type "method_descriptor")) (hm : MtR X id r) (ho : PE X o to) (ha : PA X (e :: es) t)
    (hbase : attributeBase o name X.env (eval o X.env) = eval o X.env := by rfl)
    (hfew : ((backTo cpos (starEach (e :: es) X.env)).all (fun x => !x.1) && (backToKw cpos (keywordEach [] X.env)).all (fun x => x.1.isSome) && decide ((e :: es).length + ([] : List Keyword).length + (if ([] : List Keyword).isEmpty then 0 else 1) < 30)) = true := by rfl)
    (hline : (apos.endLine == cpos.line) = true := by rfl) (hs : starEach (e :: es) X.env = (false, eval e X.env) :: starEach es X.env := by rfl) (hplain : (backTo cpos (starEach es X.env)).any (·.1) = false := by rfl) (ek : X.K = K := by rfl) :
    PE X (.Call (.Attribute o name apos) (e :: es) [] cpos) (tBM K T r to t) := by subst ek; exact pe_bm pa slot hty hm ho ha hbase hfew hline hs hplain
end
end L2
set_option Elab.async false
set_option linter.all false
set_option maxRecDepth 100000
/-! repr, ==, != of data (numbers, texts, None, lists and tuples of these), min and max of a list of ints, over the hand layer. -/
namespace L2
open PySem PySem.Spec PyProof.Rows
/-! a thing that is read as that data -/
mutual
def Dat (H : Hp) : PyData → V → Prop
  | .none, v => v = .non
  | .bool b, v => v = .bl b
  | .int i, v => v = .int i
  | .str x, v => v = .str x
  | .list ds, v => ∃ a xs, v = .ref a ∧ H a = some (.lst xs) ∧ DatAll H ds xs
  | .tuple ds, v => ∃ a xs, v = .ref a ∧ H a = some (.tup xs) ∧ DatAll H ds xs
  | .dict _, _ => False
def DatAll (H : Hp) : List PyData → List V → Prop
  | [], xs => xs = []
  | d :: ds, xs => ∃ x r, xs = x :: r ∧ Dat H d x ∧ DatAll H ds r
end
section
variable {X : Cx} {pins : List (Addr × Obj)} {σ : St} {H : Hp} {s : Shared}
mutual
theorem Dat.reads (I : Inv X pins σ H s) : ∀ (d : PyData) (v : V) (u : Value), RelV v u → Dat H d v → ∃ as, Reads s.heap u d as
  | .none, v, u, r, h => by unfold Dat at h; subst h; cases r; exact ⟨_, .none⟩
  | .bool b, v, u, r, h => by unfold Dat at h; subst h; cases r; exact ⟨_, .bool b⟩
  | .int i, v, u, r, h => by unfold Dat at h; subst h; obtain ⟨t, rfl⟩ := r; exact ⟨_, .int i t⟩
  | .str x, v, u, r, h => by unfold Dat at h; subst h; obtain ⟨t, rfl⟩ := r; exact ⟨_, .str x t⟩
  | .list ds, v, u, r, h => by
    unfold Dat at h
    obtain ⟨a, xs, rfl, h1, h2⟩ := h
    cases r
    obtain ⟨_, its, n, rv, e⟩ := I.hok a _ h1
    obtain ⟨as, hr⟩ := DatAll.reads I ds xs its rv h2
    exact ⟨_, .list e rfl rfl (by simpa using hr)⟩
  | .tuple ds, v, u, r, h => by
    unfold Dat at h
    obtain ⟨a, xs, rfl, h1, h2⟩ := h
    cases r
    obtain ⟨_, its, rv, o, ho, hc, n, hd⟩ := I.hok a _ h1
    obtain ⟨as, hr⟩ := DatAll.reads I ds xs its rv h2
    exact ⟨_, .tuple ho hc hd (by simpa using hr)⟩
  | .dict _, v, u, r, h => by unfold Dat at h; exact h.elim
theorem DatAll.reads (I : Inv X pins σ H s) : ∀ (ds : List PyData) (xs : List V) (us : List Value), Vals xs us → DatAll H ds xs → ∃ as, ReadsAll s.heap us ds as
  | [], xs, us, r, h => by unfold DatAll at h; subst h; cases r; exact ⟨_, .nil⟩
  | d :: ds, xs, us, r, h => by
    unfold DatAll at h
    obtain ⟨x, rr, rfl, h1, h2⟩ := h
    cases r with
    | cons rx rt =>
      obtain ⟨as, q1⟩ := Dat.reads I d x _ rx h1
      obtain ⟨bs, q2⟩ := DatAll.reads I ds rr _ rt h2
      exact ⟨_, .cons q1 q2⟩
end
end
section
variable {X : Cx}
inductive rEqD (neg : Bool) (x y : V) (H : Hp) (Q : VK) : Prop
  | mk (d d' : PyData) (h : Dat H d x) (h' : Dat H d' y) (f : d.canLay0 = true) (f' : d'.canLay0 = true) (p : d.depth ≤ 8) (q : Q (.bl (if neg then !PyData.eqv d d' else PyData.eqv d d')) H) : rEqD neg x y H Q
theorem op_eqD {k : Nat} (hr : Room k X.A) : OpR X (compareOp .Eq) (rEqD false) := by
  intro pins s σ H x y v u Q I rx ry h
  obtain ⟨d, d', h1, h2, f, f', p, q⟩ := h
  obtain ⟨as, r1⟩ := Dat.reads I d _ _ rx h1
  obtain ⟨bs, r2⟩ := Dat.reads I d' _ _ ry h2
  exact SeqAt.eqOverData X.prog X.w X.A X.xe s v u d d' as bs _ r1 r2 f f' (by have := hr.un; omega) (fin_bl I q rfl)
theorem op_neD {k : Nat} (hr : Room k X.A) : OpR X (compareOp .NotEq) (rEqD true) := by
  intro pins s σ H x y v u Q I rx ry h
  obtain ⟨d, d', h1, h2, f, f', p, q⟩ := h
  obtain ⟨as, r1⟩ := Dat.reads I d _ _ rx h1
  obtain ⟨bs, r2⟩ := Dat.reads I d' _ _ ry h2
  exact SeqAt.compareNe_reads r1 r2 f f' (by have := hr.un; omega) (fin_bl I q rfl)
end
section
variable {X : Cx}
end
end L2
set_option Elab.async false
set_option linter.all false
set_option maxRecDepth 100000
/-! repr of a list whose things are data or flat dicts, over the hand layer. -/
namespace L2
open PySem PySem.Spec PyProof.Rows
/-- a thing that is no object, as data -/
inductive Flat : Value → PyData → Prop
  | none : Flat .none .none
  | bool (b : Bool) : Flat (.bool b) (.bool b)
  | int (i : Int) (t : Tok) : Flat (.int i t) (.int i)
  | str (x : Str) (t : Tok) : Flat (.str x t) (.str x)
/-- a dict at a whose keys and values are no objects -/
def LitP (a : Addr) (kvs : List (PyData × PyData)) (h : Heap) : Prop :=
  (a == sysModules) = false ∧ ∃ o es n, h.get? a = some o ∧ o.cls = .type "dict" ∧ o.data = .dict es n ∧ Paired Flat (es.toList.map (·.key)) (kvs.map (·.1)) ∧ Paired Flat (es.toList.map (·.val)) (kvs.map (·.2))
def LitO (a : Addr) (kvs : List (PyData × PyData)) : HO := .ext (LitP a kvs)
section
variable {X : Cx} {pins : List (Addr × Obj)} {σ : St} {H : Hp} {s : Shared}
end
section
variable {X : Cx}
end
end L2
set_option Elab.async false
set_option linter.all false
set_option maxRecDepth 100000
/-! isinstance of None, texts and dicts, too, over the hand layer. -/
namespace L2
open PySem PySem.Spec PyProof.Rows
inductive TyW (H : Hp) : V → Value → Prop
  | s {x : V} {t : Value} (h : TyS H x t) : TyW H x t
  | non : TyW H .non (.type "NoneType")
  | str (x : Str) : TyW H (.str x) (.type "str")
  | dK {a : Addr} {kvs : List (Key × V)} (h : H a = some (.dK kvs)) : TyW H (.ref a) (.type "dict")
  | lit {a : Addr} {kvs : List (PyData × PyData)} (h : H a = some (LitO a kvs)) : TyW H (.ref a) (.type "dict")
section
variable {X : Cx}
theorem tyw_kit {pins : List (Addr × Obj)} {σ : St} {H : Hp} {s : Shared} {x : V} {u t : Value} (I : Inv X pins σ H s) (rx : RelV x u) (ty : TyW H x t) : ∃ Hx : Heap → Prop, PySem.W.KitX X.K u t Hx ∧ Hx s.heap ∧ u ≠ .builtin "__main__.__loader__#opaque" := by
  cases ty with
  | s h => exact ty_kit I rx h
  | non => cases (show u = Value.none from rx); exact ⟨_, PySem.W.kitx_none, True.intro, fun z => nomatch z⟩
  | str y => obtain ⟨t, q⟩ := (show ∃ t, u = Value.str y t from rx); cases q; exact ⟨_, PySem.W.kitx_str, True.intro, fun z => nomatch z⟩
  | @dK a kvs h =>
    cases (show u = Value.ref a from rx)
    obtain ⟨_, _, _, _, o, _, _, e, c, _⟩ := (show ObjOk X.prog X.w H s.heap a (.dK kvs) from I.hok a _ h)
    exact ⟨_, PySem.W.kitx_dict, ⟨o, e, c.1⟩, fun z => nomatch z⟩
  | @lit a kvs h =>
    cases (show u = Value.ref a from rx)
    obtain ⟨⟨_, o, _, _, e, c, _⟩, _⟩ := (show ObjOk X.prog X.w H s.heap a (LitO a kvs) from I.hok a _ h)
    exact ⟨_, PySem.W.kitx_dict, ⟨o, e, c⟩, fun z => nomatch z⟩
inductive cIsW (K : PySem.W.Frag) (xs : List V) (H : Hp) (Q : VK) : Prop
  | mk (x : V) (t : Value) (T : String) (b : Bool) (e : xs = [x, .ty T]) (h : TyW H x t) (k : PySem.W.kitOne K t (.type T) = some b) (q : Q (.bl b) H) : cIsW K xs H Q
theorem call_isiW (K : PySem.W.Frag) (ek : X.K = K := by rfl) : CallR X (.builtin "isinstance") (cIsW K) := by
  subst ek
  intro pins s σ H xs us Q I r h
  obtain ⟨x, t, T, b, rfl, ty, e, q⟩ := h
  obtain ⟨u, w', rfl, rx, rt⟩ := vals2 r
  cases rt
  obtain ⟨Hx, Z, p, hx⟩ := tyw_kit I rx ty
  exact PySem.W.kia_one Z I.kIn p e hx fun tk => ⟨.bl b, H, I.tok tk, rfl, q⟩
inductive cIsW2 (K : PySem.W.Frag) (xs : List V) (H : Hp) (Q : VK) : Prop
  | mk (x : V) (t : Value) (p : Addr) (T U : String) (b : Bool) (e : xs = [x, .ref p]) (hq : SqT K H p [.ty T, .ty U]) (h : TyW H x t) (k : PySem.W.kitAny K t [.type T, .type U] = some b) (q : Q (.bl b) H) : cIsW2 K xs H Q
theorem call_isiW2 (K : PySem.W.Frag) (ek : X.K = K := by rfl) : CallR X (.builtin "isinstance") (cIsW2 K) := by
  subst ek
  intro pins s σ H xs us Q I r h
  obtain ⟨x, t, tp, T, U, b, rfl, hq, ty, e, q⟩ := h
  obtain ⟨u, w', rfl, rx, rt⟩ := vals2 r
  cases rt
  obtain ⟨Hx, Z, p, hx⟩ := tyw_kit I rx ty
  obtain ⟨its, rv, pl, hz⟩ := I.tuple hq
  obtain ⟨u1, u2, rfl, r1, r2⟩ := rv.two
  cases r1
  cases r2
  obtain ⟨o, ho, hc, n, hd⟩ := pl
  obtain ⟨oc, odd, odt, osl⟩ := o
  dsimp only at hc hd
  subst hc hd
  exact PySem.W.kia_tup Z I.kIn p ho e hx fun tk => ⟨.bl b, H, I.tok tk, rfl, q⟩
end
end L2
set_option Elab.async false
set_option linter.all false
set_option maxRecDepth 100000
namespace L2
open PySem PySem.Spec PyProof.Rows

/-! ### lists of pairs as tables -/
section
variable {κ : Type} [DecidableEq κ]
def valV (kvs : List (κ × V)) (k : κ) : Option V := (kvs.find? fun kv => decide (kv.1 = k)).map (·.2)
/-- in its place, or at the end -/
def putK (kvs : List (κ × V)) (k : κ) (v : V) : List (κ × V) :=
  if (kvs.any fun kv => decide (kv.1 = k)) = true then kvs.map (fun kv => if kv.1 = k then (kv.1, v) else kv) else kvs ++ [(k, v)]
def dropK (kvs : List (κ × V)) (k : κ) : List (κ × V) := kvs.filter fun kv => decide (kv.1 ≠ k)

theorem valV_pos {p : κ × V} {r : List (κ × V)} {k : κ} (e : p.1 = k) : valV (p :: r) k = some p.2 := by simp [valV, List.find?_cons, e]
theorem valV_neg {p : κ × V} {r : List (κ × V)} {k : κ} (e : ¬ p.1 = k) : valV (p :: r) k = valV r k := by simp [valV, List.find?_cons, e]
theorem valV_any (k : κ) : ∀ kvs : List (κ × V), (kvs.any fun kv => decide (kv.1 = k)) = (valV kvs k).isSome
  | [] => rfl
  | p :: r => by
    rw [List.any_cons]
    by_cases e : p.1 = k
    · simp only [valV_pos e, decide_eq_true e, Bool.true_or, Option.isSome_some]
    · rw [valV_neg e, decide_eq_false e, Bool.false_or]; exact valV_any k r
theorem length_putK (kvs : List (κ × V)) (k : κ) (v : V) : (putK kvs k v).length ≤ kvs.length + 1 := by
  unfold putK
  split
  · rw [List.length_map]; omega
  · rw [List.length_append, List.length_cons, List.length_nil]; omega

theorem RelO.isSome_eq {o : Option V} {u : Option Value} (r : RelO o u) : o.isSome = u.isSome := by
  cases o with
  | none => cases u with
    | none => rfl
    | some _ => exact (show False from r).elim
  | some _ => cases u with
    | none => exact (show False from r).elim
    | some _ => rfl

/-- raw tables of the same keys -/
theorem KV.val {kvs : List (κ × V)} {vs : List (κ × Value)} (r : KV kvs vs) (k : κ) : RelO (valV kvs k) (valueAt vs k) := by
  unfold KV at r
  induction r with
  | nil => exact True.intro
  | @cons p q ps qs h t ih =>
    obtain ⟨h1, h2⟩ := h
    by_cases e : p.1 = k
    · have e' : q.1 = k := h1.symm.trans e
      have b : valueAt (q :: qs) k = some q.2 := by simp [valueAt, List.find?_cons, e']
      rw [valV_pos e, b]; exact h2
    · have e' : ¬ q.1 = k := fun z => e (h1.trans z)
      have b : valueAt (q :: qs) k = valueAt qs k := by simp [valueAt, List.find?_cons, e']
      rw [valV_neg e, b]; exact ih
theorem KV.any {kvs : List (κ × V)} {vs : List (κ × Value)} (r : KV kvs vs) (k : κ) : (kvs.any fun kv => decide (kv.1 = k)) = vs.any fun kv => decide (kv.1 = k) := by
  unfold KV at r
  induction r with
  | nil => rfl
  | cons h t ih => rw [List.any_cons, List.any_cons, ih, h.1]
theorem KV.repl {kvs : List (κ × V)} {vs : List (κ × Value)} (r : KV kvs vs) (k : κ) {y : V} {u : Value} (ry : RelV y u) :
    KV (kvs.map fun kv => if kv.1 = k then (kv.1, y) else kv) (vs.map fun kv => if kv.1 = k then (kv.1, u) else kv) := by
  unfold KV at r ⊢
  induction r with
  | nil => exact .nil
  | @cons p q ps qs h t ih =>
    rw [List.map_cons, List.map_cons]
    refine .cons ?_ ih
    obtain ⟨h1, h2⟩ := h
    by_cases e : p.1 = k
    · rw [if_pos e, if_pos (h1.symm.trans e)]; exact ⟨h1, ry⟩
    · rw [if_neg e, if_neg (fun z => e (h1.trans z))]; exact ⟨h1, h2⟩
theorem KV.put {kvs : List (κ × V)} {vs : List (κ × Value)} (r : KV kvs vs) (k : κ) {y : V} {u : Value} (ry : RelV y u) : KV (putK kvs k y) (stored vs k u) := by
  unfold putK stored
  rw [r.any k]
  by_cases e : (vs.any fun kv => decide (kv.1 = k)) = true
  · rw [if_pos e, if_pos e]; exact r.repl k ry
  · rw [if_neg e, if_neg e]; exact Paired.snoc r ⟨rfl, ry⟩
theorem KV.length {kvs : List (κ × V)} {vs : List (κ × Value)} (r : KV kvs vs) : kvs.length = vs.length := Paired.length r
theorem dropK_le (kvs : List (κ × V)) (k : κ) : (dropK kvs k).length ≤ kvs.length := List.length_filter_le _ _
end


/-! ### a tracked dict, its keys ints and texts or tuples of these -/
theorem kV_is {P : Program} {w : World} {k : Key} {u : Value} (r : RelV (kV k) u) : (mixKind P w).is k u = true := by
  cases k with
  | inl i => obtain ⟨t, e⟩ := (show ∃ t, u = Value.int i t from r); subst e; exact mixKind_int P w i t
  | inr x => obtain ⟨t, e⟩ := (show ∃ t, u = Value.str x t from r); subst e; exact mixKind_str P w x t
theorem items_are {P : Program} {w : World} : ∀ {ks : List Key} {us : List Value}, Vals (ks.map kV) us → ItemsAre (mixKind P w) ks us
  | [], _, r => by rw [List.map_nil] at r; cases r; exact .nil
  | k :: ks, _, r => by
    rw [List.map_cons] at r
    cases r with
    | cons h t => exact .cons (kV_is h) (items_are t)

/-- raw entries of a dict with tuple keys -/
abbrev KT (H : Hp) : List (List Key × V) → List (List Key × Addr × Value) → Prop := Paired fun p q => p.1 = q.1 ∧ H q.2.1 = some (.tup (p.1.map kV)) ∧ RelV p.2 q.2.2
theorem KT.val {H : Hp} {kvs : List (List Key × V)} {xs : List (List Key × Addr × Value)} (r : KT H kvs xs) (k : List Key) : RelO (valV kvs k) ((atKey xs k).map (·.2)) := by
  induction r with
  | nil => exact True.intro
  | @cons p q ps qs h t ih =>
    obtain ⟨h1, _, h2⟩ := h
    by_cases e : p.1 = k
    · have e' : q.1 = k := h1.symm.trans e
      have b : atKey (q :: qs) k = some q.2 := by simp [atKey, List.find?_cons, e']
      rw [valV_pos e, b]; exact h2
    · have e' : ¬ q.1 = k := fun z => e (h1.trans z)
      have b : atKey (q :: qs) k = atKey qs k := by simp [atKey, List.find?_cons, e']
      rw [valV_neg e, b]; exact ih
theorem KT.repl {H : Hp} {kvs : List (List Key × V)} {xs : List (List Key × Addr × Value)} (r : KT H kvs xs) (k : List Key) {y : V} {u : Value} (ry : RelV y u) :
    KT H (kvs.map fun kv => if kv.1 = k then (kv.1, y) else kv) (xs.map (putAt k u)) := by
  induction r with
  | nil => exact .nil
  | @cons p q ps qs h t ih =>
    rw [List.map_cons, List.map_cons]
    refine .cons ?_ ih
    obtain ⟨h1, h2, h3⟩ := h
    unfold putAt
    by_cases e : p.1 = k
    · rw [if_pos e, if_pos (h1.symm.trans e)]; exact ⟨h1, h2, ry⟩
    · rw [if_neg e, if_neg (fun z => e (h1.trans z))]; exact ⟨h1, h2, h3⟩
theorem KT.put {H : Hp} {kvs : List (List Key × V)} {xs : List (List Key × Addr × Value)} (r : KT H kvs xs) (k : List Key) {b : Addr} {y : V} {u : Value} (hb : H b = some (.tup (k.map kV))) (ry : RelV y u) :
    KT H (putK kvs k y) (storedH xs k b u) := by
  have e : (kvs.any fun kv => decide (kv.1 = k)) = (atKey xs k).isSome := by
    rw [valV_any, (r.val k).isSome_eq, Option.isSome_map]
  unfold putK storedH
  rw [e]
  by_cases q : (atKey xs k).isSome = true
  · rw [if_pos q, if_pos q]; exact r.repl k ry
  · rw [if_neg q, if_neg q]; exact Paired.snoc r ⟨rfl, hb, ry⟩
theorem KT.keeps {H H' : Hp} {kvs : List (List Key × V)} {xs : List (List Key × Addr × Value)} (r : KT H kvs xs) (ht : ∀ b ys, H b = some (.tup ys) → H' b = some (.tup ys)) : KT H' kvs xs :=
  Paired.mapP r fun _ _ z => ⟨z.1, ht _ _ z.2.1, z.2.2⟩

section
variable {P : Program} {w : World} {H : Hp} {h : Heap} {a : Addr}
theorem rd_of {u : HO} (ok : HOk P w H h) (e : Rd H a u) : ObjOk P w H h a u := e.ok ok
theorem dk_rd {kvs : List (Key × V)} (ok : HOk P w H h) (e : Rd H a (.dK kvs)) : kvs.length ≤ sizeLine ∧ (a == sysModules) = false ∧ ∃ vs, KV kvs vs ∧ h.DictOf (mixKind P w) a vs :=
  show ObjOk P w H h a (.dK kvs) from rd_of ok e
theorem dk_of {kvs : List (Key × V)} (ok : HOk P w H h) (e : H a = some (.dK kvs)) : kvs.length ≤ sizeLine ∧ (a == sysModules) = false ∧ ∃ vs, KV kvs vs ∧ h.DictOf (mixKind P w) a vs := dk_rd ok (.inl e)
/-- a tracked tuple of ints and texts is a key -/
theorem key_of {ks : List Key} (ok : HOk P w H h) (e : H a = some (.tup (ks.map kV))) : (tupleKind (mixKind P w)).is h ks a := by
  obtain ⟨_, its, r, o, h1, h2, n, h3⟩ := (show ObjOk P w H h a (.tup (ks.map kV)) from ok a _ e)
  exact ⟨o, its.toArray, n, h1, h2, h3, by simpa using items_are r⟩
theorem dt_rd {kvs : List (List Key × V)} (ok : HOk P w H h) (e : Rd H a (.dT kvs)) : kvs.length ≤ sizeLine ∧ (a == sysModules) = false ∧
    ∃ xs, KT H kvs xs ∧ h.DictOfH (tupleKind (mixKind P w)) a xs := by
  obtain ⟨z, y, xs, r, o, es, ep, h1, h2, h3, h4, h5⟩ := (show ObjOk P w H h a (.dT kvs) from rd_of ok e)
  refine ⟨z, y, xs, r, o, es, ep, h1, h2, h3, h4, fun x hx => ?_, h5⟩
  have all : ∀ {l : List (List Key × V)} {m : List (List Key × Addr × Value)}, KT H l m → ∀ x ∈ m, (tupleKind (mixKind P w)).is h x.1 x.2.1 := by
    intro l m q
    induction q with
    | nil => intro x hx; exact nomatch hx
    | @cons p q ps qs hq t ih =>
      intro x hx
      rcases List.mem_cons.mp hx with e | hx
      · subst e
        exact key_of ok (by rw [← hq.1]; exact hq.2.1)
      · exact ih x hx
  exact all r x hx
theorem dt_of {kvs : List (List Key × V)} (ok : HOk P w H h) (e : H a = some (.dT kvs)) : kvs.length ≤ sizeLine ∧ (a == sysModules) = false ∧
    ∃ xs, KT H kvs xs ∧ h.DictOfH (tupleKind (mixKind P w)) a xs := dt_rd ok (.inl e)
end

/-- what the dict at a holds at the key y -/
def DGet (H : Hp) (a : Addr) (y : V) (r : Option V) : Prop :=
  (∃ kvs k, Rd H a (.dK kvs) ∧ y = kV k ∧ r = valV kvs k) ∨ ∃ kvs k b, Rd H a (.dT kvs) ∧ y = .ref b ∧ H b = some (.tup (k.map kV)) ∧ r = valV kvs k
/-- the heap behind a[y] = v -/
def DPut (H : Hp) (a : Addr) (y v : V) (H' : Hp) : Prop :=
  (∃ kvs k, H a = some (.dK kvs) ∧ y = kV k ∧ kvs.length < sizeLine ∧ H' = upd H a (.dK (putK kvs k v))) ∨
  ∃ kvs k b, H a = some (.dT kvs) ∧ y = .ref b ∧ H b = some (.tup (k.map kV)) ∧ kvs.length < sizeLine ∧ H' = upd H a (.dT (putK kvs k v))
theorem DGet.t {H : Hp} {a b : Addr} {kvs : List (List Key × V)} {k : List Key} (e : H a = some (.dT kvs)) (eb : H b = some (.tup (k.map kV))) : DGet H a (.ref b) (valV kvs k) := .inr ⟨kvs, k, b, .inl e, rfl, eb, rfl⟩
theorem DPut.t {H : Hp} {a b : Addr} {kvs : List (List Key × V)} {k : List Key} {v : V} (e : H a = some (.dT kvs)) (eb : H b = some (.tup (k.map kV))) (hl : kvs.length < sizeLine) :
    DPut H a (.ref b) v (upd H a (.dT (putK kvs k v))) := .inr ⟨kvs, k, b, e, rfl, eb, hl, rfl⟩


section
variable {X : Cx} {pins : List (Addr × Obj)} {σ : St} {H : Hp} {s : Shared} {a : Addr} {y v : V} {u r : Value} {o : Option V} {A : Around} {E : Value → Shared → Prop}

theorem Inv.big (I : Inv X pins σ H s) : sysModules < s.heap.objs.size := by
  have h : mainGlobals < s.heap.objs.size := (I.mod.glob.keeps I.bk).lt
  exact Nat.lt_trans (by decide) h

/-- d[y], there -/
theorem d_getItem {Q : Value → Shared → Prop} (hu : A.units + 1 < cLine) (I : Inv X pins σ H s) (g : DGet H a y (some v)) (ry : RelV y u) (h : ∀ w' s', Inv X pins σ H s' → RelV v w' → Q w' s') :
    wpAny (model X.prog X.w) A (getItem (.ref a) u) Q E s := by
  rcases g with ⟨kvs, k, e, ey, l⟩ | ⟨kvs, k, b, e, ey, eb, l⟩
  · subst ey
    obtain ⟨z, hd, vs, rel, dd⟩ := dk_rd I.hok e
    obtain ⟨w', hw, rw'⟩ := RelO.some_of (v := v) (o := valueAt vs k) (by rw [l]; exact rel.val k)
    exact wpAny_getItem_of (kV_is ry) dd.mapOf hw (h w' _ (I.tok _) rw')
  · subst ey
    cases (show u = Value.ref b from ry)
    obtain ⟨z, hd, xs, rel, dd⟩ := dt_rd I.hok e
    obtain ⟨w', hw, rw'⟩ := RelO.some_of (v := v) (o := (atKey xs k).map (·.2)) (by rw [l]; exact rel.val k)
    obtain ⟨p, hp, hp2⟩ := Option.map_eq_some_iff.mp hw
    refine wpAny_getItem_heap (tupleKind_room_in1 hu) (key_of I.hok eb) dd hp ?_
    rw [hp2]
    exact h w' _ (I.tok _) rw'
/-- y in d -/
theorem d_in {Q : Value → Shared → Prop} (hu : A.units + 1 < cLine) (I : Inv X pins σ H s) (g : DGet H a y o) (ry : RelV y u) (h : ∀ s', Inv X pins σ H s' → Q (.bool o.isSome) s') :
    wpAny (model X.prog X.w) A (compareOp .In u (.ref a)) Q E s := by
  rcases g with ⟨kvs, k, e, ey, l⟩ | ⟨kvs, k, b, e, ey, eb, l⟩
  · subst ey
    obtain ⟨z, hd, vs, rel, dd⟩ := dk_rd I.hok e
    refine wpAny_in_of (kV_is ry) hd dd.mapOf ?_
    rw [← (rel.val k).isSome_eq, ← l]
    exact h _ (I.tok _)
  · subst ey
    cases (show u = Value.ref b from ry)
    obtain ⟨z, hd, xs, rel, dd⟩ := dt_rd I.hok e
    refine wpAny_in_heap (tupleKind_room_in1 hu) (key_of I.hok eb) hd dd ?_
    have q := (rel.val k).isSome_eq
    rw [Option.isSome_map] at q
    rw [← q, ← l]
    exact h _ (I.tok _)
theorem d_notIn {Q : Value → Shared → Prop} (hu : A.units + 1 < cLine) (I : Inv X pins σ H s) (g : DGet H a y o) (ry : RelV y u) (h : ∀ s', Inv X pins σ H s' → Q (.bool (!o.isSome)) s') :
    wpAny (model X.prog X.w) A (compareOp .NotIn u (.ref a)) Q E s := by
  rcases g with ⟨kvs, k, e, ey, l⟩ | ⟨kvs, k, b, e, ey, eb, l⟩
  · subst ey
    obtain ⟨z, hd, vs, rel, dd⟩ := dk_rd I.hok e
    refine wpAny_notIn_of (kV_is ry) hd dd.mapOf ?_
    rw [← (rel.val k).isSome_eq, ← l]
    exact h _ (I.tok _)
  · subst ey
    cases (show u = Value.ref b from ry)
    obtain ⟨z, hd, xs, rel, dd⟩ := dt_rd I.hok e
    refine wpAny_notIn_heap (tupleKind_room_in1 hu) (key_of I.hok eb) hd dd ?_
    have q := (rel.val k).isSome_eq
    rw [Option.isSome_map] at q
    rw [← q, ← l]
    exact h _ (I.tok _)
/-- a dict's object is replaced -/
theorem d_write {h' : Heap} {t' : Nat} {ob : HO} (I : Inv X pins σ H s) (mu : Mut (H a)) (hs : Heap.SameBut a s.heap h') (he : ∃ q, h'.get? a = some q) (new : ObjOk X.prog X.w (upd H a ob) h' a ob) :
    Inv X pins σ (upd H a ob) { s with heap := h', toks := t' } :=
  I.write (x := a) (e := a) mu (.inl rfl) (fun b q hb z => (hs.2 b hb).trans z) he new
theorem dk_new {P : Program} {w : World} {H' : Hp} {h' : Heap} {kvs : List (Key × V)} {vs : List (Key × Value)} (z : kvs.length ≤ sizeLine) (hd : (a == sysModules) = false) (rel : KV kvs vs) (dd : h'.DictOf (mixKind P w) a vs) :
    ObjOk P w H' h' a (.dK kvs) := ⟨z, hd, vs, rel, dd⟩
/-- d[y] = v -/
theorem d_setItem {H' : Hp} {Q : Unit → Shared → Prop} (hu : A.units + 1 < cLine) (I : Inv X pins σ H s) (g : DPut H a y v H') (ry : RelV y u) (rv : RelV v r) (h : ∀ s', Inv X pins σ H' s' → Q () s') :
    wpAny (model X.prog X.w) A (setItem (.ref a) u r) Q E s := by
  rcases g with ⟨kvs, k, e, ey, l, eH⟩ | ⟨kvs, k, b, e, ey, eb, l, eH⟩
  · subst ey eH
    obtain ⟨z, hd, vs, rel, dd⟩ := dk_of I.hok e
    have hz : vs.length ≤ sizeLine := by rw [← rel.length]; exact z
    have hl : (putK kvs k v).length ≤ sizeLine := by have := length_putK kvs k v; omega
    refine wpAny_setItem_pairs (hsz := hz) (kV_is ry) dd fun h' dd' hs => h _ ?_
    have he : ∃ q, h'.get? a = some q := let ⟨q, _, _, hq, _⟩ := dd'; ⟨q, hq⟩
    exact d_write I (by rw [e]; exact True.intro) hs he (dk_new hl hd (rel.put k rv) dd')
  · subst ey eH
    cases (show u = Value.ref b from ry)
    obtain ⟨z, hd, xs, rel, dd⟩ := dt_of I.hok e
    have hz : xs.length ≤ sizeLine := by rw [← Paired.length rel]; exact z
    have hl : (putK kvs k v).length ≤ sizeLine := by have := length_putK kvs k v; omega
    refine wpAny_setItem_heap (hsz := hz) (tupleKind_room_in1 hu) (key_of I.hok eb) dd fun h' dd' hs => h _ ?_
    obtain ⟨q, es, ep, hq, h2, h3, h4, _, h5⟩ := dd'
    refine d_write I (by rw [e]; exact True.intro) hs ⟨q, hq⟩ ⟨hl, hd, _, (rel.put k eb rv).keeps fun c ys ec => ?_, q, es, ep, hq, h2, h3, h4, h5⟩
    rw [upd_ne (ne_of ec e (fun z => nomatch z))]
    exact ec
end

section
variable {X : Cx} {pins : List (Addr × Obj)} {σ : St} {H : Hp} {s : Shared} {a : Addr} {kvs : List (Key × V)} {k : Key} {u : Value} {A : Around} {E : Value → Shared → Prop}
end


/-! ### readings and rules -/
/-- the element of a subscription, not a slice -/
def NoSl (i : Expr) : Prop := ∀ ov iv, subscripted i false ov iv = operate [ov, iv] (getItem ov iv)
theorem subD_of {prog : Program} {w : World} {A : Around} {E : Value → Shared → Prop} {s : Shared} {env : Env} {value slice : Expr} {pos : Pos} {T id : String} {Q : Value → Shared → Prop}
    (hl : typeLookup (.type T) "__getitem__" = pure (some (.builtin id))) (hs : NoSl slice)
    (h : wpAny (model prog w) A (eval value env) (fun o s₁ => wpAny (model prog w) A (eval slice env) (fun i s₂ => s₂.TypeIs o T ∧ wpAny (model prog w) A (getItem o i) Q E s₂) E s₁) E s) :
    wpAny (model prog w) A (eval (.Subscript value slice pos) env) Q E s := by
  refine Subscript_ (wpAny_mono h (fun o s₁ h₁ => wpAny_mono h₁ (fun i s₂ h₂ => ?_) fun _ _ x => x) fun _ _ x => x)
  obtain ⟨hT, h₂⟩ := h₂
  unfold subscriptTail
  refine wpAny_bind ?_
  rw [getitemInPython_of_ne hT.not_modules]
  refine wpAny_bind (wpAny_specialOf hT hl ?_)
  have fin : wpAny (model prog w) A (subscripted slice false o i) (fun r s₃ => wpAny (model prog w) A (letTemporaryGo value o r >>= fun _ => pure r) Q E s₃) E s₂ := by
    rw [hs o i]
    exact wpAny_operating (wpAny_mono h₂ (fun r s₃ h₃ => wpAny_bind (wpAny_letTemporaryGo (wpAny_pure h₃))) fun _ _ x => x)
  first
    | exact wpAny_pure (wpAny_bind fin)
    | exact wpAny_bind (wpAny_pure (wpAny_bind fin))
    | exact wpAny_bind fin

theorem dict_typeIs {X : Cx} {pins : List (Addr × Obj)} {σ : St} {H : Hp} {s : Shared} {a : Addr} {y : V} {o : Option V} (I : Inv X pins σ H s) (g : DGet H a y o) : s.TypeIs (.ref a) "dict" := by
  rcases g with ⟨kvs, k, e, _, _⟩ | ⟨kvs, k, b, e, _, _, _⟩
  · obtain ⟨_, _, vs, _, dd⟩ := dk_rd I.hok e
    exact dd.typeIs
  · obtain ⟨_, _, xs, _, dd⟩ := dt_rd I.hok e
    exact dd.typeIs

/-- d[y] -/
def tDGet (td ty : TE) : TE := fun σ H Q => td σ H fun x H1 => ty σ H1 fun y H2 => ∃ a v, x = .ref a ∧ DGet H2 a y (some v) ∧ Q v H2
/-- y in d, y not in d -/
def tDIn (ty td : TE) : TE := fun σ H Q => ty σ H fun y H1 => td σ H1 fun x H2 => ∃ a o, x = .ref a ∧ DGet H2 a y o ∧ Q (.bl o.isSome) H2
def tDNotIn (ty td : TE) : TE := fun σ H Q => ty σ H fun y H1 => td σ H1 fun x H2 => ∃ a o, x = .ref a ∧ DGet H2 a y o ∧ Q (.bl (!o.isSome)) H2
/-- d[y] = v -/
def sDPut (td ty tv : TE) : TS := fun D σ H => tv σ H fun v H1 => td σ H1 fun x H2 => ty σ H2 fun y H3 => ∃ a H4, x = .ref a ∧ DPut H3 a y v H4 ∧ D.nx σ H4

section
variable {X : Cx} {o i e value : Expr} {pos pos' tpos : Pos} {td ty tv : TE}
theorem pe_dget (hu : X.A.units + 1 < cLine) (ho : PE X o td) (hi : PE X i ty) (hs : NoSl i) : PE X (.Subscript o i pos) (tDGet td ty) := by
  refine ⟨?_⟩
  intro pins s σ H Q I h
  refine subD_of PySem.F.slot_dict_getitem.lookup hs (thn (ho pins s σ H _ I h) fun u s1 ⟨x, H1, I1, rx, q1⟩ => thn (hi pins s1 σ H1 _ I1 q1) fun iv s2 ⟨y, H2, I2, ry, a, v, ex, g, q2⟩ => ?_)
  subst ex
  obtain rfl : u = Value.ref a := rx
  exact ⟨dict_typeIs I2 g, d_getItem hu I2 g ry fun w' s3 I3 rw' => ⟨v, H2, I3, rw', q2⟩⟩
theorem pc_din (hu : X.A.units + 1 < cLine) (hi : PE X i ty) (ho : PE X o td) : PC X .In i o (tDIn ty td) := by
  intro pins s σ H Q I h
  refine thn (hi pins s σ H _ I h) fun iv s1 ⟨y, H1, I1, ry, q1⟩ => thn (ho pins s1 σ H1 _ I1 q1) fun u s2 ⟨x, H2, I2, rx, a, ov, ex, g, q2⟩ => ?_
  subst ex
  obtain rfl : u = Value.ref a := rx
  exact d_in hu I2 g ry fun s3 I3 => ⟨.bl ov.isSome, H2, I3, rfl, q2⟩
theorem pc_dnotin (hu : X.A.units + 1 < cLine) (hi : PE X i ty) (ho : PE X o td) : PC X .NotIn i o (tDNotIn ty td) := by
  intro pins s σ H Q I h
  refine thn (hi pins s σ H _ I h) fun iv s1 ⟨y, H1, I1, ry, q1⟩ => thn (ho pins s1 σ H1 _ I1 q1) fun u s2 ⟨x, H2, I2, rx, a, ov, ex, g, q2⟩ => ?_
  subst ex
  obtain rfl : u = Value.ref a := rx
  exact d_notIn hu I2 g ry fun s3 I3 => ⟨.bl (!ov.isSome), H2, I3, rfl, q2⟩
theorem ps_dput (hu : X.A.units + 1 < cLine) (ho : PE X o td) (hi : PE X i ty) (hv : PE X value tv) (hs : swapsWith value (some (.Subscript o i pos')) pos.line X.env = pure false) :
    PS X (.Assign [.Subscript o i pos'] value pos) (sDPut td ty tv) := by
  refine ⟨?_⟩
  intro pins s σ H D I h
  refine wpAny_Assign_Subscript (thn (hv pins s σ H _ I h) fun r s1 ⟨v, H1, I1, rv, q1⟩ => thn (ho pins s1 σ H1 _ I1 q1) fun u s2 ⟨x, H2, I2, rx, q2⟩ => thn (hi pins s2 σ H2 _ I2 q2) fun iv s3 ⟨y, H3, I3, ry, a, H4, ex, g, q3⟩ => ?_) hs
  subst ex
  obtain rfl : u = Value.ref a := rx
  exact d_setItem hu I3 g ry rv fun s4 I4 => ⟨σ, H4, I4, q3⟩
end


/-! ### displays -/
theorem dt_empty {P : Program} {w : World} {H : Hp} (h : Heap) (hb : sysModules < h.objs.size) : ObjOk P w H (h.push { cls := .type "dict", data := .dict #[] }) h.objs.size (.dT []) :=
  ⟨Nat.zero_le _, beq_eq_false_iff_ne.mpr (Ne.symm (Nat.ne_of_lt hb)), [], .nil, _, #[], 0, Heap.get?_push_size _ rfl, ⟨rfl, rfl, rfl⟩, rfl, rfl, List.nodup_nil⟩
def tDNewT : TE := fun _ H Q => ∀ p, H p = none → Q (.ref p) (upd H p (.dT []))
section
variable {X : Cx} {pos : Pos}
theorem pe_dnewT : PE X (.Dict [] [] pos) tDNewT := .mk fun pins s σ H Q I h =>
  wpAny_Dict_empty ⟨.ref s.heap.objs.size, _, I.laid (a := s.heap.objs.size) (o := .dT []) (t' := s.toks) (fun _ _ q => Heap.get?_push_of_some _ q) (Nat.le_refl _) (dt_empty s.heap I.big), rfl, h _ (I.hok.fresh (Nat.le_refl _))⟩
end




/-! ### methods -/
structure M2 (X : Cx) (o : Expr) (m : Str) (apos : Pos) (e f : Expr) (cpos : Pos) : Prop where
  base : attributeBase o m X.env (eval o X.env) = eval o X.env
  few : ((backTo cpos (starEach [e, f] X.env)).all (fun x => !x.1) && (backToKw cpos (keywordEach [] X.env)).all (fun x => x.1.isSome)
    && decide (([e, f] : List Expr).length + ([] : List Keyword).length + (if ([] : List Keyword).isEmpty then 0 else 1) < 30)) = true
  line : (apos.endLine == cpos.line) = true
  trees : backTo cpos (starEach [e, f] X.env) = [(false, eval e X.env), (false, eval f X.env)]

/-- a is a dict, whatever its keys -/
def IsD (H : Hp) (a : Addr) : Prop := (∃ kvs, Rd H a (.dK kvs)) ∨ ∃ kvs, Rd H a (.dT kvs)
theorem isD_at {X : Cx} {pins : List (Addr × Obj)} {σ : St} {H : Hp} {s : Shared} {a : Addr} (I : Inv X pins σ H s) (d : IsD H a) :
    s.TypeIs (.ref a) "dict" ∧ (∀ b, Value.ref a = .ref b → ∃ ob, s.heap.get? b = some ob ∧ ob.dict = none) ∧ (a == sysModules) = false := by
  rcases d with ⟨kvs, e⟩ | ⟨kvs, e⟩
  · obtain ⟨_, hd, vs, _, dd⟩ := dk_rd I.hok e
    refine ⟨dd.typeIs, fun b q => ?_, hd⟩
    cases q
    obtain ⟨ob, _, _, h1, h2, _⟩ := dd
    exact ⟨ob, h1, h2.2.1⟩
  · obtain ⟨_, hd, xs, _, dd⟩ := dt_rd I.hok e
    refine ⟨dd.typeIs, fun b q => ?_, hd⟩
    cases q
    obtain ⟨ob, _, _, h1, h2, _⟩ := dd
    exact ⟨ob, h1, h2.2.1⟩

section
variable {X : Cx} {pins : List (Addr × Obj)} {σ : St} {H : Hp} {s : Shared} {a : Addr} {y d : V} {u r : Value} {o : Option V} {A : Around} {E : Value → Shared → Prop}
end

section
variable {X : Cx} {o e f : Expr} {apos cpos : Pos} {td ty tx : TE}
end

/-! ### dict(d): a copy -/
section
variable {X : Cx} {pins : List (Addr × Obj)} {σ : St} {H : Hp} {s : Shared} {a : Addr} {kvs : List (Key × V)} {A : Around} {E : Value → Shared → Prop}
end


section
variable {X : Cx} {pins : List (Addr × Obj)} {σ : St} {H : Hp} {s : Shared} {a : Addr} {y : V} {u : Value} {A : Around} {E : Value → Shared → Prop}
end
end L2
set_option Elab.async false
set_option linter.all false
set_option maxRecDepth 100000
/-! displays of dicts whose keys are ints, texts and None, over the hand layer: flat dicts that are never written. -/
namespace L2
open PySem PySem.Spec PyProof.Rows
end L2
set_option Elab.async false
set_option linter.all false
set_option maxRecDepth 100000
/-! LIST COMPREHENSIONS whose target is several names (a, b = each pair). -/
namespace L2
open PySem PySem.Spec PyProof.Rows
def cxLN (X : Cx) (xs Ns : List Str) (scope : Scope) (C : Addr) (fp : List Addr) (s : Shared) (H : Hp) : Cx where
  prog := X.prog
  w := X.w
  K := X.K
  mg := X.mg
  base := X.base
  A := X.A
  N := xs ++ Ns
  s₀ := s
  H₀ := H
  env := compEnvC scope (clOf scope X.env.cells) C X.env
  outer := X.stack
  stack := X.stack
  ex := fp
  fn := fun _ => false
  calm := X.calm
  pn := []
  xe := fun _ _ => False
/-- xs: the block's names; Ns: the names around it, those that the block's names hide put otherwise -/
structure LnScope (X : Cx) (xs Ns : List Str) (sc : Scope) : Prop where
  kind : sc.kind = .function
  nocell : ∀ p ∈ sc.names, p.2 ≠ .cell
  loc : ∀ x ∈ xs, sc.names.lookup x = some .local
  names : ∀ p ∈ sc.names, p.2 = .local → sc.names.lookup p.1 = some .local
  apart : ∀ y ∈ Ns, sc.names.lookup y ≠ some .local
  sub : ∀ (i : Nat) (y : Str), Ns[i]? = some y → sc.names.lookup y = some .free → X.N[i]? = some y
  len : Ns.length = X.N.length
  all : (xs ++ Ns).Nodup
  free : ∀ p ∈ sc.names, p.2 = .free → X.env.kindOf p.1 = some .cell ∨ X.env.kindOf p.1 = some .free
section
variable {X : Cx} {pins : List (Addr × Obj)} {σ : St} {H : Hp} {s : Shared} {xs Ns : List Str} {sc : Scope} {C : Addr} {fp : List Addr}
theorem LnScope.cells (S : LnScope X xs Ns sc) (ok : X.Ok) : ∀ p ∈ sc.names, p.2 = .free → ∃ a, X.env.cells.lookup p.1 = some a := fun p hp e => ok.has p.1 (S.free p hp e)
theorem Inv.okLN (I : Inv X pins σ H s) (S : LnScope X xs Ns sc) (hC : s.heap.objs.size ≤ C) (hf : ∀ b ∈ fp, FpOk X pins H b) (hlt : ∀ b ∈ fp, b < s.heap.objs.size) : (cxLN X xs Ns sc C fp s H).Ok where
  mod := I.ok.mod
  kind := S.kind
  glob := I.ok.glob
  blt := I.ok.blt
  above := hC
  inj := fun y z c e1 e2 => I.ok.inj y z c (clOf_sub sc X.env.cells e1) (clOf_sub sc X.env.cells e2)
  has := fun y hy => by
    have hy' : (relabel sc X.env).names.lookup y = some .cell ∨ (relabel sc X.env).names.lookup y = some .free := hy
    have fr : sc.names.lookup y = some .free := by
      rcases hy' with h | h
      · obtain ⟨k', e, q⟩ := relabel_look h
        rcases q with q | ⟨q, _⟩
        · subst q; exact absurd rfl (S.nocell _ (PySem.mem_of_lookup e))
        · rw [e, q]
      · obtain ⟨k', e, q⟩ := relabel_look h
        rcases q with q | ⟨_, q⟩
        · rw [e, ← q]
        · cases q
    exact clOf_has sc X.env.cells (S.cells I.ok) (PySem.mem_of_lookup fr)
  cab := fun y c e => by cases (show false = true from e)
  hd := I.ok.hd
  frames := I.ok.frames
  stk := .inl rfl
  exf := fun b hb => ⟨Nat.ne_of_lt (Nat.lt_of_lt_of_le (hlt b hb) hC), fun y c e => (hf b hb).2.2.2.2.1 y c (clOf_sub sc X.env.cells e)⟩
  bs := I.bs
  bsz := Nat.le_trans I.ok.bsz I.sz
  noex := fun b o e hb => by
    rcases (hf b hb).2.2.2.1 with q | q
    · exact I.ok.noex b o e q
    · exact absurd (Nat.lt_of_lt_of_le (Heap.lt_size e) (Nat.le_trans I.ok.bsz q)) (Nat.lt_irrefl _)
  exfs := fun b hb z => by
    rcases List.mem_cons.mp (I.stkSub b z) with q | q
    · exact (hf b hb).2.1 q
    · exact (hf b hb).2.2.1 q
  funs := I.stack
  frf := I.stkFree
theorem Inv.startLN {D : Addr} {h1 : Heap} {m : Str → Option Value} {tk : Nat} {w : St} (I : Inv X pins σ H s) (S : LnScope X xs Ns sc) (hf : ∀ b ∈ fp, FpOk X pins H b) (hlt : ∀ b ∈ fp, b < s.heap.objs.size) (hw : w = xs.map fun _ => none)
    (hD : D = s.heap.objs.size) (hC : s.heap.objs.size ≤ C) (hDC : C ≠ D) (hk : ∀ b o, s.heap.get? b = some o → h1.get? b = some o) (hn : h1.Ns C m) (hl : h1.get? D = some { cls := .type "list", data := .seq ([] : List Value).toArray 0 }) :
    Inv (cxLN X xs Ns sc C fp s H) [] (w ++ σ) (upd H D (.lst [])) { s with heap := h1, toks := tk } := by
  have hwl : w.length = xs.length := by rw [hw, List.length_map]
  have hDle : s.heap.objs.size ≤ D := by rw [hD]; exact Nat.le_refl _
  have cells : ∀ y c, (clOf sc X.env.cells).lookup y = some c → c < s.heap.objs.size := fun y c e => by
    obtain ⟨v, q⟩ := I.cell y c (clOf_sub sc X.env.cells e)
    exact q.lt
  refine ⟨I.okLN S hC hf hlt, rfl, I.bare, Un.laid hk hDle (I.hok.fresh hDle), ⟨m, hn, fun i y v e1 e2 e3 => ?_⟩, fun y c e => ?_, ?_, fun y c e => ?_, fun p hp => absurd (show p ∈ ([] : List (Addr × Obj)) from hp) (by simp), I.hok.laid hk hDle ⟨Nat.zero_le _, [], 0, .nil, hl⟩, ?_⟩
  · have e1 : (xs ++ Ns)[i]? = some y := e1
    have e2 : (w ++ σ)[i]? = some (some v) := e2
    rcases Nat.lt_or_ge i xs.length with hi | hi
    · rw [List.getElem?_append_left (by omega), hw, List.getElem?_map, List.getElem?_eq_getElem hi] at e2
      cases e2
    · have e1' : Ns[i - xs.length]? = some y := by rw [List.getElem?_append_right hi] at e1; exact e1
      have e2' : σ[i - xs.length]? = some (some v) := by rw [List.getElem?_append_right (by omega), hwl] at e2; exact e2
      have e3' : Vis (relabel sc X.env) y := e3
      have ny : sc.names.lookup y ≠ some .local := S.apart y (List.mem_of_getElem? e1')
      have fr : sc.names.lookup y = some .free ∧ ((relabel sc X.env).names.lookup y = some .cell ∨ (relabel sc X.env).names.lookup y = some .free) := by
        rcases e3' with h | h | h
        · obtain ⟨k', e, q⟩ := relabel_look h
          rcases q with q | ⟨_, q⟩
          · subst q; exact absurd e ny
          · cases q
        · obtain ⟨k', e, q⟩ := relabel_look h
          rcases q with q | ⟨q, _⟩
          · subst q; exact absurd rfl (S.nocell _ (PySem.mem_of_lookup e))
          · exact ⟨by rw [e, q], .inl h⟩
        · obtain ⟨k', e, q⟩ := relabel_look h
          rcases q with q | ⟨_, q⟩
          · exact ⟨by rw [e, ← q], .inr h⟩
          · cases q
      have ok := S.free (y, .free) (PySem.mem_of_lookup fr.1) rfl
      obtain ⟨m0, hn0, hl0⟩ := I.loc
      obtain ⟨u, r, l⟩ := hl0 _ y v (S.sub _ y e1' fr.1) e2' (.inr ok)
      refine ⟨u, r, .inr ⟨fr.2, ?_⟩⟩
      rcases l with ⟨k, _⟩ | ⟨_, c, ec, z⟩
      · rcases ok with q | q <;> (rw [show X.env.kindOf y = some .local from k] at q; cases q)
      · obtain ⟨c', ec'⟩ := clOf_has sc X.env.cells (S.cells I.ok) (PySem.mem_of_lookup fr.1)
        have := clOf_sub sc X.env.cells ec'
        rw [ec] at this
        cases this
        obtain ⟨o, ho, hd⟩ := z
        exact ⟨c, ec', o, hk _ _ ho, hd⟩
  · obtain ⟨v, o, ho, hd⟩ := I.cell y c (clOf_sub sc X.env.cells e)
    exact ⟨v, o, hk _ _ ho, hd⟩
  · show upd H D (.lst []) C = none
    rw [upd_ne hDC]
    exact I.hok.fresh hC
  · show upd H D (.lst []) c = none
    rw [upd_ne (Nat.ne_of_lt (Nat.lt_of_lt_of_le (cells y c e) hDle))]
    exact I.freeC y c (clOf_sub sc X.env.cells e)
  · show (w ++ σ).length = (xs ++ Ns).length
    rw [List.length_append, List.length_append, I.len, hwl, S.len]
theorem Inv.endLN {s2 : Shared} {H2 : Hp} {st : St} {pl : List (Addr × Obj)} (I : Inv X pins σ H s) (J : Inv (cxLN X xs Ns sc C fp s H) pl st H2 s2) (hf : ∀ b ∈ fp, FpOk X pins H b) : Inv X pins σ H2 s2 :=
  I.call' (ch := fp) J.os J.base J.hok J.bare fun b hb => ⟨(hf b hb).2.2.2.1, (hf b hb).2.1, (hf b hb).2.2.2.2.1, (hf b hb).2.2.2.2.2⟩
end
/-- acc = []; for target in ..: if ..: acc.append(..), the list at D; n: how many names the target has -/
def lcGoN (n : Nat) (g : TG) (tc : TT) (te : TE) (σ : St) (J : It) (D : Addr) (Fin : Hp → Prop) (H : Hp) : Prop :=
  ∃ W : Nat → Nat → List V → Hp → Prop, (∃ m, W 0 m [] (upd H D (.lst []))) ∧ ∀ i m ys H, W i m ys H → H D = some (.lst ys) ∧
    ((J.stop i H ∧ Fin H) ∨ (J.go i H ∧ ∀ x H' (u : St), u.length = n → J.yld i H x H' → g x (u ++ σ) H' fun σ2 H2 => (∃ u2 : St, u2.length = n ∧ σ2 = u2 ++ σ) ∧ tc σ2 H2 fun b H3 => if b = true then te σ2 H3 fun y H4 => H4 D = some (.lst ys) ∧ ys.length < sizeLine ∧ ∃ m', m' < m ∧ W (i + 1) m' (ys ++ [y]) (upd H4 D (.lst (ys ++ [y])))
      else ∃ m', m' < m ∧ W (i + 1) m' ys H3))
def tLN (n : Nat) (wi : TI) (g : TG) (tc : TT) (te : TE) : TE := fun σ H Q => wi σ H fun J H1 => ∀ D, H1 D = none → lcGoN n g tc te σ J D (fun H2 => Q (.ref D) H2) H1
section
variable {X : Cx} {xs Ns : List Str} {sc : Scope} {elt iter tg : Expr} {ifs : List Expr} {pos : Pos} {wi : TI} {g : TG} {tc : TT} {te : TE}
theorem ln_block {pins : List (Addr × Obj)} {σ : St} {H : Hp} {s : Shared} {it : Addr} {fp : List Addr} {tn : Nat → Heap → Prop} {J : It} {Fin : Addr → Hp → Prop} {RR : Value → Addr → Result → Shared → Prop} {E : Value → Shared → Prop}
    (hc : X.calm = true) (S : LnScope X xs Ns sc) (I : Inv X pins σ H s) (T : Turn X.prog X.w X.K tg J fp it tn) (st : tn 0 s.heap) (hf : ∀ b ∈ fp, FpOk X pins H b) (hg : ∀ C s0 H0, PG (cxLN X xs Ns sc C fp s0 H0) tg g)
    (ht : ∀ C s0 H0, PTs (cxLN X xs Ns sc C fp s0 H0) ifs tc) (he : ∀ C s0 H0, PE (cxLN X xs Ns sc C fp s0 H0) elt te) (q : ∀ D, H D = none → lcGoN xs.length g tc te σ J D (Fin D) H)
    (hR : ∀ D C H2 s2 m, s.heap.objs.size ≤ C → Inv X pins σ H2 s2 → H2 C = none → s2.heap.Ns C m → Fin D H2 → RR (.ref D) C (.ok .next) s2) :
    wpAny (model X.prog X.w) X.A (newList []) (fun acc s3 => wpAny (model X.prog X.w) X.A (newFunctionEnv sc X.env.globals (clOf sc X.env.cells) [] X.env.qual none .none (some X.env)) (fun cenv s4 =>
      codeAny (model X.prog X.w) X.A (.compStart (.ListComp elt [⟨tg, iter, ifs, 0⟩] sc pos) 0 (.ref it) acc { cenv with scope := relabel sc X.env }) (RR acc cenv.locals) s4) E s3) E s := by
  have hlt : ∀ b ∈ fp, b < s.heap.objs.size := fun b hb => by
    obtain ⟨o, e, _⟩ := T.obj 0 _ st b hb
    exact Heap.lt_size e
  refine wpAny_newObj_type (wpAny_newFunctionEnv S.nocell (by intro y hy; simp at hy) (fun h1 hns1 hsb1 => ?_) S.kind)
  dsimp only at hns1 hsb1 ⊢
  generalize hH2 : s.heap.push { cls := .type "list", dict := none, data := .seq ([] : List Value).toArray } = G at hns1 hsb1 ⊢
  have hC : G.objs.size = s.heap.objs.size + 1 := by rw [← hH2, Heap.size_push]
  have hCle : s.heap.objs.size ≤ G.objs.size := by rw [hC]; exact Nat.le_succ _
  have hDC : G.objs.size ≠ s.heap.objs.size := by rw [hC]; exact Nat.succ_ne_self _
  have old : ∀ b o, s.heap.get? b = some o → h1.get? b = some o := fun b o e => hsb1.extBut b o (Nat.ne_of_lt (Nat.lt_of_lt_of_le (Heap.lt_size e) hCle)) (Heap.get?_push_of_some _ (hH2 ▸ Heap.get?_push_of_some _ e))
  have hacc : h1.get? s.heap.objs.size = some { cls := .type "list", data := .seq ([] : List Value).toArray 0 } := hsb1.extBut _ _ (Ne.symm hDC) (Heap.get?_push_of_some _ (hH2 ▸ Heap.get?_push_size _ rfl))
  have hDn : H s.heap.objs.size = none := I.hok.fresh (Nat.le_refl _)
  obtain ⟨W, ⟨m0, w0⟩, turn⟩ := q s.heap.objs.size hDn
  have st1 : tn 0 h1 := T.keep _ _ _ st fun b _ o e => old b o e
  have I1 := fun tk => I.startLN (tk := tk) (w := xs.map fun _ => none) S hf hlt rfl rfl hCle hDC old hns1 hacc
  have fr1 : ∀ b ∈ fp, upd H s.heap.objs.size (.lst []) b = none := fun b hb => by rw [upd_ne (Nat.ne_of_lt (hlt b hb))]; exact (hf b hb).1
  have loop : ∀ s3 : Shared, s3 = { s with heap := h1, toks := s.toks + ([] : List (Str × Value)).length } →
      codeAny (model X.prog X.w) X.A (.compLoop (.ListComp elt [⟨tg, iter, ifs, 0⟩] sc pos) 0 (.ref it) (.ref s.heap.objs.size) (compEnvC sc (clOf sc X.env.cells) G.objs.size X.env))
        (RR (.ref s.heap.objs.size) G.objs.size) s3 := by
    rintro s3 rfl
    have fpk : ∀ {H' : Hp}, (∀ b ∈ fp, H' b = none) → ∀ b ∈ fp, FpOk (cxLN X xs Ns sc G.objs.size fp s H) [] H' b := fun hn b hb =>
      ⟨hn b hb, Nat.ne_of_lt (Nat.lt_of_lt_of_le (hlt b hb) hCle), (I.okLN (C := G.objs.size) S hCle hf hlt).exfs b hb, .inl hb, fun y c e => (hf b hb).2.2.2.2.1 y c (clOf_sub sc X.env.cells e), fun p hp => absurd (show p ∈ ([] : List (Addr × Obj)) from hp) (by simp)⟩
    refine compLoop_own (fun n s' => ∃ i w ys H', w.length = xs.length ∧ Inv (cxLN X xs Ns sc G.objs.size fp s H) [] (w ++ σ) H' s' ∧ tn i s'.heap ∧ (∀ b ∈ fp, H' b = none) ∧ W i n ys H') ?_ m0 ⟨0, _, [], _, List.length_map _, I1 _, st1, fr1, w0⟩
    rintro n s3 ⟨i, v0, ys, H3, hv0, I3, st3, fr3, w3⟩
    obtain ⟨hD3, turn3⟩ := turn i n ys H3 w3
    rcases turn3 with ⟨stop, fin⟩ | ⟨go, step⟩
    · refine thn (T.done (cxLN X xs Ns sc G.objs.size fp s H) rfl rfl rfl hc i [] s3 _ H3 _ I3 (fpk fr3) st3 stop) fun r s4 ⟨hr, I4⟩ => ?_
      subst hr
      obtain ⟨m4, hn4, _⟩ := I4.loc
      exact hR _ _ H3 s4 m4 hCle (I.endLN I4 hf) I4.free hn4 fin
    · refine thn (T.item (cxLN X xs Ns sc G.objs.size fp s H) rfl rfl rfl hc i [] s3 _ H3 _ I3 (fpk fr3) st3 go) fun r s4 ⟨u, hr, h4⟩ => ?_
      subst hr
      refine thn h4 fun _ s5 ⟨y, H5, I5, r5, y5, st5, fr5⟩ => ?_
      have I5' := I5.pinned (fpk fr5) (T.obj _ _ st5)
      refine thn (hg G.objs.size s H _ s5 _ H5 y u _ I5' r5 (step y H5 v0 hv0 y5)) fun _ s6 ⟨σ6, H6, I6, ⟨w6, hw6, e6⟩, q6⟩ => ?_
      subst e6
      refine thn (ht G.objs.size s H _ s6 _ H6 _ I6 q6) fun ok s7 ⟨H7, I7, q7⟩ => ?_
      have again : ∀ {H8 : Hp} {s8 : Shared} {zs : List V}, Inv (cxLN X xs Ns sc G.objs.size fp s H) ([] ++ pinsAt fp s5.heap) (w6 ++ σ) H8 s8 → (∃ m', m' < n ∧ W (i + 1) m' zs H8) → ∃ m, m < n ∧ ∃ i w ys H', w.length = xs.length ∧ Inv (cxLN X xs Ns sc G.objs.size fp s H) [] (w ++ σ) H' s8 ∧ tn i s8.heap ∧ (∀ b ∈ fp, H' b = none) ∧ W i m ys H' := fun {H8 s8 zs} I8 ⟨m', hm, w8⟩ => by
        refine ⟨m', hm, i + 1, w6, zs, H8, hw6, I8.unpinned, T.keep _ _ _ st5 fun b hb o e => (I8.pin (b, o) (List.mem_append_right _ (List.mem_append_right _ (mem_pinsAt hb e)))).1, fun b hb => ?_, w8⟩
        obtain ⟨o, e, d⟩ := T.obj _ _ st5 b hb
        exact (I8.pin (b, o) (List.mem_append_right _ (List.mem_append_right _ (mem_pinsAt hb e)))).2.1
      cases ok with
      | false =>
        rw [if_neg Bool.false_ne_true] at q7 ⊢
        exact again I7 q7
      | true =>
        rw [if_pos rfl] at q7 ⊢
        refine thn (he G.objs.size s H _ s7 _ H7 _ I7 q7) fun z s8 ⟨zv, H8, I8, r8, hD8, hz8, w8⟩ => ?_
        refine thn (mt_append _ s8 _ H8 (.ref s.heap.objs.size) [zv] (.ref s.heap.objs.size) [z] (fun _ H9 => ∃ m', m' < n ∧ W (i + 1) m' (ys ++ [zv]) H9) I8 rfl (.cons r8 .nil) ⟨_, ys, zv, rfl, rfl, hD8, hz8, w8⟩) fun _ s9 ⟨_, H9, I9, _, w9⟩ => ?_
        exact again I9 w9
  exact codeAny_compStart_list (loop _ rfl) (T.self X.A 0 _ _ _ st1 (loop _ rfl))
theorem pe_ln (hc : X.calm = true) (S : LnScope X xs Ns sc) (hi : PI X tg iter wi) (hg : ∀ C fp s0 H0, PG (cxLN X xs Ns sc C fp s0 H0) tg g) (ht : ∀ C fp s0 H0, PTs (cxLN X xs Ns sc C fp s0 H0) ifs tc) (he : ∀ C fp s0 H0, PE (cxLN X xs Ns sc C fp s0 H0) elt te)
    (hs : ∀ v, foldedSetIterable iter X.env v = pure v := by intro _; rfl) : PE X (.ListComp elt [⟨tg, iter, ifs, 0⟩] sc pos) (tLN xs.length wi g tc te) := by
  refine ⟨?_⟩
  intro pins s σ H Q I h
  rw [eval_ListComp]
  refine wpAny_comprehension_free (use := none) rfl hs (closure_eq (S.cells I.ok)) S.kind S.names (thn (hi pins s σ H _ I h) fun v s1 h1 => thn h1 fun itv s2 h2 => ?_)
  obtain ⟨it, fp, tn, J, H2, e, I2, T, st2, f2, q2⟩ := h2
  subst e
  refine ln_block (RR := fun acc C => compPost (model X.prog X.w) X.A X.xe none (EP X pins σ Q) acc C) (Fin := fun D H3 => Q (.ref D) H3) hc S I2 T st2 f2 (fun C s0 H0 => hg C fp s0 H0) (fun C s0 H0 => ht C fp s0 H0) (fun C s0 H0 => he C fp s0 H0) q2 ?_
  intro D C H3 s3 m hC I3 hn hN q3
  refine ⟨m, hN, fun h' hs' => ⟨.ref D, H3, I3.butC hs' (Nat.le_trans I2.sz hC) hn (Nat.ne_of_gt (Nat.lt_of_lt_of_le I2.lt hC)) (fun y c e => ?_) (fun p hp => ?_), rfl, q3⟩⟩
  · obtain ⟨v, z⟩ := I2.cell y c e
    exact Nat.ne_of_lt (Nat.lt_of_lt_of_le z.lt hC)
  · exact Nat.ne_of_lt (Nat.lt_of_lt_of_le (Heap.lt_size (I2.pin p hp).1) hC)
/-- the target a, b -/
theorem pg_pair {x y : Str} {p1 p2 p3 : Pos} {k : Nat} (hc : X.calm = true) (S : LnScope X [x, y] Ns sc) : ∀ C fp s0 H0, PG (cxLN X [x, y] Ns sc C fp s0 H0) (.Tuple [.Name x p1, .Name y p2] k p3) (gTup X.K 2 (gCons (gName 0) (gCons (gName 1) gNil))) := fun C fp s0 H0 => by
  have lx : (relabel sc X.env).names.lookup x = some .local := lookup_relabel_local (S.loc x (by simp))
  have ly : (relabel sc X.env).names.lookup y = some .local := lookup_relabel_local (S.loc y (by simp))
  exact pg_tup (X := cxLN X [x, y] Ns sc C fp s0 H0) hc (pgs_cons (pg_name (i := 0) S.all rfl (.inl lx) (.inr lx)) (pgs_cons (pg_name (i := 1) S.all rfl (.inl ly) (.inr ly)) pgs_nil))
end
theorem lcN_go {tc : TT} {te : TE} {g : TG} {k : Nat} {σ : St} {J : It} {D : Addr} {Fin : Hp → Prop} {H : Hp} {n : Nat} (Pv : Nat → List V → Hp → Prop) (h0 : Pv 0 [] (upd H D (.lst [])))
    (hD : ∀ i ys H, Pv i ys H → H D = some (.lst ys)) (hend : ∀ ys H, Pv n ys H → J.stop n H ∧ Fin H)
    (hgo : ∀ i ys H, i < n → Pv i ys H → J.go i H ∧ ∀ x H' (u : St), u.length = k → J.yld i H x H' → g x (u ++ σ) H' fun σ2 H2 => (∃ u2 : St, u2.length = k ∧ σ2 = u2 ++ σ) ∧ tc σ2 H2 fun b H3 => if b = true then te σ2 H3 (LcNx n i D ys Pv) else LcNo n i ys Pv H3) : lcGoN k g tc te σ J D Fin H := by
  refine ⟨fun i m ys H => m = n - i ∧ i ≤ n ∧ Pv i ys H, ⟨n, rfl, Nat.zero_le _, h0⟩, ?_⟩
  rintro i m ys H ⟨rfl, hi, p⟩
  refine ⟨hD i ys H p, ?_⟩
  by_cases hlt : i < n
  · exact .inr (hgo i ys H hlt p)
  · have e : i = n := by omega
    subst e
    exact .inl (hend ys H p)
theorem len2 {α : Type} : ∀ {u : List α}, u.length = 2 → ∃ a b, u = [a, b]
  | [a, b], _ => ⟨a, b, rfl⟩
theorem sub_of {N Ns : List Str} {sc : Scope} (h : (Ns.zip N).all (fun p => decide (p.1 = p.2) || !(sc.names.lookup p.1 == some NameKind.free)) = true) (hl : Ns.length = N.length) : ∀ (i : Nat) (y : Str), Ns[i]? = some y → sc.names.lookup y = some .free → N[i]? = some y := fun i y e f => by
  have hi : i < Ns.length := (List.getElem?_eq_some_iff.mp e).1
  have hN : N[i]? = some (N[i]'(by omega)) := List.getElem?_eq_getElem (by omega)
  have hm : (y, N[i]'(by omega)) ∈ Ns.zip N := by
    refine List.mem_of_getElem? (i := i) ?_
    rw [List.getElem?_zip_eq_some]
    exact ⟨e, hN⟩
  have := List.all_eq_true.mp h _ hm
  dsimp only at this
  rw [f] at this
  have z : y = N[i]'(by omega) := by simpa using this
  rw [hN, ← z]
theorem lnS {X : Cx} {xs : List Str} (Ns : List Str) {sc scp : Scope} {N ps : List Str} (S : FnScope N ps scp) (hN : X.N = N := by rfl) (hs : X.env.scope = scp := by rfl) (h1 : sc.kind = .function := by rfl) (h2 : ∀ p ∈ sc.names, p.2 ≠ .cell := by decide +kernel) (h3 : ∀ x ∈ xs, sc.names.lookup x = some .local := by decide +kernel)
    (h4 : ∀ p ∈ sc.names, p.2 = .local → sc.names.lookup p.1 = some .local := by decide +kernel) (h5 : ∀ y ∈ Ns, sc.names.lookup y ≠ some .local := by decide +kernel) (h6 : (Ns.zip N).all (fun p => decide (p.1 = p.2) || !(sc.names.lookup p.1 == some NameKind.free)) = true := by decide +kernel) (hl : Ns.length = N.length := by rfl) (hall : (xs ++ Ns).Nodup := by decide +kernel)
    (h7 : ∀ p ∈ sc.names, p.2 = .free → scp.names.lookup p.1 = some .cell ∨ scp.names.lookup p.1 = some .free := by decide +kernel) : LnScope X xs Ns sc :=
  ⟨h1, h2, h3, h4, h5, by rw [hN]; exact sub_of h6 hl, by rw [hN]; exact hl, hall, fun p hp e => by
    show X.env.scope.names.lookup p.1 = _ ∨ X.env.scope.names.lookup p.1 = _
    rw [hs]
    exact h7 p hp e⟩
end L2
set_option Elab.async false
set_option linter.all false
set_option maxRecDepth 100000
/-! the table of a set: its places rise -/
namespace Ss
open PySem
def Rise (xs : Array Nat) : Prop := xs.toList.Pairwise (· < ·)
theorem Rise.lt {xs : Array Nat} (R : Rise xs) {i k : Nat} (h : i < k) (hk : k < xs.size) : xs.getD i 0 < xs.getD k 0 := by
  have hl : k < xs.toList.length := by rw [Array.length_toList]; exact hk
  have := List.pairwise_iff_getElem.mp R i k (by omega) hl h
  simpa [Array.getD, hk, Nat.lt_trans h hk] using this
theorem go_ok {xs : Array Nat} (R : Rise xs) (j : Nat) : ∀ (f lo hi : Nat), hi - lo ≤ f → lo ≤ hi → hi ≤ xs.size → (∀ i, i < lo → xs.getD i 0 < j) → (∀ i, hi ≤ i → i < xs.size → j ≤ xs.getD i 0) →
    SetTable.below.go xs j f lo hi ≤ xs.size ∧ (∀ i, i < SetTable.below.go xs j f lo hi → xs.getD i 0 < j) ∧ (∀ i, SetTable.below.go xs j f lo hi ≤ i → i < xs.size → j ≤ xs.getD i 0)
  | 0, lo, hi, h1, h2, h3, h4, h5 => by
    have e : lo = hi := by omega
    subst e
    exact ⟨h3, h4, h5⟩
  | f + 1, lo, hi, h1, h2, h3, h4, h5 => by
    unfold SetTable.below.go
    split
    · rename_i hlt
      dsimp only
      have hm : (lo + hi) / 2 < xs.size := by omega
      have e : xs.getD ((lo + hi) / 2) j = xs.getD ((lo + hi) / 2) 0 := by simp [Array.getD, hm]
      rw [e]
      by_cases hl : xs.getD ((lo + hi) / 2) 0 < j
      · rw [if_pos hl]
        refine go_ok R j f ((lo + hi) / 2 + 1) hi (by omega) (by omega) h3 (fun i hi' => ?_) h5
        rcases Nat.lt_or_ge i ((lo + hi) / 2) with z | z
        · exact Nat.lt_trans (R.lt z hm) hl
        · rw [show i = (lo + hi) / 2 by omega]; exact hl
      · rw [if_neg hl]
        refine go_ok R j f lo ((lo + hi) / 2) (by omega) (by omega) (by omega) h4 (fun i h6 h7 => ?_)
        rcases Nat.lt_or_ge ((lo + hi) / 2) i with z | z
        · have := R.lt z h7; omega
        · rw [show i = (lo + hi) / 2 by omega]; omega
    · have e : lo = hi := by omega
      subst e
      exact ⟨h3, h4, h5⟩
theorem below_ok {xs : Array Nat} (R : Rise xs) (j : Nat) : SetTable.below xs j ≤ xs.size ∧ (∀ i, i < SetTable.below xs j → xs.getD i 0 < j) ∧ (∀ i, SetTable.below xs j ≤ i → i < xs.size → j ≤ xs.getD i 0) :=
  go_ok R j xs.size 0 xs.size (by omega) (by omega) (Nat.le_refl _) (fun i h => by omega) (fun i h1 h2 => by omega)
theorem getD_at {xs : Array Nat} {i : Nat} (h : i < xs.size) : xs[i]? = some (xs.getD i 0) := by simp [Array.getD, h]
theorem rise_insert {xs : Array Nat} (R : Rise xs) {j : Nat} (hn : xs[SetTable.below xs j]? ≠ some j) : Rise (SetTable.insertAt xs (SetTable.below xs j) j) := by
  obtain ⟨b1, b2, b3⟩ := below_ok R j
  generalize SetTable.below xs j = p at *
  unfold Rise
  rw [SetTable.toList_insertAt]
  have gl : ∀ i (h : i < xs.toList.length), xs.toList[i] = xs.getD i 0 := fun i h => by
    have h' : i < xs.size := by rw [Array.length_toList] at h; exact h
    simp [Array.getD, h']
  have hd : ∀ b ∈ xs.toList.drop p, j < b := fun b hb => by
    obtain ⟨i, hi, rfl⟩ := List.getElem_of_mem hb
    rw [List.length_drop, Array.length_toList] at hi
    rw [List.getElem_drop, gl]
    have h1 := b3 (p + i) (by omega) (by omega)
    rcases Nat.lt_or_ge j (xs.getD (p + i) 0) with z | z
    · exact z
    · exfalso
      have e : xs.getD (p + i) 0 = j := by omega
      rcases Nat.eq_zero_or_pos i with z0 | z0
      · subst z0
        exact hn (by rw [getD_at (by omega)]; exact congrArg some e)
      · have := R.lt (i := p) (k := p + i) (by omega) (by omega)
        have := b3 p (Nat.le_refl _) (by omega)
        omega
  rw [List.pairwise_append]
  refine ⟨R.sublist (List.take_sublist _ _), List.pairwise_cons.mpr ⟨hd, R.sublist (List.drop_sublist _ _)⟩, fun a ha b hb => ?_⟩
  obtain ⟨i, hi, rfl⟩ := List.getElem_of_mem ha
  rw [List.length_take, Array.length_toList] at hi
  rw [List.getElem_take, gl]
  have h1 := b2 i (by omega)
  rcases List.mem_cons.mp hb with e | e
  · rw [e]; exact h1
  · exact Nat.lt_trans h1 (hd b e)
structure G (t : SetTable) : Prop where
  r : Rise t.place
  d : t.dummies = #[]
theorem G.slot {t : SetTable} (g : G t) (j : Nat) : t.slot j ≠ .dummy := by
  unfold SetTable.slot
  dsimp only
  rw [g.d]
  have e : SetTable.has #[] j = false := rfl
  rw [e]
  split
  · intro z; cases z
  · simp
theorem slot_empty {t : SetTable} {j : Nat} (h : t.slot j = .empty) : t.place[SetTable.below t.place j]? ≠ some j := by
  unfold SetTable.slot at h
  dsimp only at h
  intro z
  rw [z] at h
  simp at h
theorem probe_ok {t : SetTable} (g : G t) (ha : Nat → Int) (h : Int) : ∀ (f : Nat) (p : SetTable.Probe) (j : Nat) (d : Option Nat), SetTable.probe.go t ha h f p = some (.empty j d) → t.slot j = .empty ∧ d = p.dummy
  | 0, p, j, d, e => by simp [SetTable.probe.go] at e
  | f + 1, p, j, d, e => by
    unfold SetTable.probe.go at e
    cases hs : t.slot p.j with
    | empty =>
      rw [hs] at e
      simp at e
      obtain ⟨rfl, rfl⟩ := e
      exact ⟨hs, rfl⟩
    | dummy => exact absurd hs (g.slot _)
    | live i =>
      rw [hs] at e
      dsimp only at e
      split at e
      · cases e
      · have ih := probe_ok g ha h f _ j d e
        refine ⟨ih.1, ih.2.trans ?_⟩
        unfold SetTable.advance
        split <;> rfl
theorem freeSlot_ok {t : SetTable} (g : G t) {h : Int} {sl : Nat} {wd : Bool} (e : t.freeSlot h = some (sl, wd)) : t.slot sl = .empty := by
  unfold SetTable.freeSlot at e
  split at e
  · rename_i j dummy hp
    have := probe_ok g _ h _ _ j dummy hp
    have hd : dummy = none := this.2
    subst hd
    simp at e
    rw [← e.1]
    exact this.1
  · cases e
theorem standIn_G (t : SetTable) (n : Nat) : G (t.standIn n) := ⟨by
  show (Array.range n).toList.Pairwise (· < ·)
  rw [Array.toList_range]
  exact List.pairwise_lt_range, rfl⟩
theorem put_G {t : SetTable} (g : G t) {j : Nat} (h : t.slot j = .empty) : G (t.put j).1 := ⟨rise_insert g.r (slot_empty h), by
  show (if SetTable.has t.dummies j then SetTable.eraseAt t.dummies (SetTable.below t.dummies j) else t.dummies) = #[]
  rw [g.d]
  have e : SetTable.has #[] j = false := rfl
  rw [e]
  rfl⟩
theorem layNew_G {t : SetTable} (g : G t) (es : Array (Int × Value)) (h : Int) (x : Value) : G (layNew t es h x).2.1 ∧ (layNew t es h x).2.1.led = t.led := by
  unfold layNew
  split
  · rename_i sl wd e
    have g' := put_G g (freeSlot_ok g e)
    dsimp only
    unfold SetTable.orStandIn
    split
    · exact ⟨g', rfl⟩
    · exact ⟨standIn_G _ _, rfl⟩
  · exact ⟨standIn_G _ _, rfl⟩
theorem live_sub (f : Nat → Option Nat) : ∀ l : List Nat, ((l.filterMap fun j => (f j).map fun k => (j, k)).map (·.1)).Sublist l
  | [] => List.Sublist.slnil
  | a :: l => by
    rw [List.filterMap_cons]
    cases e : f a with
    | none => exact (live_sub f l).cons _
    | some k => exact (live_sub f l).cons_cons _
theorem relayAll_G {t : SetTable} (es : Array (Int × Value)) (n : Nat) : G (relayAll t es n).2.1 ∧ (relayAll t es n).2.1.led = t.led := by
  unfold relayAll
  split
  · rename_i t' order e
    dsimp only
    split
    · unfold SetTable.relaid SetTable.laid at e
      cases ho : SetTable.layClean (SetTable.sizeAbove n - 1) (es.map (·.1)) with
      | none => rw [ho] at e; cases e
      | some owner =>
        rw [ho] at e
        simp only [Option.bind_eq_bind, Option.bind_some, Option.pure_def, Option.some.injEq, Prod.mk.injEq] at e
        obtain ⟨rfl, _⟩ := e
        refine ⟨⟨?_, rfl⟩, rfl⟩
        show (List.toArray _).toList.Pairwise (· < ·)
        exact List.pairwise_lt_range.sublist (live_sub (fun j => owner.getD j none) _)
    · exact ⟨standIn_G _ _, rfl⟩
  · exact ⟨standIn_G _ _, rfl⟩
end Ss
set_option Elab.async false
set_option linter.all false
set_option maxRecDepth 100000
/-! a set: made, added to -/
namespace Ss
open PySem
abbrev byText (w : World) : Bool := w.params.followText "set-order"
/-- the set at a holds es, in the order of its table -/
def SetG (w : World) (h : Heap) (a : Addr) (es : Array (Int × Value)) : Prop :=
  ∃ ep t, h.get? a = some { cls := .type "set", dict := none, data := .set es ep t } ∧ t.fits es.size = true ∧ G t ∧ (byText w = true ∨ t.led = true)
theorem SetG.at {w : World} {h h' : Heap} {a : Addr} {es : Array (Int × Value)} (x : SetG w h a es) (k : ∀ o, h.get? a = some o → h'.get? a = some o) : SetG w h' a es := by
  obtain ⟨ep, t, ho, r⟩ := x
  exact ⟨ep, t, k _ ho, r⟩
theorem SetG.lt {w : World} {h : Heap} {a : Addr} {es : Array (Int × Value)} (x : SetG w h a es) : a < h.objs.size := by
  obtain ⟨ep, t, ho, r⟩ := x
  exact Heap.lt_size ho
section
variable {prog : Program} {w : World} {K : Type} [DecidableEq K] {knd : KeyKind prog w K} {A : Around} {E : Value → Shared → Prop} {s : Shared} {a : Addr} {es : Array (Int × Value)}
theorem SetG.type (x : SetG w s.heap a es) : s.TypeIs (.ref a) "set" := by
  obtain ⟨ep, t, ho, r⟩ := x
  exact ⟨_, ho, rfl⟩
theorem gave {b : Bool} {Q : Unit → Shared → Prop} (h : Q () s) : wpAny (model prog w) A (match b with | true => rule "set.scan.the-table-gave-way" | false => pure ()) Q E s := by
  cases b
  · exact wpAny_pure h
  · exact wpAny_rule h
/-- es with the key k, if it isn't there -/
def Added (knd : KeyKind prog w K) (k : K) (key : Value) (es es' : Array (Int × Value)) : Prop :=
  ((∃ e ∈ es.toList, knd.is k e.2 = true) ∧ es' = es) ∨ ((∀ e ∈ es.toList, knd.is k e.2 = false) ∧ es'.toList.Perm (es.toList ++ [(knd.hash k, key)]))
theorem store {ep : Nat} {t : SetTable} {es' : Array (Int × Value)} {t' : SetTable} {Q : Unit → Shared → Prop} (ho : s.heap.get? a = some { cls := .type "set", dict := none, data := .set es ep t }) (hz : es'.size ≤ sizeLine)
    (h : ∀ h', Heap.SameBut a s.heap h' → h'.get? a = some { cls := .type "set", dict := none, data := .set es' (ep + 1) t' } → Q () { s with heap := h' }) : wpAny (model prog w) A (storeSet a es' t') Q E s := by
  refine wpAny_storeSet_of ho rfl (h _ (Heap.SameBut.update _ _ _) ?_) hz
  have := Heap.get?_update_self (Obj.putSet es' t') ho (by rw [putSet_of es' t' rfl]; rfl)
  rwa [putSet_of es' t' rfl] at this
theorem addH {k : K} {x : Value} {Q : Bool → Shared → Prop} (hk : knd.is k x = true) (hx : x.scannable = true) (hS : SetG w s.heap a es) (hel : ElemsOf knd es.toList) (hb : es.size + 1 < scanBound)
    (h : ∀ b h' es', Heap.SameBut a s.heap h' → SetG w h' a es' → Added knd k x es es' → Q b { s with heap := h' }) : wpAny (model prog w) A (setAddHashed a x (knd.hash k)) Q E s := by
  obtain ⟨ep, t, ho, hf, g, hl⟩ := hS
  unfold setAddHashed setAddHashedIn
  refine wpAny_holding (wpAny_bind (wpAny_setState_of ho rfl hf ?_))
  dsimp only
  rw [byScan_of hx (by omega) hel, if_pos rfl]
  unfold setAddByScan
  refine wpAny_bind (wpAny_bind (wpAny_rule (wpAny_bind (wpAny_setScan_of hk ho rfl hf hel ?_))))
  cases hr : List.findIdx? (fun e => knd.is k e.2) es.toList with
  | some j =>
    obtain ⟨hj, hpj, _⟩ := List.findIdx?_eq_some_iff_getElem.mp hr
    exact wpAny_pure (wpAny_pure (h false s.heap es (Heap.SameBut.refl _ _) ⟨ep, t, ho, hf, g, hl⟩ (.inl ⟨⟨_, List.getElem_mem hj, hpj⟩, rfl⟩)))
  | none =>
    have hno : ∀ e ∈ es.toList, knd.is k e.2 = false := List.findIdx?_eq_none_iff.mp hr
    dsimp only
    have p1 := layNew_perm t es (knd.hash k) x
    have f1 := layNew_fits t es (knd.hash k) x
    have g1 := layNew_G g es (knd.hash k) x
    generalize layNew t es (knd.hash k) x = L at p1 f1 g1 ⊢
    obtain ⟨es1, t1, wd, gv⟩ := L
    dsimp only at p1 f1 g1 ⊢
    rw [Array.toList_push] at p1
    have z1 : es1.size = es.size + 1 := by have := p1.length_eq; simpa using this
    refine wpAny_bind (gave ?_)
    have tail : ∀ t2 : SetTable, t2.fits es1.size = true → G t2 → t2.led = t.led → wpAny (model prog w) A (do
        storeSet a es1 t2
        if (!wd && t2.tooFull) = true then do
            (match (relayAll t2 es1 (SetTable.grown es1.size)).2.2 with | true => rule "set.scan.the-table-gave-way" | false => pure ())
            storeSet a (relayAll t2 es1 (SetTable.grown es1.size)).1 (relayAll t2 es1 (SetTable.grown es1.size)).2.1
            pure (some true)
          else pure (some true)) (fun r s' => r = some true ∧ ∃ h' es', s' = { s with heap := h' } ∧ Heap.SameBut a s.heap h' ∧ SetG w h' a es' ∧ Added knd k x es es') E s := by
      intro t2 f2 g2 l2
      refine wpAny_bind (store ho (fits_of_scanBound (by omega)) fun h1 b1 o1 => ?_)
      split
      · have p2 := relayAll_perm t2 es1 (SetTable.grown es1.size)
        have f3 := relayAll_fits t2 es1 (SetTable.grown es1.size)
        have g3 := relayAll_G (t := t2) es1 (SetTable.grown es1.size)
        generalize relayAll t2 es1 (SetTable.grown es1.size) = M at p2 f3 g3 ⊢
        obtain ⟨es2, t3, gv2⟩ := M
        dsimp only at p2 f3 g3 ⊢
        have z2 : es2.size = es1.size := by have := p2.length_eq; simpa using this
        refine wpAny_bind (gave (wpAny_bind (store (s := { s with heap := h1 }) o1 (fits_of_scanBound (by omega)) fun h2 b2 o2 => ?_)))
        exact wpAny_pure ⟨rfl, h2, es2, rfl, b1.trans b2, ⟨_, t3, o2, f3, g3.1, by rw [g3.2, l2]; exact hl⟩, .inr ⟨hno, p2.trans p1⟩⟩
      · exact wpAny_pure ⟨rfl, h1, es1, rfl, b1, ⟨_, t2, o1, f2, g2, by rw [l2]; exact hl⟩, .inr ⟨hno, p1⟩⟩
    have fin : ∀ (r : Option Bool) (s' : Shared), (r = some true ∧ ∃ h' es', s' = { s with heap := h' } ∧ Heap.SameBut a s.heap h' ∧ SetG w h' a es' ∧ Added knd k x es es') →
        wpAny (model prog w) A (match r with | some added => pure added | none => setAddHashedIn a x (knd.hash k) 99999) Q E s' := by
      rintro r s' ⟨rfl, h', es', rfl, b, S, ad⟩
      exact wpAny_pure (h true h' es' b S ad)
    split
    · refine wpAny_bind ?_
      rw [hashByValue_scannable 8 hx]
      refine wpAny_pure (wpAny_mono (tail _ ?_ ?_ ?_) (fun r s' z => fin r s' z) fun _ _ e => e)
      · split
        · exact f1
        · exact SetTable.fits_plain_off f1
      · split
        · exact g1.1
        · exact ⟨g1.1.r, g1.1.d⟩
      · split <;> exact g1.2
    · refine wpAny_bind (wpAny_pure ?_)
      rw [if_pos rfl]
      exact wpAny_mono (tail _ f1 g1.1 g1.2) (fun r s' z => fin r s' z) fun _ _ e => e
theorem add {k : K} {x : Value} {Q : Value → Shared → Prop} (hk : knd.is k x = true) (hx : x.scannable = true) (hS : SetG w s.heap a es) (hel : ElemsOf knd es.toList) (hb : es.size + 1 < scanBound)
    (h : ∀ h' es', Heap.SameBut a s.heap h' → SetG w h' a es' → Added knd k x es es' → Q .none { s with heap := h', toks := s.toks + 1 }) : wpAny (model prog w) A (call (.builtin "set.add") [.ref a, x]) Q E s := by
  refine wpAny_call_entry F.slot_set_add hS.type F.entry_set_add ?_ (F.args_set_add_2 _ _)
  unfold Builtin.«set.add» Builtin.Frozenset.oneOther
  simp only [List.isEmpty_nil, bind_assoc]
  unfold Builtin.Frozenset.addrOf setAdd
  refine wpAny_bind (wpAny_pure (wpAny_bind (wpAny_pure (wpAny_bind (wpAny_holding (wpAny_bind (knd.pyHash hk ?_)))))))
  exact addH (s := { s with toks := s.toks + 1 }) hk hx hS hel hb fun b h' es' sb S' ad => wpAny_pure ⟨_, rfl, h h' es' sb S' ad⟩
theorem new {Q : Value → Shared → Prop} (h : ∀ o : Obj, SetG w (s.heap.push o) s.heap.objs.size #[] → Q (.ref s.heap.objs.size) { s with heap := s.heap.push o }) : wpAny (model prog w) A (newSet (.type "set")) Q E s := by
  unfold newSet setsByText
  refine wpAny_bind (wpAny_bind (wpAny_askSetting (wpAny_pure ?_)))
  dsimp only
  simp only [newObj]
  refine wpAny_bind (wpAny_alloc (wpAny_pure (h _ ⟨0, _, Heap.get?_push_size _ rfl, rfl, ⟨List.Pairwise.nil, rfl⟩, ?_⟩)))
  show byText w = true ∨ (!(byText w)) = true
  cases byText w
  · exact .inr rfl
  · exact .inl rfl
end
end Ss
set_option Elab.async false
set_option linter.all false
set_option maxRecDepth 100000
/-! a set walked through: in some order -/
namespace Ss
open PySem
theorem nx_ex : ∃ (dr : Array (Int × Value) → SetTable → Bool) (ml : Array (Int × Value) → SetTable → Sem Unit), (∀ es t, ml es t = (do if !t.led && !es.isEmpty then unsupported "set:maker-not-led")) ∧ (∀ a, setDrawn a = (do
    let (es, _, t) ← setState a
    let b ← setsByText
    return !b && dr es t)) ∧ (∀ a sl gv e0, setNext a sl gv e0 = (do
    let (es, ep, t) ← setState a
    if ← setsByText then
      if ep != e0 then unsupported "set_iterator.__next__:elements-changed"
      return ((← setWalk a)[gv]?).map fun e => (e.2, sl)
    if dr es t then unsupported "set_iterator.__next__:the-table-is-plain-no-more"
    ml es t
    let i := SetTable.below t.place sl
    return match es[i]?, t.place[i]? with
      | some (_, x), some j => some (x, j + 1)
      | _, _ => none)) := ⟨_, _, fun _ _ => rfl, fun _ => rfl, fun _ _ _ _ => rfl⟩
theorem erase_perm {α : Type} : ∀ {l : List α} {i : Nat} (h : i < l.length), (l[i] :: l.eraseIdx i).Perm l
  | a :: l, 0, h => List.Perm.refl _
  | a :: l, i + 1, h => by
    have ih := erase_perm (l := l) (i := i) (by simpa using h)
    simp only [List.getElem_cons_succ, List.eraseIdx_cons_succ]
    exact (List.Perm.swap _ _ _).trans (ih.cons _)
theorem pick_go {α : Type} (nx : Nat → Nat) : ∀ (f k : Nat) (l : List α) (out : Array α), f = l.length → (pickOrder.go nx f k l out).toList.Perm (out.toList ++ l)
  | 0, k, l, out, h => by
    have e : l = [] := List.eq_nil_of_length_eq_zero h.symm
    subst e
    simp [pickOrder.go]
  | f + 1, k, l, out, h => by
    have hl : nx k % l.length < l.length := Nat.mod_lt _ (by omega)
    unfold pickOrder.go
    rw [List.getElem?_eq_getElem hl]
    dsimp only
    have ih := pick_go nx f (k + 1) (l.eraseIdx (nx k % l.length)) (out.push l[nx k % l.length]) (by rw [List.length_eraseIdx]; rw [if_pos hl]; omega)
    refine ih.trans ?_
    rw [Array.toList_push, List.append_assoc]
    exact (erase_perm hl).append_left _
theorem pick_perm {α : Type} (nx : Nat → Nat) (xs : Array α) : (pickOrder nx xs).toList.Perm xs.toList := by
  have := pick_go nx xs.size 0 xs.toList #[] (by simp)
  unfold pickOrder
  simpa using this
section
variable {prog : Program} {w : World} {A : Around} {E : Value → Shared → Prop} {s : Shared}
theorem choose_ok {src : Source} {n : Nat} {Q : Nat → Shared → Prop} (hn : n ≠ 0) (h : ∀ k d, k < n → Q k { s with drawn := d }) : wpAny (model prog w) A (choose src n) Q E s := fun Γ p hΓ => by
  show Sem.wp _ _ (.choose src n .pure) _ _ _ _
  rw [Sem.wp_choose]
  exact ⟨hn, h _ _ (Nat.mod_lt _ (Nat.pos_of_ne_zero hn))⟩
theorem draw_ok {α : Type} : ∀ (n : Nat) (xs : List α) (s : Shared) (Q : List α → Shared → Prop), n = xs.length → (∀ ys d, ys.Perm xs → Q ys { s with drawn := d }) → wpAny (model prog w) A (drawOrder n xs) Q E s
  | 0, xs, s, Q, hn, h => by
    have e : xs = [] := List.eq_nil_of_length_eq_zero hn.symm
    subst e
    exact wpAny_pure (h [] s.drawn (List.Perm.refl _))
  | n + 1, [], s, Q, hn, h => by cases hn
  | n + 1, x :: xs, s, Q, hn, h => by
    unfold drawOrder
    refine wpAny_bind (choose_ok (by simp) fun i d hi => ?_)
    rw [List.getElem?_eq_getElem hi]
    dsimp only
    refine wpAny_bind (draw_ok n _ _ _ (by rw [List.length_eraseIdx, if_pos hi]; simp at hn ⊢; omega) fun ys d' hp => wpAny_pure (h _ d' ?_))
    exact (hp.cons _).trans (erase_perm hi)
end
end Ss
set_option Elab.async false
set_option linter.all false
set_option maxRecDepth 100000
namespace Ss
open PySem PyProof.Rows
namespace SF
theorem owner : Manifest.owners.lookup (String.ofList ['r', 'o', 't', 'a', 'r', 'e', 't', 'i', '_', 't', 'e', 's'].reverse) = some Manifest.sig_set_iterator := by kernel_rfl
theorem next : Slot "set_iterator" "__next__" "set_iterator.__next__" :=
  .of (owner := "set_iterator") (n := "__next__") (by rw [typeLookup_type, builtinLookup_eq_fast]; kernel_rfl) (by decide +kernel) (by decide +kernel) (by decide +kernel)
    (by first | exact .inl (by decide +kernel) | exact .inr (by decide +kernel)) (by rw [isSubtype_type]; kernel_rfl)
theorem entry_next : entryFor table "set_iterator.__next__" = some Builtin.«set_iterator.__next__» := entryFor_of_tree (by kernel_rfl)
theorem args_next (a : Value) : argsOk "set_iterator.__next__" ⟨[a], []⟩ := by
  unfold argsOk; rw [signature?_of (id := "set_iterator.__next__") (n := ['_', '_', 't', 'x', 'e', 'n', '_', '_']) (o := ['r', 'o', 't', 'a', 'r', 'e', 't', 'i', '_', 't', 'e', 's']) (by kernel_rfl) owner]; kernel_rfl
theorem iter : Slot "set_iterator" "__iter__" "set_iterator.__iter__" :=
  .of (owner := "set_iterator") (n := "__iter__") (by rw [typeLookup_type, builtinLookup_eq_fast]; kernel_rfl) (by decide +kernel) (by decide +kernel) (by decide +kernel)
    (by first | exact .inl (by decide +kernel) | exact .inr (by decide +kernel)) (by rw [isSubtype_type]; kernel_rfl)
theorem args_iter (a : Value) : argsOk "set_iterator.__iter__" ⟨[a], []⟩ := by
  unfold argsOk; rw [signature?_of (id := "set_iterator.__iter__") (n := ['_', '_', 'r', 'e', 't', 'i', '_', '_']) (o := ['r', 'o', 't', 'a', 'r', 'e', 't', 'i', '_', 't', 'e', 's']) (by kernel_rfl) owner]; kernel_rfl
theorem entry_iter : entryFor table "set_iterator.__iter__" = some Builtin.«dict_keyiterator.__iter__» :=
  entryFor_alias (id' := "dict_keyiterator.__iter__") (by kernel_rfl) (by first | rfl | decide +kernel | (unfold String.splitOn; simp +decide [String.splitOnAux])) (by decide +kernel) (by kernel_rfl)
theorem entry_set : entryFor table "set.__iter__" = some Builtin.«frozenset.__iter__» :=
  entryFor_alias (id' := "frozenset.__iter__") (by kernel_rfl) rfl (by decide +kernel) (by kernel_rfl)
end SF
end Ss
set_option Elab.async false
set_option linter.all false
set_option maxRecDepth 100000
namespace Ss
open PySem PyProof.Rows
/-- the iterator's record -/
abbrev Rc (fst : Value) (i : Nat) (a : Addr) (n ep : Nat) : Obj := { cls := .type "set_iterator", dict := none, data := .fields #[fst, rawInt i, .ref a, rawInt n, rawInt ep] }
abbrev So (es : Array (Int × Value)) (ep : Nat) (t : SetTable) : Obj := { cls := .type "set", dict := none, data := .set es ep t }
section
variable {prog : Program} {w : World} {A : Around} {E : Value → Shared → Prop} {s : Shared} {it a : Addr} {es : Array (Int × Value)} {ep : Nat} {t : SetTable}
theorem self_ok {fst : Value} {i n : Nat} {Q : Value → Shared → Prop} (hit : s.heap.get? it = some (Rc fst i a n ep)) (h : Q (.ref it) s) : wpAny (model prog w) A (pyIter (.ref it)) Q E s := by
  have hT : s.TypeIs (.ref it) "set_iterator" := ⟨_, hit, rfl⟩
  refine wpAny_pyIter_slot hT SF.iter (wpAny_call_entry SF.iter hT SF.entry_iter ?_ (SF.args_iter _))
  show wpAny _ _ (ret (.ref it)) _ _ s
  exact wpAny_pure ⟨_, rfl, "set_iterator", _, hT, SF.next.lookup, h⟩
theorem next_item {sl i nx : Nat} {x : Value} {Q : Option Value → Shared → Prop} (hit : s.heap.get? it = some (Rc (rawInt sl) i a es.size ep)) (hs : s.heap.get? a = some (So es ep t)) (hf : t.fits es.size = true)
    (hsn : ∀ (A' : Around) (E' : Value → Shared → Prop) (Q' : Option (Value × Nat) → Shared → Prop), Q' (some (x, nx)) s → wpAny (model prog w) A' (setNext a sl i ep) Q' E' s)
    (hQ : ∀ h', h'.get? it = some (Rc (rawInt nx) (i + 1) a es.size ep) → Heap.SameBut it s.heap h' → Q (some x) { s with heap := h' }) : wpAny (model prog w) A (pyNext (.ref it)) Q E s := by
  have hT : s.TypeIs (.ref it) "set_iterator" := ⟨_, hit, rfl⟩
  unfold pyNext
  refine wpAny_bind (wpAny_attempt (wpAny_callSpecial?_slot (name := Str.ofString "__next__") hT SF.next (wpAny_call_entry SF.next hT SF.entry_next ?_ (SF.args_next _))))
  unfold Builtin.«set_iterator.__next__»
  refine wpAny_bind (wpAny_of_eq (a := (Value.ref it, [])) rfl ?_)
  refine wpAny_bind (wpAny_fieldsOf hit rfl ?_)
  dsimp only [rawInt]
  refine wpAny_bind (wpAny_setEntries_of hs rfl hf ?_)
  rw [if_neg (by simp)]
  refine wpAny_bind ?_
  simp only [Int.toNat_natCast]
  refine hsn _ _ _ ?_
  dsimp only
  refine wpAny_bind (wpAny_setField_rec hit (by simp) fun h1 o1 b1 => ?_)
  refine wpAny_bind (wpAny_setField_rec (s := { s with heap := h1 }) o1 (by simp) fun h2 o2 b2 => ?_)
  exact wpAny_pure ⟨x, rfl, wpAny_pure (hQ h2 (by simpa [Rc, rawInt] using o2) (b1.trans b2))⟩
theorem next_end {sl i : Nat} {Q : Option Value → Shared → Prop} (hh : A.handled = none) (hit : s.heap.get? it = some (Rc (rawInt sl) i a es.size ep)) (hs : s.heap.get? a = some (So es ep t)) (hf : t.fits es.size = true)
    (hsn : ∀ (A' : Around) (E' : Value → Shared → Prop) (Q' : Option (Value × Nat) → Shared → Prop), Q' none s → wpAny (model prog w) A' (setNext a sl i ep) Q' E' s)
    (hQ : ∀ h', Heap.ExtBut it s.heap h' → Q none { s with heap := h' }) : wpAny (model prog w) A (pyNext (.ref it)) Q E s := by
  have hT : s.TypeIs (.ref it) "set_iterator" := ⟨_, hit, rfl⟩
  unfold pyNext
  refine wpAny_bind (wpAny_attempt (wpAny_callSpecial?_slot (name := Str.ofString "__next__") hT SF.next (wpAny_call_entry SF.next hT SF.entry_next ?_ (SF.args_next _))))
  unfold Builtin.«set_iterator.__next__»
  refine wpAny_bind (wpAny_of_eq (a := (Value.ref it, [])) rfl ?_)
  refine wpAny_bind (wpAny_fieldsOf hit rfl ?_)
  dsimp only [rawInt]
  refine wpAny_bind (wpAny_setEntries_of hs rfl hf ?_)
  rw [if_neg (by simp)]
  refine wpAny_bind ?_
  simp only [Int.toNat_natCast]
  refine hsn _ _ _ ?_
  dsimp only
  refine wpAny_bind (wpAny_setField_rec hit (by simp) fun h1 o1 b1 => ?_)
  refine wpAny_bind ?_
  simp only [newExc, newTuple]
  refine wpAny_bind (wpAny_newObj_type ?_ (by size_fits))
  refine wpAny_bind (m := firstArgMember _ _) (wpAny_of_eq (a := Value.none) (by first | rfl | (simp only [firstArgMember]; rfl)) ?_)
  refine wpAny_newObj_type ?_ (by size_fits)
  simp only [raiseNew]
  refine wpAny_bind (wpAny_handled ?_)
  first | rw [show A.in1.handled = none from hh] | rw [hh]
  refine wpAny_bind (wpAny_pure (wpAny_throw ?_))
  refine wpAny_bind (wpAny_isInstance (T := "StopIteration") (b := true) ⟨_, Heap.get?_push_size _ rfl, rfl⟩ isSubtype_stop ?_)
  refine wpAny_pure (hQ _ ?_)
  exact Heap.ExtBut.push (Heap.ExtBut.push (fun b o hb e => (b1.2 b hb).trans e) _) _
end
end Ss
set_option Elab.async false
set_option linter.all false
set_option maxRecDepth 100000
namespace Ss
open PySem PyProof.Rows
noncomputable def dr : Array (Int × Value) → SetTable → Bool := nx_ex.choose
theorem dr_ex : ∃ (ml : Array (Int × Value) → SetTable → Sem Unit), (∀ es t, ml es t = (do if !t.led && !es.isEmpty then unsupported "set:maker-not-led")) ∧ (∀ a, setDrawn a = (do
    let (es, _, t) ← setState a
    let b ← setsByText
    return !b && dr es t)) ∧ (∀ a sl gv e0, setNext a sl gv e0 = (do
    let (es, ep, t) ← setState a
    if ← setsByText then
      if ep != e0 then unsupported "set_iterator.__next__:elements-changed"
      return ((← setWalk a)[gv]?).map fun e => (e.2, sl)
    if dr es t then unsupported "set_iterator.__next__:the-table-is-plain-no-more"
    ml es t
    let i := SetTable.below t.place sl
    return match es[i]?, t.place[i]? with
      | some (_, x), some j => some (x, j + 1)
      | _, _ => none)) := nx_ex.choose_spec
/-- where the table is entered behind i of its things -/
def slotAt (t : SetTable) (i : Nat) : Nat := if i = 0 then 0 else t.place.getD (i - 1) 0 + 1
theorem below_slot {t : SetTable} (R : Rise t.place) {i : Nat} (hi : i ≤ t.place.size) : SetTable.below t.place (slotAt t i) = i := by
  obtain ⟨b1, b2, b3⟩ := below_ok R (slotAt t i)
  generalize SetTable.below t.place (slotAt t i) = p at *
  unfold slotAt at b2 b3
  by_cases h0 : i = 0
  · subst h0
    rcases Nat.eq_zero_or_pos p with z | z
    · exact z
    · have := b2 0 z; simp at this
  · simp only [h0, if_false] at b2 b3
    rcases Nat.lt_trichotomy p i with z | z | z
    · have h1 := b3 p (Nat.le_refl _) (by omega)
      rcases Nat.lt_or_ge p (i - 1) with y | y
      · have := R.lt y (by omega); omega
      · rw [show p = i - 1 by omega] at h1; omega
    · exact z
    · have h1 := b2 i z
      have := R.lt (i := i - 1) (k := i) (by omega) (by omega)
      omega
section
variable {prog : Program} {w : World} {A : Around} {E : Value → Shared → Prop} {s : Shared} {it a : Addr} {es : Array (Int × Value)} {ep : Nat} {t : SetTable}
theorem byText_ok {Q : Bool → Shared → Prop} (h : Q (byText w) s) : wpAny (model prog w) A setsByText Q E s := wpAny_bind (wpAny_askSetting (wpAny_pure h))
/-- the table's own order -/
theorem nextC {i : Nat} {gv : Nat} (hb : byText w = false) (hd : dr es t = false) (hs : s.heap.get? a = some (So es ep t)) (hf : t.fits es.size = true) (g : G t) (hl : t.led = true) (hi : i ≤ es.size) {Q : Option (Value × Nat) → Shared → Prop}
    (h : Q ((es[i]?).map fun e => (e.2, slotAt t (i + 1))) s) : wpAny (model prog w) A (setNext a (slotAt t i) gv ep) Q E s := by
  have hz : t.place.size = es.size := by simp [SetTable.fits] at hf; exact hf.1
  obtain ⟨ml, h1, h2, h3⟩ := dr_ex
  rw [h3]
  refine wpAny_bind (wpAny_setState_of hs rfl hf (wpAny_bind (byText_ok ?_)))
  rw [hb, hd, h1, hl]
  simp only [Bool.false_eq_true, if_false, Bool.not_true, Bool.false_and]
  refine wpAny_bind (wpAny_pure ?_)
  rw [below_slot g.r (by omega)]
  refine wpAny_pure ?_
  have e : (match es[i]?, t.place[i]? with | some (_, x), some j => some (x, j + 1) | _, _ => none) = (es[i]?).map fun e => (e.2, slotAt t (i + 1)) := by
    rcases Nat.lt_or_ge i es.size with z | z
    · rw [getElem?_pos es i z, getD_at (by omega)]
      simp [slotAt]
    · rw [Array.getElem?_eq_none z]
      rfl
  rw [e]
  exact h
/-- another order, that the world has -/
theorem nextA {i : Nat} (hb : byText w = true) (hs : s.heap.get? a = some (So es ep t)) (hf : t.fits es.size = true) {Q : Option (Value × Nat) → Shared → Prop}
    (h : Q (((pickOrder (w.params.setOrder a ep) es)[i]?).map fun e => (e.2, 0)) s) : wpAny (model prog w) A (setNext a 0 i ep) Q E s := by
  obtain ⟨ml, h1, h2, h3⟩ := dr_ex
  rw [h3]
  refine wpAny_bind (wpAny_setState_of hs rfl hf (wpAny_bind (byText_ok ?_)))
  rw [hb]
  simp only [bne_self_eq_false, Bool.false_eq_true, if_false, if_true]
  unfold setWalk
  refine wpAny_bind (wpAny_bind (wpAny_setState_of hs rfl hf (wpAny_bind (byText_ok ?_))))
  rw [hb]
  simp only [if_true]
  exact wpAny_bind (wpAny_askSetting (wpAny_pure (wpAny_pure h)))
theorem walkI {us : List Value} {fst : Nat → Nat} (hne : a ≠ it) (hl : us.length = es.size) (hf : t.fits es.size = true)
    (hn : ∀ (i : Nat) (s : Shared) (A' : Around) (E' : Value → Shared → Prop) (Q' : Option (Value × Nat) → Shared → Prop), i ≤ es.size → s.heap.get? a = some (So es ep t) → Q' ((us[i]?).map fun x => (x, fst (i + 1))) s → wpAny (model prog w) A' (setNext a (fst i) i ep) Q' E' s) (hh : A.handled = none) :
    Walks prog w A it [it, a] [it] us.length (fun i v => us[i]? = some v) (fun i h => h.get? it = some (Rc (rawInt (fst i)) i a es.size ep) ∧ h.get? a = some (So es ep t)) where
  sub := fun b hb => by simp at hb; simp [hb]
  frame := fun i h h' st k => ⟨k it (by simp) _ st.1, k a (by simp) _ st.2⟩
  item := fun i s Q E hi st hQ => by
    refine next_item (x := us[i]) (nx := fst (i + 1)) st.1 st.2 hf (fun A' E' Q' q => hn i s A' E' Q' (by omega) st.2 (by rw [List.getElem?_eq_getElem hi]; exact q)) fun h' o b => ?_
    exact hQ _ h' s.toks (List.getElem?_eq_getElem hi) ⟨o, (b.2 a hne).trans st.2⟩ fun c o' hc e => (b.2 c (by simpa using hc)).trans e
  done := fun s Q E st hQ => by
    refine next_end hh st.1 st.2 hf (fun A' E' Q' q => hn _ s A' E' Q' (by omega) st.2 (by rw [List.getElem?_eq_none (Nat.le_refl _)]; exact q)) fun h' b => ?_
    exact hQ h' s.toks fun c o' hc e => b c o' (by simpa using hc) e
  self := fun i s Q E st h => self_ok st.1 h
/-- a drawn order -/
theorem nextB {tp : Addr} {pl : List Nat} {i p : Nat} {x : Int × Value} {Q : Option Value → Shared → Prop} (hit : s.heap.get? it = some (Rc (.ref tp) i a es.size ep)) (hs : s.heap.get? a = some (So es ep t)) (hf : t.fits es.size = true)
    (ht : s.heap.get? tp = some (seqObj "tuple" (pl.map fun i : Nat => rawInt i).toArray 0)) (hp : pl[i]? = some p) (hx : es[p]? = some x)
    (hQ : ∀ h', h'.get? it = some (Rc (.ref tp) (i + 1) a es.size ep) → Heap.SameBut it s.heap h' → Q (some x.2) { s with heap := h' }) : wpAny (model prog w) A (pyNext (.ref it)) Q E s := by
  have hT : s.TypeIs (.ref it) "set_iterator" := ⟨_, hit, rfl⟩
  unfold pyNext
  refine wpAny_bind (wpAny_attempt (wpAny_callSpecial?_slot (name := Str.ofString "__next__") hT SF.next (wpAny_call_entry SF.next hT SF.entry_next ?_ (SF.args_next _))))
  unfold Builtin.«set_iterator.__next__»
  refine wpAny_bind (wpAny_of_eq (a := (Value.ref it, [])) rfl (wpAny_bind (wpAny_fieldsOf hit rfl ?_)))
  dsimp only [rawInt]
  refine wpAny_bind (wpAny_setEntries_of hs rfl hf ?_)
  rw [if_neg (by simp)]
  refine wpAny_bind (wpAny_seqItems ht rfl ?_)
  simp only [Int.toNat_natCast]
  have e : (pl.map fun i : Nat => rawInt i).toArray[i]? = some (.int (p : Int) 0) := by rw [List.getElem?_toArray, List.getElem?_map, hp]; rfl
  rw [e]
  dsimp only
  unfold setNextDrawn
  refine wpAny_bind (wpAny_bind (wpAny_setState_of hs rfl hf ?_))
  simp only [Int.toNat_natCast, bne_self_eq_false, Bool.false_eq_true, if_false]
  rw [hx]
  refine wpAny_pure (wpAny_bind (wpAny_setField_rec hit (by simp) fun h1 o1 b1 => ?_))
  exact wpAny_pure ⟨x.2, rfl, wpAny_pure (hQ h1 (by simpa [Rc, rawInt] using o1) b1)⟩
theorem endB {tp : Addr} {pl : List Nat} {i : Nat} {Q : Option Value → Shared → Prop} (hh : A.handled = none) (hit : s.heap.get? it = some (Rc (.ref tp) i a es.size ep)) (hs : s.heap.get? a = some (So es ep t)) (hf : t.fits es.size = true)
    (ht : s.heap.get? tp = some (seqObj "tuple" (pl.map fun i : Nat => rawInt i).toArray 0)) (hp : pl.length ≤ i) (hQ : ∀ h', Heap.ExtBut it s.heap h' → Q none { s with heap := h' }) : wpAny (model prog w) A (pyNext (.ref it)) Q E s := by
  have hT : s.TypeIs (.ref it) "set_iterator" := ⟨_, hit, rfl⟩
  unfold pyNext
  refine wpAny_bind (wpAny_attempt (wpAny_callSpecial?_slot (name := Str.ofString "__next__") hT SF.next (wpAny_call_entry SF.next hT SF.entry_next ?_ (SF.args_next _))))
  unfold Builtin.«set_iterator.__next__»
  refine wpAny_bind (wpAny_of_eq (a := (Value.ref it, [])) rfl (wpAny_bind (wpAny_fieldsOf hit rfl ?_)))
  dsimp only [rawInt]
  refine wpAny_bind (wpAny_setEntries_of hs rfl hf ?_)
  rw [if_neg (by simp)]
  refine wpAny_bind (wpAny_seqItems ht rfl ?_)
  simp only [Int.toNat_natCast]
  have e : (pl.map fun i : Nat => rawInt i).toArray[i]? = none := by rw [List.getElem?_toArray, List.getElem?_map, List.getElem?_eq_none hp]; rfl
  rw [e]
  dsimp only
  refine wpAny_bind (wpAny_setField_rec hit (by simp) fun h1 o1 b1 => ?_)
  refine wpAny_bind (wpAny_setField_rec (s := { s with heap := h1 }) o1 (by simp) fun h2 o2 b2 => ?_)
  refine wpAny_bind ?_
  simp only [newExc, newTuple]
  refine wpAny_bind (wpAny_newObj_type ?_ (by size_fits))
  refine wpAny_bind (m := firstArgMember _ _) (wpAny_of_eq (a := Value.none) (by first | rfl | (simp only [firstArgMember]; rfl)) ?_)
  refine wpAny_newObj_type ?_ (by size_fits)
  simp only [raiseNew]
  refine wpAny_bind (wpAny_handled ?_)
  first | rw [show A.in1.handled = none from hh] | rw [hh]
  refine wpAny_bind (wpAny_pure (wpAny_throw ?_))
  refine wpAny_bind (wpAny_isInstance (T := "StopIteration") (b := true) ⟨_, Heap.get?_push_size _ rfl, rfl⟩ isSubtype_stop ?_)
  refine wpAny_pure (hQ _ ?_)
  exact Heap.ExtBut.push (Heap.ExtBut.push (fun b o hb e => ((b1.trans b2).2 b hb).trans e) _) _
theorem walkB {tp : Addr} {pl : List Nat} (hne : a ≠ it) (hnt : tp ≠ it) (hp : pl.Perm (List.range es.size)) (hf : t.fits es.size = true) (hh : A.handled = none) :
    Walks prog w A it [it, a, tp] [it] pl.length (fun i v => (pl.map fun p => (es.getD p (0, .none)).2)[i]? = some v) (fun i h => h.get? it = some (Rc (.ref tp) i a es.size ep) ∧ h.get? a = some (So es ep t) ∧ h.get? tp = some (seqObj "tuple" (pl.map fun i : Nat => rawInt i).toArray 0)) where
  sub := fun b hb => by simp at hb; simp [hb]
  frame := fun i h h' st k => ⟨k it (by simp) _ st.1, k a (by simp) _ st.2.1, k tp (by simp) _ st.2.2⟩
  item := fun i s Q E hi st hQ => by
    have hm : pl[i] < es.size := List.mem_range.mp (hp.mem_iff.mp (List.getElem_mem hi))
    refine nextB (x := es[pl[i]]) st.1 st.2.1 hf st.2.2 (List.getElem?_eq_getElem hi) (getElem?_pos es _ hm) fun h' o b => ?_
    refine hQ _ h' s.toks ?_ ⟨o, (b.2 a hne).trans st.2.1, (b.2 tp hnt).trans st.2.2⟩ fun c o' hc e => (b.2 c (by simpa using hc)).trans e
    rw [List.getElem?_map, List.getElem?_eq_getElem hi]
    simp [Array.getD, hm]
  done := fun s Q E st hQ => endB hh st.1 st.2.1 hf st.2.2 (Nat.le_refl _) fun h' b => hQ h' s.toks fun c o' hc e => b c o' (by simpa using hc) e
  self := fun i s Q E st h => self_ok st.1 h
end
end Ss
set_option Elab.async false
set_option linter.all false
set_option maxRecDepth 100000
namespace Ss
open PySem PyProof.Rows
section
variable {prog : Program} {w : World} {A : Around} {E : Value → Shared → Prop} {s : Shared} {a : Addr} {es : Array (Int × Value)}
/-- iter(a set): some order of its things -/
theorem iter_set {Q : Value → Shared → Prop} (hS : SetG w s.heap a es) (hz : es.size ≤ 4096)
    (h : ∀ (it : Addr) (h1 : Heap) d (us : List Value) (fp : List Addr) (St : Nat → Heap → Prop), s.heap.objs.size ≤ it → (∀ b o, s.heap.get? b = some o → h1.get? b = some o) → us.Perm (es.toList.map (·.2)) → (∀ b ∈ fp, b = a ∨ s.heap.objs.size ≤ b) →
      (∀ A' : Around, A'.handled = none → Walks prog w A' it fp [it] us.length (fun i v => us[i]? = some v) St) → St 0 h1 → Q (.ref it) { s with heap := h1, drawn := d }) : wpAny (model prog w) A (pyIter (.ref a)) Q E s := by
  have hT := hS.type
  have hlt := hS.lt
  obtain ⟨ep, t, ho, hf, g, hl⟩ := hS
  obtain ⟨ml, h1, h2, h3⟩ := dr_ex
  refine wpAny_pyIter_slot hT F.slot_set_iter (wpAny_call_entry F.slot_set_iter hT SF.entry_set ?_ (F.args_set_iter_1 _))
  unfold Builtin.«frozenset.__iter__» Builtin.Frozenset.slot0
  refine wpAny_bind (wpAny_bind (wpAny_of_eq (a := (Value.ref a, [])) rfl ?_))
  unfold Builtin.Frozenset.addrOf Builtin.Frozenset.sizeOf
  refine wpAny_pure (wpAny_bind (wpAny_bind (wpAny_setEntries_of ho rfl hf (wpAny_pure ?_))))
  rw [h2]
  refine wpAny_bind (wpAny_bind (wpAny_setState_of ho rfl hf (wpAny_bind (byText_ok (wpAny_pure ?_)))))
  have last : ∀ (us : List Value) (fst : Nat → Nat), fst 0 = 0 → us.Perm (es.toList.map (·.2)) →
      (∀ (i : Nat) (s : Shared) (A' : Around) (E' : Value → Shared → Prop) (Q' : Option (Value × Nat) → Shared → Prop), i ≤ es.size → s.heap.get? a = some (So es ep t) → Q' ((us[i]?).map fun x => (x, fst (i + 1))) s → wpAny (model prog w) A' (setNext a (fst i) i ep) Q' E' s) →
      Q (.ref s.heap.objs.size) { s with heap := s.heap.push (Rc (rawInt 0) 0 a es.size ep) } := fun us fst h0 hp hn => by
    have hul : us.length = es.size := by have := hp.length_eq; simpa using this
    refine h s.heap.objs.size _ s.drawn us [s.heap.objs.size, a] _ (Nat.le_refl _) (fun b o e => Heap.get?_push_of_some _ e) hp (fun b hb => ?_) (fun A' hh' => walkI (t := t) (ep := ep) (fst := fst) (Nat.ne_of_lt hlt) hul hf hn hh') ⟨?_, Heap.get?_push_of_some _ ho⟩
    · simp at hb
      rcases hb with e | e
      · exact .inr (by rw [e]; exact Nat.le_refl _)
      · exact .inl e
    · rw [h0]; exact Heap.get?_push_size _ rfl
  by_cases hb : byText w = true
  · rw [hb]
    simp only [Bool.not_true, Bool.false_and, Bool.false_eq_true, if_false]
    refine wpAny_bind (wpAny_pure (wpAny_bind (wpAny_setEpoch_of ho rfl hf (wpAny_bind ?_))))
    unfold newFields
    refine wpAny_newObj_type (wpAny_pure ⟨_, rfl, "set_iterator", _, ⟨_, Heap.get?_push_size _ rfl, rfl⟩, SF.next.lookup, ?_⟩)
    refine last ((pickOrder (w.params.setOrder a ep) es).toList.map (·.2)) (fun _ => 0) rfl ((pick_perm _ _).map _) fun i s' A' E' Q' hi hs q => nextA hb hs hf ?_
    have e : (((pickOrder (w.params.setOrder a ep) es).toList.map (·.2))[i]?).map (fun x => (x, 0)) = ((pickOrder (w.params.setOrder a ep) es)[i]?).map fun e => (e.2, 0) := by
      rw [List.getElem?_map, Array.getElem?_toList]
      cases (pickOrder (w.params.setOrder a ep) es)[i]? <;> rfl
    rw [← e]
    exact q
  · have hb' : byText w = false := by simpa using hb
    have hled : t.led = true := hl.resolve_left hb
    rw [hb']
    by_cases hd : dr es t = true
    · rw [hd]
      simp only [Bool.not_false, Bool.true_and, if_true]
      refine wpAny_bind (draw_ok es.size (List.range es.size) s _ (by simp) fun pl d hp => ?_)
      have hpl : pl.length = es.size := by have := hp.length_eq; simpa using this
      refine wpAny_bind (wpAny_newTuple ?_ (by rw [List.length_map, hpl, sizeLine_eq]; omega))
      have ho2 : (s.heap.push (seqObj "tuple" (pl.map fun i : Nat => rawInt i).toArray 0)).get? a = some (So es ep t) := Heap.get?_push_of_some _ ho
      refine wpAny_bind (wpAny_setEpoch_of (s := { s with heap := s.heap.push (seqObj "tuple" (pl.map fun i : Nat => rawInt i).toArray 0), drawn := d }) ho2 rfl hf (wpAny_bind ?_))
      unfold newFields
      refine wpAny_newObj_type (wpAny_pure ⟨_, rfl, "set_iterator", _, ⟨_, Heap.get?_push_size _ rfl, rfl⟩, SF.next.lookup, ?_⟩)
      have z1 : (s.heap.push (seqObj "tuple" (pl.map fun i : Nat => rawInt i).toArray 0)).objs.size = s.heap.objs.size + 1 := size_push' _ _
      have up : (pl.map fun p => (es.getD p (0, .none)).2).Perm (es.toList.map (·.2)) := by
        have e : es.toList.map (·.2) = (List.range es.size).map fun p => (es.getD p (0, .none)).2 := by
          refine List.ext_getElem (by simp) fun i h1 h2 => ?_
          have hi : i < es.size := by simpa using h1
          simp [Array.getD, hi]
        rw [e]
        exact hp.map _
      refine h _ _ d (pl.map fun p => (es.getD p (0, .none)).2) [s.heap.objs.size + 1, a, s.heap.objs.size] (fun i h => h.get? (s.heap.objs.size + 1) = some (Rc (.ref s.heap.objs.size) i a es.size ep) ∧ h.get? a = some (So es ep t) ∧ h.get? s.heap.objs.size = some (seqObj "tuple" (pl.map fun i : Nat => rawInt i).toArray 0)) (by rw [z1]; exact Nat.le_succ _) (fun b o e => Heap.get?_push_of_some _ (Heap.get?_push_of_some _ e)) up (fun b hb => ?_) (fun A' hh' => ?_) ?_
      · simp at hb
        rcases hb with e | e | e
        · exact .inr (by rw [e]; exact Nat.le_succ _)
        · exact .inl e
        · exact .inr (by rw [e]; exact Nat.le_refl _)
      · have W := walkB (prog := prog) (w := w) (it := s.heap.objs.size + 1) (t := t) (ep := ep) (tp := s.heap.objs.size) (Nat.ne_of_lt (Nat.lt_succ_of_lt hlt)) (Nat.ne_of_lt (Nat.lt_succ_self _)) hp hf hh'
        rw [List.length_map, z1]
        exact W
      · refine ⟨?_, Heap.get?_push_of_some _ ho2, Heap.get?_push_of_some _ (Heap.get?_push_size _ rfl)⟩
        rw [← z1]
        exact Heap.get?_push_size _ rfl
    · have hd' : dr es t = false := by simpa using hd
      rw [hd']
      simp only [Bool.and_false, Bool.false_eq_true, if_false]
      refine wpAny_bind (wpAny_pure (wpAny_bind (wpAny_setEpoch_of ho rfl hf (wpAny_bind ?_))))
      unfold newFields
      refine wpAny_newObj_type (wpAny_pure ⟨_, rfl, "set_iterator", _, ⟨_, Heap.get?_push_size _ rfl, rfl⟩, SF.next.lookup, ?_⟩)
      refine last (es.toList.map (·.2)) (slotAt t) rfl (List.Perm.refl _) fun i s' A' E' Q' hi hs q => nextC hb' hd' hs hf g hled hi ?_
      have e : ((es.toList.map (·.2))[i]?).map (fun x => (x, slotAt t (i + 1))) = (es[i]?).map fun e => (e.2, slotAt t (i + 1)) := by
        rw [List.getElem?_map, Array.getElem?_toList]
        cases es[i]? <;> rfl
      rw [← e]
      exact q
theorem hint_set {Q : Bool → Shared → Prop} (hT : s.TypeIs (.ref a) "set") (h : Q false s) : wpAny (model prog w) A (Builtin.List.listLengthHint (.ref a)) Q E s := by
  unfold Builtin.List.listLengthHint
  refine wpAny_bind (wpAny_specialOf hT PySem.F.slot_set_len.lookup ?_)
  generalize hid : ("set.__len__" : String) = id0
  wp_delta
  rw [show splitId id0 = some ("set", "__len__") from by subst hid; decide +kernel]
  subst hid
  refine wpAny_bind (wpAny_isInstance (T := "set") (b := true) hT (by rw [isSubtype_type]; kernel_rfl) ?_)
  refine wpAny_ite_split (fun hab => absurd hab (by decide)) (fun _ => ?_)
  refine wpAny_ite_split (fun _ => ?_) (fun hab => absurd (by decide +kernel) hab)
  exact wpAny_bind (wpAny_typeOf hT (wpAny_pure h))
/-- the list of a set's things -/
theorem collect_set {R : List Value → Shared → Prop} (hh : A.handled = none) (hS : SetG w s.heap a es) (hz : es.size ≤ 4096)
    (h : ∀ (h' : Heap) tk d (vs : List Value), (∀ b o, s.heap.get? b = some o → h'.get? b = some o) → vs.Perm (es.toList.map (·.2)) → R vs { s with heap := h', toks := tk, drawn := d }) : wpAny (model prog w) A (collect (.ref a)) R E s := by
  have hlt := hS.lt
  unfold collect
  refine wpAny_bind (wpAny_runValue (codeAny_builtin entry_proto_collect' ?_))
  rw [Around.under_plainId PySem.F.plain_proto_collect _]
  show wpAny _ A.in1 (newList [] >>= fun l => again (.builtin "list.__iadd__" ⟨[l, .ref a], []⟩)) _ _ s
  refine wpAny_bind (wpAny_newObj_type (wpAny_pure ⟨plainId_quiet PySem.F.plain_list_iadd _, codeAny_builtin entry_list_iadd' ?_⟩))
  rw [Around.under_plainId PySem.F.plain_list_iadd _]
  show wpAny _ A.in1 (Builtin.List.listExtendWith (.ref s.heap.objs.size) (.ref a) (.ref s.heap.objs.size)) _ _ _
  have oL : (s.heap.push { cls := .type "list", data := .seq ([] : List Value).toArray }).get? s.heap.objs.size = some { cls := .type "list", data := .seq #[] } := Heap.get?_push_size _ rfl
  have hS1 : SetG w (s.heap.push { cls := .type "list", data := .seq ([] : List Value).toArray }) a es := hS.at fun o e => Heap.get?_push_of_some _ e
  have z1 : (s.heap.push { cls := .type "list", data := .seq ([] : List Value).toArray }).objs.size = s.heap.objs.size + 1 := size_push' _ _
  generalize hg : s.heap.push { cls := .type "list", data := .seq ([] : List Value).toArray } = G1 at *
  have keep1 : ∀ b o, s.heap.get? b = some o → G1.get? b = some o := fun b o e => by rw [← hg]; exact Heap.get?_push_of_some _ e
  unfold Builtin.List.listExtendWith
  have hT1 := SetG.type (s := { s with heap := G1 }) hS1
  refine wpAny_bind (wpAny_typeOf (T := "set") hT1 ?_)
  have e1 : Builtin.List.listSameRef (.ref s.heap.objs.size) (.ref a) = false := by simp [Builtin.List.listSameRef]; exact Nat.ne_of_gt hlt
  have e2 : (Value.type "set" == Value.type "list") = false := by decide
  have e3 : (Value.type "set" == Value.type "tuple") = false := by decide
  simp only [e1, e2, e3, Bool.or_false, Bool.false_eq_true, if_false]
  refine wpAny_bind (iter_set (s := { s with heap := G1 }) hS1 hz fun it h1 d us fp St hit hk hp hfp hW hst => ?_)
  have hS2 : SetG w h1 a es := hS1.at fun o e => hk a o e
  have oL1 := hk _ _ oL
  have hul : us.length ≤ 4096 := by have := hp.length_eq; simp at this; omega
  have hSf : s.heap.objs.size ∉ fp := fun hm => by
    rcases hfp _ hm with z | z
    · exact absurd z (Nat.ne_of_gt hlt)
    · have : G1.objs.size ≤ s.heap.objs.size := z
      omega
  have loop : ∀ (h2 : Heap) (c tk : Nat), St 0 h2 → (∀ b o, b ≠ s.heap.objs.size → G1.get? b = some o → h2.get? b = some o) → h2.get? s.heap.objs.size = some { cls := .type "list", data := .seq #[] c } →
      codeAny (model prog w) A (.builtin "list.extend.loop" ⟨[.ref s.heap.objs.size, .ref it, .ref s.heap.objs.size], []⟩) (fun r s' => ∃ (h' : Heap) (tk : Nat) (acc : Array Value) (c' : Nat), r = .ok (.ret (.ref s.heap.objs.size)) ∧ s' = { s with heap := h', toks := tk, drawn := d } ∧
        (∀ b o, s.heap.get? b = some o → h'.get? b = some o) ∧ h'.get? s.heap.objs.size = some { cls := .type "list", dict := none, data := .seq acc c', slots := #[] } ∧ acc.toList.Perm (es.toList.map (·.2))) { s with heap := h2, toks := tk, drawn := d } := by
    intro h2 c tk st2 k2 o2
    refine codeAny_extend_loopS (hW A.in1 hh).toS (by rw [sizeLine_eq]; omega) s.heap.objs.size hSf (.ref s.heap.objs.size) us.length 0 _ #[] c rfl (Nat.zero_le _) st2 o2 (ItemsOf.nil _) fun s' acc c' hm oS hacc => ?_
    have eq : s' = { s with heap := s'.heap, toks := s'.toks, drawn := d } := Moved.eq_with hm
    refine ⟨s'.heap, s'.toks, acc, c', rfl, eq, fun b o e => hm.heap b o (fun hmem => ?_) (k2 b o (Nat.ne_of_lt (Heap.lt_size e)) (keep1 b o e)), oS, ?_⟩
    · have hb := Heap.lt_size e
      rcases List.mem_cons.mp hmem with z | z
      · exact absurd z (Nat.ne_of_lt hb)
      · have z' : b = it := by simpa using z
        have h2 : s.heap.objs.size ≤ it := Nat.le_trans (by show s.heap.objs.size ≤ G1.objs.size; rw [z1]; exact Nat.le_succ _) hit
        exact absurd hb (by rw [z']; exact Nat.not_lt.mpr h2)
    · have ea : acc.toList = us := by
        refine List.ext_getElem? fun j => ?_
        rcases Nat.lt_or_ge j acc.size with y | y
        · have q := hacc.2 j acc[j] (getElem?_pos acc j y)
          rw [q, Array.getElem?_toList, getElem?_pos acc j y]
        · rw [List.getElem?_eq_none (by simpa using y), List.getElem?_eq_none (by have := hacc.1; omega)]
      rw [ea]
      exact hp
  have fin : ∀ (r : Result) (s' : Shared), (∃ (h' : Heap) (tk : Nat) (acc : Array Value) (c' : Nat), r = .ok (.ret (.ref s.heap.objs.size)) ∧ s' = { s with heap := h', toks := tk, drawn := d } ∧
        (∀ b o, s.heap.get? b = some o → h'.get? b = some o) ∧ h'.get? s.heap.objs.size = some { cls := .type "list", dict := none, data := .seq acc c', slots := #[] } ∧ acc.toList.Perm (es.toList.map (·.2))) → ∃ v, r = .ok (.ret v) ∧ wpAny (model prog w) A (match v with
      | .ref b => (do let o ← load b; match o.data with | .seq xs _ => pure xs.toList | _ => unsupported "internal:collect")
      | _ => unsupported "internal:collect") R E s' := by
    rintro r s' ⟨h', tk, acc, c', rfl, rfl, k, o, p⟩
    exact ⟨_, rfl, wpAny_bind (wpAny_load o (wpAny_pure (h h' tk d acc.toList k p)))⟩
  refine wpAny_bind (wpAny_holding (hint_set (s := { s with heap := h1, drawn := d }) (SetG.type (s := { s with heap := h1, drawn := d }) hS2) ?_))
  refine wpAny_ite_split (fun _ => ?_) (fun _ => wpAny_pure ⟨plainId_quiet PySem.F.plain_extend_loop _, codeAny_mono (loop h1 _ _ hst (fun b o _ e => hk b o e) oL1) fun r s' z => ?_⟩)
  · refine wpAny_bind (wpAny_rule (wpAny_bind ?_))
    show wpAny _ _ (updateSeq s.heap.objs.size (·.push .none) >>= fun _ => updateSeq s.heap.objs.size (·.pop)) _ _ _
    refine wpAny_bind (wpAny_updateSeq oL1 rfl ?_)
    have oL2 := Heap.get?_update_self (Obj.mapSeq (·.push Value.none)) oL1 rfl
    refine wpAny_updateSeq (hz := by seq_fits) oL2 rfl ?_
    have oL3 := Heap.get?_update_self (Obj.mapSeq (·.pop)) oL2 rfl
    have oth : ∀ b o, b ≠ s.heap.objs.size → h1.get? b = some o → ((h1.update s.heap.objs.size (Obj.mapSeq (·.push Value.none))).update s.heap.objs.size (Obj.mapSeq (·.pop))).get? b = some o := fun b o hb e =>
      (Heap.get?_update_other _ _ (Ne.symm hb)).trans ((Heap.get?_update_other _ _ (Ne.symm hb)).trans e)
    refine wpAny_pure ⟨plainId_quiet PySem.F.plain_extend_loop _, codeAny_mono (loop _ _ _ ((hW A.in1 hh).frame 0 _ _ hst fun b hb o e => oth b o (fun z => hSf (z ▸ hb)) e) (fun b o hb e => oth b o hb (hk b o e)) oL3) fun r s' z => ?_⟩
    obtain ⟨v, rfl, q⟩ := fin r s' z
    exact q
  · obtain ⟨v, rfl, q⟩ := fin r s' z
    exact q
end
end Ss
set_option Elab.async false
set_option linter.all false
set_option maxRecDepth 100000
/-! SETS of ints and texts: comprehensions, sorted. -/
namespace L2
open PySem PySem.Spec PyProof.Rows
/-- the set at a: the keys ks, each once -/
def SetP (P : Program) (w : World) (a : Addr) (ks : List Key) (h : Heap) : Prop :=
  ∃ es : Array (Int × Value), Ss.SetG w h a es ∧ ks.Nodup ∧ ∃ el : List (Int × Value), el.Perm es.toList ∧ Paired (fun (k : Key) (e : Int × Value) => (mixKind P w).is k e.2 = true ∧ e.1 = (mixKind P w).hash k) ks el
abbrev SetH (P : Program) (w : World) (a : Addr) (ks : List Key) : HO := .ext (SetP P w a ks)
def addK (ks : List Key) (k : Key) : List Key := if ks.any (fun j => decide (j = k)) = true then ks else ks ++ [k]
theorem addK_in {ks : List Key} {k : Key} (h : k ∈ ks) : addK ks k = ks := if_pos (List.any_eq_true.mpr ⟨k, h, decide_eq_true rfl⟩)
theorem addK_new {ks : List Key} {k : Key} (h : k ∉ ks) : addK ks k = ks ++ [k] := if_neg fun z => by
  obtain ⟨j, hj, e⟩ := List.any_eq_true.mp z
  exact h (of_decide_eq_true e ▸ hj)
theorem setH_ok {P : Program} {w : World} {H : Hp} {h : Heap} {a : Addr} {ks : List Key} (x : SetP P w a ks h) : ObjOk P w H h a (SetH P w a ks) := by
  refine ⟨x, ?_, fun h1 h2 p k => ?_⟩
  · obtain ⟨es, ⟨ep, t, ho, _⟩, _⟩ := x
    exact ⟨_, ho⟩
  · obtain ⟨es, g, r⟩ := p
    exact ⟨es, g.at k, r⟩
theorem scan_of {P : Program} {w : World} {k : Key} {v : Value} (h : (mixKind P w).is k v = true) : v.scannable = true := by
  rcases keyIs_shape h with ⟨i, t, rfl, rfl⟩ | ⟨x, t, rfl, rfl⟩ <;> rfl
theorem Paired.mem_right {α β : Type} {F : α → β → Prop} : ∀ {xs : List α} {ys : List β}, Paired F xs ys → ∀ y ∈ ys, ∃ x ∈ xs, F x y
  | _, _, .nil, y, h => by cases h
  | _, _, .cons r t, y, h => by
    rcases List.mem_cons.mp h with e | h
    · subst e; exact ⟨_, List.mem_cons_self, r⟩
    · obtain ⟨x, hx, z⟩ := Paired.mem_right t y h
      exact ⟨x, List.mem_cons_of_mem _ hx, z⟩
theorem Paired.mem_left {α β : Type} {F : α → β → Prop} : ∀ {xs : List α} {ys : List β}, Paired F xs ys → ∀ x ∈ xs, ∃ y ∈ ys, F x y
  | _, _, .nil, y, h => by cases h
  | _, _, .cons r t, y, h => by
    rcases List.mem_cons.mp h with e | h
    · subst e; exact ⟨_, List.mem_cons_self, r⟩
    · obtain ⟨x, hx, z⟩ := Paired.mem_left t y h
      exact ⟨x, List.mem_cons_of_mem _ hx, z⟩
theorem Paired.app {α β : Type} {F : α → β → Prop} : ∀ {xs xs' : List α} {ys ys' : List β}, Paired F xs ys → Paired F xs' ys' → Paired F (xs ++ xs') (ys ++ ys')
  | _, _, _, _, .nil, s => s
  | _, _, _, _, .cons r t, s => .cons r (Paired.app t s)
theorem setP_elems {P : Program} {w : World} {ks : List Key} {es : Array (Int × Value)} {el : List (Int × Value)} (p : el.Perm es.toList) (q : Paired (fun (k : Key) (e : Int × Value) => (mixKind P w).is k e.2 = true ∧ e.1 = (mixKind P w).hash k) ks el) : ElemsOf (mixKind P w) es.toList := fun e he => by
  obtain ⟨k, _, h⟩ := Paired.mem_right q e (p.mem_iff.mpr he)
  exact ⟨⟨k, h.1, h.2⟩, scan_of h.1⟩
section
variable {X : Cx} {pins : List (Addr × Obj)} {σ : St} {H : Hp} {s : Shared}
/-- acc.add(v) -/
theorem set_add {D : Addr} {ks : List Key} {k : Key} {u : Value} {Q : Shared → Prop} {E : Value → Shared → Prop} (I : Inv X pins σ H s) (hD : H D = some (SetH X.prog X.w D ks)) (r : RelV (kV k) u) (hz : ks.length < 1000)
    (h : ∀ s', Inv X pins σ (upd H D (SetH X.prog X.w D (addK ks k))) s' → Q s') : wpAny (model X.prog X.w) X.A (call (.builtin "set.add") [.ref D, u]) (fun _ s' => Q s') E s := by
  have hx := I.hok D _ hD
  obtain ⟨⟨es, g, nd, el, p, q⟩, _, _⟩ := hx
  have hl : ks.length = es.size := by have := Paired.length q; have := p.length_eq; simp at this; omega
  have hk : (mixKind X.prog X.w).is k u = true := by
    cases k with
    | inl i => obtain ⟨t, rfl⟩ := r; exact keyIs_int i t
    | inr x => obtain ⟨t, rfl⟩ := r; exact keyIs_str x t
  refine Ss.add hk (scan_of hk) g (setP_elems p q) (by have : scanBound = 4096 := rfl; omega) fun h' es' sb g' ad => ?_
  refine h _ (I.write (x := D) (e := D) (by rw [hD]; trivial) (.inl rfl) (fun b o hb e => (sb.2 b hb).trans e) (by obtain ⟨ep, t, ho, _⟩ := g'; exact ⟨_, ho⟩) (setH_ok ⟨es', g', ?_⟩))
  rcases ad with ⟨⟨e, he, hek⟩, rfl⟩ | ⟨hno, hp⟩
  · have hm : k ∈ ks := by
      obtain ⟨k', hk', z⟩ := Paired.mem_right q e (p.mem_iff.mpr he)
      rw [(mixKind X.prog X.w).inj _ _ _ hek z.1]
      exact hk'
    rw [addK_in hm]
    exact ⟨nd, el, p, q⟩
  · have hm : k ∉ ks := fun hm => by
      obtain ⟨e, he, z⟩ := Paired.mem_left q k hm
      have := hno e (p.mem_iff.mp he)
      rw [z.1] at this
      cases this
    rw [addK_new hm]
    refine ⟨List.nodup_append.mpr ⟨nd, List.pairwise_singleton _ _, fun a ha b hb => ?_⟩, el ++ [((mixKind X.prog X.w).hash k, u)], (p.append_right _).trans hp.symm, Paired.app q (.cons ⟨hk, rfl⟩ .nil)⟩
    rw [List.mem_singleton.mp hb]
    exact fun z => hm (z ▸ ha)
end
theorem compTurn_set (elt target iter : Expr) (ifs : List Expr) (scope : Scope) (pos : Pos) (it acc : Value) (env : Env) : compTurn (.SetComp elt [⟨target, iter, ifs, 0⟩] scope pos) 0 it acc env = (do
      standAt iter.pos
      match ← pyNext it with
      | none => pure (.done .next)
      | some v =>
        letOwnedTupleGo target it v
        assign target env v
        let mut yes := true
        for c in ifs do
          if yes then yes ← isTrue c env (eval c env)
        if yes then
          (do let y ← eval elt env; standAt elt.pos; let _ ← call (.builtin "set.add") [acc, y])
        again (.compLoop (.SetComp elt [⟨target, iter, ifs, 0⟩] scope pos) 0 it acc env)) := by rfl
theorem eval_SetComp {env : Env} (elt gens scope pos) : eval (.SetComp elt gens scope pos) env = comprehension (.SetComp elt gens scope pos) scope env (firstIterPos gens pos) (newSet (.type "set")) (firstAsync gens) (firstIter gens env) := rfl
theorem compStart_set {prog : Program} {w : World} {A : Around} {R : Result → Shared → Prop} {s : Shared} {elt target iter ifs rest scope pos it acc env} (h0 : codeAny (model prog w) A (.compLoop (.SetComp elt (⟨target, iter, ifs, 0⟩ :: rest) scope pos) 0 it acc env) R s)
    (h : wpAny (model prog w) A (pyIter it) (fun it' s' => codeAny (model prog w) A (.compLoop (.SetComp elt (⟨target, iter, ifs, 0⟩ :: rest) scope pos) 0 it' acc env) R s') (notedBy (model prog w) A env fun x s' => R (.error x) s') s) : codeAny (model prog w) A (.compStart (.SetComp elt (⟨target, iter, ifs, 0⟩ :: rest) scope pos) 0 it acc env) R s := by
  refine codeAny_of_tree ?_
  show wpAny _ _ ((compStart (.SetComp elt (⟨target, iter, ifs, 0⟩ :: rest) scope pos) 0 it acc env).onRaise (fun x => do noteFrame x env; standAt theWindowsPlace)) _ _ s
  refine wpAny_notedAt (m := compStart (.SetComp elt (⟨target, iter, ifs, 0⟩ :: rest) scope pos) 0 it acc env) ?_
  unfold compStart
  show wpAny _ A (ask >>= _) _ _ s
  have fin : wpAny (model prog w) A (do standAt iter.pos; again (.compLoop (.SetComp elt (⟨target, iter, ifs, 0⟩ :: rest) scope pos) 0 (← pyIter it) acc env)) (fun r s' => match r with | .done f => R (.ok f) s' | .again c' => c'.quiet = true ∧ codeAny (model prog w) A c' R s') (notedBy (model prog w) A env fun x s' => R (.error x) s') s :=
    wpAny_bind (wpAny_standAt (wpAny_bind (wpAny_mono h (fun _ _ z => wpAny_pure ⟨rfl, z⟩) fun _ _ z => z)))
  refine wpAny_bind (wpAny_askSetting (wpAny_ite ?_))
  split
  · first | exact wpAny_pure ⟨rfl, h0⟩ | exact wpAny_bind (wpAny_pure (wpAny_pure ⟨rfl, h0⟩))
  · first | exact wpAny_bind (wpAny_rule fin) | (refine wpAny_bind (wpAny_rule ?_); exact fin)
theorem compLoop_set {prog : Program} {w : World} {A : Around} {R : Result → Shared → Prop} {s : Shared} {elt target iter : Expr} {ifs : List Expr} {scope : Scope} {pos : Pos} {it acc : Value} {env : Env} (I : Nat → Shared → Prop)
    (turn : ∀ n s, I n s → wpAny (model prog w) A (pyNext it) (fun r s1 => match r with
      | none => R (.ok .next) s1
      | some v => wpAny (model prog w) A (letOwnedTupleGo target it v) (fun _ s1 => wpAny (model prog w) A (assign target env v) (fun _ s2 =>
          wpAny (model prog w) A (forIn ifs true fun c r => if r = true then do let ok ← isTrue c env (eval c env); pure (ForInStep.yield ok) else pure (ForInStep.yield r)) (fun ok s3 =>
            if ok = true then wpAny (model prog w) A (eval elt env) (fun x s4 =>
              wpAny (model prog w) A (call (.builtin "set.add") [acc, x]) (fun _ s5 => ∃ m, m < n ∧ I m s5) (fun _ _ => False) s4) (fun _ _ => False) s3
            else ∃ m, m < n ∧ I m s3) (fun _ _ => False) s2) (fun _ _ => False) s1) (fun _ _ => False) s1) (fun _ _ => False) s)
    (n : Nat) (h : I n s) :
    codeAny (model prog w) A (.compLoop (.SetComp elt [⟨target, iter, ifs, 0⟩] scope pos) 0 it acc env) R s := by
  refine codeAny_loop rfl I (fun n s hI => ?_) n h
  show wpAny _ A ((compTurn (.SetComp elt [⟨target, iter, ifs, 0⟩] scope pos) 0 it acc env).onRaise (fun x => do noteFrame x env; theTreesLotGoes x)) _ _ s
  refine wpAny_noted ?_
  rw [compTurn_set]
  refine wpAny_bind (wpAny_standAt (wpAny_bind (wpAny_mono (turn n s hI) (fun r s1 h1 => ?_) fun _ _ h' => h'.elim)))
  cases r with
  | none => exact wpAny_pure h1
  | some v =>
    refine wpAny_bind (wpAny_mono h1 (fun _ s1 h1 => ?_) fun _ _ h' => h'.elim)
    refine wpAny_bind (wpAny_mono h1 (fun _ s2 h2 => wpAny_bind (wpAny_mono h2 (fun ok s3 h3 => ?_) fun _ _ h' => h'.elim)) fun _ _ h' => h'.elim)
    cases ok with
    | false => exact wpAny_pure ⟨rfl, h3⟩
    | true =>
      exact wpAny_bind (wpAny_bind (wpAny_mono h3 (fun x s4 h4 => wpAny_bind (wpAny_standAt (wpAny_bind (wpAny_mono h4 (fun _ s5 h5 => wpAny_pure (wpAny_pure ⟨rfl, h5⟩)) fun _ _ h' => h'.elim)))) fun _ _ h' => h'.elim))

section
variable {X : Cx} {pins : List (Addr × Obj)} {σ : St} {H : Hp} {s : Shared} {xs Ns : List Str} {sc : Scope} {C : Addr} {fp : List Addr}
theorem Inv.startSN {ho : HO} {D : Addr} {h1 : Heap} {m : Str → Option Value} {tk : Nat} {w : St} (I : Inv X pins σ H s) (S : LnScope X xs Ns sc) (hf : ∀ b ∈ fp, FpOk X pins H b) (hlt : ∀ b ∈ fp, b < s.heap.objs.size) (hw : w = xs.map fun _ => none)
    (hD : D = s.heap.objs.size) (hC : s.heap.objs.size ≤ C) (hDC : C ≠ D) (hk : ∀ b o, s.heap.get? b = some o → h1.get? b = some o) (hn : h1.Ns C m) (hl : ObjOk X.prog X.w (upd H D ho) h1 D ho) :
    Inv (cxLN X xs Ns sc C fp s H) [] (w ++ σ) (upd H D ho) { s with heap := h1, toks := tk } := by
  have hwl : w.length = xs.length := by rw [hw, List.length_map]
  have hDle : s.heap.objs.size ≤ D := by rw [hD]; exact Nat.le_refl _
  have cells : ∀ y c, (clOf sc X.env.cells).lookup y = some c → c < s.heap.objs.size := fun y c e => by
    obtain ⟨v, q⟩ := I.cell y c (clOf_sub sc X.env.cells e)
    exact q.lt
  refine ⟨I.okLN S hC hf hlt, rfl, I.bare, Un.laid hk hDle (I.hok.fresh hDle), ⟨m, hn, fun i y v e1 e2 e3 => ?_⟩, fun y c e => ?_, ?_, fun y c e => ?_, fun p hp => absurd (show p ∈ ([] : List (Addr × Obj)) from hp) (by simp), I.hok.laid hk hDle hl, ?_⟩
  · have e1 : (xs ++ Ns)[i]? = some y := e1
    have e2 : (w ++ σ)[i]? = some (some v) := e2
    rcases Nat.lt_or_ge i xs.length with hi | hi
    · rw [List.getElem?_append_left (by omega), hw, List.getElem?_map, List.getElem?_eq_getElem hi] at e2
      cases e2
    · have e1' : Ns[i - xs.length]? = some y := by rw [List.getElem?_append_right hi] at e1; exact e1
      have e2' : σ[i - xs.length]? = some (some v) := by rw [List.getElem?_append_right (by omega), hwl] at e2; exact e2
      have e3' : Vis (relabel sc X.env) y := e3
      have ny : sc.names.lookup y ≠ some .local := S.apart y (List.mem_of_getElem? e1')
      have fr : sc.names.lookup y = some .free ∧ ((relabel sc X.env).names.lookup y = some .cell ∨ (relabel sc X.env).names.lookup y = some .free) := by
        rcases e3' with h | h | h
        · obtain ⟨k', e, q⟩ := relabel_look h
          rcases q with q | ⟨_, q⟩
          · subst q; exact absurd e ny
          · cases q
        · obtain ⟨k', e, q⟩ := relabel_look h
          rcases q with q | ⟨q, _⟩
          · subst q; exact absurd rfl (S.nocell _ (PySem.mem_of_lookup e))
          · exact ⟨by rw [e, q], .inl h⟩
        · obtain ⟨k', e, q⟩ := relabel_look h
          rcases q with q | ⟨_, q⟩
          · exact ⟨by rw [e, ← q], .inr h⟩
          · cases q
      have ok := S.free (y, .free) (PySem.mem_of_lookup fr.1) rfl
      obtain ⟨m0, hn0, hl0⟩ := I.loc
      obtain ⟨u, r, l⟩ := hl0 _ y v (S.sub _ y e1' fr.1) e2' (.inr ok)
      refine ⟨u, r, .inr ⟨fr.2, ?_⟩⟩
      rcases l with ⟨k, _⟩ | ⟨_, c, ec, z⟩
      · rcases ok with q | q <;> (rw [show X.env.kindOf y = some .local from k] at q; cases q)
      · obtain ⟨c', ec'⟩ := clOf_has sc X.env.cells (S.cells I.ok) (PySem.mem_of_lookup fr.1)
        have := clOf_sub sc X.env.cells ec'
        rw [ec] at this
        cases this
        obtain ⟨o, ho, hd⟩ := z
        exact ⟨c, ec', o, hk _ _ ho, hd⟩
  · obtain ⟨v, o, ho, hd⟩ := I.cell y c (clOf_sub sc X.env.cells e)
    exact ⟨v, o, hk _ _ ho, hd⟩
  · show upd H D ho C = none
    rw [upd_ne hDC]
    exact I.hok.fresh hC
  · show upd H D ho c = none
    rw [upd_ne (Nat.ne_of_lt (Nat.lt_of_lt_of_le (cells y c e) hDle))]
    exact I.freeC y c (clOf_sub sc X.env.cells e)
  · show (w ++ σ).length = (xs ++ Ns).length
    rw [List.length_append, List.length_append, I.len, hwl, S.len]
end
/-- acc = set(); for target in ..: if ..: acc.add(..), the set at D; n: how many names the target has -/
def scGo (P : Program) (w : World) (n : Nat) (g : TG) (tc : TT) (te : TE) (σ : St) (J : It) (D : Addr) (Fin : Hp → Prop) (H : Hp) : Prop :=
  ∃ W : Nat → Nat → List Key → Hp → Prop, (∃ m, W 0 m [] (upd H D (SetH P w D []))) ∧ ∀ i m ks H, W i m ks H → H D = some (SetH P w D ks) ∧
    ((J.stop i H ∧ Fin H) ∨ (J.go i H ∧ ∀ x H' (u : St), u.length = n → J.yld i H x H' → g x (u ++ σ) H' fun σ2 H2 => (∃ u2 : St, u2.length = n ∧ σ2 = u2 ++ σ) ∧ tc σ2 H2 fun b H3 => if b = true then te σ2 H3 fun y H4 => H4 D = some (SetH P w D ks) ∧ ks.length < 1000 ∧ ∃ k, y = kV k ∧ ∃ m', m' < m ∧ W (i + 1) m' (addK ks k) (upd H4 D (SetH P w D (addK ks k)))
      else ∃ m', m' < m ∧ W (i + 1) m' ks H3))
def tSN (P : Program) (w : World) (n : Nat) (wi : TI) (g : TG) (tc : TT) (te : TE) : TE := fun σ H Q => wi σ H fun J H1 => ∀ D, H1 D = none → scGo P w n g tc te σ J D (fun H2 => Q (.ref D) H2) H1
section
variable {X : Cx} {xs Ns : List Str} {sc : Scope} {elt iter tg : Expr} {ifs : List Expr} {pos : Pos} {wi : TI} {g : TG} {tc : TT} {te : TE}
theorem sn_block {pins : List (Addr × Obj)} {σ : St} {H : Hp} {s : Shared} {it : Addr} {fp : List Addr} {tn : Nat → Heap → Prop} {J : It} {Fin : Addr → Hp → Prop} {RR : Value → Addr → Result → Shared → Prop} {E : Value → Shared → Prop}
    (hc : X.calm = true) (S : LnScope X xs Ns sc) (I : Inv X pins σ H s) (T : Turn X.prog X.w X.K tg J fp it tn) (st : tn 0 s.heap) (hf : ∀ b ∈ fp, FpOk X pins H b) (hg : ∀ C s0 H0, PG (cxLN X xs Ns sc C fp s0 H0) tg g)
    (ht : ∀ C s0 H0, PTs (cxLN X xs Ns sc C fp s0 H0) ifs tc) (he : ∀ C s0 H0, PE (cxLN X xs Ns sc C fp s0 H0) elt te) (q : ∀ D, H D = none → scGo X.prog X.w xs.length g tc te σ J D (Fin D) H)
    (hR : ∀ D C H2 s2 m, s.heap.objs.size ≤ C → Inv X pins σ H2 s2 → H2 C = none → s2.heap.Ns C m → Fin D H2 → RR (.ref D) C (.ok .next) s2) :
    wpAny (model X.prog X.w) X.A (newSet (.type "set")) (fun acc s3 => wpAny (model X.prog X.w) X.A (newFunctionEnv sc X.env.globals (clOf sc X.env.cells) [] X.env.qual none .none (some X.env)) (fun cenv s4 =>
      codeAny (model X.prog X.w) X.A (.compStart (.SetComp elt [⟨tg, iter, ifs, 0⟩] sc pos) 0 (.ref it) acc { cenv with scope := relabel sc X.env }) (RR acc cenv.locals) s4) E s3) E s := by
  have hlt : ∀ b ∈ fp, b < s.heap.objs.size := fun b hb => by
    obtain ⟨o, e, _⟩ := T.obj 0 _ st b hb
    exact Heap.lt_size e
  refine Ss.new fun oS hS => wpAny_newFunctionEnv S.nocell (by intro y hy; simp at hy) (fun h1 hns1 hsb1 => ?_) S.kind
  dsimp only at hns1 hsb1 ⊢
  generalize hH2 : s.heap.push oS = G at hns1 hsb1 hS ⊢
  have hC : G.objs.size = s.heap.objs.size + 1 := by rw [← hH2, Heap.size_push]
  have hCle : s.heap.objs.size ≤ G.objs.size := by rw [hC]; exact Nat.le_succ _
  have hDC : G.objs.size ≠ s.heap.objs.size := by rw [hC]; exact Nat.succ_ne_self _
  have old : ∀ b o, s.heap.get? b = some o → h1.get? b = some o := fun b o e => hsb1.extBut b o (Nat.ne_of_lt (Nat.lt_of_lt_of_le (Heap.lt_size e) hCle)) (Heap.get?_push_of_some _ (hH2 ▸ Heap.get?_push_of_some _ e))
  have hacc : ObjOk X.prog X.w (upd H s.heap.objs.size (SetH X.prog X.w s.heap.objs.size [])) h1 s.heap.objs.size (SetH X.prog X.w s.heap.objs.size []) := setH_ok ⟨#[], hS.at fun o e => hsb1.extBut _ _ (Ne.symm hDC) (Heap.get?_push_of_some _ e), List.nodup_nil, [], List.Perm.refl _, .nil⟩
  have hDn : H s.heap.objs.size = none := I.hok.fresh (Nat.le_refl _)
  obtain ⟨W, ⟨m0, w0⟩, turn⟩ := q s.heap.objs.size hDn
  have st1 : tn 0 h1 := T.keep _ _ _ st fun b _ o e => old b o e
  have I1 := fun tk => I.startSN (tk := tk) (w := xs.map fun _ => none) S hf hlt rfl rfl hCle hDC old hns1 hacc
  have fr1 : ∀ b ∈ fp, upd H s.heap.objs.size (SetH X.prog X.w s.heap.objs.size []) b = none := fun b hb => by rw [upd_ne (Nat.ne_of_lt (hlt b hb))]; exact (hf b hb).1
  have loop : ∀ s3 : Shared, s3 = { s with heap := h1, toks := s.toks + ([] : List (Str × Value)).length } →
      codeAny (model X.prog X.w) X.A (.compLoop (.SetComp elt [⟨tg, iter, ifs, 0⟩] sc pos) 0 (.ref it) (.ref s.heap.objs.size) (compEnvC sc (clOf sc X.env.cells) G.objs.size X.env))
        (RR (.ref s.heap.objs.size) G.objs.size) s3 := by
    rintro s3 rfl
    have fpk : ∀ {H' : Hp}, (∀ b ∈ fp, H' b = none) → ∀ b ∈ fp, FpOk (cxLN X xs Ns sc G.objs.size fp s H) [] H' b := fun hn b hb =>
      ⟨hn b hb, Nat.ne_of_lt (Nat.lt_of_lt_of_le (hlt b hb) hCle), (I.okLN (C := G.objs.size) S hCle hf hlt).exfs b hb, .inl hb, fun y c e => (hf b hb).2.2.2.2.1 y c (clOf_sub sc X.env.cells e), fun p hp => absurd (show p ∈ ([] : List (Addr × Obj)) from hp) (by simp)⟩
    refine compLoop_set (fun n s' => ∃ i w ys H', w.length = xs.length ∧ Inv (cxLN X xs Ns sc G.objs.size fp s H) [] (w ++ σ) H' s' ∧ tn i s'.heap ∧ (∀ b ∈ fp, H' b = none) ∧ W i n ys H') ?_ m0 ⟨0, _, [], _, List.length_map _, I1 _, st1, fr1, w0⟩
    rintro n s3 ⟨i, v0, ys, H3, hv0, I3, st3, fr3, w3⟩
    obtain ⟨hD3, turn3⟩ := turn i n ys H3 w3
    rcases turn3 with ⟨stop, fin⟩ | ⟨go, step⟩
    · refine thn (T.done (cxLN X xs Ns sc G.objs.size fp s H) rfl rfl rfl hc i [] s3 _ H3 _ I3 (fpk fr3) st3 stop) fun r s4 ⟨hr, I4⟩ => ?_
      subst hr
      obtain ⟨m4, hn4, _⟩ := I4.loc
      exact hR _ _ H3 s4 m4 hCle (I.endLN I4 hf) I4.free hn4 fin
    · refine thn (T.item (cxLN X xs Ns sc G.objs.size fp s H) rfl rfl rfl hc i [] s3 _ H3 _ I3 (fpk fr3) st3 go) fun r s4 ⟨u, hr, h4⟩ => ?_
      subst hr
      refine thn h4 fun _ s5 ⟨y, H5, I5, r5, y5, st5, fr5⟩ => ?_
      have I5' := I5.pinned (fpk fr5) (T.obj _ _ st5)
      refine thn (hg G.objs.size s H _ s5 _ H5 y u _ I5' r5 (step y H5 v0 hv0 y5)) fun _ s6 ⟨σ6, H6, I6, ⟨w6, hw6, e6⟩, q6⟩ => ?_
      subst e6
      refine thn (ht G.objs.size s H _ s6 _ H6 _ I6 q6) fun ok s7 ⟨H7, I7, q7⟩ => ?_
      have again : ∀ {H8 : Hp} {s8 : Shared} {zs : List Key}, Inv (cxLN X xs Ns sc G.objs.size fp s H) ([] ++ pinsAt fp s5.heap) (w6 ++ σ) H8 s8 → (∃ m', m' < n ∧ W (i + 1) m' zs H8) → ∃ m, m < n ∧ ∃ i w ys H', w.length = xs.length ∧ Inv (cxLN X xs Ns sc G.objs.size fp s H) [] (w ++ σ) H' s8 ∧ tn i s8.heap ∧ (∀ b ∈ fp, H' b = none) ∧ W i m ys H' := fun {H8 s8 zs} I8 ⟨m', hm, w8⟩ => by
        refine ⟨m', hm, i + 1, w6, zs, H8, hw6, I8.unpinned, T.keep _ _ _ st5 fun b hb o e => (I8.pin (b, o) (List.mem_append_right _ (List.mem_append_right _ (mem_pinsAt hb e)))).1, fun b hb => ?_, w8⟩
        obtain ⟨o, e, d⟩ := T.obj _ _ st5 b hb
        exact (I8.pin (b, o) (List.mem_append_right _ (List.mem_append_right _ (mem_pinsAt hb e)))).2.1
      cases ok with
      | false =>
        rw [if_neg Bool.false_ne_true] at q7 ⊢
        exact again I7 q7
      | true =>
        rw [if_pos rfl] at q7 ⊢
        refine thn (he G.objs.size s H _ s7 _ H7 _ I7 q7) fun z s8 ⟨zv, H8, I8, r8, hD8, hz8, k8, e8, w8⟩ => ?_
        subst e8
        exact set_add (X := cxLN X xs Ns sc G.objs.size fp s H) I8 hD8 r8 hz8 fun s9 I9 => again I9 w8
  exact compStart_set (loop _ rfl) (T.self X.A 0 _ _ _ st1 (loop _ rfl))
theorem pe_sn (hc : X.calm = true) (S : LnScope X xs Ns sc) (hi : PI X tg iter wi) (hg : ∀ C fp s0 H0, PG (cxLN X xs Ns sc C fp s0 H0) tg g) (ht : ∀ C fp s0 H0, PTs (cxLN X xs Ns sc C fp s0 H0) ifs tc) (he : ∀ C fp s0 H0, PE (cxLN X xs Ns sc C fp s0 H0) elt te)
    (hs : ∀ v, foldedSetIterable iter X.env v = pure v := by intro _; rfl) : PE X (.SetComp elt [⟨tg, iter, ifs, 0⟩] sc pos) (tSN X.prog X.w xs.length wi g tc te) := by
  refine ⟨?_⟩
  intro pins s σ H Q I h
  rw [eval_SetComp]
  refine wpAny_comprehension_free (use := none) rfl hs (closure_eq (S.cells I.ok)) S.kind S.names (thn (hi pins s σ H _ I h) fun v s1 h1 => thn h1 fun itv s2 h2 => ?_)
  obtain ⟨it, fp, tn, J, H2, e, I2, T, st2, f2, q2⟩ := h2
  subst e
  refine sn_block (RR := fun acc C => compPost (model X.prog X.w) X.A X.xe none (EP X pins σ Q) acc C) (Fin := fun D H3 => Q (.ref D) H3) hc S I2 T st2 f2 (fun C s0 H0 => hg C fp s0 H0) (fun C s0 H0 => ht C fp s0 H0) (fun C s0 H0 => he C fp s0 H0) q2 ?_
  intro D C H3 s3 m hC I3 hn hN q3
  refine ⟨m, hN, fun h' hs' => ⟨.ref D, H3, I3.butC hs' (Nat.le_trans I2.sz hC) hn (Nat.ne_of_gt (Nat.lt_of_lt_of_le I2.lt hC)) (fun y c e => ?_) (fun p hp => ?_), rfl, q3⟩⟩
  · obtain ⟨v, z⟩ := I2.cell y c e
    exact Nat.ne_of_lt (Nat.lt_of_lt_of_le z.lt hC)
  · exact Nat.ne_of_lt (Nat.lt_of_lt_of_le (Heap.lt_size (I2.pin p hp).1) hC)
end
end L2
set_option Elab.async false
set_option linter.all false
set_option maxRecDepth 100000
/-! the first run of a sort of ints of any number: what stands behind the run stays as it was -/
namespace Sg
open PySem PyProof.Rows
section
variable {prog : Program} {w : World} {A : Around} {E : Value → Shared → Prop} {s : Shared} {a₀ : Array Keyed}
end
end Sg
set_option Elab.async false
set_option linter.all false
set_option maxRecDepth 100000
/-! galloping, and the one merge that is needed -/
namespace Sg
open PySem PyProof.Rows
end Sg
set_option Elab.async false
set_option linter.all false
set_option maxRecDepth 100000
namespace Sg
open PySem PyProof.Rows
section
variable {prog : Program} {w : World} {A : Around} {E : Value → Shared → Prop} {s : Shared} {a₀ : Array Keyed}
end
end Sg
set_option Elab.async false
set_option linter.all false
set_option maxRecDepth 100000
namespace Sg
open PySem PyProof.Rows
section
variable {prog : Program} {w : World} {A : Around} {E : Value → Shared → Prop} {s : Shared} {a₀ : Array Keyed}
end
end Sg
set_option Elab.async false
set_option linter.all false
set_option maxRecDepth 100000
namespace Sg
open PySem PyProof.Rows
section
variable {prog : Program} {w : World} {A : Around} {E : Value → Shared → Prop} {s : Shared} {a₀ : Array Keyed}
end
end Sg
set_option Elab.async false
set_option linter.all false
set_option maxRecDepth 100000
/-! sorted(xs) of ints, of any number up to a thousand, where but for one of the first two all stand in order -/
namespace Sg
open PySem PyProof.Rows
section
variable {prog : Program} {w : World} {A : Around} {E : Value → Shared → Prop} {s : Shared}
end
end Sg
set_option Elab.async false
set_option linter.all false
set_option maxRecDepth 100000
/-! sorted(xs) of ints, sorted(a set of ints) -/
namespace L2
open PySem PySem.Spec PyProof.Rows
theorem Inv.drawn {X : Cx} {pins : List (Addr × Obj)} {σ : St} {H : Hp} {s : Shared} (d : Drawn) (I : Inv X pins σ H s) : Inv X pins σ H { s with drawn := d } := ⟨I.ok, I.os, I.bare, I.base, I.loc, I.cell, I.free, I.freeC, I.pin, I.hok, I.len⟩
section
variable {X : Cx}
end
end L2
set_option Elab.async false
set_option linter.all false
set_option maxRecDepth 100000
/-! WHAT A SORT OF FEWER THAN 64 THINGS COMES TO, over the library's tree of asks: a permutation, in order, those alike as they stood. -/
namespace Srt
open PySem PySem.W PyProof.Rows
def Good (n : Nat) (lt : Nat → Nat → Bool) {α : Type} : KasT α → (α → Prop) → Prop
  | .ret a, Q => Q a
  | .ask i j k, Q => i < n ∧ j < n ∧ Good n lt (k (lt i j)) Q
section
variable {n : Nat} {lt : Nat → Nat → Bool} {α β : Type}
theorem good_mono {Q Q' : α → Prop} (h : ∀ a, Q a → Q' a) : ∀ t : KasT α, Good n lt t Q → Good n lt t Q'
  | .ret a, q => h a q
  | .ask i j k, q => ⟨q.1, q.2.1, good_mono h (k (lt i j)) q.2.2⟩
theorem good_bind {f : α → KasT β} {Q : β → Prop} : ∀ t : KasT α, Good n lt t (fun a => Good n lt (f a) Q) → Good n lt (t.bind f) Q
  | .ret a, q => q
  | .ask i j k, q => ⟨q.1, q.2.1, good_bind (k (lt i j)) q.2.2⟩
theorem good_wp {cmp : Nat → Nat → (Bool → Shared → Prop) → Shared → Prop} {s : Shared} {Q : α → Shared → Prop} (hc : ∀ i j (C : Bool → Shared → Prop), i < n → j < n → C (lt i j) s → cmp i j C s) : ∀ t : KasT α, Good n lt t (fun a => Q a s) → t.kasWp cmp Q s
  | .ret a, q => q
  | .ask i j k, q => hc i j _ q.1 q.2.1 (good_wp hc (k (lt i j)) q.2.2)
end
structure Ord (lt : Nat → Nat → Bool) : Prop where
  asym : ∀ {a b}, lt a b = true → lt b a = false
  tr : ∀ {a b c}, lt b a = false → lt c b = false → lt c a = false
section
variable {lt : Nat → Nat → Bool} {N : Nat}
theorem Ord.ltle (O : Ord lt) {a b c : Nat} (h : lt a b = true) (h' : lt c b = false) : lt a c = true := by
  cases e : lt a c with
  | true => rfl
  | false => rw [O.tr h' e] at h; cases h
theorem Ord.lelt (O : Ord lt) {a b c : Nat} (h : lt b a = false) (h' : lt b c = true) : lt a c = true := by
  cases e : lt a c with
  | true => rfl
  | false => rw [O.tr e h] at h'; cases h'
def R (lt : Nat → Nat → Bool) (a b : Nat) : Prop := lt a b = true ∨ (lt b a = false ∧ a < b)
theorem R.le (O : Ord lt) {a b : Nat} (h : R lt a b) : lt b a = false := h.elim O.asym (·.1)
abbrev g (p : Array Nat) (i : Nat) : Nat := p.getD i 0
theorem g_eq {p : Array Nat} {i : Nat} : g p i = (p[i]?).getD 0 := by simp [g]
theorem g_rev {p : Array Nat} {i j : Nat} (hj : j ≤ p.size) (k : Nat) : g (kas_rev p i j) k = if i ≤ k ∧ k < j then g p (i + j - 1 - k) else g p k := by
  unfold kas_rev
  rw [g_eq, getElem?_mirror_all hj, g_eq, g_eq]
  split <;> rfl
theorem g_bub {p : Array Nat} {k d : Nat} (hs : k < p.size) (hd : d ≤ k) (i : Nat) : g (bubble p k d) i = if i = k - d then g p k else if k - d < i ∧ i ≤ k then g p (i - 1) else g p i := by
  rw [g_eq, getElem?_bubble hs d hd, g_eq, g_eq, g_eq]
  split
  · rfl
  · split <;> rfl
structure Pm (N : Nat) (p : Array Nat) (n : Nat) : Prop where
  sz : p.size = N
  pm : p.Perm (List.toArray (List.range N))
  lo : ∀ i, i < n → g p i < n
  hi : ∀ i, n ≤ i → i < N → g p i = i
theorem Pm.rev {p : Array Nat} {n i j : Nat} (h : Pm N p n) (hj : j ≤ n) (hn : n ≤ N) : Pm N (kas_rev p i j) n where
  sz := by rw [kas_rev_size]; exact h.sz
  pm := (mirror_perm _ _ _ _).trans h.pm
  lo := fun k hk => by
    rw [g_rev (by rw [h.sz]; omega)]
    split
    · exact h.lo _ (by omega)
    · exact h.lo _ hk
  hi := fun k hk hk2 => by
    rw [g_rev (by rw [h.sz]; omega), if_neg (by omega)]
    exact h.hi k hk hk2
theorem Pm.succ {p : Array Nat} {n : Nat} (h : Pm N p n) (hn : n < N) : Pm N p (n + 1) where
  sz := h.sz
  pm := h.pm
  lo := fun i hi => by
    rcases Nat.lt_or_ge i n with h1 | h1
    · exact Nat.lt_succ_of_lt (h.lo i h1)
    · rw [h.hi i h1 (by omega)]; exact hi
  hi := fun i h1 h2 => h.hi i (by omega) h2
def Asc (lt : Nat → Nat → Bool) (p : Array Nat) (n : Nat) : Prop := ∀ i j, i < j → j < n → R lt (g p i) (g p j)
theorem asc_ok (O : Ord lt) (p : Array Nat) : ∀ (f n : Nat), 1 ≤ n → n + f = N → Pm N p n → Asc lt p n →
    Good N lt (kas_asc p f n) (fun m => n ≤ m ∧ m ≤ N ∧ Pm N p m ∧ Asc lt p m ∧ (m < N → lt (g p m) (g p (m - 1)) = true))
  | 0, n, h1, hn, hp, ha => ⟨Nat.le_refl _, by omega, hp, ha, fun h => by omega⟩
  | f + 1, n, h1, hn, hp, ha => by
    have hnN : n < N := by omega
    have en := hp.hi n (Nat.le_refl _) hnN
    have e1 := hp.lo (n - 1) (by omega)
    show Good N lt (.ask (g p n) (g p (n - 1)) fun c => if c = true then .ret n else kas_asc p f (n + 1)) _
    refine ⟨by omega, by omega, ?_⟩
    cases hc : lt (g p n) (g p (n - 1)) with
    | true =>
      try dsimp only
      rw [if_pos rfl]
      exact ⟨Nat.le_refl _, by omega, hp, ha, fun _ => hc⟩
    | false =>
      try dsimp only
      rw [if_neg (by simp)]
      refine good_mono (fun m h => ⟨by omega, h.2⟩) _ (asc_ok O p f (n + 1) (by omega) (by omega) (hp.succ hnN) fun i j hij hj => ?_)
      rcases Nat.lt_or_ge j n with h2 | h2
      · exact ha i j hij h2
      · obtain rfl : j = n := by omega
        have hlo := hp.lo i hij
        refine .inr ⟨?_, by omega⟩
        rcases Nat.lt_or_ge i (j - 1) with h3 | h3
        · exact O.tr ((ha i (j - 1) h3 (by omega)).le O) hc
        · obtain rfl : i = j - 1 := by omega
          exact hc
structure Dsc (lt : Nat → Nat → Bool) (p : Array Nat) (n q : Nat) : Prop where
  a : ∀ i j, i < j → j < n - (q + 1) → R lt (g p j) (g p i)
  b : ∀ i j, i < n - (q + 1) → n - (q + 1) ≤ j → j < n → lt (g p j) (g p i) = true
  c : ∀ i j, n - (q + 1) ≤ i → i < j → j < n → lt (g p i) (g p j) = false ∧ lt (g p j) (g p i) = false ∧ g p i < g p j
def Rv (lt : Nat → Nat → Bool) (p : Array Nat) (n : Nat) : Prop := ∀ i j, i < j → j < n → R lt (g p j) (g p i)
theorem Dsc.rv0 {p : Array Nat} {n : Nat} (h : Dsc lt p n 0) (h1 : 1 ≤ n) : Rv lt p n := fun i j hij hj => by
  rcases Nat.lt_or_ge j (n - 1) with h2 | h2
  · exact h.a i j hij h2
  · exact .inl (h.b i j (by omega) h2 hj)
theorem Dsc.rv {p : Array Nat} {n q : Nat} (h : Dsc lt p n q) (hq : q + 1 ≤ n) (hn : n ≤ p.size) : Rv lt (kas_rev p (n - (q + 1)) n) n := fun i j hij hj => by
  rw [g_rev hn, g_rev hn]
  by_cases hi : n - (q + 1) ≤ i
  · rw [if_pos ⟨by omega, hj⟩, if_pos ⟨hi, by omega⟩]
    obtain ⟨c1, c2, c3⟩ := h.c (n - (q + 1) + n - 1 - j) (n - (q + 1) + n - 1 - i) (by omega) (by omega) (by omega)
    exact .inr ⟨c2, c3⟩
  · rw [if_neg (show ¬ (n - (q + 1) ≤ i ∧ i < n) by omega)]
    by_cases hj2 : n - (q + 1) ≤ j
    · rw [if_pos ⟨hj2, hj⟩]
      exact .inl (h.b i _ (by omega) (by omega) (by omega))
    · rw [if_neg (by omega)]
      exact h.a i j hij (by omega)
theorem desc_ok (O : Ord lt) : ∀ (f : Nat) (p : Array Nat) (n q : Nat), q + 1 ≤ n → n + f = N → Pm N p n → Dsc lt p n q →
    Good N lt (kas_desc f p n q) (fun r => r.2.2 + 1 ≤ r.2.1 ∧ r.2.1 ≤ N ∧ Pm N r.1 r.2.1 ∧ Dsc lt r.1 r.2.1 r.2.2)
  | 0, p, n, q, hq, hn, hp, hd => ⟨hq, by show n ≤ N; omega, hp, hd⟩
  | f + 1, p, n, q, hq, hn, hp, hd => by
    have hnN : n < N := by omega
    have en := hp.hi n (Nat.le_refl _) hnN
    have e1 := hp.lo (n - 1) (by omega)
    have hsz := hp.sz
    refine ⟨by show g p n < N; omega, by show g p (n - 1) < N; omega, ?_⟩
    cases hc : lt (p.getD n 0) (p.getD (n - 1) 0) with
    | true =>
      try dsimp only
      rw [if_pos rfl]
      have hx : ∀ i, i < n → lt (g p n) (g p i) = true := fun i hi => by
        rcases Nat.lt_or_ge i (n - (q + 1)) with h2 | h2
        · have := hd.b i (n - 1) h2 (by omega) (by omega)
          exact O.ltle hc (O.asym this)
        · rcases Nat.lt_or_ge i (n - 1) with h3 | h3
          · exact O.ltle hc (hd.c i (n - 1) h2 h3 (by omega)).1
          · obtain rfl : i = n - 1 := by omega
            exact hc
      have go : ∀ p' : Array Nat, Pm N p' n → Rv lt p' n → (∀ i, i < n → ∃ i', i' < n ∧ g p' i = g p i') → g p' n = g p n →
          Good N lt (kas_desc f p' (n + 1) 0) (fun r => r.2.2 + 1 ≤ r.2.1 ∧ r.2.1 ≤ N ∧ Pm N r.1 r.2.1 ∧ Dsc lt r.1 r.2.1 r.2.2) := fun p' hp' hv hs he => by
        refine desc_ok O f p' (n + 1) 0 (by omega) (by omega) (hp'.succ hnN) ⟨fun i j hij hj => hv i j hij (by omega), fun i j hi hj hj2 => ?_, fun i j hi hij hj => by omega⟩
        obtain rfl : j = n := by omega
        obtain ⟨i', hi', e⟩ := hs i (by omega)
        rw [he, e]
        exact hx i' hi'
      by_cases hq0 : q > 0
      · rw [if_pos hq0]
        refine go _ (hp.rev (Nat.le_refl _) (by omega)) (hd.rv hq (by omega)) (fun i hi => ?_) ?_
        · rw [g_rev (by omega)]
          split
          · exact ⟨_, by omega, rfl⟩
          · exact ⟨i, hi, rfl⟩
        · rw [g_rev (by omega), if_neg (by omega)]
      · rw [if_neg hq0]
        obtain rfl : q = 0 := by omega
        exact go p hp (hd.rv0 hq) (fun i hi => ⟨i, hi, rfl⟩) rfl
    | false =>
      try dsimp only
      rw [if_neg (by simp)]
      refine ⟨by show g p (n - 1) < N; omega, by show g p n < N; omega, ?_⟩
      cases hdd : lt (p.getD (n - 1) 0) (p.getD n 0) with
      | true =>
        try dsimp only
        rw [if_pos rfl]
        exact ⟨hq, by show n ≤ N; omega, hp, hd⟩
      | false =>
        try dsimp only
        rw [if_neg (by simp)]
        have eb : n + 1 - (q + 1 + 1) = n - (q + 1) := by omega
        refine desc_ok O f p (n + 1) (q + 1) (by omega) (by omega) (hp.succ hnN) ⟨fun i j hij hj => hd.a i j hij (by omega), fun i j hi hj hj2 => ?_, fun i j hi hij hj => ?_⟩
        · rw [eb] at hi hj
          rcases Nat.lt_or_ge j n with h2 | h2
          · exact hd.b i j hi hj h2
          · obtain rfl : j = n := by omega
            exact O.lelt (c := g p i) hdd (hd.b i (j - 1) hi (by omega) (by omega))
        · rw [eb] at hi
          rcases Nat.lt_or_ge j n with h2 | h2
          · exact hd.c i j hi hij h2
          · obtain rfl : j = n := by omega
            have hlo := hp.lo i hij
            rcases Nat.lt_or_ge i (j - 1) with h3 | h3
            · obtain ⟨c1, c2, c3⟩ := hd.c i (j - 1) hi h3 (by omega)
              exact ⟨O.tr hdd c1, O.tr c2 hc, by omega⟩
            · obtain rfl : i = j - 1 := by omega
              exact ⟨hdd, hc, by omega⟩
abbrev Cnt (N : Nat) (lt : Nat → Nat → Bool) (r : Nat × Array Nat) : Prop := 1 ≤ r.1 ∧ r.1 ≤ N ∧ Pm N r.2 r.1 ∧ Asc lt r.2 r.1
theorem tail3_ok (O : Ord lt) {p : Array Nat} {n : Nat} (h1 : 1 ≤ n) (hn : n ≤ N) (hp : Pm N p n) (hv : Rv lt p n) : Good N lt (kas_tail3 n N p) (Cnt N lt) := by
  have hsz := hp.sz
  refine good_bind _ (good_mono (fun m h => ?_) _ (asc_ok O (kas_rev p 0 n) (N - n) n h1 (by omega) (hp.rev (Nat.le_refl _) hn) fun i j hij hj => ?_))
  · exact ⟨by show 1 ≤ m; omega, h.2.1, h.2.2.1, h.2.2.2.1⟩
  · rw [g_rev (by omega), g_rev (by omega), if_pos (by omega), if_pos (by omega)]
    exact hv _ _ (by omega) (by omega)
theorem descPart_ok (O : Ord lt) {p : Array Nat} {n : Nat} (hn : n < N) (hp : Pm N p n) (hv : Rv lt p n) (hx : ∀ i, i < n → lt (g p n) (g p i) = true) : Good N lt (kas_descPart n N p) (Cnt N lt) := by
  refine good_bind _ (good_mono (fun r h => ?_) _ (desc_ok O (N - (n + 1)) p (n + 1) 0 (by omega) (by omega) (hp.succ hn) ⟨fun i j hij hj => hv i j hij (by omega), fun i j hi hj hj2 => ?_, fun i j hi hij hj => by omega⟩))
  · obtain ⟨q1, q2, q3, q4⟩ := h
    have hsz := q3.sz
    by_cases hq : r.2.2 > 0
    · rw [if_pos hq]
      exact tail3_ok O (by omega) q2 (q3.rev (Nat.le_refl _) q2) (q4.rv q1 (by omega))
    · rw [if_neg hq]
      have e0 : r.2.2 = 0 := by omega
      rw [e0] at q4
      exact tail3_ok O (by omega) q2 q3 (q4.rv0 (by omega))
  · obtain rfl : j = n := by omega
    exact hx i (by omega)
theorem count_ok (O : Ord lt) {p : Array Nat} (h1 : 1 ≤ N) (hp : Pm N p 1) : Good N lt (kas_count N p) (Cnt N lt) := by
  have hsz := hp.sz
  refine good_bind _ (good_mono (fun m h => ?_) _ (asc_ok O p (N - 1) 1 (Nat.le_refl _) (by omega) hp fun i j hij hj => by omega))
  obtain ⟨m1, m2, m3, m4, m5⟩ := h
  by_cases hm : m = N
  · rw [if_pos (by rw [hm]; exact beq_self_eq_true _)]
    exact ⟨m1, m2, m3, m4⟩
  · rw [if_neg (by intro e; exact hm (by simpa using e))]
    have hlt := m5 (by omega)
    by_cases hm1 : m > 1
    · rw [if_pos hm1]
      have l0 := m3.lo 0 (by omega)
      have l1 := m3.lo (m - 1) (by omega)
      refine ⟨by show g p 0 < N; omega, by show g p (m - 1) < N; omega, ?_⟩
      cases hc : lt (p.getD 0 0) (p.getD (m - 1) 0) with
      | true =>
        try dsimp only
        rw [if_pos rfl]
        exact ⟨m1, m2, m3, m4⟩
      | false =>
        try dsimp only
        rw [if_neg (by simp)]
        have le1 : ∀ i, i < m → lt (g p i) (g p (m - 1)) = false := fun i hi => by
          rcases Nat.eq_zero_or_pos i with h0 | h0
          · subst h0; exact hc
          · exact O.tr hc ((m4 0 i h0 hi).le O)
        have le2 : ∀ i, i < m → lt (g p (m - 1)) (g p i) = false := fun i hi => by
          rcases Nat.lt_or_ge i (m - 1) with h0 | h0
          · exact (m4 i (m - 1) h0 (by omega)).le O
          · obtain rfl : i = m - 1 := by omega
            exact le1 _ hi
        have all : ∀ i j, i < m → j < m → lt (g p i) (g p j) = false := fun i j hi hj => O.tr (le2 j hj) (le1 i hi)
        have idx : ∀ i j, i < j → j < m → g p i < g p j := fun i j hij hj => by
          rcases m4 i j hij hj with h | h
          · rw [all i j (by omega) hj] at h; cases h
          · exact h.2
        refine descPart_ok O (by omega) (m3.rev (Nat.le_refl _) m2) (fun i j hij hj => ?_) fun i hi => ?_
        · rw [g_rev (by omega), g_rev (by omega), if_pos (by omega), if_pos (by omega)]
          exact .inr ⟨all _ _ (by omega) (by omega), idx _ _ (by omega) (by omega)⟩
        · rw [g_rev (by omega), g_rev (by omega), if_neg (by omega), if_pos (by omega)]
          exact O.ltle hlt (le1 _ (by omega))
    · rw [if_neg hm1]
      obtain rfl : m = 1 := by omega
      refine descPart_ok O (by omega) m3 (fun i j hij hj => by omega) fun i hi => ?_
      obtain rfl : i = 0 := by omega
      exact hlt
theorem place_ok (O : Ord lt) {p : Array Nat} {k : Nat} (hk : k < N) (hp : Pm N p k) (ha : Asc lt p k) : ∀ (f l r : Nat), l ≤ r → r ≤ k → r - l ≤ f → (∀ i, i < l → lt (g p k) (g p i) = false) → (∀ i, r ≤ i → i < k → lt (g p k) (g p i) = true) →
    Good N lt (kas_place p k f l r) (fun l' => l' ≤ k ∧ (∀ i, i < l' → lt (g p k) (g p i) = false) ∧ ∀ i, l' ≤ i → i < k → lt (g p k) (g p i) = true)
  | 0, l, r, h1, h2, h3, hl, hr => ⟨by omega, hl, fun i h4 h5 => hr i (by omega) h5⟩
  | f + 1, l, r, h1, h2, h3, hl, hr => by
    show Good N lt (if l ≥ r then .ret l else .ask (p.getD k 0) (p.getD ((l + r) / 2) 0) fun c => if c = true then kas_place p k f l ((l + r) / 2) else kas_place p k f ((l + r) / 2 + 1) r) _
    by_cases hlr : l ≥ r
    · rw [if_pos hlr]
      exact ⟨by omega, hl, fun i h4 h5 => hr i (by omega) h5⟩
    · rw [if_neg hlr]
      have ek := hp.hi k (Nat.le_refl _) hk
      have em := hp.lo ((l + r) / 2) (by omega)
      refine ⟨by show g p k < N; omega, by show g p _ < N; omega, ?_⟩
      cases hc : lt (p.getD k 0) (p.getD ((l + r) / 2) 0) with
      | true =>
        try dsimp only
        rw [if_pos rfl]
        refine place_ok O hk hp ha f l ((l + r) / 2) (by omega) (by omega) (by omega) hl fun i h4 h5 => ?_
        rcases Nat.lt_or_ge ((l + r) / 2) i with h6 | h6
        · exact O.ltle hc ((ha _ i h6 h5).le O)
        · obtain rfl : i = (l + r) / 2 := by omega
          exact hc
      | false =>
        try dsimp only
        rw [if_neg (by simp)]
        refine place_ok O hk hp ha f ((l + r) / 2 + 1) r (by omega) h2 (by omega) (fun i h4 => ?_) hr
        rcases Nat.lt_or_ge i ((l + r) / 2) with h6 | h6
        · exact O.tr ((ha i _ h6 (by omega)).le O) hc
        · obtain rfl : i = (l + r) / 2 := by omega
          exact hc
theorem bin_ok (O : Ord lt) : ∀ (f : Nat) (p : Array Nat) (k : Nat), k + f = N → Pm N p k → Asc lt p k → Good N lt (kas_bin f p k) (fun p' => Pm N p' N ∧ Asc lt p' N)
  | 0, p, k, hk, hp, ha => by
    obtain rfl : k = N := by omega
    exact ⟨hp, ha⟩
  | f + 1, p, k, hk, hp, ha => by
    refine good_bind _ (good_mono (fun l h => ?_) _ (place_ok O (by omega) hp ha k 0 k (Nat.zero_le _) (Nat.le_refl _) (by omega) (fun i h => by omega) fun i h1 h2 => by omega))
    obtain ⟨hl, h1, h2⟩ := h
    have hsz := hp.sz
    have ek := hp.hi k (Nat.le_refl _) (by omega)
    have gb := fun i => g_bub (p := p) (k := k) (d := k - l) (by omega) (by omega) i
    have el : k - (k - l) = l := by omega
    rw [el] at gb
    refine bin_ok O f _ (k + 1) (by omega) ⟨by rw [bubble_size]; exact hsz, (bubble_perm _ _ _).trans hp.pm, fun i hi => ?_, fun i hi hi2 => ?_⟩ fun i j hij hj => ?_
    · rw [gb]
      split
      · omega
      · split
        · have := hp.lo (i - 1) (by omega); omega
        · have := hp.lo i (by omega); omega
    · rw [gb, if_neg (by omega), if_neg (by omega)]
      exact hp.hi i (by omega) hi2
    · rw [gb, gb]
      by_cases j1 : j = l
      · rw [if_pos j1, if_neg (by omega), if_neg (by omega)]
        have := hp.lo i (by omega)
        exact .inr ⟨h1 i (by omega), by omega⟩
      · rw [if_neg j1]
        by_cases i1 : i = l
        · rw [if_pos i1, if_pos (by omega)]
          exact .inl (h2 (j - 1) (by omega) (by omega))
        · rw [if_neg i1]
          by_cases j2 : l < j ∧ j ≤ k
          · rw [if_pos j2]
            split
            · exact ha _ _ (by omega) (by omega)
            · exact ha _ _ (by omega) (by omega)
          · rw [if_neg j2, if_neg (by omega)]
            exact ha i j hij (by omega)
theorem start_pm (N : Nat) : Pm N (List.toArray (List.range N)) 1 where
  sz := by simp
  pm := Array.Perm.refl _
  lo := fun i hi => by
    obtain rfl : i = 0 := by omega
    rw [g_eq]
    cases N with
    | zero => simp
    | succ m => simp
  hi := fun i _ hi => by rw [g_eq]; simp [hi]
theorem sort_ok (O : Ord lt) (h1 : 1 ≤ N) : Good N lt (kas_sort N) (fun p => Pm N p N ∧ Asc lt p N) := by
  refine good_bind _ (good_mono (fun r h => ?_) _ (count_ok O h1 (start_pm N)))
  obtain ⟨r1, r2, r3, r4⟩ := h
  by_cases hr : r.1 < N
  · rw [if_pos hr]
    have em : max r.1 1 = r.1 := by omega
    rw [em]
    exact bin_ok O _ _ _ (by omega) r3 r4
  · rw [if_neg hr]
    have e : r.1 = N := by omega
    rw [e] at r3 r4
    exact ⟨r3, r4⟩
theorem out_ok {p : Array Nat} (hp : Pm N p N) (ha : Asc lt p N) : p.toList.Perm (List.range N) ∧ p.toList.Pairwise (R lt) := by
  refine ⟨by simpa using Array.perm_iff_toList_perm.mp hp.pm, List.pairwise_iff_getElem.mpr fun i j hi hj hij => ?_⟩
  have hsz := hp.sz
  rw [Array.length_toList] at hi hj
  have := ha i j hij (by omega)
  simpa [g, Array.getD, hi, hj] using this
end
end Srt
set_option Elab.async false
set_option linter.all false
set_option maxRecDepth 100000
/-! sorted of a list of texts -/
namespace Srt
open PySem
def ltT (zs : List Str) (i j : Nat) : Bool := decide ((zs.getD i "").cps.toList < (zs.getD j "").cps.toList)
theorem ltT_ord (zs : List Str) : Ord (ltT zs) := by
  constructor
  · intro a b h
    have h := of_decide_eq_true h
    exact decide_eq_false fun h' => absurd (List.lt_trans h h') (List.lt_irrefl _)
  · intro a b c h1 h2
    have h1 := of_decide_eq_false h1
    have h2 := of_decide_eq_false h2
    exact decide_eq_false fun h => List.not_lt.mpr (List.le_trans (List.not_lt.mp h1) (List.not_lt.mp h2)) h
end Srt
namespace L2
open PySem PySem.Spec PySem.W PyProof.Rows
open Classical in
noncomputable def newsOf (base h : Heap) (L : Addr) : List (Addr × Obj) := (List.range h.objs.size).filterMap fun b => if b = L ∨ base.get? b ≠ none then none else (h.get? b).map fun o => (b, o)
theorem newsOf_news (base h : Heap) (L : Addr) : News base L h (newsOf base h L) := by
  intro p hp
  unfold newsOf at hp
  obtain ⟨b, _, e⟩ := List.mem_filterMap.mp hp
  split at e
  · cases e
  · rename_i hn
    obtain ⟨o, ho, rfl⟩ := Option.map_eq_some_iff.mp e
    exact ⟨ho, fun z => hn (.inl z), Classical.byContradiction fun z => hn (.inr z)⟩
theorem newsOf_mem {base h : Heap} {L b : Addr} {o : Obj} (e : h.get? b = some o) (hL : b ≠ L) (hb : base.get? b = none) : (b, o) ∈ newsOf base h L := by
  unfold newsOf
  refine List.mem_filterMap.mpr ⟨b, List.mem_range.mpr (Heap.lt_size e), ?_⟩
  rw [if_neg (by rintro (z | z); exact hL z; exact z hb), e]
  rfl
section
variable {X : Cx} {pins : List (Addr × Obj)} {σ : St} {H : Hp} {s : Shared}
/-- all objects but the frame's own stay, and its names stay -/
theorem Inv.ofFr {h' : Heap} {t' : Nat} {m : Str → Option Value} {more : List (Addr × Obj)} (I : Inv X pins σ H s) (hm : s.heap.Ns X.env.locals m) (F : Fr X.base X.env.locals h' m) (N : News X.base X.env.locals h' (more ++ newsOf X.base s.heap X.env.locals)) :
    (∀ b o, b ≠ X.env.locals → s.heap.get? b = some o → h'.get? b = some o) ∧ Inv X pins σ H { s with heap := h', toks := t' } := by
  have keep : ∀ b o, b ≠ X.env.locals → s.heap.get? b = some o → h'.get? b = some o := fun b o hb e => by
    cases q : X.base.get? b with
    | some o' =>
      have e1 := I.bk b o' q
      rw [e] at e1
      cases e1
      exact F.keep b o q
    | none => exact (N (b, o) (List.mem_append_right _ (newsOf_mem e hb q))).1
  have hL : ∃ o, s.heap.get? X.env.locals = some o := let ⟨o, _, _, e, _⟩ := hm; ⟨o, e⟩
  refine ⟨keep, I.step (g' := s.gens) (d' := s.drawn) (ch := []) (fun b hb => by simp at hb) (fun b o hb _ _ e _ => keep b o hb e) (fun b o hb _ _ e _ => ⟨o.slots, keep b o hb e⟩) (fun _ _ _ _ n => n) (fun b o _ e => ?_) (fun _ _ e => e) (fun _ _ _ e => e) (fun b ps e => ⟨#[], by rw [e]; simp⟩) (fun m' hm' => ?_) (fun b u e => ?_) I.bare⟩
  · by_cases hb : b = X.env.locals
    · obtain ⟨o', _, _, e', _⟩ := F.ns
      exact ⟨o', by rw [hb]; exact e'⟩
    · exact ⟨o, keep b o hb e⟩
  · have em : m' = m := by
      funext y
      obtain ⟨o, es, ep, ho, hd, hk, hf⟩ := hm
      obtain ⟨o', es', ep', ho', hd', hk', hf'⟩ := hm'
      rw [ho] at ho'; cases ho'
      rw [hd] at hd'; cases hd'
      rw [← hf y, ← hf' y]
    rw [em]; exact F.ns
  · refine (I.hok b u e).stay (fun c v hc q => keep c v ?_ q) (fun _ q => q) fun _ _ q => q
    rintro rfl
    rcases hc with rfl | hc
    · rw [I.free] at e; cases e
    · rw [I.free] at hc; cases hc
theorem Inv.trackG {a : Addr} {o : HO} {ob : Obj} (I : Inv X pins σ H s) (he : s.heap.get? a = some ob) (nL : X.env.locals ≠ a) (nd : ∀ v, ob.data ≠ .cell v) (hn : H a = none) (x0 : X.s₀.heap.get? a = none) (xp : ∀ p ∈ X.pn ++ pins, p.1 ≠ a) (new : ObjOk X.prog X.w (upd H a o) s.heap a o) : Inv X pins σ (upd H a o) s := by
  have na : ∀ {b u}, H b = some u → b ≠ a := fun {b u} e z => by rw [z, hn] at e; cases e
  refine ⟨I.ok, I.os, I.bare, ⟨I.base.keep, I.base.slot, fun b o e n hx => ?_, I.base.there, fun b xs e => ?_, fun b o u e => ?_, fun b ps e => ?_⟩, I.loc, I.cell, ?_, fun y c e => ?_, fun p hp => ?_, fun b ob' e => ?_, I.len⟩
  · rw [upd_ne (fun z => by rw [z, x0] at e; cases e)]; exact I.base.free b o e n hx
  · have e1 := I.base.tups b xs e
    rw [upd_ne (na e1)]; exact e1
  · have e1 := I.base.frzs b o u e
    rw [upd_ne (na e1)]; exact e1
  · obtain ⟨m, e1⟩ := I.base.tbls b ps e
    exact ⟨m, by rw [upd_ne (na e1)]; exact e1⟩
  · rw [upd_ne nL]; exact I.free
  · have nc : c ≠ a := fun z => by
      obtain ⟨v, o, ho, hdd⟩ := I.cell y c e
      rw [z, he] at ho; cases ho; exact nd _ hdd
    rw [upd_ne nc]; exact I.freeC y c e
  · obtain ⟨e1, e2, e3⟩ := I.pin p hp
    exact ⟨e1, by rw [upd_ne (xp p hp)]; exact e2, e3⟩
  · by_cases hb : b = a
    · subst hb
      rw [upd_same] at e
      cases e
      exact new
    · rw [upd_ne hb] at e
      refine (I.hok b ob' e).stay (fun c u _ q => q) (fun c q => ?_) fun c xs q => ?_
      · rw [upd_ne (na q)]; exact q
      · rw [upd_ne (na q)]; exact q
theorem str_at {zs : List Str} {us : List Value} (h : Vals (zs.map V.str) us) {i : Nat} (hi : i < zs.length) : ∃ t, us.getD i Value.none = .str (zs.getD i "") t := by
  obtain ⟨u, hu, r⟩ := h.get (i := i) (x := .str zs[i]) (by rw [List.getElem?_map, List.getElem?_eq_getElem hi]; rfl)
  obtain ⟨t, e⟩ := (show ∃ t, u = Value.str zs[i] t from r)
  refine ⟨t, ?_⟩
  rw [List.getD_eq_getElem?_getD, hu, List.getD_eq_getElem?_getD, List.getElem?_eq_getElem hi]
  exact e
end
end L2
set_option Elab.async false
set_option linter.all false
set_option maxRecDepth 100000
/-! sorted of a set of texts -/
namespace L2
open PySem PySem.Spec PySem.W PyProof.Rows
theorem keys_strs {P : Program} {w : World} : ∀ {zs : List Str} {el : List (Int × Value)}, Paired (fun (k : Key) (e : Int × Value) => (mixKind P w).is k e.2 = true ∧ e.1 = (mixKind P w).hash k) (zs.map Sum.inr) el → Vals (zs.map V.str) (el.map (·.2))
  | [], _, .nil => .nil
  | z :: zs, _, .cons r t => by
    obtain ⟨r, _⟩ := r
    rcases keyIs_shape (show keyIs (Sum.inr z) _ = true from r) with ⟨i, tk, e1, e2⟩ | ⟨x, tk, e1, e2⟩
    · cases e1
    · cases e1
      rw [List.map_cons, List.map_cons, e2]
      exact .cons ⟨tk, rfl⟩ (keys_strs t)
def txOf : Value → Str
  | .str z _ => z
  | _ => ""
theorem vals_tx : ∀ {zs : List Str} {us : List Value}, Vals (zs.map V.str) us → us.map txOf = zs ∧ ∀ u ∈ us, ∃ t, u = .str (txOf u) t
  | [], us, h => by cases h; exact ⟨rfl, fun _ z => nomatch z⟩
  | z :: r, us, h => by
    cases h with
    | cons a b =>
      obtain ⟨t, rfl⟩ := a
      obtain ⟨e1, e2⟩ := vals_tx b
      refine ⟨by rw [List.map_cons, e1]; rfl, fun u hu => ?_⟩
      rcases List.mem_cons.mp hu with e | hu
      · rw [e]; exact ⟨t, rfl⟩
      · exact e2 u hu
theorem tx_vals : ∀ {us : List Value}, (∀ u ∈ us, ∃ t, u = .str (txOf u) t) → Vals ((us.map txOf).map V.str) us
  | [], _ => .nil
  | u :: r, h => by
    obtain ⟨t, e⟩ := h u List.mem_cons_self
    exact .cons ⟨t, e⟩ (tx_vals fun v hv => h v (List.mem_cons_of_mem _ hv))
theorem strs_perm {us vs : List Value} (p : us.Perm vs) {zs : List Str} (h : Vals (zs.map V.str) vs) : ∃ ys : List Str, Vals (ys.map V.str) us ∧ ys.Perm zs := by
  obtain ⟨e1, e2⟩ := vals_tx h
  exact ⟨us.map txOf, tx_vals fun u hu => e2 u (p.mem_iff.mp hu), by rw [← e1]; exact p.map _⟩
section
variable {X : Cx}
end
end L2
set_option Elab.async false
set_option linter.all false
set_option maxRecDepth 100000
/-! sorted of a list of one thing, or none -/
namespace L2
open PySem PySem.Spec PyProof.Rows
section
variable {prog : Program} {w : World} {A : Around} {E : Value → Shared → Prop} {s : Shared}
theorem sort_small {a : Addr} {vs : List Value} {n : Nat} {P : PySem.Fin → Shared → Prop} (ho : s.heap.get? a = some (seqObj "list" vs.toArray n)) (h2 : vs.length < 2) (h : P (.done (.ret .none)) { s with heap := sortedHeap s.heap a vs vs.toArray }) : wpAny (model prog w) A (Builtin.«list.sort» ⟨[.ref a], []⟩) P E s := by
  rw [list_sort_plain]
  have ha := Heap.lt_size ho
  have hz : vs.length ≤ sizeLine := by rw [sizeLine_eq]; omega
  refine wpAny_bind (listItems_at ho rfl (wpAny_bind (listUpdate_at ho rfl ?_ (by rw [List.size_toArray]; exact hz) (Nat.zero_le _))))
  obtain ⟨e1, ho1⟩ : ∃ e1, (s.heap.update a (Obj.mapSeq fun _ => (#[] : Array Value))).get? a = some (seqObj "list" #[] e1) := ⟨_, get?_update_seq ho fun _ => #[]⟩
  refine wpAny_bind (seqEpoch_at ho1 rfl (wpAny_bind (wpAny_newTuple (wpAny_bind (wpAny_newList (wpAny_holding ?_) (Nat.zero_le _))) hz)))
  have ho6 : (((s.heap.update a (Obj.mapSeq fun _ => (#[] : Array Value))).push (seqObj "tuple" vs.toArray 0)).push (seqObj "list" #[] 0)).get? a = some (seqObj "list" #[] e1) := Heap.get?_push_of_some _ (Heap.get?_push_of_some _ ho1)
  show wpAny (model prog w) A _ P E { s with heap := ((s.heap.update a (Obj.mapSeq fun _ => (#[] : Array Value))).push (seqObj "tuple" vs.toArray 0)).push (seqObj "list" #[] 0) }
  dsimp only
  have hs2 : vs.toArray.size < 2 := by rw [List.size_toArray]; exact h2
  rw [if_pos hs2, if_pos hs2]
  refine wpAny_bind (wpAny_pure ?_)
  rw [StateT.run_pure]
  refine wpAny_bind (wpAny_pure ?_)
  dsimp only
  have eo : (arrOf (SortSt.mk' general' (vs.toArray.zip vs.toArray) #[] 7 none)).map (·.2) = vs.toArray := by
    show (vs.toArray.zip vs.toArray).map (·.2) = vs.toArray
    refine Array.ext (by simp) fun i h1 h2 => by simp
  refine wpAny_bind (seqEpoch_at ho6 rfl (wpAny_bind (listUpdate_at ho6 rfl ?_ (Nat.zero_le _) (by rw [eo, List.size_toArray]; omega))))
  rw [eo]
  simp only [bne_self_eq_false, Bool.false_eq_true, if_false]
  exact wpAny_pure h
end
section
variable {X : Cx}
end
end L2
set_option Elab.async false
set_option linter.all false
set_option maxRecDepth 100000
/-! sorted(list, key = a def of the text) over the hand layer. -/
namespace L2
open PySem PySem.Spec PyProof.Rows
/-- within a builtin that a builtin calls, where nothing may be raised -/
def inn (X : Cx) : Cx := { X with A := X.A.in1.in1, xe := fun _ _ => False }
section
variable {X : Cx} {pins : List (Addr × Obj)} {σ : St} {H : Hp} {s : Shared}
theorem Inv.inn (I : Inv X pins σ H s) : Inv (inn X) pins σ H s :=
  ⟨⟨I.ok.mod, I.ok.kind, I.ok.glob, I.ok.blt, I.ok.above, I.ok.inj, I.ok.has, I.ok.cab, I.ok.hd, I.ok.frames, I.ok.stk, I.ok.exf, I.ok.bs, I.ok.bsz, I.ok.noex, I.ok.exfs, I.ok.funs, I.ok.frf⟩, I.os, I.bare, I.base, I.loc, I.cell, I.free, I.freeC, I.pin, I.hok, I.len⟩
theorem Inv.out (ok : X.Ok) (I : Inv (L2.inn X) pins σ H s) : Inv X pins σ H s :=
  ⟨ok, I.os, I.bare, I.base, I.loc, I.cell, I.free, I.freeC, I.pin, I.hok, I.len⟩
/-- an untracked list of ours is tracked from now on -/
theorem Inv.track {D : Addr} {ys : List V} {its : List Value} {n : Nat} (I : Inv X pins σ H s) (f : FpOk X pins H D) (hg : s.heap.get? D = some { cls := .type "list", data := .seq its.toArray n }) (hv : Vals ys its) (hz : ys.length ≤ sizeLine) : Inv X pins σ (upd H D (.lst ys)) s := by
  obtain ⟨f1, f2, f3, f4, f5, f6⟩ := f
  have nD : ∀ b u, H b = some u → b ≠ D := fun b u e z => by rw [z, f1] at e; cases e
  have J := I.step (h' := s.heap) (g' := s.gens) (t' := s.toks) (d' := s.drawn) (ch := [D]) (H' := upd H D (.lst ys)) (fun b hb => by
      have e : b = D := by simpa using hb
      subst e
      exact ⟨f4, f2, f5, f6⟩)
    (fun b o _ _ _ e _ => e) (fun b o _ _ _ e _ => ⟨o.slots, e⟩) (fun b o hc e n => by rw [upd_ne (by simpa using hc)]; exact n) (fun b o _ e => ⟨o, e⟩)
    (fun b xs e => by rw [upd_ne (nD _ _ e)]; exact e) (fun b o u e => by rw [upd_ne (nD _ _ e)]; exact e) (fun b ps e => ⟨#[], by rw [upd_ne (nD _ _ e), e]; simp⟩) (fun m hm => hm) (fun b u e => by
      by_cases hb : b = D
      · subst hb
        rw [upd_same] at e
        cases e
        exact ⟨hz, its, n, hv, hg⟩
      · rw [upd_ne hb] at e
        exact (I.hok b u e).stay (fun _ _ _ q => q) (fun c q => by rw [upd_ne (nD _ _ q)]; exact q) fun c xs q => by rw [upd_ne (nD _ _ q)]; exact q) I.bare
  exact J
theorem FpOk.pinned {b : Addr} {pl : List (Addr × Obj)} (f : FpOk X pins H b) (h : ∀ p ∈ pl, p.1 ≠ b) : FpOk X (pins ++ pl) H b := by
  obtain ⟨f1, f2, f3, f4, f5, f6⟩ := f
  refine ⟨f1, f2, f3, f4, f5, fun p hp => ?_⟩
  rcases List.mem_append.mp hp with hp | hp
  · exact f6 p (List.mem_append_left _ hp)
  · rcases List.mem_append.mp hp with hp | hp
    · exact f6 p (List.mem_append_right _ hp)
    · exact h p hp
theorem FpOk.on {b : Addr} {H' : Hp} (f : FpOk X pins H b) (h : H' b = none) : FpOk X pins H' b := ⟨h, f.2⟩
/-- a list of ours, untracked, is written -/
theorem Inv.wr {b : Addr} {h' : Heap} {t' : Nat} (I : Inv X pins σ H s) (f : FpOk X pins H b) (k : ∀ c o, c ≠ b → s.heap.get? c = some o → h'.get? c = some o) : Inv X pins σ H { s with heap := h', toks := t' } :=
  I.turned k f.1 f.2.1 f.2.2.2.1 f.2.2.2.2.1 f.2.2.2.2.2
theorem upd_keeps {h : Heap} {b : Addr} {f : Obj → Obj} : ∀ c o, c ≠ b → h.get? c = some o → (h.update b f).get? c = some o := fun c o hc e => by
  rw [Heap.get?_update_ne _ _ _ _ hc]
  exact e
end
/-- what two lists of ours, the keys and the sorted ones, are: pinned behind the rest -/
abbrev kd (pins : List (Addr × Obj)) (kS D : Addr) (ks : List Value) (e e1 : Nat) : List (Addr × Obj) := pins ++ [(kS, seqObj "list" ks.toArray e), (D, seqObj "list" #[] e1)]
section
variable {X : Cx} {pins : List (Addr × Obj)} {σ : St} {H : Hp} {s : Shared} {kS D : Addr} {its : List Value} {xs : List V} {f : Value} {Q : VK}
/-- how the keys are asked -/
structure Asks (X : Cx) (n : Nat) (ks : List Value) (s : Shared) (κ : SortKind) (lt : Nat → Nat → Bool) : Prop where
  ord : Srt.Ord lt
  kind : 2 ≤ n → ∀ Q : SortKind → Shared → Prop, Q κ s → wpAny (model X.prog X.w) X.A.in1.in1 (keyKind' ks.toArray) Q (fun _ _ => False) s
  ask : ∀ i j (C : Bool → Shared → Prop), i < n → j < n → C (lt i j) s → PySem.W.kas_ask X.prog X.w X.A.in1.in1 κ ks i j C s
/-- what is wanted behind the keys -/
def SEnd (X : Cx) (xs : List V) (Q : VK) (J : Nat → Hp → List Value → Prop) : Prop := ∀ (pins : List (Addr × Obj)) (σ : St) (H : Hp) (s : Shared) (ks : List Value), J xs.length H ks → ks.length = xs.length → Inv (inn X) pins σ H s → ∃ κ lt, Asks X xs.length ks s κ lt ∧
  ∀ p : List Nat, p.Perm (List.range xs.length) → p.Pairwise (Srt.R lt) → ∀ D, H D = none → Q (.ref D) (upd H D (.lst (p.map fun i => xs.getD i .non)))
theorem vals_pick {xs : List V} {its : List Value} (r : Vals xs its) : ∀ (p : List Nat), (∀ i ∈ p, i < xs.length) → Vals (p.map fun i => xs.getD i .non) (p.map fun i => its.getD i Value.none)
  | [], _ => .nil
  | i :: p, h => by
    have hi := h i List.mem_cons_self
    refine .cons ?_ (vals_pick r p fun j hj => h j (List.mem_cons_of_mem _ hj))
    obtain ⟨u, e, ru⟩ := r.get (List.getElem?_eq_getElem hi)
    show RelV (xs.getD i .non) (its.getD i Value.none)
    rw [List.getD_eq_getElem?_getD, List.getD_eq_getElem?_getD, e, List.getElem?_eq_getElem hi]
    exact ru
theorem sort_tail {out : List Value} {ys : List V} {ks : List Value} {e e1 : Nat} {st : SortSt} {E : Value → Shared → Prop} (ok : X.Ok) (I : Inv (inn X) (kd pins kS D ks e e1) σ H s) (fk : FpOk (inn X) pins H kS) (fD : FpOk (inn X) pins H D) (hne : kS ≠ D) (hz : out.length < 64) (hkz : ks.length < 64)
    (hout : (arrOf st).map (·.2) = List.toArray out) (hf : failedOf st = none) (hv : Vals ys out) (q : Q (.ref D) (upd H D (.lst ys))) :
    wpAny (model X.prog X.w) X.A.in1.in1 (ksk_tail D false e1 (.ref kS) st) (fun fin s' => fin = .done (.ret .none) ∧ EP X pins σ Q (.ref D) s') E s := by
  have pk := I.pin (kS, seqObj "list" ks.toArray e) (by simp)
  have pD := I.pin (D, seqObj "list" #[] e1) (by simp)
  have I0 : Inv (inn X) pins σ H s := I.pins_of fun p hp => I.pin p (List.mem_append_right _ (List.mem_append_left _ hp))
  unfold ksk_tail
  try dsimp only
  rw [hout]
  refine wpAny_bind (listUpdate_at pk.1 rfl ?_ (by rw [List.size_toArray, sizeLine_eq]; omega) (Nat.zero_le _))
  refine wpAny_bind (wpAny_letGo ?_)
  have gD : (s.heap.update kS (Obj.mapSeq fun _ => (#[] : Array Value))).get? D = some (seqObj "list" #[] e1) := upd_keeps D _ (Ne.symm hne) pD.1
  refine wpAny_bind (seqEpoch_at gD rfl ?_)
  refine wpAny_bind (listUpdate_at gD rfl ?_ (Nat.zero_le _) (by simp only [Bool.false_eq_true, if_false]; rw [List.size_toArray, sizeLine_eq]; omega))
  rw [hf]
  simp only [bne_self_eq_false, Bool.false_eq_true, if_false]
  have I1 := I0.wr (t' := s.toks) fk (h' := s.heap.update kS (Obj.mapSeq fun _ => (#[] : Array Value))) upd_keeps
  have I2 := I1.wr (t' := s.toks) fD (h' := (s.heap.update kS (Obj.mapSeq fun _ => (#[] : Array Value))).update D (Obj.mapSeq fun _ => List.toArray out)) upd_keeps
  obtain ⟨c2, hc2⟩ : ∃ c2, ((s.heap.update kS (Obj.mapSeq fun _ => (#[] : Array Value))).update D (Obj.mapSeq fun _ => List.toArray out)).get? D = some (seqObj "list" (List.toArray out) c2) := ⟨_, get?_update_seq gD fun _ => List.toArray out⟩
  have I3 := I2.track (ys := ys) (its := out) (n := c2) fD hc2 hv (by rw [hv.length, sizeLine_eq]; omega)
  exact wpAny_pure ⟨rfl, .ref D, _, Inv.out ok I3, rfl, q⟩
theorem sort_end {J : Nat → Hp → List Value → Prop} {ks : List Value} {e e1 : Nat} {E : Value → Shared → Prop} (ok : X.Ok) (I : Inv (inn X) (kd pins kS D ks e e1) σ H s) (fk : FpOk (inn X) pins H kS) (fD : FpOk (inn X) pins H D) (hne : kS ≠ D) (h64 : its.length < 64)
    (rv : Vals xs its) (hk : ks.length = xs.length) (hJ : J xs.length H ks) (h : SEnd X xs Q J) :
    wpAny (model X.prog X.w) X.A.in1.in1 (ksk_end D false its.toArray e1 (.ref kS) ks.toArray) (fun fin s' => fin = .done (.ret .none) ∧ EP X pins σ Q (.ref D) s') E s := by
  have hl := rv.length
  obtain ⟨κ, lt, ha, q⟩ := h _ _ _ _ ks hJ hk I
  unfold ksk_end
  try dsimp only
  simp only [Bool.false_eq_true, if_false]
  by_cases h2 : its.toArray.size < 2
  · rw [if_pos h2, if_pos h2]
    refine wpAny_bind (wpAny_pure ?_)
    rw [StateT.run_pure]
    refine wpAny_bind (wpAny_pure ?_)
    try dsimp only
    rw [List.size_toArray] at h2
    have ep : (List.range xs.length).map (fun i => xs.getD i .non) = xs := by
      refine List.ext_getElem (by simp) fun i h1 h2 => ?_
      simp at h1
      simp [h1]
    have q0 := q (List.range xs.length) (List.Perm.refl _) (by
      rcases Nat.lt_or_ge xs.length 1 with z | z
      · rw [show xs.length = 0 by omega]; exact List.Pairwise.nil
      · rw [show xs.length = 1 by omega]; exact List.pairwise_singleton _ _) D fD.1
    rw [ep] at q0
    refine sort_tail (st := SortSt.mk' general' (ks.toArray.zip its.toArray) #[] 7 none) ok I fk fD hne h64 (by omega) ?_ rfl rv q0
    show (ks.toArray.zip its.toArray).map (·.2) = its.toArray
    apply Array.toList_inj.mp
    rw [Array.toList_map, ksk_zip]
    simp only [List.toList_toArray]
    exact List.map_snd_zip (by omega)
  · rw [if_neg h2, if_neg h2]
    rw [List.size_toArray] at h2
    refine wpAny_bind (wpAny_mono (ha.kind (by omega) (fun κ' s' => κ' = κ ∧ s' = s) ⟨rfl, rfl⟩) (fun κ' s' hκ => ?_) fun _ _ x => x.elim)
    obtain ⟨rfl, rfl⟩ := hκ
    have so := Srt.good_wp (Q := fun p s'' => s'' = s' ∧ Srt.Pm its.length p its.length ∧ Srt.Asc lt p its.length) (s := s') (cmp := PySem.W.kas_ask X.prog X.w X.A.in1.in1 κ' ks) (fun i j C hi hj hC => ha.ask i j C (by omega) (by omega) hC)
      (PySem.W.kas_sort its.length) (Srt.good_mono (fun p hp => ⟨rfl, hp⟩) _ (Srt.sort_ok ha.ord (by omega)))
    refine wpAny_bind (wpAny_mono (PySem.W.kat_run (Q := fun st' s'' => ∃ p : Array Nat, arrOf st' = p.map (PySem.W.kas_item (ks.toArray.zip its.toArray)) ∧ failedOf st' = none ∧ s'' = s' ∧ Srt.Pm its.length p its.length ∧ Srt.Asc lt p its.length)
      (by omega) (by omega) h64 (fun p' st' s'' a1 a2 a3 a4 => ⟨p', a2, a3, a4⟩) so) ?_ fun _ _ x => x)
    rintro ⟨⟨⟩, st'⟩ s'' ⟨p, har, hf, rfl, hp, hasc⟩
    try dsimp only
    obtain ⟨o1, o2⟩ := Srt.out_ok hp hasc
    rw [← hl] at o1
    have hlt : ∀ i ∈ p.toList, i < xs.length := fun i hi => List.mem_range.mp (o1.mem_iff.mp hi)
    refine sort_tail (out := p.toList.map fun i => its.getD i Value.none) (ys := p.toList.map fun i => xs.getD i .non) ok I fk fD hne ?_ (by omega) (PySem.W.kat_snds (by omega) har) hf (vals_pick rv _ hlt) (q _ o1 o2 D fD.1)
    rw [List.length_map, Array.length_toList, hp.sz]
    exact h64
/-- the keys, one by one -/
theorem sort_rest {J : Nat → Hp → List Value → Prop} {e1 : Nat} {E : Value → Shared → Prop} (ok : X.Ok) (I : Inv (inn X) (kd pins kS D [] 0 e1) σ H s) (fk : FpOk (inn X) pins H kS) (fD : FpOk (inn X) pins H D) (hne : kS ≠ D) (h64 : its.length < 64)
    (rv : Vals xs its) (hJ : J 0 H []) (turn : ∀ (i : Nat) (x : V) (v : Value) (pins : List (Addr × Obj)) (σ : St) (H : Hp) (s : Shared) (ks : List Value), xs[i]? = some x → RelV x v → J i H ks → ks.length = i → Inv (inn X) pins σ H s →
      wpAny (model X.prog X.w) X.A.in1.in1 (call f [v]) (fun u s2 => ∃ H2, Inv (inn X) pins σ H2 s2 ∧ J (i + 1) H2 (ks ++ [u])) (fun _ _ => False) s) (h : SEnd X xs Q J) :
    wpAny (model X.prog X.w) X.A.in1.in1 (ksk_rest D f false its.toArray e1 (.ref kS)) (fun fin s' => fin = .done (.ret .none) ∧ EP X pins σ Q (.ref D) s') E s := by
  have hl := rv.length
  unfold ksk_rest
  refine wpAny_bind (wpAny_rule ?_)
  rw [List.forIn_toArray]
  refine wpAny_bind (ksk_fold (fun i s' => ∃ H' ks e, J i H' ks ∧ ks.length = i ∧ Inv (inn X) (kd pins kS D ks e e1) σ H' s') its 0 s ⟨H, [], 0, hJ, rfl, I⟩ ?step ?done)
  case step =>
    rintro j v s' hv ⟨H', ks, e, hJ', hk, I'⟩
    simp only [Nat.zero_add] at hJ' hk ⊢
    have hj : j < its.length := (List.getElem?_eq_some_iff.mp hv).1
    have hx : xs[j]? = some (xs[j]'(by omega)) := List.getElem?_eq_getElem _
    obtain ⟨u, eu, ru⟩ := rv.get hx
    rw [hv] at eu
    cases eu
    refine wpAny_bind (wpAny_attempt (wpAny_mono (turn j _ v _ _ _ _ ks hx ru hJ' hk I') (fun u s2 hu => ?_) fun _ _ hF => hF.elim))
    obtain ⟨H2, I2, J2⟩ := hu
    try dsimp only
    have pk := I2.pin (kS, seqObj "list" ks.toArray e) (by simp)
    have pD := I2.pin (D, seqObj "list" #[] e1) (by simp)
    have I3 : Inv (inn X) (pins ++ [(D, seqObj "list" #[] e1)]) σ H2 s2 := I2.pins_of fun p hp => I2.pin p (by
      refine List.mem_append_right _ ?_
      rcases List.mem_append.mp hp with z | z
      · exact List.mem_append_left _ z
      · exact List.mem_append_right _ (.tail _ z))
    refine wpAny_bind (listUpdate_at pk.1 rfl ?_ (by rw [List.size_toArray, sizeLine_eq]; omega) (Nat.le_trans (Nat.le_of_eq (Array.size_push ..)) (by rw [List.size_toArray, sizeLine_eq]; omega)))
    have ea : (List.toArray ks).push u = List.toArray (ks ++ [u]) := by simp
    obtain ⟨c2, hc2⟩ : ∃ c2, (s2.heap.update kS (Obj.mapSeq (·.push u))).get? kS = some (seqObj "list" (List.toArray (ks ++ [u])) c2) := ⟨_, by rw [← ea]; exact get?_update_seq pk.1 (·.push u)⟩
    have I4 := I3.wr (t' := s2.toks) ((fk.on pk.2.1).pinned fun p hp => by rw [List.mem_singleton.mp hp]; exact Ne.symm hne) (h' := s2.heap.update kS (Obj.mapSeq (·.push u))) upd_keeps
    refine wpAny_pure ⟨rfl, H2, ks ++ [u], c2, J2, by rw [List.length_append, List.length_singleton, hk], I4.pins_of fun p hp => ?_⟩
    rcases List.mem_append.mp hp with z | z
    · exact I4.pin p (List.mem_append_right _ (List.mem_append_left _ z))
    · rcases List.mem_cons.mp z with rfl | z
      · exact ⟨hc2, pk.2.1, pk.2.2.1, pk.2.2.2.1, fun v e => nomatch e⟩
      · exact I4.pin p (List.mem_append_right _ (List.mem_append_right _ z))
  case done =>
    rintro s' ⟨H', ks, e, hJ', hk, I'⟩
    rw [Nat.zero_add, ← hl] at hJ' hk
    have pk := I'.pin (kS, seqObj "list" ks.toArray e) (by simp)
    have pD := I'.pin (D, seqObj "list" #[] e1) (by simp)
    try dsimp only
    refine wpAny_bind (listItems_at pk.1 rfl ?_)
    exact sort_end ok I' (fk.on pk.2.1) (fD.on pD.2.1) hne h64 rv hk hJ' h
/-- sorted(l, key = f) -/
theorem sort_call {J : Nat → Hp → List Value → Prop} {l q : Addr} (I : Inv X pins σ H s) (hl : SqL X.K H l xs) (h64 : xs.length < 64)
    (hJ : J 0 H []) (turn : ∀ (i : Nat) (x : V) (v : Value) (pins : List (Addr × Obj)) (σ : St) (H : Hp) (s : Shared) (ks : List Value), xs[i]? = some x → RelV x v → J i H ks → ks.length = i → Inv (inn X) pins σ H s →
      wpAny (model X.prog X.w) X.A.in1.in1 (call (.ref q) [v]) (fun u s2 => ∃ H2, Inv (inn X) pins σ H2 s2 ∧ J (i + 1) H2 (ks ++ [u])) (fun _ _ => False) s) (h : SEnd X xs Q J) :
    wpAny (model X.prog X.w) X.A (call (.builtin "sorted") [.ref l] [(Str.ofString "key", .ref q)]) (EP X pins σ Q) X.xe s := by
  obtain ⟨its, rv, hIl, hzl⟩ := I.list hl
  have hlen := rv.length
  have h64' : its.length < 64 := by omega
  refine call_function_entry_kw kind_sorted plain_sorted entry_sorted (ksk_s1 _ _) ?_
  unfold Builtin.«sorted»
  refine wpAny_bind (m := checkCount "sorted" 1 1 _) (wpAny_pure ?_)
  refine wpAny_bind (collect_list hIl.isList ?_ (by rw [sizeLine_eq]; omega))
  refine wpAny_bind (wpAny_newList ?_ (by rw [sizeLine_eq]; omega))
  have hsz : ((s.heap.push (seqObj "list" #[] 0)).update s.heap.objs.size (Obj.mapSeq (· ++ its.toArray))).objs.size = s.heap.objs.size + 1 := by
    rw [Heap.size_update, size_push']
  have hoL : (((s.heap.push (seqObj "list" #[] 0)).update s.heap.objs.size (Obj.mapSeq (· ++ its.toArray))).push (seqObj "list" its.toArray 0)).get? (s.heap.objs.size + 1) = some (seqObj "list" its.toArray 0) := by
    rw [← hsz]; exact Heap.get?_push_size _ rfl
  have keep : ∀ b o, s.heap.get? b = some o → (((s.heap.push (seqObj "list" #[] 0)).update s.heap.objs.size (Obj.mapSeq (· ++ its.toArray))).push (seqObj "list" its.toArray 0)).get? b = some o := fun b o q => by
    have hlt : b < s.heap.objs.size := Heap.lt_size q
    rw [Heap.get?_push_ne _ _ _ (by rw [hsz]; exact Nat.ne_of_lt (Nat.lt_succ_of_lt hlt)), Heap.get?_update_ne _ _ _ _ (Nat.ne_of_lt hlt), Heap.get?_push_ne _ _ _ (Nat.ne_of_lt hlt)]
    exact q
  show wpAny _ _ _ _ _ { s with heap := ((s.heap.push (seqObj "list" #[] 0)).update s.heap.objs.size (Obj.mapSeq (· ++ its.toArray))).push (seqObj "list" its.toArray 0) }
  rw [hsz]
  have fD : FpOk (inn X) pins H (s.heap.objs.size + 1) := I.inn.fpOk (Nat.le_succ _) (I.hok.fresh (Nat.le_succ _))
  have I1 := I.inn.kept (t' := s.toks) keep
  refine wpAny_bind (wpAny_holding (wpAny_call_entry_kw slot_list_sort ⟨_, hoL, rfl⟩ entry_list_sort ?body (ksk_l1 _ _)))
  case body =>
    show wpAny (model X.prog X.w) X.A.in1.in1 (Builtin.«list.sort» ⟨[.ref (s.heap.objs.size + 1)], _⟩) _ _ _
    rw [ksk_t1]
    unfold ksk_tree
    refine wpAny_bind (listItems_at hoL rfl ?_)
    refine wpAny_bind (listUpdate_at hoL rfl ?_ (by rw [List.size_toArray, sizeLine_eq]; omega) (Nat.zero_le _))
    obtain ⟨e1, ho1⟩ : ∃ e1, ((((s.heap.push (seqObj "list" #[] 0)).update s.heap.objs.size (Obj.mapSeq (· ++ its.toArray))).push (seqObj "list" its.toArray 0)).update (s.heap.objs.size + 1) (Obj.mapSeq fun _ => (#[] : Array Value))).get? (s.heap.objs.size + 1) = some (seqObj "list" #[] e1) := ⟨_, get?_update_seq hoL fun _ => #[]⟩
    have I2 := I1.wr (t' := s.toks) fD (h' := (((s.heap.push (seqObj "list" #[] 0)).update s.heap.objs.size (Obj.mapSeq (· ++ its.toArray))).push (seqObj "list" its.toArray 0)).update (s.heap.objs.size + 1) (Obj.mapSeq fun _ => (#[] : Array Value))) upd_keeps
    generalize hh : (((s.heap.push (seqObj "list" #[] 0)).update s.heap.objs.size (Obj.mapSeq (· ++ its.toArray))).push (seqObj "list" its.toArray 0)).update (s.heap.objs.size + 1) (Obj.mapSeq fun _ => (#[] : Array Value)) = h2 at *
    refine wpAny_bind (seqEpoch_at ho1 rfl ?_)
    refine wpAny_bind (wpAny_newTuple ?_ (by show its.length ≤ _; rw [sizeLine_eq]; omega))
    refine wpAny_bind (wpAny_newList ?_ (Nat.zero_le _))
    refine wpAny_holding ?_
    have hlt : s.heap.objs.size + 1 < h2.objs.size := Heap.lt_size ho1
    have k3 : ∀ b o, h2.get? b = some o → ((h2.push (seqObj "tuple" its.toArray 0)).push (seqObj "list" #[] 0)).get? b = some o := fun b o q => Heap.get?_push_of_some _ (Heap.get?_push_of_some _ q)
    have I3 := I2.kept (t' := s.toks) (h' := (h2.push (seqObj "tuple" its.toArray 0)).push (seqObj "list" #[] 0)) k3
    have hkS : (h2.push (seqObj "tuple" its.toArray 0)).objs.size = h2.objs.size + 1 := size_push' _ _
    have fk : FpOk (inn X) pins H (h2.push (seqObj "tuple" its.toArray 0)).objs.size := I2.fpOk (by show h2.objs.size ≤ _; rw [hkS]; exact Nat.le_succ _) (I2.hok.fresh (by show h2.objs.size ≤ _; rw [hkS]; exact Nat.le_succ _))
    refine wpAny_mono (sort_rest (s := { s with heap := (h2.push (seqObj "tuple" its.toArray 0)).push (seqObj "list" #[] 0) }) (kS := (h2.push (seqObj "tuple" its.toArray 0)).objs.size) (D := s.heap.objs.size + 1) (σ := σ) (e1 := e1) (f := .ref q) I.ok ?_ fk fD (Nat.ne_of_gt (by rw [hkS]; omega)) h64' rv hJ turn h) (fun fin s' hq => ?_) fun _ _ x => x
    · refine I3.pins_of fun p hp => ?_
      rcases List.mem_append.mp hp with z | z
      · exact I3.pin p (List.mem_append_right _ z)
      · rcases List.mem_cons.mp z with rfl | z
        · exact ⟨Heap.get?_push_size _ rfl, fk.1, fk.2.1, fk.2.2.1, fun v e => nomatch e⟩
        · rw [List.mem_singleton.mp z]
          exact ⟨k3 _ _ ho1, fD.1, fD.2.1, fD.2.2.1, fun v e => nomatch e⟩
    · obtain ⟨rfl, hq⟩ := hq
      exact ⟨_, rfl, wpAny_pure ⟨_, rfl, hq⟩⟩
end
end L2
set_option Elab.async false
set_option linter.all false
set_option maxRecDepth 100000
/-! A list or a tuple alike: walked, indexed, compared. -/
namespace L2
open PySem PySem.Spec PyProof.Rows
/-- the record of a list, or of a tuple -/
def Ob (o : HO) (xs : List V) : Prop := o = .lst xs ∨ o = .tup xs
theorem Ob.sq {K : PySem.W.Frag} {H : Hp} {a : Addr} {o : HO} {xs : List V} (h : Ob o xs) (e : H a = some o) : SqL K H a xs ∨ SqT K H a xs := by
  rcases h with h | h
  · subst h; exact .inl (.of e)
  · subst h; exact .inr (.of e)
/-- what is told of an iterator over it -/
def ItOk (J : It) (a : Addr) (o : HO) (xs : List V) : Prop := ∀ H : Hp, H a = some o → (∀ i x, xs[i]? = some x → J.go i H ∧ ∀ y H', J.yld i H y H' → H' = H ∧ y = x) ∧ J.stop xs.length H
def iSeq (K : PySem.W.Frag) (tl : TE) : TI := fun σ H R => tl σ H fun x H1 => ∃ a o xs, x = .ref a ∧ H1 a = some o ∧ Ob o xs ∧ ∀ J, ItOk J a o xs → R J H1
theorem itl_ok {K : PySem.W.Frag} {a : Addr} {xs : List V} : ItOk (Itl K a) a (.lst xs) xs := fun H e => ⟨fun i x hx => ⟨⟨xs, x, .of e, hx⟩, fun y H' z => ⟨z.1, by
    have := z.2 xs (.of e)
    rw [hx] at this
    exact (Option.some.inj this).symm⟩⟩, ⟨xs, .of e, Nat.le_refl _⟩⟩
theorem itt_ok {K : PySem.W.Frag} {a : Addr} {xs : List V} : ItOk (Itt K a) a (.tup xs) xs := fun H e => ⟨fun i x hx => ⟨⟨xs, x, .of e, hx⟩, fun y H' z => ⟨z.1, by
    have := z.2 xs (.of e)
    rw [hx] at this
    exact (Option.some.inj this).symm⟩⟩, ⟨xs, .of e, Nat.le_refl _⟩⟩
section
variable {X : Cx} {tg : Expr}
theorem pi_seq {l : Expr} {tl : TE} (hl : PE X l tl) : PI X tg l (iSeq X.K tl) := by
  intro pins s σ H R I h
  refine thn (hl pins s σ H _ I h) fun v s1 ⟨x, H1, I1, r1, q1⟩ => ?_
  obtain ⟨a, o, xs, e, ha, ho, q⟩ := q1
  subst e
  cases r1
  have fpk : ∀ b ∈ [s1.heap.objs.size], FpOk X pins H1 b := fun b hb => by
    have e : b = s1.heap.objs.size := by simpa using hb
    subst e
    exact I1.fpOk (Nat.le_refl _) (I1.hok.fresh (Nat.le_refl _))
  rcases ho with ho | ho
  · subst ho
    obtain ⟨its, rv, p, hz⟩ := I1.list (.of ha : SqL X.K H1 a xs)
    refine wpAny_pyIter_list p.isList ?_
    exact ⟨s1.heap.objs.size, [s1.heap.objs.size], _, _, H1, rfl, I1.kept (t' := s1.toks) fun b o e => Heap.get?_push_of_some _ e, turn_list a _, ⟨_, Heap.get?_push_size _ rfl, rfl, rfl⟩, fpk, q _ itl_ok⟩
  · subst ho
    obtain ⟨its, rv, p, hz⟩ := I1.tuple (.of ha : SqT X.K H1 a xs)
    refine wpAny_pyIter_tuple (show s1.heap.IsTuple a its.toArray from p) ?_
    exact ⟨s1.heap.objs.size, [s1.heap.objs.size], _, _, H1, rfl, I1.kept (t' := s1.toks) fun b o e => Heap.get?_push_of_some _ e, turn_tuple a _, ⟨_, Heap.get?_push_size _ rfl, rfl, rfl⟩, fpk, q _ itt_ok⟩
def rIxSq (K : PySem.W.Frag) : R2 := fun x y H Q => ∃ p xs i v, x = .ref p ∧ y = .int i ∧ (SqL K H p xs ∨ SqT K H p xs) ∧ atI xs i = some v ∧ Q v H
theorem ix_sq : IxR X (rIxSq X.K) := by
  intro value slice pins s σ H x y v u Q I rx ry h hs
  obtain ⟨p, xs, i, z, e1, e2, hq, he, q⟩ := h
  rcases hq with hq | hq
  · exact ix_list value slice pins s σ H x y v u Q I rx ry ⟨p, xs, i, z, e1, e2, hq, he, q⟩ hs
  · exact ix_tup value slice pins s σ H x y v u Q I rx ry ⟨p, xs, i, z, e1, e2, hq, he, q⟩ hs
end
theorem lc_it {J : It} {a : Addr} {o : HO} {xs : List V} {tc : TT} {te : TE} {σ : St} {D : Addr} {Fin : Hp → Prop} {H : Hp} (hJ : ItOk J a o xs) (Pv : Nat → List V → Hp → Prop) (h0 : Pv 0 [] (upd H D (.lst [])))
    (hD : ∀ i ys H, Pv i ys H → H D = some (.lst ys) ∧ H a = some o) (hend : ∀ ys H, Pv xs.length ys H → Fin H)
    (hgo : ∀ i x ys H, i < xs.length → xs[i]? = some x → Pv i ys H → tc (some x :: σ) H fun b H2 => if b = true then te (some x :: σ) H2 (LcNx xs.length i D ys Pv) else LcNo xs.length i ys Pv H2) : lcGo tc te σ J D Fin H := by
  refine lc_go Pv h0 (fun i ys H p => (hD i ys H p).1) (fun ys H p => ⟨(hJ H (hD _ _ _ p).2).2, hend ys H p⟩) fun i ys H hi p => ?_
  obtain ⟨g, k⟩ := (hJ H (hD _ _ _ p).2).1 i xs[i] (List.getElem?_eq_getElem hi)
  refine ⟨g, fun x H' y => ?_⟩
  obtain ⟨e1, e2⟩ := k x H' y
  subst e1 e2
  exact hgo i _ ys _ hi (List.getElem?_eq_getElem hi) p
/-! ### == and != of lists and tuples of whole numbers -/
section
variable {X : Cx}
end
end L2
set_option Elab.async false
set_option linter.all false
set_option maxRecDepth 100000
/-! in order: sorted by (moment, key), over the hand layer. -/
namespace Srt
open PySem
/-- the place of an entry: its moment, its key -/
abbrev Pl := Int × Str
def plt (a b : Pl) : Bool := if a.1 = b.1 then decide (a.2.cps.toList < b.2.cps.toList) else decide (a.1 < b.1)
theorem plt_asym {a b : Pl} (h : plt a b = true) : plt b a = false := by
  unfold plt at h ⊢
  by_cases e : a.1 = b.1
  · rw [if_pos e] at h
    rw [if_pos e.symm]
    exact decide_eq_false (List.lt_asymm (of_decide_eq_true h))
  · rw [if_neg e] at h
    rw [if_neg (Ne.symm e)]
    have := of_decide_eq_true h
    exact decide_eq_false (by omega)
theorem plt_irr (a : Pl) : plt a a = false := by
  cases h : plt a a with
  | false => rfl
  | true => exact (plt_asym h).symm.trans h ▸ rfl
theorem plt_tr {a b c : Pl} (h : plt b a = false) (h' : plt c b = false) : plt c a = false := by
  unfold plt at h h' ⊢
  by_cases e : b.1 = a.1 <;> by_cases e' : c.1 = b.1
  · rw [if_pos e] at h
    rw [if_pos e'] at h'
    rw [if_pos (e'.trans e)]
    have h1 := List.not_lt.mp (of_decide_eq_false h)
    have h2 := List.not_lt.mp (of_decide_eq_false h')
    exact decide_eq_false (List.not_lt.mpr (List.le_trans h1 h2))
  · rw [if_neg e'] at h'
    have := of_decide_eq_false h'
    rw [if_neg (by omega)]
    exact decide_eq_false (by omega)
  · rw [if_neg e] at h
    have := of_decide_eq_false h
    rw [if_neg (by omega)]
    exact decide_eq_false (by omega)
  · rw [if_neg e] at h
    rw [if_neg e'] at h'
    have := of_decide_eq_false h
    have := of_decide_eq_false h'
    rw [if_neg (by omega)]
    exact decide_eq_false (by omega)
/-- two places that neither is ahead of the other are one -/
theorem plt_one {a b : Pl} (h : plt a b = false) (h' : plt b a = false) : a = b := by
  unfold plt at h h'
  by_cases e : a.1 = b.1
  · rw [if_pos e] at h
    rw [if_pos e.symm] at h'
    have h1 := List.not_lt.mp (of_decide_eq_false h)
    have h2 := List.not_lt.mp (of_decide_eq_false h')
    have h3 := List.le_antisymm h2 h1
    obtain ⟨a1, ⟨⟨a2⟩⟩⟩ := a
    obtain ⟨b1, ⟨⟨b2⟩⟩⟩ := b
    cases e
    cases h3
    rfl
  · rw [if_neg e] at h
    rw [if_neg (Ne.symm e)] at h'
    have := of_decide_eq_false h
    have := of_decide_eq_false h'
    exact absurd (show a.1 = b.1 by omega) e
def ltOf (es : List Pl) (i j : Nat) : Bool := plt (es.getD i (0, ⟨#[]⟩)) (es.getD j (0, ⟨#[]⟩))
theorem ltOf_ord (es : List Pl) : Ord (ltOf es) := ⟨plt_asym, plt_tr⟩
end Srt
namespace L2
open PySem PySem.Spec PyProof.Rows
/-- rows whose first two things are these -/
abbrev Places (H : Hp) (xs : List V) (es : List Srt.Pl) : Prop := Paired (fun x (e : Srt.Pl) => ∃ a r, x = .ref a ∧ H a = some (.tup (.int e.1 :: .str e.2 :: r))) xs es
/-- the def that tells an entry's place -/
inductive sp_place (vs : List V) (H : Hp) (Q : VK) (E : XK) : Prop
  | mk (a : Addr) (m : Int) (k : Str) (r : List V) (h0 : vs = [.ref a]) (h1 : H a = some (.tup (.int m :: .str k :: r))) (q : ∀ t, H t = none → Q (.ref t) (upd H t (.tup [.int m, .str k]))) : sp_place vs H Q E
def PJ (H0 : Hp) (es : List Srt.Pl) (i : Nat) (H : Hp) (ks : List Value) : Prop :=
  Same H0 H ∧ Paired (fun (u : Value) (e : Srt.Pl) => ∃ t, u = .ref t ∧ H t = some (.tup [.int e.1, .str e.2])) ks (es.take i)
section
variable {X : Cx} {pins : List (Addr × Obj)} {σ : St} {H : Hp} {s : Shared}
theorem tup2_at (I : Inv X pins σ H s) {t : Addr} {m : Int} {k : Str} (h : H t = some (.tup [.int m, .str k])) : ∃ o n tm tk, s.heap.get? t = some o ∧ o.cls = .type "tuple" ∧ o.data = .seq #[.int m tm, .str k tk] n := by
  obtain ⟨_, its, rv, o, ho, hc, n, hd⟩ := I.hok t _ h
  obtain ⟨u, v, rfl, ⟨tm, rfl⟩, ⟨tk, rfl⟩⟩ := vals2 rv
  exact ⟨o, n, tm, tk, ho, hc, hd⟩
theorem ask2 (I : Inv X pins σ H s) {A : Around} {t t' : Addr} {e e' : Srt.Pl} (h : H t = some (.tup [.int e.1, .str e.2])) (h' : H t' = some (.tup [.int e'.1, .str e'.2])) {C : Bool → Shared → Prop} {E : Value → Shared → Prop} (q : C (Srt.plt e e') s) :
    wpAny (model X.prog X.w) A (keyLt' (tuples' true) (.ref t) (.ref t')) C E s := by
  obtain ⟨o, n, tm, tk, ho, hc, hd⟩ := tup2_at I h
  obtain ⟨o', n', tm', tk', ho', hc', hd'⟩ := tup2_at I h'
  refine PySem.W.kat_lt ho hd ho' hd' ?_
  refine PySem.W.kat_cons (wpAny_eqBool_int (PySem.W.kat_go (fun e1 => PySem.W.kat_yes ?_) fun e1 => PySem.W.kat_no ?_))
  · have e1' : e.1 = e'.1 := by simpa using e1
    refine PySem.W.kat_cons (wpAny_eqBool_str (PySem.W.kat_go (fun e2 => PySem.W.kat_yes (PySem.W.kat_nil ?_)) fun e2 => PySem.W.kat_no ?_))
    · have e2' : e.2 = e'.2 := by simpa using e2
      have e3 : Srt.plt e e' = false := by
        unfold Srt.plt
        rw [if_pos e1', e2']
        exact decide_eq_false (List.lt_irrefl _)
      rw [e3] at q
      exact q
    · have e3 : Srt.plt e e' = decide (e.2.cps.toList < e'.2.cps.toList) := by
        unfold Srt.plt
        rw [if_pos e1']
      rw [e3] at q
      exact PySem.W.kat_one _ _ (lt_str q)
  · have e1' : ¬ e.1 = e'.1 := by simpa using e1
    have e3 : Srt.plt e e' = decide (e.1 < e'.1) := by
      unfold Srt.plt
      rw [if_neg e1']
    rw [e3] at q
    exact oneLt_int q
theorem kat_tups (I : Inv X pins σ H s) : ∀ {ks : List Value} {es : List Srt.Pl}, Paired (fun (u : Value) (e : Srt.Pl) => ∃ t, u = .ref t ∧ H t = some (.tup [.int e.1, .str e.2])) ks es → ∃ fs, PySem.W.KatTups s.heap ks fs ∧ fs.length = ks.length ∧ ∀ v ∈ fs, ∃ m tm, v = Value.int m tm
  | _, _, .nil => ⟨[], .nil, rfl, fun v h => nomatch h⟩
  | _, _, .cons ⟨t, e, h⟩ r => by
    obtain ⟨fs, h1, h2, h3⟩ := kat_tups I r
    obtain ⟨o, n, tm, tk, ho, hc, hd⟩ := tup2_at I h
    subst e
    refine ⟨_ :: fs, .cons ho hc hd rfl h1, by rw [List.length_cons, List.length_cons, h2], fun v hv => ?_⟩
    rcases List.mem_cons.mp hv with rfl | hv
    · exact ⟨_, _, rfl⟩
    · exact h3 v hv
theorem Paired.getR {α β : Type} {F : α → β → Prop} : ∀ {xs : List α} {ys : List β} {i : Nat} {y : β}, Paired F xs ys → ys[i]? = some y → ∃ x, xs[i]? = some x ∧ F x y
  | _, _, _, _, .nil, e => by simp at e
  | _, _, 0, _, .cons r _, e => by simp at e; subst e; exact ⟨_, rfl, r⟩
  | _, _, i + 1, y, .cons _ t, e => by
    obtain ⟨u, h1, h2⟩ := Paired.getR (i := i) (y := y) t (by simpa using e)
    exact ⟨u, by simpa using h1, h2⟩
theorem Paired.snoc {α β : Type} {F : α → β → Prop} {x : α} {y : β} (h : F x y) : ∀ {xs : List α} {ys : List β}, Paired F xs ys → Paired F (xs ++ [x]) (ys ++ [y])
  | _, _, .nil => .cons h .nil
  | _, _, .cons r t => .cons r (Paired.snoc h t)
/-- what sorted tells -/
inductive rSort (K : PySem.W.Frag) (vs : List V) (H : Hp) (Q : VK) : Prop
  | mk (l : Addr) (xs : List V) (es : List Srt.Pl) (h0 : vs = [.ref l]) (h1 : SqL K H l xs) (h2 : xs.length < 64) (h3 : Places H xs es)
    (q : ∀ D H' (p : List Nat), Same H H' → H D = none → H' D = some (.lst (p.map fun i => xs.getD i .non)) → p.Perm (List.range xs.length) → p.Pairwise (Srt.R (Srt.ltOf es)) → Q (.ref D) H') : rSort K vs H Q
theorem sort_places {k k' : Nat} {kf pn : Str} {vs : List V} {us : List Value} {Q : VK} {f : Addr} {fd : FuncData} (F : FnOk X.prog X.w X.K X.mg X.base CX0 k f fd [pn] sp_place) (hb : Binds X.K fd [pn] []) (hr : Room (k + 2) X.A)
    (I : Inv X pins σ H s) (r : Vals vs us) (h : rSort X.K vs H Q) : wpAny (model X.prog X.w) X.A (call (.builtin "sorted") us [(Str.ofString "key", .ref f)]) (EP X pins σ Q) X.xe s := by
  obtain ⟨l, xs, es, rfl, hl, h64, hp, q⟩ := h
  obtain ⟨u, rfl, ru⟩ := vals1 r
  cases ru
  have hlen : xs.length = es.length := hp.length
  refine sort_call (J := PJ H es) I hl h64 ⟨Same.refl _, by rw [List.take_zero]; exact .nil⟩ (fun i x v pins σ H' s ks hx rx hJ hk J => ?_) fun pins σ H' s ks hJ hk J => ?_
  · obtain ⟨hs, hP⟩ := hJ
    obtain ⟨e, he, a, rr, rfl, ha⟩ := Paired.get hp hx
    cases rx
    have run := run_fn (X := inn X) (k := k) (f := f) (fd := fd) (ps := [pn]) (sp := sp_place) (dvs := []) (ds := []) (E := E0) (CX := CX0) (us := [Value.ref a]) (vs := [V.ref a]) (Q := fun v H2 => ∃ t, v = .ref t ∧ Same H' H2 ∧ H2 t = some (.tup [.int e.1, .str e.2])) F hr.in1.in1 hb .nil pass0 J (.cons rfl .nil)
      ⟨a, e.1, e.2, rr, rfl, hs _ _ ha, fun t ht => ⟨t, rfl, Same.upd ht, upd_same⟩⟩
    refine thn run fun u s2 hu => ?_
    obtain ⟨v, H2, J2, rv, t, rfl, s2', ht⟩ := hu
    cases rv
    refine ⟨H2, J2, hs.trans s2', ?_⟩
    rw [List.take_add_one, he]
    exact Paired.snoc ⟨t, rfl, ht⟩ (Paired.mapP hP fun _ _ ⟨t', e1, e2⟩ => ⟨t', e1, s2' _ _ e2⟩)
  · obtain ⟨hs, hP⟩ := hJ
    rw [List.take_of_length_le (by omega)] at hP
    refine ⟨tuples' true, Srt.ltOf es, ⟨Srt.ltOf_ord es, fun h2 Q hQ => ?_, fun i j C hi hj hC => ?_⟩, fun p p1 p2 D hD => q D _ p (hs.trans (Same.upd hD)) (hs.free hD) upd_same p1 p2⟩
    · obtain ⟨fs, t1, t2, t3⟩ := kat_tups J hP
      refine PySem.W.kat_kind (T := .type "int") t1 (by omega) (fun v hv => ?_) (by decide +kernel) ?_
      · obtain ⟨m, tm, rfl⟩ := t3 v hv
        exact PySem.W.Looks.of_pure rfl
      · exact hQ
    · have hi' : es[i]? = some es[i] := List.getElem?_eq_getElem (by omega)
      have hj' : es[j]? = some es[j] := List.getElem?_eq_getElem (by omega)
      obtain ⟨u, eu, t, rfl, ht⟩ := Paired.getR hP hi'
      obtain ⟨u', eu', t', rfl, ht'⟩ := Paired.getR hP hj'
      unfold PySem.W.kas_ask
      rw [List.getD_eq_getElem?_getD, List.getD_eq_getElem?_getD, eu, eu']
      refine ask2 J ht ht' ?_
      unfold Srt.ltOf at hC
      rw [List.getD_eq_getElem?_getD, List.getD_eq_getElem?_getD, hi', hj'] at hC
      exact hC
end
section
variable {X : Cx} {k : Nat} {kf pn : Str} {e : Expr} {t : TA} {p pos kp kpos : Pos}
/-- sorted(e, key = kf) -/
theorem pe_sortK (K : PySem.W.Frag) (h : Can X.prog X.w X.K X.mg X.base k kf [pn] sp_place) (hr : Room (k + 2) X.A) (hm : X.mg "sorted" = none) (ha : PA X [e] t) (ek : X.K = K := by rfl) (hg : Gl X "sorted" := by rfl) (hg2 : Gl X kf := by rfl) (hdb : (kf == ("__debug__" : Str)) = false := by decide)
    (he : backTo pos (starEach [e] X.env) = (false, eval e X.env) :: backTo pos (starEach [] X.env) := by rfl) (hpl : (backTo pos (starEach [e] X.env)).any (·.1) = false := by rfl) :
    PE X (.Call (.Name "sorted" p) [e] [⟨some "key", .Name kf kp, kpos⟩] pos) (fun σ H Q => t σ H fun vs H1 => rSort K vs H1 Q) := by
  subst ek
  refine ⟨?_⟩
  intro pins s σ H Q I hq
  obtain ⟨f, fd, F, hmf, kpn, hb⟩ := h
  refine wpAny_Call_Name_kw (ld_blt I hg hm boot_sorted ?_ (by decide) (by decide))
  refine callWith_kw (thn (ha pos pins s σ H _ I hq) fun us s1 ⟨vs, H1, I1, r, q⟩ => ?_) he hpl
  refine thn ((pk_cons (nm := some "key") (kpos := kpos) (pe_glob (pos := kp) hg2 hmf (v := .ref f) rfl hdb) pk_nil) pos pins s1 σ H1 (fun zs H2 => zs = [.ref f] ∧ H2 = H1) I1 ⟨rfl, rfl⟩) fun ws s2 ⟨zs, H2, I2, r2, e1, e2⟩ => ?_
  subst e1 e2
  obtain ⟨u, rfl, ru⟩ := vals1 r2
  cases ru
  exact sort_places (kf := kf) (k' := 0) F hb hr I2 r q
end
end L2
set_option Elab.async false
set_option linter.all false
set_option maxRecDepth 100000
/-! entries and bars, as data -/
namespace Ent
open PySem
/-- an entry: moment, key, value -/
abbrev En := Int × Str × Int
def pl (e : En) : Srt.Pl := (e.1, e.2.1)
def eD (e : En) : PyData := .tuple [.int e.1, .str e.2.1, .int e.2.2]
def bef (a b : En) : Bool := Srt.plt (pl a) (pl b)
def Keyed (es : List En) : Prop := (es.map (·.2.1)).Nodup
theorem keyed_inj : ∀ {es : List En} {a b : En}, Keyed es → a ∈ es → b ∈ es → a.2.1 = b.2.1 → a = b
  | [], a, b, _, h, _, _ => nomatch h
  | e :: es, a, b, k, ha, hb, hk => by
    unfold Keyed at k
    rw [List.map_cons, List.nodup_cons] at k
    rcases List.mem_cons.mp ha with ea | ha <;> rcases List.mem_cons.mp hb with eb | hb
    · rw [ea, eb]
    · exact absurd (List.mem_map.mpr ⟨b, hb, by rw [← hk, ea]⟩) k.1
    · exact absurd (List.mem_map.mpr ⟨a, ha, by rw [hk, eb]⟩) k.1
    · exact keyed_inj k.2 ha hb hk
/-! ### the order that a sort tells -/
def dn : En := (0, ⟨#[]⟩, 0)
def pick (es : List En) (p : List Nat) : List En := p.map fun i => es.getD i dn
theorem pick_perm {es : List En} {p : List Nat} (hp : p.Perm (List.range es.length)) : (pick es p).Perm es := by
  have h := hp.map fun i => es.getD i dn
  have e : (List.range es.length).map (fun i => es.getD i dn) = es := by
    refine List.ext_getElem (by simp) fun i h1 h2 => ?_
    simp [h2]
  rw [e] at h
  exact h
theorem ltOf_en (es : List En) {i j : Nat} (hi : i < es.length) (hj : j < es.length) : Srt.ltOf (es.map pl) i j = bef (es.getD i dn) (es.getD j dn) := by
  unfold Srt.ltOf bef
  rw [List.getD_eq_getElem?_getD, List.getD_eq_getElem?_getD, List.getD_eq_getElem?_getD, List.getD_eq_getElem?_getD, List.getElem?_map, List.getElem?_map, List.getElem?_eq_getElem hi, List.getElem?_eq_getElem hj]
  rfl
/-! ### data that can be shown -/
structure Lf (d : PyData) : Prop where
  sh : d.showable = true
  cl : d.canLay0 = true
  ls : d.leavesShort 62 = true
def KeyOk (k : Str) : Prop := k.cps.size ≤ 8 ∧ ∀ c ∈ k.cps.toList, c < 128
theorem lf_str {k : Str} (h : KeyOk k) : Lf (.str k) where
  sh := rfl
  cl := by
    unfold PyData.canLay0 PyData.strOk
    rw [Array.all_eq_true_iff_forall_mem]
    intro c hc
    have := h.2 c (Array.mem_toList_iff.mpr hc)
    exact decide_eq_true (by omega)
  ls := by
    unfold PyData.leavesShort
    rw [List.all_eq_true]
    intro c hc
    have := h.2 c hc
    have e : (16 : Nat) ^ 8 = 4294967296 := by decide
    exact decide_eq_true (by omega)
end Ent
set_option Elab.async false
set_option linter.all false
set_option maxRecDepth 100000
/-! sorted of lists, tuples and sets of fewer than 64 things: one rule for what is collected -/
namespace L2
open PySem PySem.Spec PySem.W PyProof.Rows
section
variable {X : Cx} {pins : List (Addr × Obj)} {σ : St} {H : Hp} {s : Shared}
theorem vals_at {xs : List V} {vs : List Value} (rv : Vals xs vs) : ∀ l : List Nat, (∀ i ∈ l, i < xs.length) → Vals (l.map fun i => xs.getD i .non) (l.map fun i => vs.getD i Value.none)
  | [], _ => .nil
  | i :: r, hl => by
    have hi := hl i List.mem_cons_self
    obtain ⟨u, hu, ru⟩ := rv.get (List.getElem?_eq_getElem hi)
    rw [List.map_cons, List.map_cons]
    refine .cons ?_ (vals_at rv r fun j hj => hl j (List.mem_cons_of_mem _ hj))
    rw [List.getD_eq_getElem?_getD, List.getD_eq_getElem?_getD, hu, List.getElem?_eq_getElem hi]
    exact ru
theorem sorted_gen {p : Addr} {Q : VK} {PV : List Value → Prop} (hex : X.ex = []) (I : Inv X pins σ H s)
    (hcol : ∀ Q' : List Value → Shared → Prop, (∀ vs (h' : Heap) tk d, (∀ b o, s.heap.get? b = some o → h'.get? b = some o) → PV vs → Q' vs { s with heap := h', toks := tk, drawn := d }) → wpAny (model X.prog X.w) X.A.in1 (collect (.ref p)) Q' X.xe s)
    (hgo : ∀ vs, PV vs → ∃ (xs : List V) (lt : Nat → Nat → Bool), Vals xs vs ∧ xs.length < 64 ∧ (∀ s', Inv X pins σ H s' → 2 ≤ xs.length → ∃ κ, Asks X xs.length vs s' κ lt) ∧
      ∀ D (is : List Nat), is.Perm (List.range xs.length) → is.Pairwise (Srt.R lt) → H D = none → Q (.ref D) (upd H D (.lst (is.map fun i => xs.getD i .non)))) :
    wpAny (model X.prog X.w) X.A (call (.builtin "sorted") [.ref p]) (EP X pins σ Q) X.xe s := by
  refine Calls.call_function_entry kind_sorted plain_sorted entry_sorted (args_sorted1 _) ?_
  unfold Builtin.«sorted»
  refine wpAny_bind (m := checkCount "sorted" 1 1 _) (wpAny_pure (wpAny_bind (hcol _ fun vs h' tk d keep pv => ?_)))
  obtain ⟨xs, lt, rv, h64, hask, q⟩ := hgo vs pv
  have hlen : xs.length = vs.length := rv.length
  have hz : vs.length ≤ sizeLine := by rw [sizeLine_eq]; omega
  refine wpAny_bind (wpAny_newList ?_ hz)
  have oL : (h'.push (seqObj "list" vs.toArray 0)).get? h'.objs.size = some (seqObj "list" vs.toArray 0) := Heap.get?_push_size _ rfl
  have I1 : Inv X pins σ H { s with heap := h', toks := tk, drawn := d } := (I.kept (t' := tk) keep).drawn d
  by_cases h2 : vs.length < 2
  · refine wpAny_bind (wpAny_holding (wpAny_call_entry slot_list_sort (s := { s with heap := h'.push (seqObj "list" vs.toArray 0), toks := tk, drawn := d }) ⟨_, oL, rfl⟩ entry_list_sort (sort_small oL h2 ⟨_, rfl, wpAny_pure ⟨_, rfl, ?_⟩⟩) (args_list_sort _)))
    obtain ⟨e, he⟩ := sortedHeap_at (out := vs.toArray) oL
    have hq : Q (.ref h'.objs.size) (upd H h'.objs.size (.lst xs)) := by
      have := q h'.objs.size (List.range xs.length) (List.Perm.refl _) (by
        match xs, hlen with
        | [], _ => exact List.Pairwise.nil
        | [_], _ => exact List.pairwise_singleton _ _
        | _ :: _ :: _, e => simp only [List.length_cons] at e; omega) (I1.hok.fresh (Nat.le_refl _))
      have e2 : ((List.range xs.length).map fun i => xs.getD i .non) = xs := by
        apply List.ext_getElem (by simp)
        intro i h1 h2
        rw [List.getElem_map, List.getElem_range, List.getD_eq_getElem?_getD, List.getElem?_eq_getElem h2]
        rfl
      rw [e2] at this
      exact this
    refine ⟨.ref h'.objs.size, _, I1.laid (t' := tk) (o := .lst xs) (fun b u e => ?_) (Nat.le_refl _) ⟨by rw [sizeLine_eq]; omega, vs, e, rv, he⟩, rfl, hq⟩
    have hb := Heap.lt_size e
    rw [sortedHeap_old (Nat.ne_of_lt hb) (by rw [size_push']; exact Nat.lt_succ_of_lt hb)]
    exact Heap.get?_push_of_some _ e
  obtain ⟨m, hm, _⟩ := id I1.loc
  have gk : ∀ b o, h'.get? b = some o → (h'.push (seqObj "list" vs.toArray 0)).get? b = some o := fun b o e => Heap.get?_push_of_some _ e
  have F : Fr X.base X.env.locals (h'.push (seqObj "list" vs.toArray 0)) m := ⟨hm.keeps gk, fun b o e => gk b o (I1.bk b o e), Nat.le_trans I.ok.bsz I.ok.above⟩
  have N : News X.base X.env.locals (h'.push (seqObj "list" vs.toArray 0)) (newsOf X.base h' X.env.locals) := (newsOf_news X.base h' X.env.locals).grown gk
  have hLl : X.env.locals < h'.objs.size := I1.lt
  refine wpAny_bind (wpAny_holding (wpAny_call_entry slot_list_sort (s := { s with heap := h'.push (seqObj "list" vs.toArray 0), toks := tk, drawn := d }) ⟨_, oL, rfl⟩ entry_list_sort ?body (args_list_sort _)))
  case body =>
    refine kat_list_sort (s := { s with heap := h'.push (seqObj "list" vs.toArray 0), toks := tk, drawn := d }) F N oL (Nat.ne_of_gt hLl) (Heap.get?_none_of_le (Nat.le_trans I.ok.bsz (Nat.le_trans I.ok.above (Nat.le_of_lt hLl)))) (fun p hp => Nat.ne_of_lt (Heap.lt_size ((newsOf_news X.base h' X.env.locals) p hp).1)) (by omega) (by omega) fun e1 h3 F3 N3 => ?_
    obtain ⟨_, I3⟩ := I1.ofFr (t' := tk) (more := [(h'.objs.size, seqObj "list" #[] e1)]) hm F3 N3
    obtain ⟨κ, ak⟩ := hask _ I3 (by omega)
    refine ak.kind (by omega) _ ?_
    refine Srt.good_wp (n := vs.length) (lt := lt) (fun i j C hi hj hC => ak.ask i j C (by omega) (by omega) hC) _ (Srt.good_mono (fun pp hp2 => ?_) _ (Srt.sort_ok ak.ord (by omega)))
    obtain ⟨o1, o2⟩ := Srt.out_ok hp2.1 hp2.2
    refine KasFin.intro F3 N3 (.head fun q hq => Nat.ne_of_lt (Heap.lt_size ((newsOf_news X.base h' X.env.locals) q hq).1)) fun h4 c F4 N4 => ⟨_, rfl, wpAny_pure ⟨_, rfl, ?_⟩⟩
    obtain ⟨kp, I4⟩ := I1.ofFr (t' := tk) (more := [(h'.objs.size, listOf (List.toArray (pp.toList.map fun i => vs.getD i Value.none)) c)]) hm F4 N4
    obtain ⟨d1, d2, d3⟩ := N4 _ List.mem_cons_self
    have hD : H h'.objs.size = none := I1.hok.fresh (Nat.le_refl _)
    have x0 : X.s₀.heap.get? h'.objs.size = none := by
      cases e : X.s₀.heap.get? h'.objs.size with
      | none => rfl
      | some o =>
        obtain ⟨o', e2⟩ := I1.base.there _ o e (by rw [hex]; simp)
        exact absurd (Heap.lt_size e2) (Nat.lt_irrefl _)
    have xp : ∀ p ∈ X.pn ++ pins, p.1 ≠ h'.objs.size := fun p hp z => absurd (Heap.lt_size (I1.pin p hp).1) (by rw [z]; exact Nat.lt_irrefl _)
    have vls := vals_at rv pp.toList fun i hi => by rw [hlen]; exact List.mem_range.mp (o1.mem_iff.mp hi)
    refine ⟨.ref h'.objs.size, _, I4.trackG (o := .lst (pp.toList.map fun i => xs.getD i .non)) d1 (Ne.symm d2) (fun v z => nomatch z) hD x0 xp ⟨?_, _, c, vls, d1⟩, rfl, q _ _ (by rw [hlen]; exact o1) o2 hD⟩
    rw [List.length_map, o1.length_eq, List.length_range, sizeLine_eq]; omega
/-- how texts are asked -/
theorem asks_str {zs : List Str} {vs : List Value} (rv : Vals (zs.map V.str) vs) (s' : Shared) : Asks X (zs.map V.str).length vs s' oneType' (Srt.ltT zs) := by
  have hl : vs.length = zs.length := by rw [← rv.length, List.length_map]
  refine ⟨Srt.ltT_ord zs, fun h2 Q' hQ => ?_, fun i j C hi hj hC => ?_⟩
  · rw [List.length_map] at h2
    refine kas_kind (T := .type "str") (by rw [hl]; omega) (fun v hv => ?_) (by decide +kernel) (by decide +kernel) hQ
    obtain ⟨i, hi, rfl⟩ := List.getElem_of_mem hv
    obtain ⟨t, e⟩ := str_at rv (i := i) (by omega)
    rw [List.getD_eq_getElem?_getD, List.getElem?_eq_getElem hi] at e
    rw [show vs[i] = _ from e]
    exact Looks.of_pure rfl
  · rw [List.length_map] at hi hj
    obtain ⟨t, e⟩ := str_at rv (i := i) hi
    obtain ⟨t', e'⟩ := str_at rv (i := j) hj
    unfold kas_ask
    rw [e, e']
    exact kas_lt_str hC
end
section
variable {X : Cx}
theorem getD_str (zs : List Str) (i : Nat) (h : i < zs.length) : (zs.map V.str).getD i .non = .str (zs.getD i "") := by
  rw [List.getD_eq_getElem?_getD, List.getElem?_map, List.getElem?_eq_getElem h, List.getD_eq_getElem?_getD, List.getElem?_eq_getElem h]
  rfl
theorem pick_str {zs : List Str} {is : List Nat} (h : is.Perm (List.range (zs.map V.str).length)) : (is.map fun i => (zs.map V.str).getD i .non) = (is.map fun i => zs.getD i "").map V.str := by
  rw [List.map_map]
  refine List.map_congr_left fun i hi => ?_
  have := List.mem_range.mp (h.mem_iff.mp hi)
  rw [List.length_map] at this
  exact getD_str zs i this
/-- sorted of a list or a tuple of texts -/
inductive cSrtQ (vs : List V) (H : Hp) (Q : VK) : Prop
  | mk (p : Addr) (o : HO) (zs : List Str) (e : vs = [.ref p]) (h : H p = some o) (ob : Ob o (zs.map V.str)) (h64 : zs.length < 64)
      (q : ∀ D (is : List Nat), is.Perm (List.range zs.length) → is.Pairwise (Srt.R (Srt.ltT zs)) → H D = none → Q (.ref D) (upd H D (.lst ((is.map fun i => zs.getD i "").map V.str)))) : cSrtQ vs H Q
theorem collect_ob {pins : List (Addr × Obj)} {σ : St} {H : Hp} {s : Shared} {A : Around} {E : Value → Shared → Prop} {p : Addr} {o : HO} {xs : List V} (I : Inv X pins σ H s) (h : H p = some o) (ob : Ob o xs) (Q' : List Value → Shared → Prop)
    (q : ∀ vs (h' : Heap) tk d, (∀ b o, s.heap.get? b = some o → h'.get? b = some o) → Vals xs vs → Q' vs { s with heap := h', toks := tk, drawn := d }) : wpAny (model X.prog X.w) A (collect (.ref p)) Q' E s := by
  rcases ob with rfl | rfl
  · obtain ⟨hz, its, n, rv, e⟩ := I.hok p _ h
    refine wpAny_collect_seq p (T := "list") (.inl rfl) e rfl rfl (fun h' k => ?_) (by rw [List.size_toArray, ← rv.length]; exact hz)
    exact q _ h' s.toks s.drawn k rv
  · obtain ⟨hz, its, rv, ob, e, hc, n, hd⟩ := I.hok p _ h
    refine wpAny_collect_seq p (T := "tuple") (.inr rfl) e hc hd (fun h' k => ?_) (by rw [List.size_toArray, ← rv.length]; exact hz)
    exact q _ h' s.toks s.drawn k rv
theorem call_sortedQ (hex : X.ex = [] := by rfl) : CallR X (.builtin "sorted") cSrtQ := by
  intro pins s σ H xs us Q I r h
  obtain ⟨p, o, zs, rfl, hp, ob, h64, q⟩ := h
  obtain ⟨u, rfl, rx⟩ := vals1 r
  cases rx
  refine sorted_gen (PV := Vals (zs.map V.str)) hex I (fun Q' hq => collect_ob I hp ob Q' hq) fun vs rv => ⟨zs.map V.str, Srt.ltT zs, rv, by rw [List.length_map]; exact h64, fun s' _ _ => ⟨_, asks_str rv s'⟩, fun D is p1 p2 hD => ?_⟩
  rw [pick_str p1]
  rw [List.length_map] at p1
  exact q D is p1 p2 hD
/-- sorted of a set of texts -/
inductive cSrtT (P : Program) (w : World) (vs : List V) (H : Hp) (Q : VK) : Prop
  | mk (p : Addr) (zs : List Str) (e : vs = [.ref p]) (h : H p = some (SetH P w p (zs.map Sum.inr))) (h64 : zs.length < 64)
      (q : ∀ D (ys : List Str) (is : List Nat), ys.Perm zs → is.Perm (List.range ys.length) → is.Pairwise (Srt.R (Srt.ltT ys)) → H D = none → Q (.ref D) (upd H D (.lst ((is.map fun i => ys.getD i "").map V.str)))) : cSrtT P w vs H Q
theorem call_sortedT (P : Program) (w : World) (hc : X.calm = true) (e1 : X.prog = P := by rfl) (e2 : X.w = w := by rfl) (hex : X.ex = [] := by rfl) : CallR X (.builtin "sorted") (cSrtT P w) := by
  subst e1 e2
  intro pins s σ H xs us Q I r h
  obtain ⟨p, zs, rfl, hq, h64, q⟩ := h
  obtain ⟨u, rfl, rx⟩ := vals1 r
  cases rx
  obtain ⟨⟨es, g, nd, el, pe, qe⟩, _, _⟩ := I.hok p _ hq
  have hh : X.A.in1.handled = none := I.ok.hd hc
  have he : es.size = zs.length := by have := Paired.length qe; have := pe.length_eq; simp at *; omega
  refine sorted_gen (PV := fun vs => ∃ ys : List Str, Vals (ys.map V.str) vs ∧ ys.Perm zs) hex I (fun Q' hq' => Ss.collect_set hh g (by omega) fun h' tk d vs keep hv => hq' vs h' tk d keep ?_) fun vs ⟨ys, rv, hp⟩ => ⟨ys.map V.str, Srt.ltT ys, rv, by rw [List.length_map, hp.length_eq]; exact h64, fun s' _ _ => ⟨_, asks_str rv s'⟩, fun D is p1 p2 hD => ?_⟩
  · exact strs_perm (hv.trans (pe.map (·.2)).symm) (keys_strs qe)
  · rw [pick_str p1]
    rw [List.length_map] at p1
    exact q D ys is hp p1 p2 hD
end
end L2
/-! ### tuples (int, text, int) -/
namespace Srt
open PySem
abbrev T3 := Int × Str × Int
def tlt (a b : T3) : Bool := if a.1 = b.1 then (if a.2.1 = b.2.1 then decide (a.2.2 < b.2.2) else decide (a.2.1.cps.toList < b.2.1.cps.toList)) else decide (a.1 < b.1)
theorem tlt_plt {a b : T3} (h : (a.1, a.2.1) ≠ (b.1, b.2.1)) : tlt a b = plt (a.1, a.2.1) (b.1, b.2.1) := by
  unfold tlt plt
  by_cases e : a.1 = b.1
  · rw [if_pos e, if_pos e, if_neg fun z => h (by rw [e, z])]
  · rw [if_neg e, if_neg e]
theorem tlt_same {a b : T3} (h : (a.1, a.2.1) = (b.1, b.2.1)) : tlt a b = decide (a.2.2 < b.2.2) := by
  unfold tlt
  rw [if_pos (by injection h), if_pos (by injection h)]
def ltE (es : List T3) (i j : Nat) : Bool := tlt (es.getD i (0, ⟨#[]⟩, 0)) (es.getD j (0, ⟨#[]⟩, 0))
theorem tlt_asym {a b : T3} (h : tlt a b = true) : tlt b a = false := by
  by_cases e : (a.1, a.2.1) = (b.1, b.2.1)
  · rw [tlt_same e] at h
    rw [tlt_same e.symm]
    have := of_decide_eq_true h
    exact decide_eq_false (by omega)
  · rw [tlt_plt e] at h
    rw [tlt_plt (Ne.symm e)]
    exact plt_asym h
theorem tlt_tr {a b c : T3} (h : tlt b a = false) (h' : tlt c b = false) : tlt c a = false := by
  by_cases e : (b.1, b.2.1) = (a.1, a.2.1)
  · by_cases e' : (c.1, c.2.1) = (b.1, b.2.1)
    · rw [tlt_same e] at h
      rw [tlt_same e'] at h'
      rw [tlt_same (e'.trans e)]
      have := of_decide_eq_false h
      have := of_decide_eq_false h'
      exact decide_eq_false (by omega)
    · rw [tlt_plt e'] at h'
      rw [tlt_plt (by rw [← e]; exact e'), ← e]
      exact h'
  · by_cases e' : (c.1, c.2.1) = (b.1, b.2.1)
    · rw [tlt_plt e] at h
      rw [tlt_plt (by rw [e']; exact e), e']
      exact h
    · rw [tlt_plt e] at h
      rw [tlt_plt e'] at h'
      have t := plt_tr h h'
      by_cases e2 : (c.1, c.2.1) = (a.1, a.2.1)
      · rw [← e2] at h
        exact absurd (plt_one h' h) e'
      · rw [tlt_plt e2]
        exact t
theorem ltE_ord (es : List T3) : Ord (ltE es) := ⟨tlt_asym, tlt_tr⟩
end Srt
namespace L2
open PySem PySem.Spec PySem.W PyProof.Rows
section
variable {X : Cx} {pins : List (Addr × Obj)} {σ : St} {H : Hp} {s : Shared}
/-- tuples (int, text, int) -/
abbrev Trips (H : Hp) : List V → List Srt.T3 → Prop := Paired fun x e => ∃ a, x = .ref a ∧ H a = some (.tup [.int e.1, .str e.2.1, .int e.2.2])
theorem tup3_at (I : Inv X pins σ H s) {t : Addr} {m v : Int} {k : Str} (h : H t = some (.tup [.int m, .str k, .int v])) : ∃ o n tm tk tv, s.heap.get? t = some o ∧ o.cls = .type "tuple" ∧ o.data = .seq #[.int m tm, .str k tk, .int v tv] n := by
  obtain ⟨_, its, rv, o, ho, hc, n, hd⟩ := I.hok t _ h
  cases rv with
  | cons r1 rv =>
    obtain ⟨u, v, rfl, ⟨tk, rfl⟩, ⟨tv, rfl⟩⟩ := vals2 rv
    obtain ⟨tm, rfl⟩ := r1
    exact ⟨o, n, tm, tk, tv, ho, hc, hd⟩
theorem ask3 (I : Inv X pins σ H s) {A : Around} {t t' : Addr} {e e' : Srt.T3} (h : H t = some (.tup [.int e.1, .str e.2.1, .int e.2.2])) (h' : H t' = some (.tup [.int e'.1, .str e'.2.1, .int e'.2.2])) {C : Bool → Shared → Prop} {E : Value → Shared → Prop} (q : C (Srt.tlt e e') s) :
    wpAny (model X.prog X.w) A (keyLt' (tuples' true) (.ref t) (.ref t')) C E s := by
  obtain ⟨o, n, tm, tk, tv, ho, hc, hd⟩ := tup3_at I h
  obtain ⟨o', n', tm', tk', tv', ho', hc', hd'⟩ := tup3_at I h'
  unfold Srt.tlt at q
  refine PySem.W.kat_lt ho hd ho' hd' ?_
  refine PySem.W.kat_cons (wpAny_eqBool_int (PySem.W.kat_go (fun e1 => PySem.W.kat_yes ?_) fun e1 => PySem.W.kat_no ?_))
  · have e1' : e.1 = e'.1 := by simpa using e1
    rw [if_pos e1'] at q
    refine PySem.W.kat_cons (wpAny_eqBool_str (PySem.W.kat_go (fun e2 => PySem.W.kat_yes ?_) fun e2 => PySem.W.kat_no ?_))
    · have e2' : e.2.1 = e'.2.1 := by simpa using e2
      rw [if_pos e2'] at q
      refine PySem.W.kat_cons (wpAny_eqBool_int (PySem.W.kat_go (fun e3 => PySem.W.kat_yes (PySem.W.kat_nil ?_)) fun e3 => PySem.W.kat_no ?_))
      · have e3' : e.2.2 = e'.2.2 := by simpa using e3
        rw [decide_eq_false (by omega)] at q
        exact q
      · exact PySem.W.kat_one _ _ (lt_int q)
    · have e2' : ¬ e.2.1 = e'.2.1 := by simpa using e2
      rw [if_neg e2'] at q
      exact PySem.W.kat_one _ _ (lt_str q)
  · have e1' : ¬ e.1 = e'.1 := by simpa using e1
    rw [if_neg e1'] at q
    exact oneLt_int q
theorem kat_trips (I : Inv X pins σ H s) : ∀ {xs : List V} {ks : List Value} {es : List Srt.T3}, Vals xs ks → Trips H xs es → ∃ fs, PySem.W.KatTups s.heap ks fs ∧ fs.length = ks.length ∧ ∀ v ∈ fs, ∃ m tm, v = Value.int m tm
  | _, _, _, .nil, .nil => ⟨[], .nil, rfl, fun v h => nomatch h⟩
  | _, _, _, .cons rx rv, .cons ⟨t, e, h⟩ r => by
    obtain ⟨fs, h1, h2, h3⟩ := kat_trips I rv r
    obtain ⟨o, n, tm, tk, tv, ho, hc, hd⟩ := tup3_at I h
    subst e
    cases rx
    refine ⟨_ :: fs, .cons ho hc hd rfl h1, by rw [List.length_cons, List.length_cons, h2], fun v hv => ?_⟩
    rcases List.mem_cons.mp hv with rfl | hv
    · exact ⟨_, _, rfl⟩
    · exact h3 v hv
inductive cSrtE (vs : List V) (H : Hp) (Q : VK) : Prop
  | mk (p : Addr) (o : HO) (xs : List V) (es : List Srt.T3) (e : vs = [.ref p]) (h : H p = some o) (ob : Ob o xs) (t : Trips H xs es) (h64 : es.length < 64)
      (q : ∀ D (is : List Nat), is.Perm (List.range es.length) → is.Pairwise (Srt.R (Srt.ltE es)) → H D = none → Q (.ref D) (upd H D (.lst (is.map fun i => xs.getD i .non)))) : cSrtE vs H Q
theorem call_sortedE (hex : X.ex = [] := by rfl) : CallR X (.builtin "sorted") cSrtE := by
  intro pins s σ H xs us Q I r h
  obtain ⟨p, o, ys, es, rfl, hp, ob, tr, h64, q⟩ := h
  obtain ⟨u, rfl, rx⟩ := vals1 r
  cases rx
  have hl : ys.length = es.length := Paired.length tr
  refine sorted_gen (PV := Vals ys) hex I (fun Q' hq => collect_ob I hp ob Q' hq) fun vs rv => ⟨ys, Srt.ltE es, rv, by omega, fun s' I' h2 => ⟨tuples' true, Srt.ltE_ord es, fun _ Q' hQ => ?_, fun i j C hi hj hC => ?_⟩, fun D is p1 p2 hD => q D is (by rw [← hl]; exact p1) p2 hD⟩
  · obtain ⟨fs, t1, t2, t3⟩ := kat_trips I' rv tr
    have := rv.length
    refine PySem.W.kat_kind (T := .type "int") t1 (by omega) (fun v hv => ?_) (by decide +kernel) ?_
    · obtain ⟨m, tm, rfl⟩ := t3 v hv
      exact PySem.W.Looks.of_pure rfl
    · exact hQ
  · have hi' : es[i]? = some es[i] := List.getElem?_eq_getElem (by omega)
    have hj' : es[j]? = some es[j] := List.getElem?_eq_getElem (by omega)
    obtain ⟨u, eu, t, rfl, ht⟩ := Paired.getR tr hi'
    obtain ⟨u', eu', t', rfl, ht'⟩ := Paired.getR tr hj'
    obtain ⟨w1, hw1, r1⟩ := rv.get eu
    obtain ⟨w2, hw2, r2⟩ := rv.get eu'
    cases r1
    cases r2
    unfold PySem.W.kas_ask
    rw [List.getD_eq_getElem?_getD, List.getD_eq_getElem?_getD, hw1, hw2]
    refine ask3 I' ht ht' ?_
    unfold Srt.ltE at hC
    rw [List.getD_eq_getElem?_getD, List.getD_eq_getElem?_getD, hi', hj'] at hC
    exact hC
end
end L2
set_option Elab.async false
set_option linter.all false
set_option maxRecDepth 100000
/-! set(xs) of a list or a tuple of texts, len of a set -/
namespace Ss
open PySem PySem.Spec
section
variable {prog : Program} {w : World} {K : Type} [DecidableEq K] {knd : KeyKind prog w K} {A : Around} {R : Result → Shared → Prop} {E : Value → Shared → Prop} {I : Addr} {fp wr : List Addr} {n : Nat} {P : Nat → Value → Prop} {St : Nat → Heap → Prop}
theorem loop (W : Walks prog w A.in1 I fp wr n P St) {S : Addr} (hSf : S ∉ fp) {ks : List K} {Z : Nat → Array (Int × Value) → Prop} (hb : n + 1 < scanBound)
    (hval : ∀ i v, P i v → ∃ k, ks[i]? = some k ∧ knd.is k v = true ∧ v.scannable = true) (hel : ∀ i es, Z i es → ElemsOf knd es.toList ∧ es.size ≤ i)
    (hst : ∀ i k v es es', Z i es → ks[i]? = some k → knd.is k v = true → Added knd k v es es' → Z (i + 1) es') :
    ∀ (r i : Nat) (s : Shared) (es : Array (Int × Value)), n - i = r → i ≤ n → St i s.heap → SetG w s.heap S es → Z i es →
      (∀ h' tk es', (∀ b o, b ∉ S :: wr → s.heap.get? b = some o → h'.get? b = some o) → SetG w h' S es' → Z n es' → R (.ok (.ret .none)) { s with heap := h', toks := tk }) →
      codeAny (model prog w) A (.builtin "set.update.loop" ⟨[.ref S, .ref I], []⟩) R s := by
  have hSw : S ∉ wr := fun z => hSf (W.sub _ z)
  intro r
  induction r with
  | zero =>
    intro i s es hr hi st hS hZ hR
    obtain rfl : i = n := by omega
    refine codeAny_builtin PyProof.Rows.F.entry_set_update_loop ?_
    rw [Around.under_plainId PyProof.Rows.F.plain_set_update_loop _]
    show wpAny _ A.in1 (pyNext (.ref I) >>= _) _ _ _
    refine wpAny_bind (W.done s _ _ st fun h' tk keep => ?_)
    exact wpAny_pure (hR h' tk es (fun b o hb e => keep b o (fun z => hb (List.mem_cons_of_mem _ z)) e) (hS.at fun o e => keep S o hSw e) hZ)
  | succ r ih =>
    intro i s es hr hi st hS hZ hR
    have hlt : i < n := by omega
    refine codeAny_builtin PyProof.Rows.F.entry_set_update_loop ?_
    rw [Around.under_plainId PyProof.Rows.F.plain_set_update_loop _]
    show wpAny _ A.in1 (pyNext (.ref I) >>= _) _ _ _
    refine wpAny_bind (W.item i s _ _ hlt st fun v h' tk hP st' keep => ?_)
    obtain ⟨k, hk, hv, hs⟩ := hval i v hP
    obtain ⟨el, hz⟩ := hel i es hZ
    have hS' : SetG w h' S es := hS.at fun o e => keep S o hSw e
    show wpAny _ A.in1 (holding [v] (setAdd S v) >>= _) _ _ _
    refine wpAny_bind (wpAny_holding ?_)
    unfold setAdd
    refine wpAny_holding (wpAny_bind (knd.pyHash hv ?_))
    refine addH (s := { s with heap := h', toks := tk + 1 }) hv hs hS' el (by omega) fun b h2 es2 sb S2 ad => ?_
    refine wpAny_pure ⟨plainId_quiet PyProof.Rows.F.plain_set_update_loop _, ih (i + 1) { s with heap := h2, toks := tk + 1 } es2 (by omega) hlt (W.frame _ _ _ st' fun c hc o e => ?_) S2 (hst i k v es es2 hZ hk hv ad) fun h3 tk3 es3 keep3 S3 Z3 => ?_⟩
    · exact (sb.2 c (fun z : c = S => hSf (by rw [← z]; exact hc))).trans e
    · refine hR h3 tk3 es3 (fun c o hc e => keep3 c o hc ?_) S3 Z3
      exact (sb.2 c (fun z : c = S => hc (by rw [z]; exact List.mem_cons_self))).trans (keep c o (fun z => hc (List.mem_cons_of_mem _ z)) e)
end
section
variable {prog : Program} {w : World} {A : Around} {E : Value → Shared → Prop} {s : Shared}
theorem code_new (a : Value) {Q : Value → Shared → Prop} (h : ∀ led : Bool, (byText w = true ∨ led = true) → Q (.ref s.heap.objs.size) { s with heap := s.heap.push { cls := .type "set", dict := none, data := .set #[] 0 (.fresh 0 0 led) } }) :
    codeAny (model prog w) A (.call (.builtin "set.__new__") ⟨[.type "set", a], []⟩) (wants Q E) s := by
  refine codeAny_of_tree ?_
  show wpAny _ A.in1 (do checkBuiltinCall "set.__new__" ⟨[.type "set", a], []⟩; again (.builtin "set.__new__" ⟨[.type "set", a], []⟩)) _ _ _
  refine wpAny_bind (wpAny_of_eq (PySem.F.newCall_set_1 a) (wpAny_pure ⟨plainId_quiet PySem.F.plain_set_new _, codeAny_builtin PySem.F.entry_set_new ?_⟩))
  rw [Around.under_plainId PySem.F.plain_set_new _]
  unfold Builtin.«set.__new__» Builtin.Frozenset.newClass
  have hsub := sub_set_self
  obtain ⟨hp, g, d, tk, os⟩ := s
  dsimp only
  wp_walk
  refine wpAny_askSetting (wpAny_pure ?_)
  simp only [newObj]
  refine wpAny_bind (wpAny_alloc (wpAny_pure (wpAny_pure (h _ ?_))))
  show byText w = true ∨ (!(byText w)) = true
  cases byText w
  · exact .inr rfl
  · exact .inl rfl
end
section
variable {prog : Program} {w : World} {K : Type} [DecidableEq K] {knd : KeyKind prog w K} {A : Around} {E : Value → Shared → Prop} {s : Shared}
theorem sub_list : isSubtype (.type "list") (.type "set") = pure false ∧ isSubtype (.type "list") (.type "frozenset") = pure false := ⟨by rw [isSubtype_type]; kernel_rfl, by rw [isSubtype_type]; kernel_rfl⟩
set_option maxHeartbeats 3200000 in
theorem call_list {l : Addr} {items : Array Value} {ks : List K} {Z : Nat → Array (Int × Value) → Prop} {Q : Value → Shared → Prop} (hh : A.handled = none) (hl : s.heap.IsList l items) (hb : items.size + 1 < scanBound)
    (hval : ∀ (i : Nat) v, items[i]? = some v → ∃ k, ks[i]? = some k ∧ knd.is k v = true ∧ v.scannable = true) (hel : ∀ i es, Z i es → ElemsOf knd es.toList ∧ es.size ≤ i)
    (hst : ∀ i k v es es', Z i es → ks[i]? = some k → knd.is k v = true → Added knd k v es es' → Z (i + 1) es') (h0 : Z 0 #[])
    (h : ∀ (h' : Heap) (tk : Nat) es, (∀ b o, s.heap.get? b = some o → h'.get? b = some o) → SetG w h' s.heap.objs.size es → Z items.size es → Q (.ref s.heap.objs.size) { s with heap := h', toks := tk }) :
    wpAny (model prog w) A (call (.type "set") [.ref l]) Q E s := by
  obtain ⟨c, tl, hmro⟩ := PySem.F.called_set.mro
  have hmade := PySem.F.called_set.made
  have hsub := PySem.F.called_set.sub
  refine wpAny_call (codeAny_of_tree (show wpAny _ _ (callAny (.type "set") _) _ _ _ from wpAny_pure ⟨Code.quiet_builtin _ (by decide +kernel), codeAny_builtin PySem.F.entry_type_call ?_⟩))
  rw [Around.under_plain (weight_type_call_type "set" [.ref l] []) rfl]
  have n1 := PySem.F.called_set.notType
  have n2 := PySem.F.called_set.canCreate
  have n3 := PySem.F.typeCall_set_1 (.ref l)
  repeat (any_goals (first | assumption | wp_step))
  refine codeAny_mono (code_new (.ref l) (E := E) (Q := fun obj s₁ => ∃ led : Bool, obj = .ref s.heap.objs.size ∧ s₁ = { s with heap := s.heap.push { cls := .type "set", dict := none, data := .set #[] 0 (.fresh 0 0 led) } } ∧ (byText w = true ∨ led = true)) fun o g => ⟨o, rfl, rfl, g⟩) fun r s₁ hr => ?_
  cases r with
  | error e => exact hr
  | ok fl =>
    cases fl with
    | ret obj =>
      obtain ⟨led, rfl, rfl, hled⟩ := hr
      have hS : (s.heap.push { cls := .type "set", dict := none, data := .set #[] 0 (.fresh 0 0 led) }).get? s.heap.objs.size = some { cls := .type "set", dict := none, data := .set #[] 0 (.fresh 0 0 led) } := Heap.get?_push_size _ rfl
      have g : SetG w (s.heap.push { cls := .type "set", dict := none, data := .set #[] 0 (.fresh 0 0 led) }) s.heap.objs.size #[] := ⟨0, _, hS, rfl, ⟨List.Pairwise.nil, rfl⟩, hled⟩
      have hT : Shared.TypeIs { s with heap := s.heap.push { cls := .type "set", dict := none, data := .set #[] 0 (.fresh 0 0 led) } } (.ref s.heap.objs.size) "set" := ⟨_, hS, rfl⟩
      have n4 := PySem.F.called_set.init.lookup
      have n5 := PySem.F.called_set.init.bind (.ref s.heap.objs.size)
      repeat (any_goals (first | assumption | wp_step))
      refine codeAny_mono (codeAny_call_builtin (R := wants (fun r s₂ => r = .none ∧ ∃ h' tk es, s₂ = { s with heap := h', toks := tk } ∧ (∀ b o, s.heap.get? b = some o → h'.get? b = some o) ∧ SetG w h' s.heap.objs.size es ∧ Z items.size es) E) PySem.F.called_set.init.plain PySem.F.entry_set_init (check_set_init_1 hT ?_)) fun r₂ s₂ hr₂ => ?_
      · obtain ⟨ol, hol, hcl, nl, hdl⟩ := id hl
        obtain ⟨ocls, odict, odata, oslots⟩ := ol
        simp only at hcl hdl
        subst hcl hdl
        have hlS : l < s.heap.objs.size := Heap.lt_size hol
        have hol' := Heap.get?_push_of_some { cls := .type "set", dict := none, data := .set #[] 0 (.fresh 0 0 led) } hol
        have n6 := sub_list.1
        have n7 := sub_list.2
        have n8 : (Value.type "list" == Value.type "dict") = false := by decide
        have hlb : (s.heap.push { cls := .type "set", dict := none, data := .set #[] 0 (.fresh 0 0 led) }).IsList l items := ⟨_, hol', rfl, nl, rfl⟩
        unfold Builtin.«set.__init__» noKeywords Builtin.Frozenset.updateFrom
        generalize hPI : pyIter = PI
        wp_walk
        subst hPI
        refine wpAny_pyIter_list hlb ?_
        refine wpAny_bind (wpAny_runValue ?_)
        have hh3 : A.in1.in1.in1.handled = none := by simp [hh]
        have nI : l ≠ (s.heap.push { cls := .type "set", dict := none, data := .set #[] 0 (.fresh 0 0 led) }).objs.size := by rw [Heap.size_push]; exact Nat.ne_of_lt (Nat.lt_succ_of_lt hlS)
        have nS : s.heap.objs.size ∉ [(s.heap.push { cls := .type "set", dict := none, data := .set #[] 0 (.fresh 0 0 led) }).objs.size, l] := by
          rw [Heap.size_push]
          simp only [List.mem_cons, List.not_mem_nil, or_false, not_or]
          exact ⟨Nat.ne_of_lt (Nat.lt_succ_self _), Nat.ne_of_gt hlS⟩
        refine loop (Walks.list hh3 _ l nI items) nS hb hval hel hst items.size 0 _ #[] (by omega) (Nat.zero_le _) ⟨⟨_, Heap.get?_push_size _ rfl, rfl, rfl⟩, hlb.at fun _ => Heap.get?_push_of_some _⟩ (g.at fun _ => Heap.get?_push_of_some _) h0 fun h' tk es keep gS zS => ?_
        refine wpAny_pure (wpAny_pure ⟨rfl, h', tk, es, rfl, fun b o e => keep b o ?_ (Heap.get?_push_of_some _ (Heap.get?_push_of_some _ e)), gS, zS⟩)
        have hb := Heap.lt_size e
        rw [Heap.size_push]
        simp only [List.mem_cons, List.not_mem_nil, or_false, not_or]
        exact ⟨Nat.ne_of_lt hb, Nat.ne_of_lt (Nat.lt_succ_of_lt hb)⟩
      · cases r₂ with
        | error e => exact hr₂
        | ok fl₂ =>
          cases fl₂ with
          | ret r =>
            obtain ⟨rfl, h', tk, es, rfl, kp, gS, zS⟩ := hr₂
            repeat (any_goals (first | assumption | wp_step))
            exact h h' tk es kp gS zS
          | _ => exact hr₂.elim
    | _ => exact hr.elim

theorem sub_tuple : isSubtype (.type "tuple") (.type "set") = pure false ∧ isSubtype (.type "tuple") (.type "frozenset") = pure false := ⟨by rw [isSubtype_type]; kernel_rfl, by rw [isSubtype_type]; kernel_rfl⟩
set_option maxHeartbeats 3200000 in
theorem call_tuple {l : Addr} {items : Array Value} {ks : List K} {Z : Nat → Array (Int × Value) → Prop} {Q : Value → Shared → Prop} (hh : A.handled = none) (hl : s.heap.IsTuple l items) (hb : items.size + 1 < scanBound)
    (hval : ∀ (i : Nat) v, items[i]? = some v → ∃ k, ks[i]? = some k ∧ knd.is k v = true ∧ v.scannable = true) (hel : ∀ i es, Z i es → ElemsOf knd es.toList ∧ es.size ≤ i)
    (hst : ∀ i k v es es', Z i es → ks[i]? = some k → knd.is k v = true → Added knd k v es es' → Z (i + 1) es') (h0 : Z 0 #[])
    (h : ∀ (h' : Heap) (tk : Nat) es, (∀ b o, s.heap.get? b = some o → h'.get? b = some o) → SetG w h' s.heap.objs.size es → Z items.size es → Q (.ref s.heap.objs.size) { s with heap := h', toks := tk }) :
    wpAny (model prog w) A (call (.type "set") [.ref l]) Q E s := by
  obtain ⟨c, tl, hmro⟩ := PySem.F.called_set.mro
  have hmade := PySem.F.called_set.made
  have hsub := PySem.F.called_set.sub
  refine wpAny_call (codeAny_of_tree (show wpAny _ _ (callAny (.type "set") _) _ _ _ from wpAny_pure ⟨Code.quiet_builtin _ (by decide +kernel), codeAny_builtin PySem.F.entry_type_call ?_⟩))
  rw [Around.under_plain (weight_type_call_type "set" [.ref l] []) rfl]
  have n1 := PySem.F.called_set.notType
  have n2 := PySem.F.called_set.canCreate
  have n3 := PySem.F.typeCall_set_1 (.ref l)
  repeat (any_goals (first | assumption | wp_step))
  refine codeAny_mono (code_new (.ref l) (E := E) (Q := fun obj s₁ => ∃ led : Bool, obj = .ref s.heap.objs.size ∧ s₁ = { s with heap := s.heap.push { cls := .type "set", dict := none, data := .set #[] 0 (.fresh 0 0 led) } } ∧ (byText w = true ∨ led = true)) fun o g => ⟨o, rfl, rfl, g⟩) fun r s₁ hr => ?_
  cases r with
  | error e => exact hr
  | ok fl =>
    cases fl with
    | ret obj =>
      obtain ⟨led, rfl, rfl, hled⟩ := hr
      have hS : (s.heap.push { cls := .type "set", dict := none, data := .set #[] 0 (.fresh 0 0 led) }).get? s.heap.objs.size = some { cls := .type "set", dict := none, data := .set #[] 0 (.fresh 0 0 led) } := Heap.get?_push_size _ rfl
      have g : SetG w (s.heap.push { cls := .type "set", dict := none, data := .set #[] 0 (.fresh 0 0 led) }) s.heap.objs.size #[] := ⟨0, _, hS, rfl, ⟨List.Pairwise.nil, rfl⟩, hled⟩
      have hT : Shared.TypeIs { s with heap := s.heap.push { cls := .type "set", dict := none, data := .set #[] 0 (.fresh 0 0 led) } } (.ref s.heap.objs.size) "set" := ⟨_, hS, rfl⟩
      have n4 := PySem.F.called_set.init.lookup
      have n5 := PySem.F.called_set.init.bind (.ref s.heap.objs.size)
      repeat (any_goals (first | assumption | wp_step))
      refine codeAny_mono (codeAny_call_builtin (R := wants (fun r s₂ => r = .none ∧ ∃ h' tk es, s₂ = { s with heap := h', toks := tk } ∧ (∀ b o, s.heap.get? b = some o → h'.get? b = some o) ∧ SetG w h' s.heap.objs.size es ∧ Z items.size es) E) PySem.F.called_set.init.plain PySem.F.entry_set_init (check_set_init_1 hT ?_)) fun r₂ s₂ hr₂ => ?_
      · obtain ⟨ol, hol, hcl, nl, hdl⟩ := id hl
        obtain ⟨ocls, odict, odata, oslots⟩ := ol
        simp only at hcl hdl
        subst hcl hdl
        have hlS : l < s.heap.objs.size := Heap.lt_size hol
        have hol' := Heap.get?_push_of_some { cls := .type "set", dict := none, data := .set #[] 0 (.fresh 0 0 led) } hol
        have n6 := sub_tuple.1
        have n7 := sub_tuple.2
        have n8 : (Value.type "tuple" == Value.type "dict") = false := by decide
        have hlb : (s.heap.push { cls := .type "set", dict := none, data := .set #[] 0 (.fresh 0 0 led) }).IsTuple l items := ⟨_, hol', rfl, nl, rfl⟩
        unfold Builtin.«set.__init__» noKeywords Builtin.Frozenset.updateFrom
        generalize hPI : pyIter = PI
        wp_walk
        subst hPI
        refine wpAny_pyIter_tuple hlb ?_
        refine wpAny_bind (wpAny_runValue ?_)
        have hh3 : A.in1.in1.in1.handled = none := by simp [hh]
        have nI : l ≠ (s.heap.push { cls := .type "set", dict := none, data := .set #[] 0 (.fresh 0 0 led) }).objs.size := by rw [Heap.size_push]; exact Nat.ne_of_lt (Nat.lt_succ_of_lt hlS)
        have nS : s.heap.objs.size ∉ [(s.heap.push { cls := .type "set", dict := none, data := .set #[] 0 (.fresh 0 0 led) }).objs.size, l] := by
          rw [Heap.size_push]
          simp only [List.mem_cons, List.not_mem_nil, or_false, not_or]
          exact ⟨Nat.ne_of_lt (Nat.lt_succ_self _), Nat.ne_of_gt hlS⟩
        refine loop (Walks.tuple hh3 _ l nI items) nS hb hval hel hst items.size 0 _ #[] (by omega) (Nat.zero_le _) ⟨⟨_, Heap.get?_push_size _ rfl, rfl, rfl⟩, hlb.at fun _ => Heap.get?_push_of_some _⟩ (g.at fun _ => Heap.get?_push_of_some _) h0 fun h' tk es keep gS zS => ?_
        refine wpAny_pure (wpAny_pure ⟨rfl, h', tk, es, rfl, fun b o e => keep b o ?_ (Heap.get?_push_of_some _ (Heap.get?_push_of_some _ e)), gS, zS⟩)
        have hb := Heap.lt_size e
        rw [Heap.size_push]
        simp only [List.mem_cons, List.not_mem_nil, or_false, not_or]
        exact ⟨Nat.ne_of_lt hb, Nat.ne_of_lt (Nat.lt_succ_of_lt hb)⟩
      · cases r₂ with
        | error e => exact hr₂
        | ok fl₂ =>
          cases fl₂ with
          | ret r =>
            obtain ⟨rfl, h', tk, es, rfl, kp, gS, zS⟩ := hr₂
            repeat (any_goals (first | assumption | wp_step))
            exact h h' tk es kp gS zS
          | _ => exact hr₂.elim
    | _ => exact hr.elim
end
end Ss
set_option Elab.async false
set_option linter.all false
set_option maxRecDepth 100000
namespace L2
open PySem PySem.Spec PyProof.Rows
def SetK (P : Program) (w : World) (js : List Key) (es : Array (Int × Value)) : Prop :=
  js.Nodup ∧ ∃ el : List (Int × Value), el.Perm es.toList ∧ Paired (fun (k : Key) (e : Int × Value) => (mixKind P w).is k e.2 = true ∧ e.1 = (mixKind P w).hash k) js el
theorem setK_add {P : Program} {w : World} {js : List Key} {es es' : Array (Int × Value)} {k : Key} {u : Value} (h : SetK P w js es) (hk : (mixKind P w).is k u = true) (ad : Ss.Added (mixKind P w) k u es es') : SetK P w (addK js k) es' := by
  obtain ⟨nd, el, p, q⟩ := h
  rcases ad with ⟨⟨e, he, hek⟩, rfl⟩ | ⟨hno, hp⟩
  · have hm : k ∈ js := by
      obtain ⟨k', hk', z⟩ := Paired.mem_right q e (p.mem_iff.mpr he)
      rw [(mixKind P w).inj _ _ _ hek z.1]
      exact hk'
    rw [addK_in hm]
    exact ⟨nd, el, p, q⟩
  · have hm : k ∉ js := fun hm => by
      obtain ⟨e, he, z⟩ := Paired.mem_left q k hm
      have := hno e (p.mem_iff.mp he)
      rw [z.1] at this
      cases this
    rw [addK_new hm]
    refine ⟨List.nodup_append.mpr ⟨nd, List.pairwise_singleton _ _, fun a ha b hb => ?_⟩, el ++ [((mixKind P w).hash k, u)], (p.append_right _).trans hp.symm, Paired.app q (.cons ⟨hk, rfl⟩ .nil)⟩
    rw [List.mem_singleton.mp hb]
    exact fun z => hm (z ▸ ha)
def allK (ks : List Key) : List Key := ks.foldl addK []
theorem allK_snoc (ks : List Key) (k : Key) : allK (ks ++ [k]) = addK (allK ks) k := by unfold allK; rw [List.foldl_append]; rfl
theorem addK_len (ks : List Key) (k : Key) : (addK ks k).length ≤ ks.length + 1 := by
  unfold addK
  split
  · omega
  · rw [List.length_append]; exact Nat.le_refl _
theorem foldl_new : ∀ (ks acc : List Key), (acc ++ ks).Nodup → ks.foldl addK acc = acc ++ ks
  | [], acc, _ => (List.append_nil acc).symm
  | k :: r, acc, h => by
    have hk : k ∉ acc := fun z => (List.nodup_append.mp h).2.2 k z k List.mem_cons_self rfl
    rw [List.foldl_cons, addK_new hk, foldl_new r (acc ++ [k]) (by rw [List.append_assoc]; exact h), List.append_assoc]
    rfl
theorem allK_nodup {ks : List Key} (h : ks.Nodup) : allK ks = ks := foldl_new ks [] h
theorem mem_addK {ks : List Key} {k j : Key} : j ∈ addK ks k ↔ j ∈ ks ∨ j = k := by
  by_cases h : k ∈ ks
  · rw [addK_in h]
    exact ⟨.inl, fun z => z.elim id fun e => e ▸ h⟩
  · rw [addK_new h, List.mem_append, List.mem_singleton]
theorem mem_foldl : ∀ {ks acc : List Key} {j : Key}, j ∈ ks.foldl addK acc ↔ j ∈ acc ∨ j ∈ ks
  | [], acc, j => by simp
  | k :: r, acc, j => by
    rw [List.foldl_cons, mem_foldl, mem_addK, List.mem_cons]
    exact or_assoc
theorem mem_allK {ks : List Key} {j : Key} : j ∈ allK ks ↔ j ∈ ks := by unfold allK; rw [mem_foldl]; simp
theorem addK_nd {ks : List Key} {k : Key} (h : ks.Nodup) : (addK ks k).Nodup := by
  by_cases z : k ∈ ks
  · rw [addK_in z]; exact h
  · rw [addK_new z]
    refine List.nodup_append.mpr ⟨h, List.pairwise_singleton _ _, fun a ha b hb e => ?_⟩
    rw [List.mem_singleton.mp hb] at e
    exact z (e ▸ ha)
theorem foldl_nd : ∀ {ks acc : List Key}, acc.Nodup → (ks.foldl addK acc).Nodup
  | [], _, h => h
  | k :: r, acc, h => by rw [List.foldl_cons]; exact foldl_nd (addK_nd h)
theorem allK_nd (ks : List Key) : (allK ks).Nodup := foldl_nd List.nodup_nil
section
variable {X : Cx}
/-- set(..) of a list or a tuple of texts -/
inductive cSetT (P : Program) (w : World) (vs : List V) (H : Hp) (Q : VK) : Prop
  | mk (p : Addr) (o : HO) (zs : List Str) (e : vs = [.ref p]) (h : H p = some o) (ob : Ob o (zs.map V.str)) (hz : zs.length < 1000)
      (q : ∀ D, H D = none → Q (.ref D) (upd H D (SetH P w D (allK (zs.map Sum.inr))))) : cSetT P w vs H Q
theorem call_setT (P : Program) (w : World) (hc : X.calm = true) (e1 : X.prog = P := by rfl) (e2 : X.w = w := by rfl) : CallR X (.type "set") (cSetT P w) := by
  subst e1 e2
  intro pins s σ H xs us Q I r h
  obtain ⟨p, o, zs, rfl, hp, ob, hz, q⟩ := h
  obtain ⟨u, rfl, rx⟩ := vals1 r
  cases rx
  have hh : X.A.handled = none := I.ok.hd hc
  have key : ∀ {its : List Value}, Vals (zs.map V.str) its → (∀ (i : Nat) v, its.toArray[i]? = some v → ∃ k, (zs.map Sum.inr : List Key)[i]? = some k ∧ (mixKind X.prog X.w).is k v = true ∧ v.scannable = true) := fun {its} rv i v hv => by
    have hl := rv.length
    rw [List.length_map] at hl
    have hi : i < zs.length := by
      rw [List.getElem?_toArray] at hv
      have := (List.getElem?_eq_some_iff.mp hv).1
      omega
    obtain ⟨t, e⟩ := str_at rv hi
    rw [List.getElem?_toArray] at hv
    rw [List.getD_eq_getElem?_getD, hv] at e
    refine ⟨.inr (zs.getD i ""), ?_, ?_, ?_⟩
    · rw [List.getElem?_map, List.getElem?_eq_getElem hi, List.getD_eq_getElem?_getD, List.getElem?_eq_getElem hi]; rfl
    · rw [show v = _ from e]; exact keyIs_str _ t
    · rw [show v = _ from e]; rfl
  have fin : ∀ {its : List Value}, Vals (zs.map V.str) its → ∀ (h' : Heap) (tk : Nat) es, (∀ b o, s.heap.get? b = some o → h'.get? b = some o) → Ss.SetG X.w h' s.heap.objs.size es → SetK X.prog X.w (allK ((zs.map Sum.inr).take its.length)) es → EP X pins σ Q (.ref s.heap.objs.size) { s with heap := h', toks := tk } := fun {its} rv h' tk es keep g k => by
    have hl := rv.length
    rw [List.length_map] at hl
    rw [List.take_of_length_le (by rw [List.length_map]; omega)] at k
    exact ⟨.ref s.heap.objs.size, _, I.laid (t' := tk) (o := SetH X.prog X.w s.heap.objs.size (allK (zs.map Sum.inr))) keep (Nat.le_refl _) (setH_ok ⟨es, g, k⟩), rfl, q _ (I.hok.fresh (Nat.le_refl _))⟩
  have stp : ∀ i (k : Key) v (es es' : Array (Int × Value)), SetK X.prog X.w (allK ((zs.map Sum.inr).take i)) es ∧ es.size ≤ i → (zs.map Sum.inr : List Key)[i]? = some k → (mixKind X.prog X.w).is k v = true → Ss.Added (mixKind X.prog X.w) k v es es' → SetK X.prog X.w (allK ((zs.map Sum.inr).take (i + 1))) es' ∧ es'.size ≤ i + 1 := fun i k v es es' z hk hv ad => by
    refine ⟨?_, ?_⟩
    · rw [List.take_add_one, hk]
      show SetK _ _ (allK (_ ++ [k])) _
      rw [allK_snoc]
      exact setK_add z.1 hv ad
    · rcases ad with ⟨_, rfl⟩ | ⟨_, hp⟩
      · omega
      · have := hp.length_eq
        simp at this
        omega
  have elm : ∀ i (es : Array (Int × Value)), SetK X.prog X.w (allK ((zs.map Sum.inr).take i)) es ∧ es.size ≤ i → ElemsOf (mixKind X.prog X.w) es.toList ∧ es.size ≤ i := fun i es z => by
    obtain ⟨_, el, pe, qe⟩ := z.1
    exact ⟨setP_elems pe qe, z.2⟩
  have ini : SetK X.prog X.w (allK ((zs.map Sum.inr).take 0)) #[] ∧ (#[] : Array (Int × Value)).size ≤ 0 := ⟨⟨List.nodup_nil, [], .nil, .nil⟩, Nat.le_refl _⟩
  have sb : scanBound = 4096 := rfl
  rcases ob with rfl | rfl
  · obtain ⟨_, its, n, rv, e⟩ := I.hok p _ hp
    have hl := rv.length
    rw [List.length_map] at hl
    refine Ss.call_list (knd := mixKind X.prog X.w) (ks := zs.map Sum.inr) (Z := fun i es => SetK X.prog X.w (allK ((zs.map Sum.inr).take i)) es ∧ es.size ≤ i) hh ⟨_, e, rfl, n, rfl⟩ (by rw [List.size_toArray, sb]; omega) (key rv) elm stp ini fun h' tk es keep g z => ?_
    rw [List.size_toArray] at z
    exact fin rv h' tk es keep g z.1
  · obtain ⟨_, its, rv, ob, e, hcl, n, hd⟩ := I.hok p _ hp
    have hl := rv.length
    rw [List.length_map] at hl
    refine Ss.call_tuple (knd := mixKind X.prog X.w) (ks := zs.map Sum.inr) (Z := fun i es => SetK X.prog X.w (allK ((zs.map Sum.inr).take i)) es ∧ es.size ≤ i) hh ⟨_, e, hcl, n, hd⟩ (by rw [List.size_toArray, sb]; omega) (key rv) elm stp ini fun h' tk es keep g z => ?_
    rw [List.size_toArray] at z
    exact fin rv h' tk es keep g z.1
/-- len of a set -/
inductive cLenS (P : Program) (w : World) (vs : List V) (H : Hp) (Q : VK) : Prop
  | mk (p : Addr) (ks : List Key) (e : vs = [.ref p]) (h : H p = some (SetH P w p ks)) (hz : ks.length < 1000) (q : Q (.int ks.length) H) : cLenS P w vs H Q
theorem call_lenS (P : Program) (w : World) (e1 : X.prog = P := by rfl) (e2 : X.w = w := by rfl) : CallR X (.builtin "len") (cLenS P w) := by
  subst e1 e2
  intro pins s σ H xs us Q I r h
  obtain ⟨p, ks, rfl, hp, hz, q⟩ := h
  obtain ⟨u, rfl, rx⟩ := vals1 r
  cases rx
  obtain ⟨⟨es, ⟨ep, t, ho, hf, _⟩, nd, el, pe, qe⟩, _, _⟩ := I.hok p _ hp
  have he : es.size = ks.length := by have := Paired.length qe; have := pe.length_eq; simp at *; omega
  refine call_len_set ho ⟨rfl, rfl, rfl⟩ rfl hf (by omega) ?_
  exact ⟨.int ks.length, H, I.tok _, ⟨_, by rw [he]⟩, q⟩
end
end L2
set_option Elab.async false
set_option linter.all false
set_option maxRecDepth 100000
/-! TEXTS over the hand layer: their methods, join, split, partition, int of a text. -/
namespace L2
open PySem PySem.Spec PyProof.Rows
theorem strs_of : ∀ {ts : List Str} {us : List Value}, Vals (ts.map V.str) us → ∃ l : List (Str × Tok), us = strValues l ∧ l.map (·.1) = ts
  | [], us, h => by
    cases h
    exact ⟨[], rfl, rfl⟩
  | x :: r, us, h => by
    cases h with
    | cons a b =>
      obtain ⟨t, rfl⟩ := a
      obtain ⟨l, rfl, e⟩ := strs_of b
      exact ⟨(x, t) :: l, rfl, by rw [List.map_cons, e]⟩
section
variable {X : Cx}
theorem mt_join : MtR X "str.join" (fun x xs H Q => ∃ sep D, ∃ ts : List Str, x = .str sep ∧ xs = [.ref D] ∧ SqL X.K H D (ts.map V.str) ∧ JoinOk sep ts = true ∧ Q (.str (Txt.join sep ts)) H) := by
  intro pins s σ H x xs v us Q I rx r h
  obtain ⟨sep, D, ts, e1, e2, hq, hok, q⟩ := h
  subst e1 e2
  obtain ⟨t, rfl⟩ := rx
  obtain ⟨u, rfl, ry⟩ := vals1 r
  cases ry
  obtain ⟨its, rv, p, hz⟩ := I.list hq
  obtain ⟨l, rfl, et⟩ := strs_of rv
  exact SC.join p.isList et hok fun t1 k => ⟨.str _, H, I.tok k, ⟨t1, rfl⟩, q⟩
end
end L2
set_option Elab.async false
set_option linter.all false
set_option maxRecDepth 100000
/-! the signs of a text, one by one; a statement that isn't come to -/
namespace L2
open PySem PySem.Spec PyProof.Rows
def Its (x : Str) : It := ⟨fun i _ => i < x.cps.size, fun i H v H' => H' = H ∧ ∃ c, x.cps.toList[i]? = some c ∧ v = .str ⟨#[c]⟩, fun i _ => x.cps.size ≤ i⟩
theorem turn_str {P : Program} {w : World} {K : PySem.W.Frag} {tg : Expr} (x : Str) (t : Tok) (it : Addr) : Turn P w K tg (Its x) [it] it (fun i h => h.IsStrIter it "str_ascii_iterator" x t i) where
  mem := by simp
  obj := fun i h st b hb => by
    have e : b = it := by simpa using hb
    subst e
    obtain ⟨o, e, c, d⟩ := st
    exact ⟨o, e, fun v z => by rw [d] at z; cases z⟩
  keep := fun i h h' st k => by
    obtain ⟨o, ho, r⟩ := st
    exact ⟨o, k it (by simp) o ho, r⟩
  item := by
    intro X hP hw hK hc i pins s σ H E I hf st hg
    subst hP hw hK
    have hi : i < x.cps.size := hg
    obtain ⟨f0, f1, f2, f3, f4, f5⟩ := hf it (by simp)
    refine wpAny_pyNext_ascii_item st (c := x.cps[i]) (by simp [hi]) fun h' st' sb => ?_
    have I1 : Inv X pins σ H { s with heap := h', toks := s.toks + 1 } := I.turned (t' := s.toks + 1) (fun b o hb e => (sb.2 b hb).trans e) f0 f1 f3 f4 f5
    obtain ⟨o, e, c, d⟩ := id st'
    exact ⟨_, rfl, go_of (s := { s with heap := h', toks := s.toks + 1 }) e c d (by decide) ⟨.str ⟨#[x.cps[i]]⟩, H, I1, ⟨_, rfl⟩, ⟨rfl, _, by simp [hi], rfl⟩, st', fun b hb => (hf b hb).1⟩⟩
  done := by
    intro X hP hw hK hc i pins s σ H E I hf st hg
    subst hP hw hK
    have hi : x.cps.size ≤ i := hg
    obtain ⟨f0, f1, f2, f3, f4, f5⟩ := hf it (by simp)
    exact wpAny_pyNext_ascii_end (I.ok.hd hc) st (by simp [hi]) fun h' eb => ⟨rfl, I.turned (t' := s.toks) (fun b o hb e => eb b o hb e) f0 f1 f3 f4 f5⟩
  self := fun _ _ _ _ _ st h => wpAny_pyIter_striter_ascii st h
section
variable {X : Cx} {tg : Expr}
def iStr (tl : TE) : TI := fun σ H R => tl σ H fun v H1 => ∃ x, v = .str x ∧ x.cps.all (· < 128) = true ∧ R (Its x) H1
theorem pi_str {l : Expr} {tl : TE} (hl : PE X l tl) : PI X tg l (iStr tl) := by
  intro pins s σ H R I h
  refine thn (hl pins s σ H _ I h) fun v s1 ⟨y, H1, I1, r1, q1⟩ => ?_
  obtain ⟨x, e, ha, q⟩ := q1
  subst e
  obtain ⟨t, rfl⟩ := r1
  refine wpAny_pyIter_ascii ha ?_
  refine ⟨s1.heap.objs.size, [s1.heap.objs.size], _, _, H1, rfl, I1.kept (t' := s1.toks) fun b o e => Heap.get?_push_of_some _ e, turn_str x t _, ⟨_, Heap.get?_push_size _ rfl, rfl, rfl⟩, fun b hb => ?_, q⟩
  have e : b = s1.heap.objs.size := by simpa using hb
  subst e
  exact I1.fpOk (Nat.le_refl _) (I1.hok.fresh (Nat.le_refl _))
end
end L2
set_option Elab.async false
set_option linter.all false
set_option maxRecDepth 100000
/-! things put one by one into order; words -/
namespace Srt
end Srt
namespace Ent
open PySem
/-! ### words -/
end Ent
set_option Elab.async false
set_option linter.all false
set_option maxRecDepth 100000
/-! numbers as texts, texts taken apart -/
namespace Ent
open PySem PySem.NumText
/-! ### taken apart -/
end Ent
set_option Elab.async false
set_option linter.all false
set_option maxRecDepth 100000
/-! a, b, c = a list; f-strings -/
namespace L2
open PySem PySem.Spec PyProof.Rows
section
variable {prog : Program} {w : World} {A : Around} {E : Value → Shared → Prop} {s : Shared}
end
section
variable {X : Cx} {pos : Pos}
/-! ### f-strings -/
end
end L2
set_option Elab.async false
set_option linter.all false
set_option maxRecDepth 100000
namespace L2
open PySem PySem.Spec PyProof.Rows
section
variable {X : Cx} {st : Stmt} {rest : List Stmt} {t u : TS} {e : Expr} {te : TE}
def tCut (t u : TS) : TS := fun D σ H => ∃ M : St → Hp → Prop, t { D with nx := M } σ H ∧ ∀ σ' H', M σ' H' → u D σ' H'
theorem pss_cut (h1 : PS X st t) (h2 : PSs X rest u) : PSs X (st :: rest) (tCut t u) := by
  refine ⟨?_⟩
  intro pins s σ H D I h
  obtain ⟨M, a, b⟩ := h
  refine wpAny_execs_cons (thn (h1 pins s σ H { D with nx := M } I a) fun f s1 q => ?_)
  cases f with
  | next =>
    obtain ⟨σ', H', I', q⟩ := q
    exact h2 pins s1 σ' H' D I' (b _ _ q)
  | ret v => exact q
  | brk => exact q
  | cont => exact q
end
end L2
set_option Elab.async false
set_option linter.all false
set_option maxRecDepth 100000
namespace L2
open PySem PySem.Spec PyProof.Rows
section
variable {X : Cx}
/-- o[i] of a list or a tuple -/
def rIxO : R2 := fun x y H Q => ∃ p o xs i v, x = .ref p ∧ y = .int i ∧ H p = some o ∧ Ob o xs ∧ atI xs i = some v ∧ Q v H
theorem ix_ob : IxR X rIxO := by
  intro value slice pins s σ H x y v u Q I rx ry h hs
  obtain ⟨p, o, xs, i, z, e1, e2, hp, ho, he, q⟩ := h
  exact ix_sq value slice pins s σ H x y v u Q I rx ry ⟨p, xs, i, z, e1, e2, ho.sq hp, he, q⟩ hs
/-- tuple(..) of a list or a tuple -/
theorem call_tup_ob : CallR X (.type "tuple") (fun xs H Q => ∃ a o ys, xs = [.ref a] ∧ H a = some o ∧ Ob o ys ∧ ∀ l H', Same H H' → H' l = some (.tup ys) → Q (.ref l) H') := by
  intro pins s σ H xs us Q I r h
  obtain ⟨a, o, ys, e1, ha, ho, q⟩ := h
  refine call_tuple_of pins s σ H xs us Q I r ⟨a, ys, e1, ?_⟩
  rcases ho with ho | ho
  · subst ho
    exact .inl ⟨.of ha, fun l hl => q l _ (Same.upd hl) upd_same⟩
  · subst ho
    exact .inr ⟨.of ha, q a H (Same.refl _) ha⟩
/-- len(..) of a list or a tuple -/
theorem call_len_ob : CallR X (.builtin "len") (fun xs H Q => ∃ a o ys, xs = [.ref a] ∧ H a = some o ∧ Ob o ys ∧ Q (.int ys.length) H) := by
  intro pins s σ H xs us Q I r h
  obtain ⟨a, o, ys, e1, ha, ho, q⟩ := h
  exact call_len_seq pins s σ H xs us Q I r ⟨a, ys, e1, ho.sq ha, q⟩
end
end L2
set_option Elab.async false
set_option linter.all false
set_option maxRecDepth 100000
/-! checks of sources that are sources -/
namespace L2
open PySem PySem.Spec PyProof.Rows
section
variable {X : Cx} {x : Str} {pos : Pos}
theorem pe_gs {z : Str} (h : ∃ t, X.mg x = some (.str z t)) (hg : Gl X x := by rfl) (hd : (x == ("__debug__" : Str)) = false := by decide) : PE X (.Name x pos) (tC (.str z)) := by
  obtain ⟨t, h⟩ := h
  exact pe_glob hg h ⟨t, rfl⟩ hd
end
end L2
namespace Pr
open PySem L2 PyProof.Rows
theorem line1 {n : Nat} (h : n ≤ 1000) : n ≤ sizeLine := by rw [sizeLine_eq]; omega
theorem iteB {c : Bool} {A B : Prop} (h1 : c = true → A) (h2 : c = false → B) : if c = true then A else B := by
  cases c with
  | true => rw [if_pos rfl]; exact h1 rfl
  | false => rw [if_neg Bool.false_ne_true]; exact h2 rfl
theorem iteC {c : Bool} {A B : Prop} (hc : c = true) (h : A) : if c = true then A else B := by rw [hc]; exact iteT h
theorem iteN {c : Bool} {A B : Prop} (hc : c = false) (h : B) : if c = true then A else B := by rw [hc]; exact iteF h
abbrev AZ : Str := (("abcdefghijklmnopqrstuvwxyz" : String) : Str)
/-- a source's name -/
structure Src (z : Str) : Prop where
  l : 1 ≤ z.cps.size
  h : z.cps.size ≤ 6
  c : ∀ c ∈ z.cps.toList, c < 128 ∧ c ∈ AZ.cps.toList
structure Srcs (zs : List Str) : Prop where
  l : 1 ≤ zs.length
  h : zs.length ≤ 6
  nd : zs.Nodup
  s : ∀ z ∈ zs, Src z
theorem nd_inr {zs : List Str} (h : zs.Nodup) : (zs.map Sum.inr : List Key).Nodup := List.Pairwise.map _ (fun _ _ hne e => hne (Sum.inr.inj e)) h
theorem Srcs.perm {zs ys : List Str} (h : Srcs zs) (p : ys.Perm zs) : Srcs ys := ⟨by rw [p.length_eq]; exact h.l, by rw [p.length_eq]; exact h.h, p.nodup_iff.mpr h.nd, fun z hz => h.s z (p.mem_iff.mp hz)⟩
section
variable {P : Program} {w : World} {K : PySem.W.Frag} {mg : Str → Option Value} {base : Heap} {C : Addr}
theorem kit_lst (K : PySem.W.Frag) : PySem.W.kitAny K (.type "list") [.type "list", .type "tuple"] = some true := by rfl
theorem kit_tup (K : PySem.W.Frag) : PySem.W.kitAny K (.type "tuple") [.type "list", .type "tuple"] = some true := by rfl
theorem kit_str1 (K : PySem.W.Frag) : PySem.W.kitOne K (.type "str") (.type "str") = some true := by rfl
theorem ob_ty {H : Hp} {p : Addr} {o : HO} {xs : List V} (h : H p = some o) (ob : Ob o xs) (K : PySem.W.Frag) : ∃ t, TyW H (.ref p) t ∧ PySem.W.kitAny K t [.type "list", .type "tuple"] = some true := by
  rcases ob with rfl | rfl
  · exact ⟨_, .s (.lst h), kit_lst K⟩
  · exact ⟨_, .s (.tup h), kit_tup K⟩
inductive sp_is_list (vs : List V) (H : Hp) (Q : VK) (E : XK) : Prop
  | mk (p : Addr) (o : HO) (xs : List V) (e : vs = [.ref p]) (h : H p = some o) (ob : Ob o xs) (q : ∀ H', Same H H' → Q (.bl true) H') : sp_is_list vs H Q E
theorem sc_is_list : FnScope ["value"] ["value"] (defScope s_is_list) := ⟨rfl, rfl, rfl, by decide +kernel, rfl, by decide +kernel, by decide +kernel⟩
theorem is_list (T : Txt K mg C) : Can P w K mg base 1 "is_list" ["value"] sp_is_list := by
  refine fn_can T.f_is_list sc_is_list (fun vs H Q E h => ?_) (fun f cdv A outer s H vs Q E hr h => ?_)
  · obtain ⟨p, o, xs, rfl, _⟩ := h
    rfl
  · obtain ⟨p, o, xs, rfl, hp, ob, q⟩ := h
    refine ⟨_, pss_one (ps_ret (pe_b (call_isiW2 K) T.b_isinstance boot_isinstance (pa2 (pv 0) (pe_tup (pa2 (pe_ty rfl T.b_list boot_list) (pe_ty rfl T.b_tuple boot_tuple)))))), ?_⟩
    refine ⟨_, rfl, line1 (by show 2 ≤ 1000; decide), fun u hu => ?_⟩
    obtain ⟨t, ty, hk⟩ := ob_ty (K := K) ((Same.upd (o := .tup [.ty "list", .ty "tuple"]) hu) _ _ hp) ob
    exact ⟨_, t, u, _, _, _, rfl, .of upd_same, ty, hk, q _ (Same.upd hu)⟩
inductive sp_is_list_from (vs : List V) (H : Hp) (Q : VK) (E : XK) : Prop
  | mk (p : Addr) (o : HO) (xs : List V) (a b : Int) (e : vs = [.ref p, .int a, .int b]) (h : H p = some o) (ob : Ob o xs) (h1 : a ≤ xs.length) (h2 : xs.length ≤ b) (q : ∀ H', Same H H' → Q (.bl true) H') : sp_is_list_from vs H Q E
theorem sc_is_list_from : FnScope ["value", "fewest", "most"] ["value", "fewest", "most"] (defScope s_is_list_from) := ⟨rfl, rfl, rfl, by decide +kernel, rfl, by decide +kernel, by decide +kernel⟩
theorem is_list_from (T : Txt K mg C) : Can P w K mg base 2 "is_list_from" ["value", "fewest", "most"] sp_is_list_from := by
  refine fn_can T.f_is_list_from sc_is_list_from (fun vs H Q E h => ?_) (fun f cdv A outer s H vs Q E hr h => ?_)
  · obtain ⟨p, o, xs, a, b, rfl, _⟩ := h
    rfl
  · obtain ⟨p, o, xs, a, b, rfl, hp, ob, h1, h2, q⟩ := h
    refine ⟨_, pss_one (ps_ret (pe_and (pe_can (is_list T) hr (pa1 (pv 0))) (pe_one (pe_chain op_le op_le (pv 1) (pe_b call_len_ob T.b_len boot_len (pa1 (pv 0))) (pv 2))))), ?_⟩
    refine ⟨_, rfl, p, o, xs, rfl, hp, ob, fun H1 s1 => ⟨_, rfl, iteT ?_⟩⟩
    refine ⟨_, rfl, _, rfl, p, o, xs, rfl, s1 _ _ hp, ob, _, _, rfl, rfl, _, rfl, iteC (decide_eq_true h1) ⟨_, rfl, _, _, rfl, rfl, ?_⟩⟩
    rw [decide_eq_true h2]
    exact q _ s1
inductive sp_is_word (vs : List V) (H : Hp) (Q : VK) (E : XK) : Prop
  | mk (k sg : Str) (m : Int) (e : vs = [.str k, .str sg, .int m]) (h1 : 1 ≤ k.cps.size) (h2 : (k.cps.size : Int) ≤ m) (hm : m ≤ 8) (h3 : ∀ c ∈ k.cps.toList, c < 128 ∧ c ∈ sg.cps.toList) (q : ∀ H', Same H H' → Q (.bl true) H') : sp_is_word vs H Q E
theorem sc_is_word : FnScope ["value", "signs", "most"] ["value", "signs", "most"] (defScope s_is_word) := ⟨rfl, rfl, rfl, by decide +kernel, rfl, by decide +kernel, by decide +kernel⟩
set_option maxHeartbeats 2000000 in
theorem is_word (T : Txt K mg C) : Can P w K mg base 1 "is_word" ["value", "signs", "most"] sp_is_word := by
  refine fn_can T.f_is_word sc_is_word (fun vs H Q E h => ?_) (fun f cdv A outer s H vs Q E hr h => ?_)
  · obtain ⟨k, sg, m, rfl, _⟩ := h
    rfl
  · obtain ⟨k, sg, m, rfl, h1, h2, hm, h3, q⟩ := h
    refine ⟨_, pss_one (ps_ret (pe_and (pe_b (call_isiW K) T.b_isinstance boot_isinstance (pa2 (pv 0) (pe_ty rfl T.b_str boot_str))) (pe_and (pe_chain op_le op_le pe_int (pe_b call_len_str T.b_len boot_len (pa1 (pv 0))) (pv 2)) (pe_one (pe_b (call_all_seqK K rfl) T.b_all boot_all (pa1 (pe_lc rfl (lcS sc_is_word) (pi_str (pv 0)) (fun _ _ _ _ => pts_nil) (fun _ _ _ _ => pe_cmpR op_in_str (pv 0) (pv 2) rfl)))))))), ?_⟩
    have hk : k.length = k.cps.size := rfl
    have hal : k.cps.all (· < 128) = true := by
      rw [← Array.all_toList, List.all_eq_true]
      exact fun c hc => decide_eq_true (h3 c hc).1
    refine ⟨_, rfl, _, _, _, _, rfl, .str k, kit_str1 _, _, rfl, iteT ?_⟩
    refine ⟨_, rfl, _, rfl, line1 (by omega), _, _, rfl, rfl, _, rfl, iteC (decide_eq_true (by omega)) ⟨_, rfl, _, _, rfl, rfl, _, rfl, iteC (decide_eq_true (by omega)) ⟨_, rfl, k, rfl, hal, fun D hD => ?_⟩⟩⟩
    refine lc_go (n := k.cps.size) (fun i ys H1 => H1 D = some (.lst ys) ∧ Same H H1 ∧ ys = (List.replicate i true).map V.bl) ⟨upd_same, Same.upd hD, rfl⟩ (fun i ys H1 h => h.1) (fun ys H1 h => ⟨Nat.le_refl _, ?_⟩) fun i ys H1 hi h => ⟨hi, fun x H' y => ?_⟩
    · obtain ⟨z1, z2, rfl⟩ := h
      refine ⟨D, _, rfl, .of z1, ?_⟩
      have e : (List.replicate k.cps.size true).all id = true := by simp
      rw [e]
      exact q _ z2
    · obtain ⟨z1, z2, rfl⟩ := h
      obtain ⟨e1, c, hc, e2⟩ := y
      subst e1 e2
      refine yesI ⟨_, rfl, _, rfl, _, _, rfl, rfl, ?_⟩
      have hf : (!(Builtin.Str.occurrences sg ⟨#[c]⟩ 0 sg.length 1).isEmpty) = true := by
        rw [StrLaws.found_one]
        exact decide_eq_true (h3 c (List.mem_of_getElem? hc)).2
      rw [hf]
      refine LcNx.mk hi (by omega) (by rw [List.length_map, List.length_replicate]; exact Nat.le_refl _) z1 ⟨upd_same, fun b o e => ?_, ?_⟩
      · rw [upd_ne (ne_of_none e hD)]; exact z2 _ _ e
      · rw [List.replicate_succ', List.map_append]
        rfl
inductive sp_is_source (vs : List V) (H : Hp) (Q : VK) (E : XK) : Prop
  | mk (k : Str) (e : vs = [.str k]) (h : Src k) (q : ∀ H', Same H H' → Q (.bl true) H') : sp_is_source vs H Q E
theorem sc_is_source : FnScope ["value"] ["value"] (defScope s_is_source) := ⟨rfl, rfl, rfl, by decide +kernel, rfl, by decide +kernel, by decide +kernel⟩
theorem is_source (T : Txt K mg C) : Can P w K mg base 2 "is_source" ["value"] sp_is_source := by
  refine fn_can T.f_is_source sc_is_source (fun vs H Q E h => ?_) (fun f cdv A outer s H vs Q E hr h => ?_)
  · obtain ⟨k, rfl, _⟩ := h
    rfl
  · obtain ⟨k, rfl, ok, q⟩ := h
    refine ⟨_, pss_one (ps_ret (pe_can (is_word T) hr (pa3 (pv 0) (pe_gs T.c_LETTERS) (pe_gi T.c_MOST_SOURCE_SIGNS)))), ?_⟩
    have := ok.h
    exact ⟨_, rfl, k, AZ, 6, rfl, ok.l, by omega, by decide, ok.c, q⟩
inductive sp_are_sources (vs : List V) (H : Hp) (Q : VK) (E : XK) : Prop
  | mk (p : Addr) (o : HO) (zs : List Str) (e : vs = [.ref p]) (h : H p = some o) (ob : Ob o (zs.map V.str)) (ok : Srcs zs) (q : ∀ H', Same H H' → Q (.bl true) H') : sp_are_sources vs H Q E
theorem sc_are_sources : FnScope ["value"] ["value"] (defScope s_are_sources) := ⟨rfl, rfl, rfl, by decide +kernel, rfl, by decide +kernel, by decide +kernel⟩
set_option maxHeartbeats 2000000 in
theorem are_sources (T : Txt K mg C) : Can P w K mg base 3 "are_sources" ["value"] sp_are_sources := by
  refine fn_can T.f_are_sources sc_are_sources (fun vs H Q E h => ?_) (fun f cdv A outer s H vs Q E hr h => ?_)
  · obtain ⟨p, o, zs, rfl, _⟩ := h
    rfl
  · obtain ⟨p, o, zs, rfl, hp, ob, ok, q⟩ := h
    refine ⟨_, (pss_cons (ps_if (PW.pt (pw_or (pt_not (pt_val (pe_can (is_list_from T) hr (pa3 (pv 0) pe_int (pe_gi T.c_MOST_SOURCES))))) (pw_or1 (pt_not (pt_val (pe_b (call_all_seqK K rfl) T.b_all boot_all (pa1 (pe_lc rfl (lcS sc_are_sources) (pi_seq (pv 0)) (fun _ _ _ _ => pts_nil) (fun _ _ _ _ => (pe_can (is_source T) hr (pa1 (pv 0))))))))))))
        (pss_one (ps_ret pe_bl)) pss_nil)
      (pss_one (ps_ret (pe_cmpR op_eq (pe_b (call_lenS P w) T.b_len boot_len (pa1 (pe_t (call_setT P w rfl) T.b_set boot_set (pa1 (pv 0))))) (pe_b call_len_ob T.b_len boot_len (pa1 (pv 0))) (nomark _))))), ?_⟩
    have h1 := ok.l
    have h6 := ok.h
    refine ⟨_, rfl, p, o, _, _, _, rfl, hp, ob, by rw [List.length_map]; omega, by rw [List.length_map]; omega, fun H1 s1 => ⟨_, rfl, iteF ?_⟩⟩
    refine ⟨_, rfl, p, o, _, rfl, s1 _ _ hp, ob, fun J hJ D hD => ?_⟩
    refine lc_it hJ (fun i ys H2 => H2 D = some (.lst ys) ∧ ys = (List.replicate i true).map V.bl ∧ Same H1 H2) ⟨upd_same, rfl, Same.upd hD⟩ (fun i ys H2 h => ⟨h.1, h.2.2 _ _ (s1 _ _ hp)⟩) (fun ys H2 h => ?_) fun i x ys H2 hi hx h => ?_
    · obtain ⟨d1, rfl, d3⟩ := h
      refine ⟨D, _, rfl, .of d1, _, rfl, ?_⟩
      have e : ∀ n, (List.replicate n true).all id = true := fun n => by simp
      rw [e]
      have s2 := s1.trans d3
      refine iteF ⟨_, rfl, p, o, zs, rfl, s2 _ _ hp, ob, by omega, fun S hS => ⟨S, _, rfl, upd_same, ?_, ?_⟩⟩
      · rw [allK_nodup (nd_inr ok.nd), List.length_map]; omega
      · refine ⟨_, rfl, p, o, _, rfl, (Same.upd hS) _ _ (s2 _ _ hp), ob, rfl, ?_⟩
        rw [allK_nodup (nd_inr ok.nd), List.length_map, List.length_map, decide_eq_true rfl]
        exact q _ (s2.trans (Same.upd hS))
    · obtain ⟨d1, rfl, d3⟩ := h
      rw [List.length_map] at hi
      rw [List.getElem?_map, List.getElem?_eq_getElem hi] at hx
      cases hx
      refine yesI ⟨_, rfl, _, rfl, ok.s _ (List.getElem_mem hi), fun H3 s3 => ?_⟩
      refine LcNx.mk (by rw [List.length_map]; exact hi) (by rw [List.length_map]; omega) (by rw [List.length_map, List.length_replicate]; exact Nat.le_refl _) (s3 _ _ d1) ⟨upd_same, by rw [List.replicate_succ', List.map_append]; rfl, fun b o e => ?_⟩
      rw [upd_ne (ne_of_none e hD)]
      exact s3 _ _ (d3 _ _ e)
end
end Pr
set_option Elab.async false
set_option linter.all false
set_option maxRecDepth 100000
/-! more: products of wide numbers, a <= b <= c <= d, slices of a list or a tuple -/
namespace L2
open PySem PySem.Spec PyProof.Rows
section
variable {X : Cx} {a b c d : Expr} {ta tb tc td : TE} {pos : Pos}
/-- list(x) of a list or a tuple -/
inductive cListO (vs : List V) (H : Hp) (Q : VK) : Prop
  | mk (a : Addr) (o : HO) (xs : List V) (e : vs = [.ref a]) (h : H a = some o) (ob : Ob o xs) (q : ∀ p, H p = none → Q (.ref p) (upd H p (.lst xs))) : cListO vs H Q
theorem call_list_ob : CallR X (.type "list") cListO := by
  intro pins s σ H xs us Q I r h
  obtain ⟨a, o, ys, rfl, ha, ob, q⟩ := h
  exact call_list_of pins s σ H _ us Q I r ⟨a, ys, rfl, ob.sq ha, q⟩
end
end L2
set_option Elab.async false
set_option linter.all false
set_option maxRecDepth 100000
/-! a dict whatever its keys are: iter, next, list(d) -/
namespace Dx
open PySem PySem.Spec PySem.W PySem.Calls PyProof.Rows
/-- a dict's entries -/
def DE (h : Heap) (d : Addr) (es : Array DictEntry) (ep : Nat) : Prop := ∃ o, h.get? d = some o ∧ o.ExactDict ∧ o.data = .dict es ep
theorem DE.ty {s : Shared} {d : Addr} {es : Array DictEntry} {ep : Nat} (x : DE s.heap d es ep) : s.TypeIs (.ref d) "dict" := by
  obtain ⟨o, e, r, _⟩ := x
  exact ⟨o, e, r.1⟩
section
variable {prog : Program} {w : World} {A : Around} {E : Value → Shared → Prop} {s : Shared} {d it : Addr} {es : Array DictEntry} {ep i : Nat}
theorem iter {Q : Value → Shared → Prop} (hd : (d == sysModules) = false) (hm : DE s.heap d es ep)
    (q : Q (.ref s.heap.objs.size) { s with heap := s.heap.push { cls := .type "dict_keyiterator", data := .fields #[.ref d, .int 0 0, .int es.size 0, .int ep 0] } }) : wpAny (model prog w) A (pyIter (.ref d)) Q E s := by
  have hT := hm.ty
  obtain ⟨o, ho, hc, hdat⟩ := hm
  refine wpAny_pyIter_slot hT PySem.F.slot_dict_iter (wpAny_call_entry PySem.F.slot_dict_iter hT PySem.F.entry_dict_iter ?_ (PySem.F.args_dict_iter_1 _))
  unfold Builtin.«dict.__iter__» Builtin.Dict.dictSlotNone
  refine wpAny_bind (wpAny_bind (wpAny_notOrdered_dict hT ?_))
  show wpAny _ _ (pure (Value.ref d)) _ _ s
  refine wpAny_pure ?_
  show wpAny _ _ (Builtin.Dict.showsAll d >>= _) _ _ s
  unfold Builtin.Dict.showsAll
  rw [if_neg (by rw [hd]; simp)]
  refine wpAny_bind (wpAny_pure (wpAny_bind (wpAny_dictEntries ho hdat (wpAny_bind (wpAny_dictEpoch ho hdat (wpAny_bind (wpAny_newObj_type (wpAny_pure ⟨_, rfl, "dict_keyiterator", _, ⟨_, Heap.get?_push_size _ rfl, rfl⟩, PySem.F.slot_dict_keyiterator_next.lookup, ?_⟩))))))))
  simpa [rawInt] using q
theorem next {e : DictEntry} {Q : Option Value → Shared → Prop} (hit : s.heap.IsKeyIter it d i es.size ep) (hm : DE s.heap d es ep) (hx : es[i]? = some e)
    (q : ∀ h', h'.IsKeyIter it d (i + 1) es.size ep → Heap.SameBut it s.heap h' → Q (some e.key) { s with heap := h' }) : wpAny (model prog w) A (pyNext (.ref it)) Q E s := by
  have hT := hit.typeIs
  obtain ⟨o, ho, hc, hd⟩ := hit
  obtain ⟨od, hod, hcd, hdd⟩ := hm
  have hown : Builtin.Dict_items.ownsTuple "dict_keyiterator" = false := by decide
  obtain ⟨hlt, he⟩ := Array.getElem?_eq_some_iff.mp hx
  unfold pyNext
  refine wpAny_bind (wpAny_attempt (wpAny_callSpecial?_slot (name := Str.ofString "__next__") hT PySem.F.slot_dict_keyiterator_next (wpAny_call_entry PySem.F.slot_dict_keyiterator_next hT PySem.F.entry_dict_keyiterator_next ?_ (PySem.F.args_dict_keyiterator_next_1 _))))
  refine wpAny_bind (wpAny_pure (wpAny_bind (wpAny_bind ?_)))
  first | refine wpAny_bind (wpAny_typeNameOfWhole_keyiter hT (wpAny_pure (wpAny_bind (wpAny_fieldsOf ho hd ?_)))) | refine wpAny_bind (wpAny_typeNameOf_keyiter hT (wpAny_pure (wpAny_bind (wpAny_fieldsOf ho hd ?_))))
  simp only [hown, Bool.false_eq_true, if_false]
  show wpAny _ _ (if (Value.ref d == Value.none) = true then _ else _) _ _ s
  rw [if_neg (show ¬ ((Value.ref d == Value.none) = true) by simp)]
  refine wpAny_bind (wpAny_pure (wpAny_bind (wpAny_dictEntries hod hdd ?_)))
  rw [if_neg (by simp)]
  refine wpAny_bind (wpAny_pure (wpAny_bind (wpAny_dictEpoch hod hdd ?_)))
  rw [if_neg (by simp)]
  refine wpAny_pure ?_
  simp only [show ¬ ((i : Int) < 0) by omega, if_false, Int.toNat_natCast, hx]
  refine wpAny_bind ?_
  first | refine wpAny_bind (wpAny_typeNameOfWhole_keyiter hT (wpAny_pure (wpAny_bind (wpAny_isOneOf_keyiter hT ?_)))) | refine wpAny_bind (wpAny_typeNameOf_keyiter hT (wpAny_pure (wpAny_bind (wpAny_isOneOf_keyiter hT ?_))))
  show wpAny _ _ (setField (.ref it) 1 (rawInt ((i : Int) + 1)) >>= _) _ _ s
  refine wpAny_bind (wpAny_setField ho hd (by simp) ?_)
  have hit' : (s.heap.update it (Obj.mapFields fun z => z.setIfInBounds 1 (rawInt ((i : Int) + 1)))).IsKeyIter it d (i + 1) es.size ep :=
    ⟨_, Heap.get?_update_self _ ho (Obj.isFreed_of_fields (Obj.data_mapFields hd _)), (Obj.cls_mapFields ..).trans hc, by rw [Obj.data_mapFields hd]; simp [rawInt]⟩
  refine wpAny_bind (wpAny_holding (wpAny_bind (wpAny_isOneOf_keyiter (s := { s with heap := s.heap.update it (Obj.mapFields fun z => z.setIfInBounds 1 (rawInt ((i : Int) + 1))) }) hit'.typeIs ?_)))
  show wpAny _ _ (pure e.key) _ _ _
  exact wpAny_pure (wpAny_pure ⟨_, rfl, wpAny_pure (q _ hit' (Heap.SameBut.update ..))⟩)
theorem stop {Q : Option Value → Shared → Prop} (hh : A.handled = none) (hge : es.size ≤ i) (hit : s.heap.IsKeyIter it d i es.size ep) (hm : DE s.heap d es ep)
    (q : ∀ h', Heap.ExtBut it s.heap h' → Q none { s with heap := h' }) : wpAny (model prog w) A (pyNext (.ref it)) Q E s := by
  have hT := hit.typeIs
  obtain ⟨o, ho, hc, hd⟩ := hit
  obtain ⟨od, hod, hcd, hdd⟩ := hm
  have hown : Builtin.Dict_items.ownsTuple "dict_keyiterator" = false := by decide
  unfold pyNext
  refine wpAny_bind (wpAny_attempt (wpAny_callSpecial?_slot (name := Str.ofString "__next__") hT PySem.F.slot_dict_keyiterator_next (wpAny_call_entry PySem.F.slot_dict_keyiterator_next hT PySem.F.entry_dict_keyiterator_next ?_ (PySem.F.args_dict_keyiterator_next_1 _))))
  refine wpAny_bind (wpAny_pure (wpAny_bind (wpAny_bind ?_)))
  first | refine wpAny_bind (wpAny_typeNameOfWhole_keyiter hT (wpAny_pure (wpAny_bind (wpAny_fieldsOf ho hd ?_)))) | refine wpAny_bind (wpAny_typeNameOf_keyiter hT (wpAny_pure (wpAny_bind (wpAny_fieldsOf ho hd ?_))))
  simp only [hown, Bool.false_eq_true, if_false]
  show wpAny _ _ (if (Value.ref d == Value.none) = true then _ else _) _ _ s
  rw [if_neg (show ¬ ((Value.ref d == Value.none) = true) by simp)]
  refine wpAny_bind (wpAny_pure (wpAny_bind (wpAny_dictEntries hod hdd ?_)))
  rw [if_neg (by simp)]
  refine wpAny_bind (wpAny_pure (wpAny_bind (wpAny_dictEpoch hod hdd ?_)))
  rw [if_neg (by simp)]
  refine wpAny_pure ?_
  simp only [show ¬ ((i : Int) < 0) by omega, if_false, Int.toNat_natCast, Array.getElem?_eq_none hge]
  refine wpAny_bind ?_
  first | refine wpAny_bind (wpAny_typeNameOfWhole_keyiter hT (wpAny_pure ?_)) | refine wpAny_bind (wpAny_typeNameOf_keyiter hT (wpAny_pure ?_))
  show wpAny _ _ (setField (.ref it) 0 .none >>= _) _ _ s
  refine wpAny_bind (wpAny_setField ho hd (by simp) ?_)
  show wpAny _ _ (newExc (.type "StopIteration") [] >>= _) _ _ _
  simp only [newExc, newTuple]
  refine wpAny_bind (wpAny_bind (wpAny_newObj_type (wpAny_bind (m := firstArgMember _ _) (wpAny_of_eq (a := Value.none) (by first | rfl | (simp only [firstArgMember]; rfl)) (wpAny_newObj_type ?_ (by size_fits)))) (by size_fits)))
  simp only [raiseNew]
  refine wpAny_bind (wpAny_handled ?_)
  rw [show A.in1.handled = none from hh]
  refine wpAny_bind (wpAny_pure (wpAny_throw ?thr))
  case thr => exact wpAny_bind (wpAny_isInstance (T := "StopIteration") (b := true) ⟨_, Heap.get?_push_size _ rfl, rfl⟩ isSubtype_stop (wpAny_pure (q _ (((Heap.SameBut.update ..).extBut.push _).push _))))
end
end Dx
set_option Elab.async false
set_option linter.all false
set_option maxRecDepth 100000
/-! del d[k], d.pop(k) of a dict with tuples for keys -/
namespace L2
open PySem PySem.Spec PyProof.Rows
theorem erase_filter {α β : Type} [DecidableEq α] (f : β → α) : ∀ {xs : List β} {j : Nat} {x : β}, (xs.map f).Nodup → xs[j]? = some x → xs.eraseIdx j = xs.filter fun y => decide (f y ≠ f x)
  | [], _, _, _, h => by cases h
  | y :: r, 0, x, hn, h => by
    cases h
    rw [List.map_cons, List.nodup_cons] at hn
    show r = _
    rw [List.filter_cons, if_neg (by simp)]
    refine (List.filter_eq_self.mpr fun z hz => ?_).symm
    refine decide_eq_true fun e => hn.1 ?_
    rw [← e]
    exact List.mem_map.mpr ⟨z, hz, rfl⟩
  | y :: r, j + 1, x, hn, h => by
    rw [List.map_cons, List.nodup_cons] at hn
    have h : r[j]? = some x := h
    have ne : f y ≠ f x := fun e => hn.1 (by rw [e]; exact List.mem_map.mpr ⟨x, List.mem_of_getElem? h, rfl⟩)
    show y :: r.eraseIdx j = _
    rw [List.filter_cons, if_pos (decide_eq_true ne), erase_filter f hn.2 h]
theorem erase_map {α β : Type} (f : α → β) : ∀ (xs : List α) (j : Nat), (xs.map f).eraseIdx j = (xs.eraseIdx j).map f
  | [], _ => rfl
  | _ :: _, 0 => rfl
  | x :: r, j + 1 => by
    show f x :: (r.map f).eraseIdx j = f x :: (r.eraseIdx j).map f
    rw [erase_map f r j]
theorem takeOut_heap {prog : Program} {w : World} {K : Type} [DecidableEq K] {knd : HeapKind prog w K} {A : Around} {E : Value → Shared → Prop} {s : Shared} {d a : Addr} {xs : List (K × Addr × Value)} {k : K} {p : Addr × Value} {Q : Option DictEntry → Shared → Prop} (hu : knd.room A) (hkey : knd.is s.heap k a) (hm : s.heap.DictOfH knd d xs) (hp : atKey xs k = some p) (hsz : xs.length ≤ sizeLine)
    (h : ∀ h', h'.DictOfH knd d (xs.filter fun y => decide (y.1 ≠ k)) → Heap.SameBut d s.heap h' → Q (some (entryOfKey knd (k, p))) { s with heap := h', toks := s.toks + knd.draws k }) : wpAny (model prog w) A (Builtin.Dict.takeOut d (.ref a)) Q E s := by
  obtain ⟨o, es, ep, ho, hc, hd, he, his, hn⟩ := hm
  unfold Builtin.Dict.takeOut
  try with_reducible refine wpAny_holding ?_
  refine wpAny_bind (knd.pyHash hu hkey (wpAny_bind (wpAny_dictFind_heap (s := { s with toks := s.toks + knd.draws k }) hu hkey ho hd he his hn (fun hno => ?_) fun j q hj => ?_)))
  · rw [atKey_none_of_get hno] at hp; cases hp
  · have eq : q = p := by rw [atKey_of_get hn hj] at hp; exact Option.some.inj hp
    subst eq
    refine wpAny_bind (wpAny_dictEntries (s := { s with toks := s.toks + knd.draws k }) ho hd ?_)
    rw [entry_at he j, hj]
    have hfil : xs.eraseIdx j = xs.filter fun y => decide (y.1 ≠ k) := erase_filter (fun y : K × Addr × Value => y.1) hn hj
    refine wpAny_bind (wpAny_updateDictKeys (hz := by have e := size_of_entries he; omega) (s := { s with toks := s.toks + knd.draws k }) ho hd (wpAny_pure (h _ ⟨_, _, ep + 1, Heap.get?_update_self _ ho (Obj.isFreed_of_dict (Obj.data_mapDictKeys hd _)), hc.mapDictKeys _, Obj.data_mapDictKeys hd _, ?_, fun x hx => ?_, ?_⟩ (Heap.SameBut.update ..))))
    · obtain ⟨l⟩ := es
      rw [← hfil]
      simp only [List.eraseIdxIfInBounds_toArray] at he ⊢
      rw [he, erase_map]
    · exact knd.keeps (his x (List.mem_filter.mp hx).1) ho hd (Heap.SameBut.update ..)
    · exact (List.Sublist.map _ List.filter_sublist).nodup hn
theorem KT.drop {H : Hp} {kvs : List (List Key × V)} {xs : List (List Key × Addr × Value)} (r : KT H kvs xs) (k : List Key) : KT H (dropK kvs k) (xs.filter fun y => decide (y.1 ≠ k)) := by
  unfold dropK
  induction r with
  | nil => exact .nil
  | @cons p q ps qs h t ih =>
    rw [List.filter_cons, List.filter_cons]
    by_cases e : p.1 = k
    · rw [if_neg (by simp [e]), if_neg (by simp [← h.1, e])]; exact ih
    · rw [if_pos (by simp [e]), if_pos (by simp [← h.1, e])]; exact .cons h ih
section
variable {X : Cx} {pins : List (Addr × Obj)} {σ : St} {H : Hp} {s : Shared} {a b : Addr} {kvs : List (List Key × V)} {k : List Key} {A : Around} {E : Value → Shared → Prop}
theorem dt_new {P : Program} {w : World} {h' : Heap} {xs : List (List Key × Addr × Value)} (z : kvs.length ≤ sizeLine) (hd : (a == sysModules) = false) (rel : KT H kvs xs) (dd : h'.DictOfH (tupleKind (mixKind P w)) a xs) : ObjOk P w H h' a (.dT kvs) := by
  obtain ⟨o, es, ep, h1, h2, h3, h4, h5, h6⟩ := dd
  exact ⟨z, hd, xs, rel, o, es, ep, h1, h2, h3, h4, h6⟩
theorem d_delT {Q : Unit → Shared → Prop} (hu : A.units + 1 < cLine) (I : Inv X pins σ H s) (e : H a = some (.dT kvs)) (eb : H b = some (.tup (k.map kV))) (l : (valV kvs k).isSome = true) (h : ∀ s', Inv X pins σ (upd H a (.dT (dropK kvs k))) s' → Q () s') : wpAny (model X.prog X.w) A (delItem (.ref a) (.ref b)) Q E s := by
  obtain ⟨z, hd, xs, rel, dd⟩ := dt_of I.hok e
  have hx : ((atKey xs k).map (·.2)).isSome = true := by rw [← (rel.val k).isSome_eq]; exact l
  obtain ⟨p, hp⟩ : ∃ p, atKey xs k = some p := by
    cases q : atKey xs k with
    | none => rw [q] at hx; cases hx
    | some p => exact ⟨p, rfl⟩
  have hl : xs.length ≤ sizeLine := by rw [← Paired.length rel]; exact z
  refine wpAny_delItem_slot dd.typeIs (by decide) PySem.F.slot_dict_delitem (wpAny_call_entry PySem.F.slot_dict_delitem dd.typeIs PySem.F.entry_dict_delitem ?_ (PySem.F.args_dict_delitem_2 _ _))
  unfold Builtin.«dict.__delitem__»
  refine wpAny_bind ?_
  unfold Builtin.Dict.dictSlotArgs
  refine wpAny_bind (wpAny_notOrdered_dict dd.typeIs ?_)
  show wpAny _ _ (pure (Value.ref a, Value.ref b)) _ _ s
  refine wpAny_pure ?_
  show wpAny _ _ (Builtin.Dict.takeOut a (.ref b) >>= _) _ _ s
  refine wpAny_bind (takeOut_heap (tupleKind_room_in1 hu) (key_of I.hok eb) dd hp hl fun h' dd' hs => wpAny_bind (wpAny_letGo (wpAny_pure ⟨.none, rfl, h _ ?_⟩)))
  have he : ∃ q, h'.get? a = some q := let ⟨q, _, _, hq, _⟩ := dd'; ⟨q, hq⟩
  have nab : b ≠ a := fun z => by rw [z, e] at eb; cases eb
  exact d_write I (by rw [e]; exact True.intro) hs he (dt_new (Nat.le_trans (dropK_le kvs k) z) hd ((rel.drop k).keeps fun c ys q => by rw [upd_ne (fun z => by rw [z, e] at q; cases q)]; exact q) dd')
end
section
variable {X : Cx} {o i : Expr} {td ty : TE} {pos tpos : Pos}
/-- del d[k], k a tuple -/
inductive sDelT (td ty : TE) (D : Ends) (σ : St) (H : Hp) : Prop
  | mk (h : td σ H fun x H1 => ty σ H1 fun y H2 => ∃ a b kvs k, x = .ref a ∧ y = .ref b ∧ H2 a = some (.dT kvs) ∧ H2 b = some (.tup (k.map kV)) ∧ (valV kvs k).isSome = true ∧ D.nx σ (upd H2 a (.dT (dropK kvs k)))) : sDelT td ty D σ H
theorem ps_delT (hu : X.A.units + 1 < cLine) (ho : PE X o td) (hi : PE X i ty) : PS X (.Delete [.Subscript o i tpos] pos) (sDelT td ty) := by
  refine ⟨?_⟩
  intro pins s σ H D I h
  obtain ⟨h⟩ := h
  refine wpAny_Delete (wpAny_deleteEach_cons (wpAny_delete_Subscript (thn (ho pins s σ H _ I h) fun u s1 ⟨x, H1, I1, rx, q1⟩ => thn (hi pins s1 σ H1 _ I1 q1) fun iv s2 ⟨y, H2, I2, ry, a, b, kvs, k, ex, ey, e, eb, l, q2⟩ => ?_)))
  subst ex ey
  obtain rfl : u = Value.ref a := rx
  obtain rfl : iv = Value.ref b := ry
  exact d_delT hu I2 e eb l fun s3 I3 => wpAny_deleteEach_nil ⟨σ, _, I3, q2⟩
end
end L2
set_option Elab.async false
set_option linter.all false
set_option maxRecDepth 100000
/-! a book in a heap: what is told by pairs (source, key) -/
namespace Pr
open PySem L2 PyProof.Rows
abbrev TM := List ((Str × Str) × (Int × Int))
abbrev tk (p : Str × Str) : List Key := [.inr p.1, .inr p.2]
theorem tk_inj {p q : Str × Str} (h : tk p = tk q) : p = q := by
  have h1 := (List.cons.inj h).1
  have h2 := (List.cons.inj (List.cons.inj h).2).1
  exact Prod.ext (Sum.inr.inj h1) (Sum.inr.inj h2)
def pairV (H : Hp) (v : V) (x : Int × Int) : Prop := ∃ t, v = .ref t ∧ H t = some (.tup [.int x.1, .int x.2])
abbrev ToldR (H : Hp) : List (List Key × V) → TM → Prop := Paired fun p q => p.1 = tk q.1 ∧ pairV H p.2 q.2
def look (m : TM) (p : Str × Str) : Option (Int × Int) := (m.find? fun q => decide (q.1 = p)).map (·.2)
def putM (m : TM) (p : Str × Str) (x : Int × Int) : TM := if (m.any fun q => decide (q.1 = p)) = true then m.map (fun q => if q.1 = p then (q.1, x) else q) else m ++ [(p, x)]
def dropM (m : TM) (p : Str × Str) : TM := m.filter fun q => decide (q.1 ≠ p)
theorem pairV.same {H H' : Hp} (s : ∀ b ys, H b = some (.tup ys) → H' b = some (.tup ys)) {v : V} {x : Int × Int} (h : pairV H v x) : pairV H' v x := by
  obtain ⟨t, e, h⟩ := h
  exact ⟨t, e, s _ _ h⟩
theorem ToldR.same {H H' : Hp} (s : ∀ b ys, H b = some (.tup ys) → H' b = some (.tup ys)) {kvs : List (List Key × V)} {m : TM} (h : ToldR H kvs m) : ToldR H' kvs m := Paired.mapP h fun _ _ ⟨a, b⟩ => ⟨a, b.same s⟩
theorem ToldR.val {H : Hp} {p : Str × Str} : ∀ {kvs : List (List Key × V)} {m : TM}, ToldR H kvs m → (look m p = none ∧ valV kvs (tk p) = none) ∨ ∃ v x, look m p = some x ∧ valV kvs (tk p) = some v ∧ pairV H v x
  | _, _, .nil => .inl ⟨rfl, rfl⟩
  | _, _, .cons (a := a) (b := b) ⟨h1, h2⟩ t => by
    by_cases e : b.1 = p
    · refine .inr ⟨a.2, b.2, ?_, valV_pos (by rw [h1, e]), h2⟩
      unfold look
      rw [List.find?_cons, decide_eq_true e]
      rfl
    · have ih := ToldR.val (p := p) t
      have el : ∀ r, look (b :: r) p = look r p := fun r => by
        unfold look
        rw [List.find?_cons, decide_eq_false e]
      rw [el, valV_neg (by rw [h1]; exact fun z => e (tk_inj z))]
      exact ih
theorem ToldR.anyE {H : Hp} {p : Str × Str} : ∀ {kvs : List (List Key × V)} {m : TM}, ToldR H kvs m → (kvs.any fun kv => decide (kv.1 = tk p)) = m.any fun q => decide (q.1 = p)
  | _, _, .nil => rfl
  | _, _, .cons (a := a) (b := b) ⟨h1, h2⟩ t => by
    rw [List.any_cons, List.any_cons, ToldR.anyE t, h1]
    congr 1
    by_cases e : b.1 = p
    · rw [e, decide_eq_true rfl, decide_eq_true rfl]
    · rw [decide_eq_false e, decide_eq_false fun z => e (tk_inj z)]
theorem ToldR.repl {H : Hp} {p : Str × Str} {v : V} {x : Int × Int} (hv : pairV H v x) : ∀ {kvs : List (List Key × V)} {m : TM}, ToldR H kvs m → ToldR H (kvs.map fun kv => if kv.1 = tk p then (kv.1, v) else kv) (m.map fun q => if q.1 = p then (q.1, x) else q)
  | _, _, .nil => .nil
  | _, _, .cons (a := a) (b := b) ⟨h1, h2⟩ t => by
    rw [List.map_cons, List.map_cons]
    refine .cons ?_ (ToldR.repl hv t)
    by_cases e : b.1 = p
    · rw [if_pos e, if_pos (by rw [h1, e])]
      exact ⟨h1, hv⟩
    · rw [if_neg e, if_neg fun z => e (tk_inj (by rw [← h1]; exact z))]
      exact ⟨h1, h2⟩
theorem ToldR.put {H : Hp} {p : Str × Str} {v : V} {x : Int × Int} (hv : pairV H v x) {kvs : List (List Key × V)} {m : TM} (h : ToldR H kvs m) : ToldR H (putK kvs (tk p) v) (putM m p x) := by
  unfold putK putM
  rw [ToldR.anyE h]
  split
  · exact ToldR.repl hv h
  · exact Paired.app h (.cons ⟨rfl, hv⟩ .nil)
theorem ToldR.drop {H : Hp} {p : Str × Str} : ∀ {kvs : List (List Key × V)} {m : TM}, ToldR H kvs m → ToldR H (dropK kvs (tk p)) (dropM m p)
  | _, _, .nil => .nil
  | _, _, .cons (a := a) (b := b) ⟨h1, h2⟩ t => by
    have ih := ToldR.drop (p := p) t
    unfold dropK dropM at ih ⊢
    rw [List.filter_cons, List.filter_cons]
    by_cases e : b.1 = p
    · rw [if_neg (by rw [h1, e]; simp), if_neg (by rw [e]; simp)]
      exact ih
    · rw [if_pos (decide_eq_true (by rw [h1]; exact fun z => e (tk_inj z))), if_pos (decide_eq_true e)]
      exact .cons ⟨h1, h2⟩ ih
/-- a book: its object at b, what is told at d -/
inductive BookAt (C : Addr) (H : Hp) (b d : Addr) (os : List Str) (m : TM) : Prop
  | mk (dx f : Addr) (kvs : List (List Key × V)) (hb : H b = some (.ins C dx [("best_first", .ref f), ("told", .ref d)])) (hf : H f = some (.tup (os.map V.str))) (hd : H d = some (.dT kvs)) (r : ToldR H kvs m) : BookAt C H b d os m
theorem BookAt.same {C : Addr} {H H' : Hp} {b d : Addr} {os : List Str} {m : TM} (h : BookAt C H b d os m) (s : Same H H') : BookAt C H' b d os m := by
  obtain ⟨dx, f, kvs, hb, hf, hd, r⟩ := h
  exact ⟨dx, f, kvs, s _ _ hb, s _ _ hf, s _ _ hd, r.same fun b ys e => s _ _ e⟩
/-- what is told of a key, the best source first -/
def tellsM (os : List Str) (m : TM) (k : Str) : List (Str × Int × Int) := os.filterMap fun s => (look m (s, k)).map fun x => (s, x.1, x.2)
def RowT (H : Hp) (x : V) (r : Str × Int × Int) : Prop := ∃ a, x = .ref a ∧ H a = some (.tup [.str r.1, .int r.2.1, .int r.2.2])
theorem RowT.same {H H' : Hp} (s : Same H H') {x : V} {r : Str × Int × Int} (h : RowT H x r) : RowT H' x r := by
  obtain ⟨a, e, h⟩ := h
  exact ⟨a, e, s _ _ h⟩
section
variable {P : Program} {w : World} {K : PySem.W.Frag} {mg : Str → Option Value} {base : Heap} {C : Addr}
inductive sp_order (C : Addr) (vs : List V) (H : Hp) (Q : VK) (E : XK) : Prop
  | mk (b d : Addr) (os : List Str) (m : TM) (e : vs = [.ref b]) (h : BookAt C H b d os m) (q : ∀ D, H D = none → Q (.ref D) (upd H D (.lst (os.map V.str)))) : sp_order C vs H Q E
theorem sc_order : FnScope ["self"] ["self"] (defScope sm_order) := ⟨rfl, rfl, rfl, by decide +kernel, rfl, by decide +kernel, by decide +kernel⟩
theorem order (T : Txt K mg C) : CanM P w K mg base C 1 "order" ["self"] (sp_order C) := by
  refine fm_can T.m_order sc_order (fun vs H Q E h => ?_) (fun f cdv A outer s H vs Q E hr h => ?_)
  · obtain ⟨b, d, os, m, rfl, _⟩ := h
    rfl
  · obtain ⟨b, d, os, m, rfl, ⟨dx, f, kvs, hb, hf, hd, r⟩, q⟩ := h
    refine ⟨_, pss_one (ps_ret (pe_t call_list_ob T.b_list boot_list (pa1 (pe_fldK K (pv 0) rfl)))), ?_⟩
    exact ⟨_, rfl, b, C, dx, _, _, rfl, hb, T.cl, T.n_best_first, rfl, f, _, _, rfl, hf, .inr rfl, fun D hD => q D hD⟩
inductive sp_put (C : Addr) (vs : List V) (H : Hp) (Q : VK) (E : XK) : Prop
  | mk (b d : Addr) (os : List Str) (m : TM) (s k : Str) (x y : Int) (e : vs = [.ref b, .str s, .str k, .int x, .int y]) (h : BookAt C H b d os m) (hm : m.length < 1000) (q : ∀ H', But d H H' → BookAt C H' b d os (putM m (s, k) (x, y)) → Q .non H') : sp_put C vs H Q E
theorem sc_put : FnScope ["self", "source", "key", "moment", "value"] ["self", "source", "key", "moment", "value"] (defScope sm_put) := ⟨rfl, rfl, rfl, by decide +kernel, rfl, by decide +kernel, by decide +kernel⟩
theorem put (T : Txt K mg C) : CanM P w K mg base C 1 "put" ["self", "source", "key", "moment", "value"] (sp_put C) := by
  refine fm_can T.m_put sc_put (fun vs H Q E h => ?_) (fun f cdv A outer s H vs Q E hr h => ?_)
  · obtain ⟨b, d, os, m, s, k, x, y, rfl, _⟩ := h
    rfl
  · obtain ⟨b, d, os, m, s, k, x, y, rfl, ⟨dx, f, kvs, hb, hf, hd, r⟩, hm, q⟩ := h
    refine ⟨_, pss_one (ps_dput (hu_of hr) (pe_fldK K (pv 0) rfl) (pe_tup (pa2 (pv 1) (pv 2))) (pe_tup (pa2 (pv 3) (pv 4))) rfl), ?_⟩
    refine ⟨_, rfl, _, rfl, line1 (by show 2 ≤ 1000; decide), fun t ht => ?_⟩
    have s1 : Same H (upd H t (.tup [.int x, .int y])) := Same.upd ht
    refine ⟨_, rfl, b, C, dx, _, _, rfl, s1 _ _ hb, T.cl, T.n_told, rfl, _, rfl, _, rfl, line1 (by show 2 ≤ 1000; decide), fun u hu => ?_⟩
    have s2 : Same (upd H t (.tup [.int x, .int y])) (upd (upd H t (.tup [.int x, .int y])) u (.tup [.str s, .str k])) := Same.upd hu
    have s3 := s1.trans s2
    have hl : kvs.length = m.length := Paired.length r
    refine ⟨d, _, rfl, DPut.t (k := tk (s, k)) (s3 _ _ hd) upd_same (by rw [sizeLine_eq]; omega), ?_⟩
    have nt : ∀ a ys, (upd (upd H t (.tup [.int x, .int y])) u (.tup [.str s, .str k])) a = some (.tup ys) → a ≠ d := fun a ys e z => by rw [z, s3 _ _ hd] at e; cases e
    have nb : b ≠ d := fun z => by rw [z, hd] at hb; cases hb
    refine q _ (fun a o e n => by rw [upd_ne n]; exact s3 _ _ e) ⟨dx, f, _, by rw [upd_ne nb]; exact s3 _ _ hb, by rw [upd_ne (nt _ _ (s3 _ _ hf))]; exact s3 _ _ hf, upd_same, ?_⟩
    refine ToldR.put ⟨t, rfl, ?_⟩ (r.same fun a ys e => ?_)
    · have e := s2 _ _ (upd_same (H := H) (a := t) (o := .tup [.int x, .int y]))
      rw [upd_ne (nt _ _ e)]; exact e
    · have e' := s3 _ _ e
      rw [upd_ne (nt _ _ e')]; exact e'
theorem sc_take : FnScope ["self", "source", "key", "pair"] ["self", "source", "key"] (defScope sm_take) := ⟨rfl, rfl, rfl, by decide +kernel, rfl, by decide +kernel, by decide +kernel⟩
end
end Pr
set_option Elab.async false
set_option linter.all false
set_option maxRecDepth 100000
/-! what is told of a key, what is counted -/
namespace L2
open PySem PySem.Spec PyProof.Rows
theorem op_catTK {X : Cx} (K : PySem.W.Frag) (e : X.K = K := by rfl) : OpR X (binaryOp .Add) (rCatT K) := by subst e; exact op_catT
end L2
namespace Pr
open PySem L2 PyProof.Rows
/-- those that tell the key -/
def telling (os : List Str) (m : TM) (k : Str) : List Str := os.filter fun s => (look m (s, k)).isSome
theorem telling_snoc (os : List Str) (s : Str) (m : TM) (k : Str) : telling (os ++ [s]) m k = telling os m k ++ (if (look m (s, k)).isSome = true then [s] else []) := by
  unfold telling
  rw [List.filter_append, List.filter_cons]
  rfl
theorem telling_len (os : List Str) (m : TM) (k : Str) : (telling os m k).length ≤ os.length := List.length_filter_le _ _
theorem tellsM_eq (m : TM) (k : Str) : ∀ os : List Str, tellsM os m k = (telling os m k).filterMap fun s => (look m (s, k)).map fun x => (s, x.1, x.2)
  | [] => rfl
  | s :: r => by
    unfold tellsM telling
    rw [List.filterMap_cons, List.filter_cons]
    cases e : look m (s, k) with
    | none =>
      rw [if_neg (by simp)]
      exact tellsM_eq m k r
    | some x =>
      rw [if_pos (show (some x).isSome = true from rfl), List.filterMap_cons, e]
      exact congrArg _ (tellsM_eq m k r)
theorem same_none {H H' : Hp} {D : Addr} (s : Same H H') (h : H' D = none) : H D = none := by
  cases e : H D with
  | none => rfl
  | some o => rw [s _ _ e] at h; cases h
theorem Same.but_ne'' {H H' : Hp} {D : Addr} {o : HO} (s : Same H H') (h : H D = none) : Same H (L2.upd H' D o) := fun b u e => by
  rw [L2.upd_ne (ne_of_none e h)]
  exact s _ _ e
section
variable {P : Program} {w : World} {K : PySem.W.Frag} {mg : Str → Option Value} {base : Heap} {C : Addr}
inductive sp_tells (C : Addr) (vs : List V) (H : Hp) (Q : VK) (E : XK) : Prop
  | mk (b d : Addr) (os : List Str) (m : TM) (k : Str) (e : vs = [.ref b, .str k]) (h : BookAt C H b d os m) (hl : os.length ≤ 6)
      (q : ∀ D ys H', Same H H' → H D = none → H' D = some (.lst ys) → Paired (RowT H') ys (tellsM os m k) → Q (.ref D) H') : sp_tells C vs H Q E
theorem sc_tells : FnScope ["self", "key", "telling"] ["self", "key"] (defScope sm_tells) := ⟨rfl, rfl, rfl, by decide +kernel, rfl, by decide +kernel, by decide +kernel⟩
set_option maxHeartbeats 4000000 in
theorem tells (T : Txt K mg C) : CanM P w K mg base C 1 "tells" ["self", "key"] (sp_tells C) := by
  refine fm_can T.m_tells sc_tells (fun vs H Q E h => ?_) (fun f cdv A outer s H vs Q E hr h => ?_)
  · obtain ⟨b, d, os, m, k, rfl, _⟩ := h
    rfl
  · obtain ⟨b, d, os, m, k, rfl, hB, hl, q⟩ := h
    refine ⟨_, pss_cons (ps_setLC (i := 2) rfl rfl rfl (lcS sc_tells) (pi_seq (pe_fldK K (pv 0) rfl)) (fun _ _ _ _ => pts_one (pt_cmp (pc_din (hu_of hr) (pe_tup (pa2 (pv 0) (pv 2))) (pe_fldK K (pv 1) rfl)))) (fun _ _ _ _ => pv 0))
      (pss_one (ps_ret (pe_lc rfl (lcS sc_tells) (pi_listK K (pv 2)) (fun _ _ _ _ => pts_nil) (fun _ _ _ _ => pe_op (op_catTK K) (pe_tup (pa1 (pv 0))) (pe_dget (hu_of hr) (pe_fldK K (pv 1) rfl) (pe_tup (pa2 (pv 0) (pv 2))) (fun _ _ => rfl)))))), ?_⟩
    obtain ⟨dx, f, kvs, hb, hf, hd, r⟩ := id hB
    refine ⟨_, rfl, b, C, dx, _, _, rfl, hb, T.cl, T.n_best_first, rfl, f, _, _, rfl, hf, .inr rfl, fun J hJ D hD => ?_⟩
    refine lc_it hJ (fun i ys H1 => H1 D = some (.lst ys) ∧ ys = (telling (os.take i) m k).map V.str ∧ Same H H1) ⟨upd_same, rfl, Same.upd hD⟩ (fun i ys H1 h => ⟨h.1, h.2.2 _ _ hf⟩) (fun ys H1 h => ?fin) fun i x ys H1 hi hx h => ?turn
    case turn =>
      obtain ⟨d1, rfl, d3⟩ := h
      rw [List.length_map] at hi
      rw [List.getElem?_map, List.getElem?_eq_getElem hi] at hx
      cases hx
      refine ⟨_, rfl, _, rfl, line1 (by show 2 ≤ 1000; decide), fun u hu => ?_⟩
      have s1 : Same H1 (upd H1 u (.tup [.str os[i], .str k])) := Same.upd hu
      have s2 := d3.trans s1
      refine ⟨_, rfl, b, C, dx, _, _, rfl, s2 _ _ hb, T.cl, T.n_told, rfl, d, _, rfl, DGet.t (k := tk (os[i], k)) (s2 _ _ hd) upd_same, _, rfl, ?_⟩
      have tn : telling (os.take (i + 1)) m k = telling (os.take i) m k ++ (if (look m (os[i], k)).isSome = true then [os[i]] else []) := by
        rw [List.take_add_one, List.getElem?_eq_getElem hi]
        exact telling_snoc _ _ _ _
      have tl := telling_len (os.take i) m k
      rw [List.length_take] at tl
      rcases r.val (p := (os[i], k)) with ⟨z1, z2⟩ | ⟨v, x, z1, z2, _⟩
      · rw [z2]
        refine iteF (LcNo.mk (by rw [List.length_map]; exact hi) ⟨s1 _ _ d1, ?_, s2⟩)
        rw [tn, z1, if_neg (by simp), List.append_nil]
      · rw [z2]
        refine iteT ⟨_, rfl, LcNx.mk (by rw [List.length_map]; exact hi) (by rw [List.length_map]; omega) (by rw [List.length_map]; omega) (s1 _ _ d1) ⟨upd_same, ?_, Same.but_ne'' s2 hD⟩⟩
        rw [tn, z1, if_pos (show (some x).isSome = true from rfl), List.map_append]
        rfl
    obtain ⟨d1, rfl, d3⟩ := h
    rw [List.length_map, List.take_of_length_le (Nat.le_refl _)] at d1
    have hD' := d1
    refine ⟨_, rfl, D, rfl, ⟨_, .of d1⟩, fun G hG => ?_⟩
    have tl := telling_len os m k
    refine lc_list (xs := (telling os m k).map V.str) (fun i ys H2 => H2 G = some (.lst ys) ∧ ys.length = i ∧ Same H1 H2 ∧ Paired (RowT H2) ys (((telling os m k).take i).filterMap fun s => (look m (s, k)).map fun x => (s, x.1, x.2))) ⟨upd_same, rfl, Same.upd hG, .nil⟩ (fun i ys H2 h => ⟨h.1, .of (h.2.2.1 _ _ d1)⟩) (fun ys H2 h => ?fin2) fun i x ys H2 hi hx h => ?turn2
    case turn2 =>
      obtain ⟨g1, g2, g3, g4⟩ := h
      rw [List.length_map] at hi
      rw [List.getElem?_map, List.getElem?_eq_getElem hi] at hx
      cases hx
      have hm : (look m ((telling os m k)[i], k)).isSome = true := (List.mem_filter.mp (List.getElem_mem hi)).2
      have s02 := d3.trans g3
      rcases r.val (p := ((telling os m k)[i], k)) with ⟨z1, _⟩ | ⟨v, x, z1, z2, t, rfl, ht⟩
      · rw [z1] at hm; cases hm
      refine yesI ⟨_, rfl, line1 (by show 1 ≤ 1000; decide), fun u hu => ?_⟩
      have s1 : Same H2 (upd H2 u (.tup [.str (telling os m k)[i]])) := Same.upd hu
      have s3 := s02.trans s1
      refine ⟨_, rfl, b, C, dx, _, _, rfl, s3 _ _ hb, T.cl, T.n_told, rfl, _, rfl, _, rfl, line1 (by show 2 ≤ 1000; decide), fun u2 hu2 => ?_⟩
      have s4 : Same (upd H2 u (.tup [.str (telling os m k)[i]])) (upd (upd H2 u (.tup [.str (telling os m k)[i]])) u2 (.tup [.str (telling os m k)[i], .str k])) := Same.upd hu2
      have s5 := s3.trans s4
      refine ⟨d, .ref t, rfl, ?_, u, t, _, _, rfl, rfl, .of (s4 _ _ upd_same), .of (s5 _ _ ht), by simp, line1 (by show 3 ≤ 1000; decide), (fun z => by cases z), fun _ p hp => ?_⟩
      · have g := DGet.t (k := tk ((telling os m k)[i], k)) (s5 _ _ hd) (upd_same (a := u2))
        rw [z2] at g
        exact g
      have s6 := (s1.trans s4).trans (Same.upd (o := .tup ([.str (telling os m k)[i]] ++ [.int x.1, .int x.2])) hp)
      refine LcNx.mk (by rw [List.length_map]; exact hi) (by rw [List.length_map]; omega) (by omega) (s6 _ _ g1) ⟨upd_same, by rw [List.length_append, g2]; rfl, Same.but_ne'' (g3.trans s6) hG, ?_⟩
      rw [List.take_add_one, List.getElem?_eq_getElem hi, List.filterMap_append]
      have e1 : (List.filterMap (fun s => (look m (s, k)).map fun x => (s, x.1, x.2)) (some (telling os m k)[i]).toList) = [((telling os m k)[i], x.1, x.2)] := by
        show (List.filterMap (fun s => (look m (s, k)).map fun x => (s, x.1, x.2)) [(telling os m k)[i]]) = _
        rw [List.filterMap_cons, z1]
        rfl
      rw [e1]
      have ne : ∀ {a : Addr} {ys : List V}, (upd (upd (upd H2 u (.tup [.str (telling os m k)[i]])) u2 (.tup [.str (telling os m k)[i], .str k])) p (.tup ([.str (telling os m k)[i]] ++ [.int x.1, .int x.2]))) a = some (.tup ys) → a ≠ G := fun e z => by
        rw [z, s6 _ _ g1] at e; cases e
      have r1 : RowT (upd (upd (upd (upd H2 u (.tup [.str (telling os m k)[i]])) u2 (.tup [.str (telling os m k)[i], .str k])) p (.tup ([.str (telling os m k)[i]] ++ [.int x.1, .int x.2]))) G (.lst (ys ++ [.ref p]))) (.ref p) ((telling os m k)[i], x.1, x.2) := ⟨p, rfl, by rw [upd_ne (ne upd_same), upd_same]; rfl⟩
      refine Paired.snoc r1 (Paired.mapP g4 fun _ _ z => ?_)
      obtain ⟨a, ea, ha⟩ := z
      have := s6 _ _ ha
      exact ⟨a, ea, by rw [upd_ne (ne this)]; exact this⟩
    obtain ⟨g1, g2, g3, g4⟩ := h
    rw [List.take_of_length_le (by rw [List.length_map]; exact Nat.le_refl _), ← tellsM_eq] at g4
    exact q G ys H2 (d3.trans g3) (same_none d3 hG) g1 g4
end
end Pr
set_option Elab.async false
set_option linter.all false
set_option maxRecDepth 100000
/-! the program's bars: place_of, empty, in_order, bar_of -/
namespace L2
open PySem PySem.Spec PyProof.Rows
section
variable {X : Cx} {k k' : Nat} {x : Str} {sp : Sp} {p pos : Pos}
end
theorem Same.but_ne {H H' : Hp} {D : Addr} {o : HO} (s : Same H H') (h : H D = none) : Same H (L2.upd H' D o) := fun b u e => by
  rw [L2.upd_ne (ne_of_none e h)]
  exact s _ _ e
theorem Paired.mono2 {α β : Type} {F G : α → β → Prop} (f : ∀ a b, F a b → G a b) {l₁ : List α} {l₂ : List β} (r : Paired F l₁ l₂) : Paired G l₁ l₂ := Paired.mapP r f
theorem Paired.mapR {α β γ : Type} {F : α → β → Prop} {G : α → γ → Prop} {g : β → γ} (h : ∀ a b, F a b → G a (g b)) : ∀ {xs : List α} {ys : List β}, Paired F xs ys → Paired G xs (ys.map g)
  | _, _, .nil => .nil
  | _, _, .cons r t => .cons (h _ _ r) (Paired.mapR h t)
theorem Paired.picks {α β : Type} {F : α → β → Prop} {xs : List α} {ys : List β} {a : α} {b : β} (h : Paired F xs ys) : ∀ (p : List Nat), (∀ i ∈ p, i < xs.length) → Paired F (p.map fun i => xs.getD i a) (p.map fun i => ys.getD i b)
  | [], _ => .nil
  | i :: p, hp => by
    have hi := hp i List.mem_cons_self
    obtain ⟨y, ey, r⟩ := Paired.get h (List.getElem?_eq_getElem hi)
    refine .cons ?_ (Paired.picks h p fun j hj => hp j (List.mem_cons_of_mem _ hj))
    show F (xs.getD i a) (ys.getD i b)
    rw [List.getD_eq_getElem?_getD, List.getD_eq_getElem?_getD, ey, List.getElem?_eq_getElem hi]
    exact r
theorem line1000 {n : Nat} (h : n ≤ 1000) : n ≤ sizeLine := Nat.le_of_lt (small1000 h)
end L2
namespace Pr
open PySem L2 PyProof.Rows Ent
/-- an entry's three things -/
abbrev three (e : En) : List V := [.int e.1, .str e.2.1, .int e.2.2]
/-- an entry, a tuple or a list; a tuple; a list -/
def EntG (H : Hp) (x : V) (e : En) : Prop := ∃ a o, x = .ref a ∧ H a = some o ∧ Ob o (three e)
def EntT (H : Hp) (x : V) (e : En) : Prop := ∃ a, x = .ref a ∧ H a = some (.tup (three e))
theorem EntT.same {H H' : Hp} (s : Same H H') {x : V} {e : En} (h : EntT H x e) : EntT H' x e := by
  obtain ⟨a, h1, h2⟩ := h
  exact ⟨a, h1, s _ _ h2⟩
theorem EntT.g {H : Hp} {x : V} {e : En} (h : EntT H x e) : EntG H x e := by
  obtain ⟨a, h1, h2⟩ := h
  exact ⟨a, _, h1, h2, .inr rfl⟩
theorem EntT.wr {H : Hp} {x : V} {e : En} {D : Addr} {ys : List V} {o : HO} (h : EntT H x e) (hD : H D = some (.lst ys)) : EntT (upd H D o) x e := by
  obtain ⟨a, h1, h2⟩ := h
  exact ⟨a, h1, by rw [upd_ne (ne_of h2 hD (by intro z; cases z))]; exact h2⟩
theorem EntT.dat {H : Hp} {x : V} {e : En} (h : EntT H x e) : Dat H (eD e) x := by
  obtain ⟨a, h1, h2⟩ := h
  unfold eD Dat
  refine ⟨a, _, h1, h2, ?_⟩
  unfold DatAll
  refine ⟨_, _, rfl, by unfold Dat; rfl, ?_⟩
  unfold DatAll
  refine ⟨_, _, rfl, by unfold Dat; rfl, ?_⟩
  unfold DatAll
  refine ⟨_, _, rfl, by unfold Dat; rfl, ?_⟩
  unfold DatAll
  rfl
section
variable {P : Program} {w : World} {K : PySem.W.Frag} {mg : Str → Option Value} {base : Heap} {C : Addr}
theorem sc_place_of : FnScope ["entry"] ["entry"] (defScope s_place_of) := ⟨rfl, rfl, rfl, by decide +kernel, rfl, by decide +kernel, by decide +kernel⟩
theorem place_of (T : Txt K mg C) : Can P w K mg base 1 "place_of" ["entry"] sp_place := by
  refine fn_can T.f_place_of sc_place_of (fun vs H Q E h => ?_) (fun f cdv A outer s H vs Q E hr h => ?_)
  · obtain ⟨a, m, k, r, rfl, _⟩ := h
    rfl
  · obtain ⟨a, m, k, r, rfl, ha, q⟩ := h
    refine ⟨_, pss_one (ps_ret (pe_tup (pa2 (pe_ix (ix_tupK K) (pv 0) pe_int (fun _ _ => rfl)) (pe_ix (ix_tupK K) (pv 0) pe_int (fun _ _ => rfl))))), ?_⟩
    refine ⟨_, rfl, a, _, _, _, rfl, rfl, .of ha, atI_nat (j := 0) rfl, _, rfl, a, _, _, _, rfl, rfl, .of ha, atI_nat (j := 1) rfl, line1000 (by show 2 ≤ 1000; decide), fun p hp => q p hp⟩
inductive sp_in_order (vs : List V) (H : Hp) (Q : VK) (E : XK) : Prop
  | mk (a : Addr) (o : HO) (xs : List V) (es : List En) (h0 : vs = [.ref a]) (h1 : H a = some o) (h2 : Ob o xs) (h3 : Paired (EntG H) xs es) (h4 : es.length < 64)
    (q : ∀ D H' ys (p : List Nat), Same H H' → H D = none → H' D = some (.lst ys) → Paired (EntT H') ys (pick es p) → p.Perm (List.range es.length) → p.Pairwise (Srt.R (Srt.ltOf (es.map pl))) → Q (.ref D) H') : sp_in_order vs H Q E
theorem sc_in_order : FnScope ["entries"] ["entries"] (defScope s_in_order) := ⟨rfl, rfl, rfl, by decide +kernel, rfl, by decide +kernel, by decide +kernel⟩
theorem in_order (T : Txt K mg C) : Can P w K mg base 4 "in_order" ["entries"] sp_in_order := by
  refine fn_can T.f_in_order sc_in_order (fun vs H Q E h => ?_) (fun f cdv A outer s H vs Q E hr h => ?_)
  · obtain ⟨a, o, xs, es, rfl, _⟩ := h
    rfl
  · obtain ⟨a, o, xs, es, rfl, ha, ho, hp, h64, q⟩ := h
    have hlen : xs.length = es.length := hp.length
    refine ⟨_, pss_one (ps_ret (pe_sortK K (place_of T) hr T.b_sorted (pa1 (pe_lc rfl (lcS sc_in_order) (pi_seq (pv 0)) (fun _ _ _ _ => pts_nil) (fun _ _ _ _ => pe_t call_tup_ob T.b_tuple boot_tuple (pa1 (pv 0))))))), ?_⟩
    refine ⟨_, rfl, a, o, xs, rfl, ha, ho, fun J hJ D hD => ?_⟩
    refine lc_it hJ (fun i ys H1 => H1 D = some (.lst ys) ∧ ys.length = i ∧ Same H H1 ∧ Paired (EntT H1) ys (es.take i)) ⟨upd_same, rfl, Same.upd hD, .nil⟩ (fun i ys H1 h => ⟨h.1, h.2.2.1 _ _ ha⟩) (fun ys H1 h => ?_) fun i x ys H1 hi hx h => ?_
    · obtain ⟨d1, d2, d3, d4⟩ := h
      rw [List.take_of_length_le (by omega)] at d4
      refine ⟨D, ys, es.map pl, rfl, .of d1, by omega, Paired.mapR (fun x e ⟨b, e1, e2⟩ => ⟨b, _, e1, e2⟩) d4, fun D' H' p s' hD' hg p1 p2 => ?_⟩
      rw [d2, hlen] at p1
      refine q D' H' _ p (d3.trans s') (d3.free hD') hg ?_ p1 p2
      exact Paired.picks (Paired.mono2 (fun _ _ z => z.same s') d4) p fun i hi => by
        have := List.mem_range.mp (p1.mem_iff.mp hi)
        omega
    · obtain ⟨d1, d2, d3, d4⟩ := h
      obtain ⟨e, he, b, ob, rfl, hb, hob⟩ := Paired.get hp hx
      refine yesI ⟨_, rfl, b, ob, _, rfl, d3 _ _ hb, hob, fun l H2 s2 hl => LcNx.mk hi (by omega) (by omega) (s2 _ _ d1) ⟨upd_same, by rw [List.length_append, d2]; rfl, (d3.trans s2).but_ne hD, ?_⟩⟩
      rw [List.take_add_one, he]
      refine Paired.snoc ?_ (Paired.mono2 (fun _ _ z => (z.same s2).wr (s2 _ _ d1)) d4)
      exact EntT.wr ⟨l, rfl, hl⟩ (s2 _ _ d1)
end
end Pr
set_option Elab.async false
set_option linter.all false
set_option maxRecDepth 100000
/-! list(d) of a dict with tuples for keys; x in a list of data -/
namespace L2
open PySem PySem.Spec PyProof.Rows
section
variable {X : Cx}
end
end L2
set_option Elab.async false
set_option linter.all false
set_option maxRecDepth 100000
/-! for k in d: the dict is held fast while it is walked -/
namespace L2
open PySem PySem.Spec PyProof.Rows
inductive IsDc : HO → Prop
  | k (kvs : List (Key × V)) : IsDc (.dK kvs)
  | t (kvs : List (List Key × V)) : IsDc (.dT kvs)
section
variable {X : Cx} {pins : List (Addr × Obj)} {σ : St} {H : Hp} {s : Shared} {a : Addr} {u : HO} {o : Obj}
/-- a dict's description in another heap of words -/
theorem dc_upd {P : Program} {w : World} {h : Heap} (hu : IsDc u) (v : HO) (hv : ∀ xs, H a ≠ some (.tup xs)) (x : ObjOk P w H h a u) : ObjOk P w (upd H a v) h a u := by
  cases hu with
  | k kvs => exact x
  | t kvs =>
    obtain ⟨z, y, xs, r, rest⟩ := x
    exact ⟨z, y, xs, Paired.mapP r fun p q z => ⟨z.1, by rw [upd_ne (fun e => hv _ (by rw [← e]; exact z.2.1))]; exact z.2.1, z.2.2⟩, rest⟩
theorem Inv.swapDc (I : Inv X pins σ H s) {c v : HO} (e : H a = some c) (hc : ∀ xs, c ≠ .tup xs) (hc2 : ∀ y, c ≠ .own y) (hc3 : ∀ ps, c ≠ .tbl ps) (h0 : ∀ o' u', X.H₀ a = some (.frz o' u') → c = .frz o' u' → v = .frz o' u') (new : ObjOk X.prog X.w (upd H a v) s.heap a v) : Inv X pins σ (upd H a v) s := by
  have na : ∀ {b}, H b = none → b ≠ a := fun {b} q z => by rw [z, e] at q; cases q
  refine ⟨I.ok, I.os, I.bare, ⟨I.base.keep, I.base.slot, fun b o q n hx => ?_, I.base.there, fun b xs q => ?_, fun b o' u' q => ?_, fun b ps q => ?_⟩, I.loc, I.cell, ?_, fun y d q => ?_, fun p hp => ?_, fun b ob q => ?_, I.len⟩
  · have z := I.base.free b o q n hx
    rw [upd_ne (na z)]; exact z
  · have z := I.base.tups b xs q
    rw [upd_ne (fun w => by rw [w, e] at z; cases z; exact hc _ rfl)]; exact z
  · have z := I.base.frzs b o' u' q
    by_cases hb : b = a
    · subst hb
      rw [e] at z
      rw [upd_same, h0 o' u' q (Option.some.inj z)]
    · rw [upd_ne hb]; exact z
  · obtain ⟨m, z⟩ := I.base.tbls b ps q
    exact ⟨m, by rw [upd_ne (fun w => by rw [w, e] at z; cases z; exact hc3 _ rfl)]; exact z⟩
  · rw [upd_ne (na I.free)]; exact I.free
  · rw [upd_ne (na (I.freeC y d q))]; exact I.freeC y d q
  · obtain ⟨e1, e2, e3⟩ := I.pin p hp
    exact ⟨e1, by rw [upd_ne (na e2)]; exact e2, e3⟩
  · by_cases hb : b = a
    · subst hb
      rw [upd_same] at q
      cases q
      exact new
    · rw [upd_ne hb] at q
      refine (I.hok b ob q).stay (fun _ _ _ z => z) (fun d z => ?_) fun d xs z => ?_
      · rw [upd_ne (fun w => by rw [w, e] at z; cases z; exact hc2 _ rfl)]; exact z
      · rw [upd_ne (fun w => by rw [w, e] at z; cases z; exact hc _ rfl)]; exact z
theorem Inv.freeze (I : Inv X pins σ H s) (hu : IsDc u) (e : H a = some u) (ho : s.heap.get? a = some o) : Inv X pins σ (upd H a (.frz o u)) s := by
  have hx := I.hok a u e
  have ht : ∀ xs, u ≠ .tup xs := fun xs z => by rw [z] at hu; cases hu
  refine I.swapDc e ht (fun y z => by rw [z] at hu; cases hu) (fun y z => by rw [z] at hu; cases hu) (fun o' u' _ z => by rw [z] at hu; cases hu) ⟨ho, dc_upd hu _ (fun xs q => ?_) hx⟩
  rw [e] at q
  exact ht xs (Option.some.inj q)
theorem Inv.thaw (I : Inv X pins σ H s) (hu : IsDc u) (e : H a = some (.frz o u)) (h0 : ∀ o' u', X.H₀ a ≠ some (.frz o' u')) : Inv X pins σ (upd H a u) s := by
  obtain ⟨_, hx⟩ := (show ObjOk X.prog X.w H s.heap a (.frz o u) from I.hok a _ e)
  refine I.swapDc e (fun xs z => nomatch z) (fun y z => nomatch z) (fun ps z => nomatch z) (fun o' u' q _ => absurd q (h0 o' u')) (dc_upd hu _ (fun xs q => ?_) hx)
  rw [e] at q
  cases q
/-- behind an expression a dict that was held fast is let go -/
def tThaw (H0 : Hp) (t : TE) : TE := fun σ H Q => t σ H fun v H1 => ∃ a o u, H1 a = some (.frz o u) ∧ IsDc u ∧ (∀ o' u', H0 a ≠ some (.frz o' u')) ∧ Q v (upd H1 a u)
theorem pe_thaw {e : Expr} {t : TE} {H0 : Hp} (h : PE X e t) (h0 : X.H₀ = H0 := by rfl) : PE X e (tThaw H0 t) := by
  subst h0
  refine ⟨?_⟩
  intro pins s σ H Q I hq
  refine thn (h pins s σ H _ I hq) fun v s1 ⟨x, H1, I1, r, a, o, u, e, hu, h0, q⟩ => ⟨x, _, I1.thaw hu e h0, r, q⟩
end
/-- the keys of a dict of tuples, one by one -/
def Itd (a : Addr) (o : Obj) (kvs : List (List Key × V)) : It where
  go := fun i H => H a = some (.frz o (.dT kvs)) ∧ i < kvs.length
  yld := fun i H x H' => H' = H ∧ ∃ b p, x = .ref b ∧ kvs[i]? = some p ∧ H b = some (.tup (p.1.map kV))
  stop := fun i H => H a = some (.frz o (.dT kvs)) ∧ kvs.length ≤ i
theorem turn_dT {P : Program} {w : World} {K : PySem.W.Frag} {tg : Expr} {a it : Addr} {o : Obj} {es : Array DictEntry} {ep : Nat} {kvs : List (List Key × V)} (hne : it ≠ a) (hx : o.ExactDict) (hd : o.data = .dict es ep) : Turn P w K tg (Itd a o kvs) [it] it (fun i h => h.IsKeyIter it a i es.size ep) where
  mem := by simp
  obj := fun i h st b hb => by
    have e : b = it := by simpa using hb
    subst e
    obtain ⟨o, e, c, d⟩ := st
    exact ⟨o, e, fun v z => by rw [d] at z; cases z⟩
  keep := fun i h h' st k => st.at fun o e => k it (by simp) o e
  item := by
    intro X hP hw hK hc i pins s σ H E I hf st hg
    subst hP hw hK
    obtain ⟨hq, hlt⟩ := hg
    obtain ⟨ho, z, hsm, xs, kt, o2, es2, ep2, h1, h2, h3, h4, h5⟩ := (show ObjOk X.prog X.w H s.heap a (.frz o (.dT kvs)) from I.hok a _ hq)
    rw [ho] at h1
    cases h1
    rw [hd] at h3
    cases h3
    obtain ⟨f0, f1, f2, f3, f4, f5⟩ := hf it (by simp)
    have hlen : kvs.length = xs.length := Paired.length kt
    obtain ⟨x, hxx⟩ : ∃ x, xs[i]? = some x := ⟨xs[i]'(by omega), List.getElem?_eq_getElem (by omega)⟩
    obtain ⟨p, hp, hpx⟩ : ∃ p, kvs[i]? = some p ∧ (p.1 = x.1 ∧ H x.2.1 = some (.tup (p.1.map kV)) ∧ RelV p.2 x.2.2) := by
      have key : ∀ {l : List (List Key × V)} {m : List (List Key × Addr × Value)}, KT H l m → ∀ {i : Nat} {x : List Key × Addr × Value}, m[i]? = some x → ∃ p : List Key × V, l[i]? = some p ∧ (p.1 = x.1 ∧ H x.2.1 = some (.tup (p.1.map kV)) ∧ RelV p.2 x.2.2) := by
        intro l m q
        induction q with
        | nil => intro i x e; cases e
        | cons h t ih =>
          intro i x e
          cases i with
          | zero => cases e; exact ⟨_, rfl, h⟩
          | succ i => exact ih (show _ = some x from e)
      exact key kt hxx
    have he : es[i]? = some (entryOfKey (tupleKind (mixKind X.prog X.w)) x) := by rw [entry_at h4 i, hxx]; rfl
    refine Dx.next st ⟨o, ho, hx, hd⟩ he fun h' st' sb => ?_
    have I1 : Inv X pins σ H { s with heap := h' } := I.turned (t' := s.toks) (fun b o hb e => (sb.2 b hb).trans e) f0 f1 f3 f4 f5
    obtain ⟨oi, ei, ci, di⟩ := id st'
    exact ⟨_, rfl, go_of (s := { s with heap := h' }) ei ci di (by decide) ⟨.ref x.2.1, H, I1, rfl, ⟨rfl, x.2.1, p, rfl, hp, hpx.2.1⟩, st', fun b hb => (hf b hb).1⟩⟩
  done := by
    intro X hP hw hK hc i pins s σ H E I hf st hg
    subst hP hw hK
    obtain ⟨hq, hle⟩ := hg
    obtain ⟨ho, z, hsm, xs, kt, o2, es2, ep2, h1, h2, h3, h4, h5⟩ := (show ObjOk X.prog X.w H s.heap a (.frz o (.dT kvs)) from I.hok a _ hq)
    rw [ho] at h1
    cases h1
    rw [hd] at h3
    cases h3
    obtain ⟨f0, f1, f2, f3, f4, f5⟩ := hf it (by simp)
    have hlen : kvs.length = xs.length := Paired.length kt
    have hes : es.size = xs.length := size_of_entries h4
    exact Dx.stop (I.ok.hd hc) (by omega) st ⟨o, ho, hx, hd⟩ fun h' eb => ⟨rfl, I.turned (t' := s.toks) (fun b o hb e => eb b o hb e) f0 f1 f3 f4 f5⟩
  self := fun _ _ _ _ _ st h => wpAny_pyIter_keyiter st h
/-- for k in d, k a tuple -/
inductive iDT (te : TE) (σ : St) (H : Hp) (R : It → Hp → Prop) : Prop
  | mk (h : te σ H fun x H1 => ∃ a kvs, x = .ref a ∧ H1 a = some (.dT kvs) ∧ ∀ o, R (Itd a o kvs) (upd H1 a (.frz o (.dT kvs)))) : iDT te σ H R
theorem pi_dT {X : Cx} {tg e : Expr} {te : TE} (he : PE X e te) : PI X tg e (iDT te) := by
  intro pins s σ H R I h
  obtain ⟨h⟩ := h
  refine thn (he pins s σ H _ I h) fun v s1 ⟨x, H1, I1, r1, a, kvs, e, hq, q⟩ => ?_
  subst e
  cases r1
  obtain ⟨z, hsm, xs, kt, o, es, ep, h1, h2, h3, h4, h5⟩ := (show ObjOk X.prog X.w H1 s1.heap a (.dT kvs) from I1.hok a _ hq)
  refine Dx.iter hsm ⟨o, h1, h2, h3⟩ ?_
  have I2 : Inv X pins σ H1 { s1 with heap := s1.heap.push { cls := .type "dict_keyiterator", data := .fields #[.ref a, .int 0 0, .int es.size 0, .int ep 0] } } := I1.kept (t' := s1.toks) fun b o e => Heap.get?_push_of_some _ e
  have hlt := Heap.lt_size h1
  refine ⟨s1.heap.objs.size, [s1.heap.objs.size], _, _, _, rfl, I2.freeze (.t kvs) hq (Heap.get?_push_of_some _ h1), turn_dT (Nat.ne_of_gt hlt) h2 h3, ⟨_, Heap.get?_push_size _ rfl, rfl, rfl⟩, fun b hb => ?_, q o⟩
  have e : b = s1.heap.objs.size := by simpa using hb
  subst e
  exact I1.fpOk (Nat.le_refl _) (by rw [upd_ne (Nat.ne_of_gt hlt)]; exact I1.hok.fresh (Nat.le_refl _))
end L2
set_option Elab.async false
set_option linter.all false
set_option maxRecDepth 100000
/-! what is counted; all entries -/
namespace Pr
open PySem L2 PyProof.Rows Ent
/-- the entry that is counted -/
def countedM (os : List Str) (m : TM) (k : Str) : Option En := (tellsM os m k).head?.map fun r => (r.2.1, k, r.2.2)
section
variable {P : Program} {w : World} {K : PySem.W.Frag} {mg : Str → Option Value} {base : Heap} {C : Addr}
inductive sp_counted (C : Addr) (vs : List V) (H : Hp) (Q : VK) (E : XK) : Prop
  | mk (b d : Addr) (os : List Str) (m : TM) (k : Str) (e : vs = [.ref b, .str k]) (h : BookAt C H b d os m) (hl : os.length ≤ 6)
      (q0 : countedM os m k = none → ∀ H', Same H H' → Q .non H') (q1 : ∀ e, countedM os m k = some e → ∀ x H', Same H H' → EntT H' x e → Q x H') : sp_counted C vs H Q E
theorem sc_counted : FnScope ["self", "key", "rows", "source", "moment", "value"] ["self", "key"] (defScope sm_counted) := ⟨rfl, rfl, rfl, by decide +kernel, rfl, by decide +kernel, by decide +kernel⟩
theorem counted (T : Txt K mg C) : CanM P w K mg base C 2 "counted" ["self", "key"] (sp_counted C) := by
  refine fm_can T.m_counted sc_counted (fun vs H Q E h => ?_) (fun f cdv A outer s H vs Q E hr h => ?_)
  · obtain ⟨b, d, os, m, k, rfl, _⟩ := h
    rfl
  · obtain ⟨b, d, os, m, k, rfl, hB, hl, q0, q1⟩ := h
    refine ⟨_, (pss_cons (ps_set (i := 2) sc_counted.nd rfl (Or.inl rfl) (pe_canM (pv 0) T.cl (tells T) hr (pa1 (pv 1))))
      (pss_cons (ps_if (pt_not (pt_truth (pv 2) (fun _ => rfl))) (pss_one (ps_ret pe_non)) pss_nil)
      (pss_cons (ps_asg (pe_ix (ix_listK K) (pv 2) pe_int (fun _ _ => rfl)) (pg_tupK K rfl (pgs_cons (pg_name (i := 3) sc_counted.nd rfl (Or.inl rfl)) (pgs_cons (pg_name (i := 4) sc_counted.nd rfl (Or.inl rfl)) (pgs_cons (pg_name (i := 5) sc_counted.nd rfl (Or.inl rfl)) pgs_nil)))))
      (pss_one (ps_ret (pe_tup (pa3 (pv 4) (pv 1) (pv 5)))))))), ?_⟩
    obtain ⟨dx, f, kvs, hb, hf, hd, r⟩ := id hB
    refine ⟨_, rfl, b, dx, _, rfl, hb, rfl, _, rfl, b, d, os, m, k, rfl, hB, hl, fun D ys H1 s1 hD hy hp => ?_⟩
    unfold countedM at q0 q1
    refine ⟨_, rfl, _, .inl ⟨ys, .of hy, rfl⟩, ?_⟩
    generalize tellsM os m k = rs at hp q0 q1
    cases hp with
    | nil => exact iteT (q0 rfl _ s1)
    | @cons x row xs rows hr0 ht =>
      obtain ⟨a, rfl, ha⟩ := hr0
      refine iteF ?_
      refine ⟨_, rfl, D, _, _, _, rfl, rfl, .of hy, atI_nat (j := 0) rfl, a, _, rfl, .of ha, rfl, _, _, rfl, _, _, rfl, _, _, rfl, rfl, ?_⟩
      refine ⟨_, rfl, _, rfl, _, rfl, line1 (by show 3 ≤ 1000; decide), fun t ht => ?_⟩
      exact q1 _ rfl _ _ (s1.trans (Same.upd ht)) ⟨t, rfl, upd_same⟩
theorem inr_all : ∀ {ks : List Key}, (∀ k ∈ ks, ∃ z, k = Sum.inr z) → ∃ zs : List Str, ks = zs.map Sum.inr
  | [], _ => ⟨[], rfl⟩
  | k :: r, h => by
    obtain ⟨z, rfl⟩ := h k List.mem_cons_self
    obtain ⟨zs, rfl⟩ := inr_all fun j hj => h j (List.mem_cons_of_mem _ hj)
    exact ⟨z :: zs, rfl⟩
theorem keys_of (m : TM) : ∃ zs : List Str, allK (m.map fun q => (Sum.inr q.1.2 : Key)) = zs.map Sum.inr ∧ zs.Nodup ∧ ∀ z, z ∈ zs ↔ ∃ q ∈ m, q.1.2 = z := by
  obtain ⟨zs, e⟩ := inr_all (ks := allK (m.map fun q => (Sum.inr q.1.2 : Key))) fun k hk => by
    rw [mem_allK] at hk
    obtain ⟨q, _, rfl⟩ := List.mem_map.mp hk
    exact ⟨_, rfl⟩
  refine ⟨zs, e, ?_, fun z => ?_⟩
  · have := allK_nd (m.map fun q => (Sum.inr q.1.2 : Key))
    rw [e] at this
    exact (List.pairwise_map.mp this).imp fun h z => h (by rw [z])
  · have h1 : z ∈ zs ↔ (Sum.inr z : Key) ∈ zs.map Sum.inr := by
      rw [List.mem_map]
      exact ⟨fun h => ⟨z, h, rfl⟩, fun ⟨y, hy, e⟩ => by cases e; exact hy⟩
    rw [h1, ← e, mem_allK, List.mem_map]
    exact ⟨fun ⟨q, hq, e⟩ => ⟨q, hq, Sum.inr.inj e⟩, fun ⟨q, hq, e⟩ => ⟨q, hq, by rw [e]⟩⟩
theorem look_some {m : TM} {q : (Str × Str) × (Int × Int)} (h : q ∈ m) : (look m q.1).isSome = true := by
  unfold look
  cases e : m.find? (fun p => decide (p.1 = q.1)) with
  | some y => rfl
  | none =>
    have := List.find?_eq_none.mp e q h
    simp at this
theorem counted_some {os : List Str} {m : TM} {q : (Str × Str) × (Int × Int)} (h : q ∈ m) (ho : q.1.1 ∈ os) : ∃ e, countedM os m q.1.2 = some e := by
  unfold countedM tellsM
  cases hl : (os.filterMap fun s => (look m (s, q.1.2)).map fun x => (s, x.1, x.2)) with
  | cons r rs => exact ⟨_, rfl⟩
  | nil =>
    have h1 := look_some h
    cases e : look m q.1 with
    | none => rw [e] at h1; cases h1
    | some x =>
      have : (q.1.1, x.1, x.2) ∈ (os.filterMap fun s => (look m (s, q.1.2)).map fun x => (s, x.1, x.2)) := List.mem_filterMap.mpr ⟨q.1.1, ho, by rw [show (q.1.1, q.1.2) = q.1 from rfl, e]; rfl⟩
      rw [hl] at this
      cases this
/-- all that is counted: the keys that are told, each once, and their entries in order -/
structure AllM (os : List Str) (m : TM) (es : List En) : Prop where
  ex : ∃ (zs : List Str) (cs : List En) (p : List Nat), zs.Nodup ∧ (∀ z, z ∈ zs ↔ ∃ q ∈ m, q.1.2 = z) ∧ zs.map (fun z => countedM os m z) = cs.map some ∧ es = pick cs p ∧ p.Perm (List.range cs.length) ∧ p.Pairwise (Srt.R (Srt.ltOf (cs.map pl)))
inductive sp_entries (C : Addr) (vs : List V) (H : Hp) (Q : VK) (E : XK) : Prop
  | mk (b d : Addr) (os : List Str) (m : TM) (e : vs = [.ref b]) (h : BookAt C H b d os m) (hl : os.length ≤ 6) (hm : m.length < 1000) (hk : (allK (m.map fun q => (Sum.inr q.1.2 : Key))).length < 64) (hs : ∀ q ∈ m, q.1.1 ∈ os)
      (q : ∀ D ys H' es, Same H H' → H D = none → H' D = some (.lst ys) → Paired (EntT H') ys es → AllM os m es → Q (.ref D) H') : sp_entries C vs H Q E
theorem sc_entries : FnScope ["self", "keys"] ["self"] (defScope sm_entries) := ⟨rfl, rfl, rfl, by decide +kernel, rfl, by decide +kernel, by decide +kernel⟩
set_option maxHeartbeats 4000000 in
theorem entries (T : Txt K mg C) : CanM P w K mg base C 5 "entries" ["self"] (sp_entries C) := by
  refine fm_can T.m_entries sc_entries (fun vs H Q E h => ?_) (fun f cdv A outer s H vs Q E hr h => ?_)
  · obtain ⟨b, d, os, m, rfl, _⟩ := h
    rfl
  · obtain ⟨b, d, os, m, rfl, hB, hl, hm, hk, hs, q⟩ := h
    refine ⟨_, (pss_cons (ps_set (i := 1) sc_entries.nd rfl (Or.inl rfl) (pe_thaw (pe_b (call_sortedT P w rfl) T.b_sorted boot_sorted (pa1 (pe_sn (xs := ["source", "key"]) (Ns := ["self", "keys"]) rfl (lnS _ sc_entries) (pi_dT (pe_fldK K (pv 0) rfl)) (pg_pair rfl (lnS _ sc_entries)) (fun _ _ _ _ => pts_nil) (fun _ _ _ _ => (pv 1)))))))
      (pss_one (ps_ret (pe_can (in_order T) hr (pa1 (pe_lc rfl (lcS sc_entries) (pi_listK K (pv 1)) (fun _ _ _ _ => pts_nil) (fun _ _ _ _ => (pe_canM (pv 1) T.cl (counted T) hr (pa1 (pv 0)))))))))), ?_⟩
    obtain ⟨dx, f, kvs, hb, hf, hd, r⟩ := id hB
    have hlen : kvs.length = m.length := Paired.length r
    refine ⟨⟨_, rfl, b, C, dx, _, _, rfl, hb, T.cl, T.n_told, rfl, d, kvs, rfl, hd, fun o D hD => ?_⟩⟩
    have nD : D ≠ d := fun z => by rw [z, upd_same] at hD; cases hD
    have hD0 : H D = none := by rw [upd_ne nD] at hD; exact hD
    let kk : (Str × Str) × (Int × Int) → Key := fun q => .inr q.1.2
    refine ⟨fun i mm ks H' => mm = kvs.length - i ∧ i ≤ kvs.length ∧ ks = allK ((m.take i).map kk) ∧ H' = upd (upd H d (.frz o (.dT kvs))) D (SetH P w D ks), ⟨kvs.length, rfl, Nat.zero_le _, rfl, rfl⟩, ?_⟩
    rintro i mm ks H' ⟨rfl, hi, rfl, rfl⟩
    refine ⟨upd_same, ?_⟩
    have hdz : ∀ z, (upd (upd H d (.frz o (.dT kvs))) D z) d = some (.frz o (.dT kvs)) := fun z => by rw [upd_ne (Ne.symm nD), upd_same]
    by_cases hlt : i < kvs.length
    · refine .inr ⟨⟨hdz _, hlt⟩, fun x H' u hu y => ?_⟩
      obtain ⟨rfl, bb, p, rfl, hp, hbb⟩ := y
      obtain ⟨qq, hqq, e1, e2⟩ := Paired.get r hp
      rw [e1] at hbb
      match u, hu with
      | [u0, u1], _ =>
      have ml : (allK ((m.take i).map kk)).length < 1000 := by
        have h1 : ∀ (l acc : List Key), (l.foldl addK acc).length ≤ acc.length + l.length := fun l => by
          induction l with
          | nil => intro acc; exact Nat.le_refl _
          | cons a t ih => intro acc; rw [List.foldl_cons, List.length_cons]; have := ih (addK acc a); have := addK_len acc a; omega
        have h2 := h1 ((m.take i).map kk) []
        rw [List.length_map, List.length_take] at h2
        have e0 : ([] : List Key).length = 0 := rfl
        show (((m.take i).map kk).foldl addK []).length < 1000
        omega
      refine ⟨bb, _, rfl, .of hbb, rfl, _, _, rfl, _, _, rfl, rfl, ⟨[_, _], rfl, rfl⟩, ?_⟩
      refine yesI ⟨_, rfl, upd_same, ml, .inr qq.1.2, rfl, kvs.length - (i + 1), by omega, rfl, hlt, ?_, ?_⟩
      · rw [List.take_add_one, hqq, List.map_append]
        exact (allK_snoc _ _).symm
      · funext a
        by_cases z : a = D
        · rw [z]; (rw [upd_same, upd_same]) <;> rfl
        · rw [upd_ne z, upd_ne z, upd_ne z]
    · obtain rfl : i = kvs.length := by omega
      rw [hlen, List.take_of_length_le (Nat.le_refl _)]
      refine .inl ⟨⟨hdz _, Nat.le_of_eq hlen⟩, ?_⟩
      obtain ⟨zs, ez, nz, mz⟩ := keys_of m
      have ez' : allK (m.map kk) = zs.map Sum.inr := ez
      rw [ez'] at hk ⊢
      rw [List.length_map] at hk
      refine ⟨D, zs, rfl, upd_same, hk, fun G ys is yp p1 p2 hG => ?_⟩
      have nG : G ≠ D := fun z => by rw [z, upd_same] at hG; cases hG
      have nGd : G ≠ d := fun z => by rw [z, hdz] at hG; cases hG
      have hG0 : H G = none := by rw [upd_ne nG, upd_ne nGd] at hG; exact hG
      refine ⟨d, o, .dT kvs, by rw [upd_ne (Ne.symm nGd)]; exact hdz _, .t kvs, (fun o' u' z => by have z' : H d = some (.frz o' u') := z; rw [hd] at z'; cases z'), ?_⟩
      generalize hus : (is.map fun i => ys.getD i "") = us
      have sH : Same H (upd (upd (upd (upd H d (.frz o (.dT kvs))) D (SetH P w D (zs.map Sum.inr))) G (.lst (us.map V.str))) d (.dT kvs)) := fun a u e => by
        by_cases z : a = d
        · rw [z, upd_same]; rw [z, hd] at e; exact e
        · rw [upd_ne z, upd_ne (ne_of_none e hG0), upd_ne (ne_of_none e hD0), upd_ne z]; exact e
      have hG5 : (upd (upd (upd (upd H d (.frz o (.dT kvs))) D (SetH P w D (zs.map Sum.inr))) G (.lst (us.map V.str))) d (.dT kvs)) G = some (.lst (us.map V.str)) := by rw [upd_ne nGd, upd_same]
      generalize (upd (upd (upd (upd H d (.frz o (.dT kvs))) D (SetH P w D (zs.map Sum.inr))) G (.lst (us.map V.str))) d (.dT kvs)) = H5 at sH hG5
      have up : us.Perm zs := by
        rw [← hus]
        refine List.Perm.trans ((p1.map _).trans ?_) yp
        rw [show ((List.range ys.length).map fun i => ys.getD i "") = ys from by
          apply List.ext_getElem (by simp)
          intro j h1 h2
          rw [List.getElem_map, List.getElem_range, List.getD_eq_getElem?_getD, List.getElem?_eq_getElem h2]
          rfl]
      have ul : us.length < 64 := by rw [up.length_eq]; exact hk
      have hce : ∀ z ∈ us, ∃ e, countedM os m z = some e := fun z hz => by
        obtain ⟨qq, hq, rfl⟩ := (mz z).mp (up.mem_iff.mp hz)
        exact counted_some hq (hs qq hq)
      have hcs : ∀ l : List Str, (∀ z ∈ l, z ∈ us) → ∃ cs : List En, l.map (fun z => countedM os m z) = cs.map some := fun l => by
        induction l with
        | nil => intro _; exact ⟨[], rfl⟩
        | cons z t ih =>
          intro h
          obtain ⟨cs, ec⟩ := ih fun y hy => h y (List.mem_cons_of_mem _ hy)
          obtain ⟨e, he⟩ := hce z (h z List.mem_cons_self)
          exact ⟨e :: cs, by rw [List.map_cons, List.map_cons, he, ec]⟩
      obtain ⟨cs, hcs⟩ := hcs us fun _ h => h
      have cl : cs.length = us.length := by have := congrArg List.length hcs; rw [List.length_map, List.length_map] at this; exact this.symm
      refine ⟨_, rfl, G, rfl, ⟨_, .of hG5⟩, fun L hL => ?_⟩
      refine lc_list (xs := us.map V.str) (fun i ys H6 => H6 L = some (.lst ys) ∧ ys.length = i ∧ Same H5 H6 ∧ Paired (EntT H6) ys (cs.take i)) ⟨upd_same, rfl, Same.upd hL, .nil⟩ (fun i ys H6 h => ⟨h.1, .of (h.2.2.1 _ _ hG5)⟩) (fun ys H6 h => ?fin) fun i x ys H6 hi hx h => ?turn
      case turn =>
        obtain ⟨l1, l2, l3, l4⟩ := h
        rw [List.length_map] at hi
        rw [List.getElem?_map, List.getElem?_eq_getElem hi] at hx
        cases hx
        have ei : countedM os m us[i] = some (cs[i]'(by omega)) := by
          have := congrArg (fun l => l[i]?) hcs
          simp only [List.getElem?_map] at this
          rw [List.getElem?_eq_getElem hi, List.getElem?_eq_getElem (show i < cs.length by omega)] at this
          simpa using this
        have hB6 := hB.same (sH.trans l3)
        obtain ⟨dx6, f6, kvs6, hb6, _⟩ := id hB6
        refine yesI ⟨_, rfl, b, dx6, _, rfl, hb6, rfl, _, rfl, b, d, os, m, us[i], rfl, hB6, hl, (fun z => by rw [ei] at z; cases z), fun e he x H7 s7 hx7 => ?_⟩
        rw [ei] at he
        cases he
        refine LcNx.mk (by rw [List.length_map]; exact hi) (by rw [List.length_map]; omega) (by omega) (s7 _ _ l1) ⟨upd_same, by rw [List.length_append, l2]; rfl, Same.but_ne'' (l3.trans s7) hL, ?_⟩
        rw [List.take_add_one, List.getElem?_eq_getElem (show i < cs.length by omega)]
        exact Paired.snoc (hx7.wr (s7 _ _ l1)) (Paired.mapP l4 fun _ _ z => (z.same s7).wr (s7 _ _ l1))
      obtain ⟨l1, l2, l3, l4⟩ := h
      rw [List.take_of_length_le (by rw [List.length_map]; omega)] at l4
      refine ⟨L, _, _, cs, rfl, l1, .inl rfl, Paired.mapP l4 fun _ _ z => z.g, by omega, fun R H7 ys7 p s7 hR h7 hE p3 p4 => ?_⟩
      refine q R ys7 H7 _ (sH.trans (l3.trans s7)) (same_none (sH.trans l3) hR) h7 hE ⟨us, cs, p, up.nodup_iff.mpr nz, fun z => ?_, hcs, rfl, p3, p4⟩
      rw [up.mem_iff]
      exact mz z
end
end Pr
set_option Elab.async false
set_option linter.all false
set_option maxRecDepth 100000
/-! a book made; ranked anew -/
namespace Pr
open PySem L2 PyProof.Rows
theorem sort_same {zs ys : List Str} {is js : List Nat} (p : zs.Perm ys) (p1 : is.Perm (List.range zs.length)) (p2 : is.Pairwise (Srt.R (Srt.ltT zs))) (r1 : js.Perm (List.range ys.length)) (r2 : js.Pairwise (Srt.R (Srt.ltT ys))) : (is.map fun i => zs.getD i "") = js.map fun i => ys.getD i "" := by
  have key : ∀ {zs : List Str} {is : List Nat}, is.Perm (List.range zs.length) → is.Pairwise (Srt.R (Srt.ltT zs)) → (is.map fun i => zs.getD i "").Perm zs ∧ (is.map fun i => zs.getD i "").Pairwise (fun a b => ¬ b.cps.toList < a.cps.toList) := fun {zs is} p1 p2 => by
    constructor
    · refine (p1.map _).trans ?_
      rw [show ((List.range zs.length).map fun i => zs.getD i "") = zs from by
        apply List.ext_getElem (by simp)
        intro j h1 h2
        rw [List.getElem_map, List.getElem_range, List.getD_eq_getElem?_getD, List.getElem?_eq_getElem h2]
        rfl]
    · refine List.pairwise_map.mpr (p2.imp fun {a b} h z => ?_)
      have := h.elim (fun h => (Srt.ltT_ord zs).1 h) (·.1)
      unfold Srt.ltT at this
      exact absurd z (of_decide_eq_false this)
  obtain ⟨a1, a2⟩ := key p1 p2
  obtain ⟨b1, b2⟩ := key r1 r2
  have hp : (is.map fun i => zs.getD i "").Perm (js.map fun i => ys.getD i "") := a1.trans (p.trans b1.symm)
  refine List.Perm.eq_of_pairwise (fun a b _ _ h1 h2 => ?_) a2 b2 hp
  have e : a.cps.toList = b.cps.toList := by
    rcases Std.lt_trichotomy a.cps.toList b.cps.toList with h | h | h
    · exact absurd h h2
    · exact h
    · exact absurd h h1
  cases a; cases b
  simpa using e
theorem strs_dat (H : Hp) : ∀ l : List Str, DatAll H (l.map PyData.str) (l.map V.str)
  | [] => by unfold DatAll; rfl
  | x :: t => by rw [List.map_cons, List.map_cons]; unfold DatAll; exact ⟨_, _, rfl, by unfold Dat; rfl, strs_dat H t⟩
theorem strs_layA : ∀ {l : List Str}, (∀ z ∈ l, Src z) → PyData.canLayAll0 (l.map PyData.str) = true
  | [], _ => rfl
  | x :: t, h => by
    rw [List.map_cons]
    unfold PyData.canLayAll0
    rw [strs_layA fun z hz => h z (List.mem_cons_of_mem _ hz), Bool.and_true]
    have hx := h x List.mem_cons_self
    unfold PyData.canLay0 PyData.strOk
    rw [Array.all_eq_true_iff_forall_mem]
    intro c hc
    have := (hx.c c (Array.mem_toList_iff.mpr hc)).1
    exact decide_eq_true (by omega)
theorem strs_lay {l : List Str} (h : ∀ z ∈ l, Src z) : (PyData.list (l.map .str)).canLay0 = true := by unfold PyData.canLay0; exact strs_layA h
theorem strs_depA : ∀ l : List Str, PyData.depthAll (l.map PyData.str) = 0
  | [] => rfl
  | x :: t => by rw [List.map_cons]; simp only [PyData.depthAll, PyData.depth, strs_depA t]; rfl
theorem strs_dep (l : List Str) : (PyData.list (l.map .str)).depth ≤ 8 := by simp only [PyData.depth, strs_depA]; omega
theorem strs_eqvA : ∀ l : List Str, PyData.eqvAll (l.map PyData.str) (l.map PyData.str) = true
  | [] => rfl
  | x :: t => by rw [List.map_cons]; simp only [PyData.eqvAll, PyData.eqv, strs_eqvA t, Bool.and_true]; simp
theorem strs_eqv (l : List Str) : PyData.eqv (.list (l.map .str)) (.list (l.map .str)) = true := by simp only [PyData.eqv, strs_eqvA]
section
variable {P : Program} {w : World} {K : PySem.W.Frag} {mg : Str → Option Value} {base : Heap} {C : Addr}
inductive sp_init (C : Addr) (vs : List V) (H : Hp) (Q : VK) (E : XK) : Prop
  | mk (b dx a : Addr) (o : HO) (zs : List Str) (e : vs = [.ref b, .ref a]) (h1 : H b = some (.ins C dx [])) (h2 : H a = some o) (ob : Ob o (zs.map V.str)) (ok : Srcs zs) (q : ∀ d H', But b H H' → H d = none → BookAt C H' b d zs [] → Q .non H') : sp_init C vs H Q E
theorem sc_init : FnScope ["self", "sources"] ["self", "sources"] (defScope sm_init) := ⟨rfl, rfl, rfl, by decide +kernel, rfl, by decide +kernel, by decide +kernel⟩
theorem init_ok (T : Txt K mg C) {f : Addr} {fd : FuncData} (F : Fun K "__init__" "Book.__init__" sm_init f fd) : FnOk P w K mg base CX0 4 f fd ["self", "sources"] (sp_init C) := by
  refine F.ok sc_init (fun vs H Q E h => ?_) (fun cdv A outer s H vs Q E hr h => ?_)
  · obtain ⟨b, dx, a, o, zs, rfl, _⟩ := h
    rfl
  · obtain ⟨b, dx, a, o, zs, rfl, hb, ha, ob, ok, q⟩ := h
    refine ⟨_, (pss_cons (ps_if (pt_not (pt_val (pe_can (are_sources T) hr (pa1 (pv 1))))) pss_never pss_nil)
      (pss_cons (ps_fld (pv 0) (pe_t call_tup_ob T.b_tuple boot_tuple (pa1 (pv 1))) rfl)
      (pss_one (ps_fld (pv 0) pe_dnewT rfl)))), ?_⟩
    refine ⟨_, rfl, a, o, zs, rfl, ha, ob, ok, fun H1 s1 => ⟨_, rfl, iteF ?_⟩⟩
    refine ⟨_, rfl, a, o, _, rfl, s1 _ _ ha, ob, fun l H2 s2 hl => ?_⟩
    have s12 := s1.trans s2
    have hb2 := s12 _ _ hb
    have nl : l ≠ b := fun z => by rw [z, hb2] at hl; cases hl
    refine ⟨_, rfl, b, C, dx, _, rfl, hb2, T.cl, T.n_best_first, (by show 0 < 1000; decide), ?_⟩
    intro d hd
    have nd : d ≠ b := fun z => by rw [z, upd_same] at hd; cases hd
    have hd2 : H2 d = none := by rw [upd_ne nd] at hd; exact hd
    have nld : l ≠ d := fun z => by rw [← z, upd_ne nl, hl] at hd; cases hd
    refine ⟨_, rfl, b, C, dx, _, rfl, by rw [upd_ne (Ne.symm nd), upd_same], T.cl, T.n_told, (by show 1 < 1000; decide), ?_⟩
    refine q d _ (fun c u e n => ?_) (same_none s12 hd2) ⟨dx, l, [], by rw [upd_same]; rfl, ?_, ?_, .nil⟩
    · rw [upd_ne n, upd_ne (fun z => by rw [z] at e; rw [s12 _ _ e] at hd2; cases hd2), upd_ne n]
      exact s12 _ _ e
    · rw [upd_ne nl, upd_ne nld, upd_ne nl]; exact hl
    · rw [upd_ne nd, upd_same]
inductive sp_rank (C : Addr) (vs : List V) (H : Hp) (Q : VK) (E : XK) : Prop
  | mk (b d a : Addr) (o : HO) (os : List Str) (m : TM) (zs : List Str) (e : vs = [.ref b, .ref a]) (h : BookAt C H b d os m) (ha : H a = some o) (ob : Ob o (zs.map V.str)) (ok : Srcs zs) (p : zs.Perm os) (q : ∀ H', But b H H' → BookAt C H' b d zs m → Q .non H') : sp_rank C vs H Q E
theorem sc_rank : FnScope ["self", "order"] ["self", "order"] (defScope sm_rank) := ⟨rfl, rfl, rfl, by decide +kernel, rfl, by decide +kernel, by decide +kernel⟩
set_option maxHeartbeats 2000000 in
theorem rank (T : Txt K mg C) : CanM P w K mg base C 4 "rank" ["self", "order"] (sp_rank C) := by
  refine fm_can T.m_rank sc_rank (fun vs H Q E h => ?_) (fun f cdv A outer s H vs Q E hr h => ?_)
  · obtain ⟨b, d, a, o, os, m, zs, rfl, _⟩ := h
    rfl
  · obtain ⟨b, d, a, o, os, m, zs, rfl, hB, ha, ob, ok, pp, q⟩ := h
    refine ⟨_, (pss_cons (ps_if (PW.pt (pw_or (pt_not (pt_val (pe_can (are_sources T) hr (pa1 (pv 1))))) (pw_or1 (pt_cmpR (op_neD hr) (pe_b call_sortedQ T.b_sorted boot_sorted (pa1 (pv 1))) (pe_b call_sortedQ T.b_sorted boot_sorted (pa1 (pe_fldK K (pv 0) rfl))) (nomark _))))) pss_never pss_nil)
      (pss_one (ps_fld (pv 0) (pe_t call_tup_ob T.b_tuple boot_tuple (pa1 (pv 1))) rfl))), ?_⟩
    have z6 := ok.h
    have ol : os.length = zs.length := pp.length_eq.symm
    refine ⟨_, rfl, a, o, zs, rfl, ha, ob, ok, fun H1 s1 => ⟨_, rfl, iteF ?_⟩⟩
    have hB1 := hB.same s1
    obtain ⟨dx, f, kvs, hb, hf, hd, r⟩ := id hB1
    refine ⟨_, rfl, a, o, zs, rfl, s1 _ _ ha, ob, by omega, fun D is p1 p2 hD => ?_⟩
    have s2 : Same H1 (upd H1 D (.lst ((is.map fun i => zs.getD i "").map V.str))) := Same.upd hD
    refine ⟨_, rfl, b, C, dx, _, _, rfl, s2 _ _ hb, T.cl, T.n_best_first, rfl, f, _, os, rfl, s2 _ _ hf, .inr rfl, by omega, fun G js r1 r2 hG => ?_⟩
    rw [← sort_same pp p1 p2 r1 r2]
    generalize hw : (is.map fun i => zs.getD i "") = us at s2 hG ⊢
    have s3 : Same (upd H1 D (.lst (us.map V.str))) (upd (upd H1 D (.lst (us.map V.str))) G (.lst (us.map V.str))) := Same.upd hG
    have su : ∀ z ∈ us, Src z := fun z hz => by
      rw [← hw] at hz
      obtain ⟨i, hi, rfl⟩ := List.mem_map.mp hz
      have := List.mem_range.mp (p1.mem_iff.mp hi)
      rw [List.getD_eq_getElem?_getD, List.getElem?_eq_getElem this]
      exact ok.s _ (List.getElem_mem this)
    refine ⟨.list (us.map .str), .list (us.map .str), by unfold Dat; exact ⟨D, _, rfl, s3 _ _ upd_same, strs_dat _ us⟩, by unfold Dat; exact ⟨G, _, rfl, upd_same, strs_dat _ us⟩, strs_lay su, strs_lay su, strs_dep us, _, rfl, ?_⟩
    rw [show PyData.eqv (.list (us.map .str)) (.list (us.map .str)) = true from strs_eqv us]
    refine iteF ?_
    have s23 := s2.trans s3
    refine ⟨_, rfl, a, o, _, rfl, s23 _ _ (s1 _ _ ha), ob, fun l H4 s4 hl => ?_⟩
    have s14 := s23.trans s4
    have hb4 := s14 _ _ hb
    have nl : l ≠ b := fun z => by rw [z, hb4] at hl; cases hl
    refine ⟨_, rfl, b, C, dx, _, rfl, hb4, T.cl, T.n_best_first, (by show 2 < 1000; decide), ?_⟩
    have nb : d ≠ b := fun z => by rw [z, hb] at hd; cases hd
    refine q _ (fun c u e n => by rw [upd_ne n]; exact s14 _ _ (s1 _ _ e)) ⟨dx, l, kvs, by rw [upd_same]; rfl, by rw [upd_ne nl]; exact hl, by rw [upd_ne nb]; exact s14 _ _ hd, r.same fun c ys e => ?_⟩
    have nc : c ≠ b := fun z => by rw [z, hb] at e; cases e
    rw [upd_ne nc]
    exact s14 _ _ e
end
end Pr
set_option Elab.async false
set_option linter.all false
set_option maxRecDepth 100000
/-! the laws' draws: pot, digit, wide -/
namespace L2
open PySem PySem.Spec PyProof.Rows
theorem But.upd {p : Addr} {H : Hp} {o : HO} : But p H (L2.upd H p o) := fun c u h n => by rw [L2.upd_ne n]; exact h
theorem But.same {p : Addr} {H H1 H2 : Hp} (a : But p H H1) (b : Same H1 H2) : But p H H2 := fun c o h n => b c o (a c o h n)
end L2
namespace Pr
open PySem L2 PyProof.Rows
theorem atI_ints {S : List Int} {i : Int} (h0 : 0 ≤ i) (h1 : i < (S.length : Int)) : atI (S.map V.int) i = some (.int (S.getD i.toNat 0)) := by
  obtain ⟨n, rfl⟩ : ∃ n : Nat, i = n := ⟨i.toNat, by omega⟩
  refine atI_nat ?_
  rw [Int.toNat_natCast, List.getElem?_map, List.getElem?_eq_getElem (by omega), List.getD_eq_getElem?_getD, List.getElem?_eq_getElem (by omega)]
  rfl
inductive PotAt (H : Hp) (p : Addr) : Prop
  | mk (x : Int) (y : Int) (h : H p = some (.lst [.int x, .int y])) : PotAt H p
theorem PotAt.ne {H : Hp} {p l : Addr} (h : PotAt H p) (hl : H l = none) : l ≠ p := by
  obtain ⟨x, y, h⟩ := h
  exact Ne.symm (ne_of_none h hl)
theorem PotAt.same {H H' : Hp} {p : Addr} (h : PotAt H p) (s : Same H H') : PotAt H' p := by
  obtain ⟨x, y, h⟩ := h
  exact ⟨x, y, s _ _ h⟩
section
variable {P : Program} {w : World} {K : PySem.W.Frag} {mg : Str → Option Value} {base : Heap} {C : Addr}
inductive sp_pot (K : PySem.W.Frag) (vs : List V) (H : Hp) (Q : VK) (E : XK) : Prop
  | mk (a : Addr) (ns : List Int) (k : Int) (e : vs = [.ref a, .int k]) (h : SqL K H a (ns.map V.int)) (hn : ns.length ≤ 63) (hk : 0 ≤ k) (q : ∀ p H', Same H H' → H p = none → PotAt H' p → Q (.ref p) H') : sp_pot K vs H Q E
theorem sc_pot : FnScope ["_law_script", "_law_k", "_law_cell"] ["_law_script", "_law_k"] (defScope s_law_pot) := ⟨rfl, rfl, rfl, by decide +kernel, rfl, by decide +kernel, by decide +kernel⟩
theorem pot (T : Txt K mg C) : Can P w K mg base 1 "_law_pot" ["_law_script", "_law_k"] (sp_pot K) := by
  refine fn_can T.f_law_pot sc_pot (fun vs H Q E h => ?_) (fun f cdv A outer s H vs Q E hr h => ?_)
  · obtain ⟨a, ns, k, rfl, _⟩ := h
    rfl
  · obtain ⟨a, ns, k, rfl, ha, hn, hk, q⟩ := h
    refine ⟨_, (pss_cons (ps_set (i := 2) sc_pot.nd rfl (Or.inl rfl) (pe_ix (ix_listK K) (pe_op op_cat (pe_t (call_list_ofK K) T.b_list boot_list (pa1 (pv 0))) (pe_lst (pa1 pe_int))) (pe_b (call_min2 rfl) T.b_min boot_min (pa2 (pv 1) (pe_b (call_lenK K) T.b_len boot_len (pa1 (pv 0))))) (fun _ _ => rfl)))
      (pss_one (ps_ret (pe_lst (pa2 (pe_op op_mul (pv 2) (pe_t call_int1 T.b_int boot_int (pa1 (pe_cmpR op_ge (pv 2) (pe_op op_pow pe_int pe_int) (nomark _))))) (pe_op op_mod (pe_op op_add (pe_op op_add (pe_op op_mul (pe_op op_mod (pv 2) pe_int) pe_int) (pe_op op_mul pe_int (pv 1))) pe_int) pe_int)))))), ?_⟩
    refine ⟨_, rfl, a, _, rfl, .inl ha, fun l1 h1 => ?_⟩
    have s1 : Same H (upd H l1 (.lst (ns.map V.int))) := Same.upd h1
    refine ⟨line1 (by show 1 ≤ 1000; decide), fun l2 h2 => ?_⟩
    have s2 : Same (upd H l1 (.lst (ns.map V.int))) (upd (upd H l1 (.lst (ns.map V.int))) l2 (.lst [.int 0])) := Same.upd h2
    refine ⟨l1, l2, _, _, rfl, rfl, s2 _ _ upd_same, upd_same, by rw [sizeLine_eq, List.length_map]; show ns.length + 1 ≤ _; omega, fun l3 h3 => ?_⟩
    have s3 : Same (upd (upd H l1 (.lst (ns.map V.int))) l2 (.lst [.int 0])) (upd (upd (upd H l1 (.lst (ns.map V.int))) l2 (.lst [.int 0])) l3 (.lst (ns.map V.int ++ [.int 0]))) := Same.upd h3
    have sA := s1.trans (s2.trans s3)
    refine ⟨_, rfl, _, rfl, a, _, rfl, .inl (sA.seq ha), _, _, rfl, ?_⟩
    have e : ns.map V.int ++ [V.int 0] = (ns ++ [0]).map V.int := by rw [List.map_append]; rfl
    rw [List.length_map]
    have b0 : 0 ≤ (if (ns.length : Int) < k then (ns.length : Int) else k) := by split <;> omega
    have b1 : (if (ns.length : Int) < k then (ns.length : Int) else k) < ((ns ++ [0]).length : Int) := by rw [List.length_append]; show _ < ((ns.length + 1 : Nat) : Int); split <;> omega
    refine ⟨l3, _, _, _, rfl, rfl, .of (by rw [upd_same, e]), atI_ints b0 b1, ?_⟩
    generalize (ns ++ [0]).getD (if (ns.length : Int) < k then (ns.length : Int) else k).toNat 0 = c
    refine ⟨_, rfl, _, rfl, _, _, rfl, rfl, ⟨by decide +kernel, by decide +kernel, by decide +kernel⟩, _, _, rfl, rfl, .inr ⟨_, rfl, _, _, rfl, rfl, .inr ?_, ?_⟩⟩
    · constructor <;> split <;> decide
    refine ⟨_, rfl, _, _, rfl, rfl, (by show (0 : Int) < _; decide +kernel), _, _, rfl, rfl, .inr ⟨by decide +kernel, by decide +kernel⟩, _, rfl, _, _, rfl, rfl, .inl ⟨by decide +kernel, by decide +kernel⟩, _, _, rfl, rfl, _, _, rfl, rfl, _, _, rfl, rfl, (by show (0 : Int) < _; decide +kernel), line1 (by show 2 ≤ 1000; decide), fun p hp => ?_⟩
    exact q p _ (sA.trans (Same.upd hp)) (same_none sA hp) ⟨_, _, upd_same⟩
inductive sp_digit (vs : List V) (H : Hp) (Q : VK) (E : XK) : Prop
  | mk (p : Addr) (many : Int) (e : vs = [.ref p, .int many]) (h1 : PotAt H p) (h2 : 0 < many) (h3 : many < 2 ^ 300) (q : ∀ d H', 0 ≤ d → d < many → But p H H' → PotAt H' p → Q (.int d) H') : sp_digit vs H Q E
theorem sc_digit : FnScope ["_law_pot_here", "_law_many", "_law_digit_here"] ["_law_pot_here", "_law_many"] (defScope s_law_digit) := ⟨rfl, rfl, rfl, by decide +kernel, rfl, by decide +kernel, by decide +kernel⟩
theorem digit (T : Txt K mg C) : Can P w K mg base 1 "_law_digit" ["_law_pot_here", "_law_many"] sp_digit := by
  refine fn_can T.f_law_digit sc_digit (fun vs H Q E h => ?_) (fun f cdv A outer s H vs Q E hr h => ?_)
  · obtain ⟨p, many, rfl, _⟩ := h
    rfl
  · obtain ⟨p, many, rfl, ⟨x, y, hp⟩, h0, h1, q⟩ := h
    refine ⟨_, (pss_cons (ps_if (pt_cmpR op_gt (pe_ix (ix_listK K) (pv 0) pe_int (fun _ _ => rfl)) pe_int (nomark _))
        (pss_cons (ps_set (i := 2) sc_digit.nd rfl (Or.inl rfl) (pe_op op_mod (pe_ix (ix_listK K) (pv 0) pe_int (fun _ _ => rfl)) (pv 1)))
        (pss_cons (ps_asg (pe_op op_fdivB (pe_ix (ix_listK K) (pv 0) pe_int (fun _ _ => rfl)) (pv 1)) (pg_sub (pv 0) pe_int set_list))
        (pss_one (ps_ret (pv 2)))))
        pss_nil)
      (pss_cons (ps_asg (pe_op op_mod (pe_op op_add (pe_op op_mul (pe_ix (ix_listK K) (pv 0) pe_int (fun _ _ => rfl)) pe_int) pe_int) pe_int) (pg_sub (pv 0) pe_int set_list))
      (pss_one (ps_ret (pe_op op_mod (pe_op op_fdivB (pe_ix (ix_listK K) (pv 0) pe_int (fun _ _ => rfl)) pe_int) (pv 1)))))), ?_⟩
    refine ⟨_, rfl, p, _, _, _, rfl, rfl, .of hp, rfl, _, _, rfl, rfl, _, rfl, ?_⟩
    refine ite2 (fun hc => ?_) (fun hc => ?_)
    · refine ⟨_, rfl, p, _, _, _, rfl, rfl, .of hp, rfl, _, rfl, _, _, rfl, rfl, h0, ?_⟩
      refine ⟨_, rfl, p, _, _, _, rfl, rfl, .of hp, rfl, _, rfl, _, _, rfl, rfl, ⟨h0, h1⟩, _, rfl, p, _, _, _, rfl, rfl, hp, rfl, _, rfl, ?_⟩
      exact q _ _ (Int.emod_nonneg _ (by omega)) (Int.emod_lt_of_pos _ h0) But.upd ⟨_, _, upd_same⟩
    · refine ⟨_, rfl, p, _, _, _, rfl, rfl, .of hp, rfl, _, _, rfl, rfl, .inr ⟨by decide +kernel, by decide +kernel⟩, _, _, rfl, rfl, _, _, rfl, rfl, (by show (0 : Int) < _; decide +kernel), _, rfl, p, _, _, _, rfl, rfl, hp, rfl, ?_⟩
      refine ⟨_, rfl, p, _, _, _, rfl, rfl, .of upd_same, rfl, _, _, rfl, rfl, ⟨by decide +kernel, by decide +kernel⟩, _, rfl, _, _, rfl, rfl, h0, ?_⟩
      exact q _ _ (Int.emod_nonneg _ (by omega)) (Int.emod_lt_of_pos _ h0) But.upd ⟨_, _, upd_same⟩
inductive sp_wide (vs : List V) (H : Hp) (Q : VK) (E : XK) : Prop
  | mk (p : Addr) (e : vs = [.ref p]) (h1 : PotAt H p) (q : ∀ d H', d.natAbs < 10 ^ 30 → But p H H' → PotAt H' p → Q (.int d) H') : sp_wide vs H Q E
theorem sc_wide : FnScope ["_law_pot_here", "_law_way", "_law_far", "_law_near"] ["_law_pot_here"] (defScope s_law_wide) := ⟨rfl, rfl, rfl, by decide +kernel, rfl, by decide +kernel, by decide +kernel⟩
theorem wide (T : Txt K mg C) : Can P w K mg base 2 "_law_wide" ["_law_pot_here"] sp_wide := by
  refine fn_can T.f_law_wide sc_wide (fun vs H Q E h => ?_) (fun f cdv A outer s H vs Q E hr h => ?_)
  · obtain ⟨p, rfl, _⟩ := h
    rfl
  · obtain ⟨p, rfl, hp, q⟩ := h
    refine ⟨_, (pss_cons (ps_set (i := 1) sc_wide.nd rfl (Or.inl rfl) (pe_can (digit T) hr (pa2 (pv 0) pe_int)))
      (pss_cons (ps_set (i := 2) sc_wide.nd rfl (Or.inl rfl) (pe_op op_add (pe_op op_sub (pe_can (digit T) hr (pa2 (pv 0) (pe_op op_sub (pe_op op_mul pe_int (pe_op op_pow pe_int pe_int)) pe_int))) (pe_op op_pow pe_int pe_int)) pe_int))
      (pss_cons (ps_set (i := 3) sc_wide.nd rfl (Or.inl rfl) (pe_op op_sub (pe_can (digit T) hr (pa2 (pv 0) pe_int)) pe_int))
      (pss_one (ps_ret (pe_ix (ix_listK K) (pe_lst (pa_cons (pv 3) (pa_cons (pv 3) (pa3 (pv 2) (pe_op op_sub (pe_op op_sub (pe_op op_pow pe_int pe_int) pe_int) (pe_b call_abs T.b_abs boot_abs (pa1 (pv 3)))) (pe_op op_add (pe_op op_sub (pe_b call_abs T.b_abs boot_abs (pa1 (pv 3))) (pe_op op_pow pe_int pe_int)) pe_int))))) (pv 1) (fun _ _ => rfl))))))), ?_⟩
    have e30 : (10 : Int) ^ (30 : Int).toNat = 1000000000000000000000000000000 := by decide +kernel
    have n30 : (10 : Nat) ^ 30 = 1000000000000000000000000000000 := by decide +kernel
    refine ⟨_, rfl, p, _, rfl, hp, by decide +kernel, by decide +kernel, fun w1 H1 a1 b1 c1 hp1 => ?_⟩
    refine ⟨_, rfl, _, _, rfl, rfl, ⟨by decide +kernel, by decide +kernel, by decide +kernel⟩, _, _, rfl, rfl, .inl ⟨by decide +kernel, by decide +kernel⟩, _, _, rfl, rfl, p, _, rfl, hp1, by decide +kernel, by decide +kernel, fun fr H2 a2 b2 c2 hp2 => ⟨_, _, rfl, rfl, ⟨by decide +kernel, by decide +kernel, by decide +kernel⟩, _, _, rfl, rfl, _, _, rfl, rfl, ?_⟩⟩
    refine ⟨_, rfl, p, _, rfl, hp2, by decide +kernel, by decide +kernel, fun nr H3 a3 b3 c3 hp3 => ⟨_, _, rfl, rfl, ?_⟩⟩
    rw [e30] at b2 ⊢
    refine ⟨_, rfl, _, rfl, _, rfl, _, _, rfl, rfl, ⟨by decide +kernel, by decide +kernel, by decide +kernel⟩, _, _, rfl, rfl, _, rfl, _, rfl, _, _, rfl, rfl, _, rfl, _, rfl, _, _, rfl, rfl, ⟨by decide +kernel, by decide +kernel, by decide +kernel⟩, _, _, rfl, rfl, _, _, rfl, rfl, line1 (by show 5 ≤ 1000; decide), fun L hL => ?_⟩
    rw [e30]
    generalize hne : nr - 4 = ne
    have hab : ∃ ab : Int, ab = (if ne < 0 then -ne else ne) ∧ 0 ≤ ab ∧ ab ≤ 4 := ⟨_, rfl, by split <;> omega, by split <;> omega⟩
    obtain ⟨ab, eab, ab0, ab4⟩ := hab
    rw [← eab]
    refine ⟨_, rfl, L, _, _, _, rfl, rfl, .of upd_same, atI_ints (S := [ne, ne, fr - 1000000000000000000000000000000 + 1, 1000000000000000000000000000000 - 1 - ab, ab - 1000000000000000000000000000000 + 1]) a1 (by show w1 < 5; exact b1), ?_⟩
    refine q _ _ ?_ ((c1.trans (c2.trans c3)).same (Same.upd hL)) (hp3.same (Same.upd hL))
    rw [n30]
    rcases (show w1 = 0 ∨ w1 = 1 ∨ w1 = 2 ∨ w1 = 3 ∨ w1 = 4 by omega) with rfl | rfl | rfl | rfl | rfl
    · show ne.natAbs < _; omega
    · show ne.natAbs < _; omega
    · show (fr - 1000000000000000000000000000000 + 1).natAbs < _; omega
    · show ((1000000000000000000000000000000 : Int) - 1 - ab).natAbs < _; omega
    · show (ab - 1000000000000000000000000000000 + 1).natAbs < _; omega
end
end Pr
set_option Elab.async false
set_option linter.all false
set_option maxRecDepth 100000
/-! drawn words: sources, keys -/
namespace L2
open PySem PySem.Spec PyProof.Rows
theorem op_notIn_seqK {X : Cx} (K : PySem.W.Frag) (e : X.K = K := by rfl) : OpR X (compareOp .NotIn) (rIn K true) := by rw [← e]; exact op_notIn_seq
theorem op_in_seqK {X : Cx} (K : PySem.W.Frag) (e : X.K = K := by rfl) : OpR X (compareOp .In) (rIn K false) := by rw [← e]; exact op_in_seq
end L2
namespace Pr
open PySem L2 PyProof.Rows Ent
abbrev wd (cs : List Nat) : Str := Txt.join "" (cs.map fun c => (⟨#[c]⟩ : Str))
theorem sum_ones (cs : List Nat) : (cs.map ((fun x : Str => x.length) ∘ fun c => (⟨#[c]⟩ : Str))).sum = cs.length := by
  induction cs with
  | nil => rfl
  | cons c r ih =>
    rw [List.map_cons, List.sum_cons, List.length_cons, ih]
    show 1 + r.length = _
    omega
theorem wd_le (cs : List Nat) : (wd cs).cps.size ≤ cs.length := by
  have e : wd cs = Str.join "" (cs.map fun c => (⟨#[c]⟩ : Str)) := StrLaws.glued_eq_join _ _
  rw [e]
  have h1 := StrLaws.join_length_le "" (cs.map fun c => (⟨#[c]⟩ : Str))
  rw [List.map_map, sum_ones] at h1
  have h3 : (("" : String) : Str).length = 0 := by decide
  rw [h3] at h1
  show (Str.join _ _).length ≤ _
  omega
theorem wd_mem {cs : List Nat} {c : Nat} (h : c ∈ (wd cs).cps.toList) : c ∈ cs := by
  have e : wd cs = Str.join "" (cs.map fun c => (⟨#[c]⟩ : Str)) := StrLaws.glued_eq_join _ _
  rw [e] at h
  rcases (mem_join "" c _).mp h with ⟨t, ht, h2⟩ | ⟨_, h2⟩
  · obtain ⟨d, hd, rfl⟩ := List.mem_map.mp ht
    have : c = d := by simpa using h2
    rw [this]
    exact hd
  · have e0 : (("" : String) : Str).cps.toList = [] := by decide
    rw [e0] at h2
    cases h2
theorem wd_pos {cs : List Nat} (h : 1 ≤ cs.length) : 1 ≤ (wd cs).cps.size := by
  have e : wd cs = Str.join "" (cs.map fun c => (⟨#[c]⟩ : Str)) := StrLaws.glued_eq_join _ _
  rw [e]
  obtain ⟨c, hm⟩ := List.exists_mem_of_length_pos (show 0 < cs.length from h)
  exact join_mem_le "" _ (⟨#[c]⟩ : Str) (List.mem_map.mpr ⟨c, hm, rfl⟩)
theorem wd_join {cs : List Nat} (h : cs.length ≤ 100) : JoinOk "" (cs.map fun c => (⟨#[c]⟩ : Str)) = true := by
  refine joinOk_of ?_
  rw [List.map_map, sum_ones]
  have h3 : (("" : String) : Str).length = 0 := by decide
  rw [h3]
  omega
theorem sign_at {sg : Str} {i : Int} (h0 : 0 ≤ i) (h1 : i < sg.cps.toList.length) : ∃ c, atI sg.cps.toList i = some c ∧ c ∈ sg.cps.toList := by
  obtain ⟨n, rfl⟩ : ∃ n : Nat, i = n := ⟨i.toNat, by omega⟩
  have hn : n < sg.cps.toList.length := by omega
  exact ⟨sg.cps.toList[n], atI_nat (List.getElem?_eq_getElem hn), List.getElem_mem hn⟩
section
variable {P : Program} {w : World} {K : PySem.W.Frag} {mg : Str → Option Value} {base : Heap} {C : Addr}
abbrev A36 : Str := (("0123456789abcdefghijklmnopqrstuvwxyz" : String) : Str)
inductive sp_key (K : PySem.W.Frag) (vs : List V) (H : Hp) (Q : VK) (E : XK) : Prop
  | mk (p a : Addr) (ks : List Str) (e : vs = [.ref p, .ref a]) (h1 : PotAt H p) (ha : H a = some (.lst (ks.map V.str))) (hl : ks.length < 1000) (hk : ∀ k ∈ ks, KeyOk k) (q : ∀ k H', KeyOk k → But p H H' → PotAt H' p → Q (.str k) H') : sp_key K vs H Q E
theorem sc_key : FnScope ["_law_pot_here", "_law_keys", "_law_signs"] ["_law_pot_here", "_law_keys"] (defScope s_law_key) := ⟨rfl, rfl, rfl, by decide +kernel, rfl, by decide +kernel, by decide +kernel⟩
theorem ne_nil (ks : List Str) : PyData.eqv (.list (ks.map .str)) (.list []) = decide (ks = []) := by
  cases ks with
  | nil => rfl
  | cons x t => rw [decide_eq_false (by simp)]; rfl
theorem key_lay : ∀ {l : List Str}, (∀ z ∈ l, KeyOk z) → PyData.canLayAll0 (l.map PyData.str) = true
  | [], _ => rfl
  | x :: t, h => by
    rw [List.map_cons]
    unfold PyData.canLayAll0
    rw [key_lay fun z hz => h z (List.mem_cons_of_mem _ hz), Bool.and_true]
    exact (lf_str (h x List.mem_cons_self)).cl
set_option maxHeartbeats 2000000 in
theorem key (T : Txt K mg C) : Can P w K mg base 2 "_law_key" ["_law_pot_here", "_law_keys"] (sp_key K) := by
  refine fn_can T.f_law_key sc_key (fun vs H Q E h => ?_) (fun f cdv A outer s H vs Q E hr h => ?_)
  · obtain ⟨p, a, ks, rfl, _⟩ := h
    rfl
  · obtain ⟨p, a, ks, rfl, hp, ha, hl, hk, q⟩ := h
    refine ⟨_, (pss_cut (ps_if (PW.pt (pw_and (pt_cmpR (op_neD hr) (pv 1) (pe_lst pa_nil) (nomark _)) (pw_and1 (PW.pt (pw_or (pt_cmpR op_gt (pe_can (digit T) hr (pa2 (pv 0) pe_int)) pe_int (nomark _)) (pw_or1 (pt_cmpR op_ge (pe_b (call_lenK K) T.b_len boot_len (pa1 (pv 1))) pe_int (nomark _))))))))
        (pss_one (ps_ret (pe_ix (ix_listK K) (pv 1) (pe_can (digit T) hr (pa2 (pv 0) (pe_b (call_lenK K) T.b_len boot_len (pa1 (pv 1))))) (fun _ _ => rfl))))
        pss_nil)
      (pss_cons (ps_set (i := 2) sc_key.nd rfl (Or.inr rfl) pe_str)
      (pss_one (ps_ret (pe_bmK K PySem.F.plainAttrs_str PySem.F.slot_str_join PySem.F.type_str_join mt_join pe_str (pa1 (pe_lc rfl (lcS sc_key) (pi_range1 rfl T.b_range (pa1 (pe_op op_add pe_int (pe_can (digit T) hr (pa2 (pv 0) pe_int))))) (fun _ _ _ _ => pts_nil) (fun _ _ _ _ => (pe_ix ix_str (pv 3) (pe_can (digit T) hr (pa2 (pv 1) pe_int)) (fun _ _ => rfl)))))))))), ?_⟩
    refine ⟨fun σ' H' => σ' = [some (.ref p), some (.ref a), none] ∧ But p H H' ∧ PotAt H' p, ?_, ?_⟩
    · refine ⟨_, rfl, Nat.zero_le _, fun L hL => ?_⟩
      have s1 : Same H (upd H L (.lst [])) := Same.upd hL
      refine ⟨.list (ks.map .str), .list [], by unfold Dat; exact ⟨a, _, rfl, s1 _ _ ha, strs_dat _ ks⟩, by unfold Dat; exact ⟨L, _, rfl, upd_same, by unfold DatAll; rfl⟩, by unfold PyData.canLay0; exact key_lay hk, rfl, strs_dep ks, _, rfl, ?_⟩
      rw [ne_nil]
      have hp1 := hp.same s1
      by_cases e : ks = []
      · rw [decide_eq_true e]
        exact iteF (iteF ⟨rfl, s1.but, hp1⟩)
      · rw [decide_eq_false e]
        have na : a ≠ p := fun z => by
          obtain ⟨x, y, hp⟩ := hp
          rw [z, hp] at ha
          cases ks with
          | nil => exact e rfl
          | cons k t => cases ha
        have kl : 0 < ks.length := List.length_pos_iff.mpr e
        refine iteT ⟨_, rfl, p, _, rfl, hp1, by decide +kernel, by decide +kernel, fun d1 H1 a1 b1 c1 hp2 => ⟨_, _, rfl, rfl, _, rfl, ?_⟩⟩
        have ha1 := c1 _ _ (s1 _ _ ha) na
        have yes : tRet (tOp (rIxL K) (tVar 1) (tCall sp_digit [] E0 (tCons (tVar 0) (tCons (tCB (cLen K) (tCons (tVar 1) tNil)) tNil))))
                ({ nx := fun σ' H' => σ' = [some (V.ref p), some (V.ref a), none] ∧ But p H H' ∧ PotAt H' p, rt := Q } : Ends)
                (L2.start ["_law_pot_here", "_law_keys", "_law_signs"] [V.ref p, V.ref a]) H1 := by
          refine ⟨_, rfl, _, rfl, _, rfl, a, _, rfl, .inl (.of ha1), p, _, rfl, hp2, by rw [List.length_map]; omega, by rw [List.length_map]; omega, fun d2 H2 a2 b2 c2 hp3 => ?_⟩
          rw [List.length_map] at b2
          obtain ⟨n, rfl⟩ : ∃ n : Nat, d2 = n := ⟨d2.toNat, by omega⟩
          have hn : n < ks.length := by omega
          exact ⟨a, _, _, .str ks[n], rfl, rfl, .of (c2 _ _ ha1 na), atI_nat (by rw [List.getElem?_map, List.getElem?_eq_getElem hn]; rfl), q _ _ (hk _ (List.getElem_mem hn)) (s1.but.trans (c1.trans c2)) hp3⟩
        refine iteB (fun hc => iteT yes) (fun hc => ⟨_, rfl, a, _, rfl, .inl (.of ha1), _, _, rfl, rfl, _, rfl, ?_⟩)
        exact iteB (fun _ => yes) (fun _ => ⟨rfl, s1.but.trans c1, hp2⟩)
    · rintro σ' H1 ⟨rfl, c1, hp1⟩
      refine ⟨rfl, _, rfl, p, _, rfl, hp1, by decide +kernel, by decide +kernel, fun d1 H2 a1 b1 c2 hp2 => ⟨_, _, rfl, rfl, _, rfl, by omega, by omega, fun D hD => ?_⟩⟩
      have c12 := c1.trans c2
      have nD : D ≠ p := hp2.ne hD
      refine lc_range (fun i ys H3 => H3 D = some (.lst ys) ∧ But p H2 H3 ∧ PotAt H3 p ∧ ∃ cs : List Nat, ys = cs.map (fun c => V.str ⟨#[c]⟩) ∧ cs.length = i ∧ ∀ c ∈ cs, c ∈ A36.cps.toList) ⟨upd_same, (Same.upd hD).but, hp2.same (Same.upd hD), [], rfl, rfl, fun _ h => nomatch h⟩ (fun i ys H3 h => h.1) (fun ys H3 h => ?_) fun i ys H3 hi h => ?_
      · obtain ⟨h1, h2, h3, cs, rfl, h5, h6⟩ := h
        have e2 : cs.map (fun c => V.str ⟨#[c]⟩) = (cs.map fun c => (⟨#[c]⟩ : Str)).map V.str := by rw [List.map_map]; rfl
        rw [e2] at h1
        have a128 : ∀ c ∈ A36.cps.toList, c < 128 := by
          have : A36.cps.toList.all (fun c => decide (c < 128)) = true := by decide +kernel
          exact fun c hc => of_decide_eq_true (List.all_eq_true.mp this c hc)
        refine ⟨_, D, _, rfl, rfl, .of h1, wd_join (by omega), q _ _ ⟨?_, fun c hc => a128 c (h6 c (wd_mem hc))⟩ (c12.trans h2) h3⟩
        have := wd_le cs
        show (wd cs).cps.size ≤ 8
        omega
      · obtain ⟨h1, h2, h3, cs, rfl, h5, h6⟩ := h
        refine yesI ⟨_, rfl, _, rfl, p, _, rfl, h3, by decide +kernel, by decide +kernel, fun d H4 a4 b4 c4 hp4 => ?_⟩
        obtain ⟨ch, hch, hab⟩ := sign_at (sg := A36) a4 (by show d < 36; exact b4)
        refine ⟨_, _, _, rfl, rfl, by decide +kernel, hch, LcNx.mk hi (by omega) (by rw [List.length_map]; omega) (c4 _ _ h1 nD) ⟨upd_same, ?_, ?_, cs ++ [ch], by rw [List.map_append]; rfl, by rw [List.length_append, h5]; rfl, fun z hz => ?_⟩⟩
        · intro b' o hb hn
          rw [upd_ne (ne_of_none hb hD)]
          exact c4 _ _ (h2 _ _ hb hn) hn
        · obtain ⟨x, y, hxy⟩ := hp4
          exact ⟨x, y, by rw [upd_ne (Ne.symm nD)]; exact hxy⟩
        · rcases List.mem_append.mp hz with hz | hz
          · exact h6 z hz
          · rw [List.mem_singleton.mp hz]; exact hab
end
end Pr
set_option Elab.async false
set_option linter.all false
set_option maxRecDepth 100000
/-! drawn sources -/
namespace Pr
open PySem L2 PyProof.Rows Ent
theorem inV_str (k : Str) (ks : List Str) : inV (.str k) (ks.map V.str) = decide (k ∈ ks) := by
  induction ks with
  | nil => rfl
  | cons x t ih =>
    unfold inV at ih ⊢
    rw [List.map_cons, List.any_cons, ih]
    have e : eqV (.str x) (.str k) = decide (x = k) := by show (x == k) = _; by_cases z : x = k <;> simp [z]
    rw [e]
    by_cases z : k = x
    · subst z; simp
    · rw [decide_eq_false (fun h => z h.symm), Bool.false_or]
      by_cases y : k ∈ t
      · rw [decide_eq_true y, decide_eq_true (List.mem_cons_of_mem _ y)]
      · rw [decide_eq_false y, decide_eq_false (by simp [z, y])]
theorem flat_strs (ks : List Str) : (ks.map V.str).all flatV = true := by
  rw [List.all_eq_true]
  intro x hx
  obtain ⟨k, _, rfl⟩ := List.mem_map.mp hx
  rfl
theorem few {α : Type} [DecidableEq α] : ∀ {l zs : List α}, l.Nodup → (∀ x ∈ l, x ∈ zs) → l.length ≤ zs.length
  | [], _, _, _ => Nat.zero_le _
  | x :: t, zs, nd, h => by
    have nd' := List.nodup_cons.mp nd
    have hx := h x List.mem_cons_self
    have := few (zs := zs.erase x) nd'.2 fun y hy => by
      have ne : y ≠ x := fun z => nd'.1 (z ▸ hy)
      exact (List.mem_erase_of_ne ne).mpr (h y (List.mem_cons_of_mem _ hy))
    rw [List.length_erase_of_mem hx] at this
    have : 0 < zs.length := List.length_pos_of_mem hx
    rw [List.length_cons]
    omega
theorem az_all : ∀ c ∈ AZ.cps.toList, c < 128 := by
  have : AZ.cps.toList.all (fun c => decide (c < 128)) = true := by decide +kernel
  exact fun c hc => of_decide_eq_true (List.all_eq_true.mp this c hc)
theorem src_one {c : Nat} (h : c ∈ AZ.cps.toList) : Src ⟨#[c]⟩ := ⟨Nat.le_refl 1, Nat.le_of_ble_eq_true rfl, fun d hd => by
  have : d = c := by simpa using hd
  rw [this]; exact ⟨az_all c h, h⟩⟩
section
variable {P : Program} {w : World} {K : PySem.W.Frag} {mg : Str → Option Value} {base : Heap} {C : Addr}
inductive sp_sources (vs : List V) (H : Hp) (Q : VK) (E : XK) : Prop
  | mk (p : Addr) (e : vs = [.ref p]) (h1 : PotAt H p) (q : ∀ L zs H', Srcs zs → But p H H' → PotAt H' p → H L = none → H' L = some (.lst (zs.map V.str)) → Q (.ref L) H') : sp_sources vs H Q E
theorem sc_sources : FnScope ["_law_pot_here", "_law_letters", "_law_found", "_law_k", "_law_name"] ["_law_pot_here"] (defScope s_law_sources) := ⟨rfl, rfl, rfl, by decide +kernel, rfl, by decide +kernel, by decide +kernel⟩
set_option maxHeartbeats 4000000 in
theorem sources (T : Txt K mg C) : Can P w K mg base 2 "_law_sources" ["_law_pot_here"] sp_sources := by
  refine fn_can T.f_law_sources sc_sources (fun vs H Q E h => ?_) (fun f cdv A outer s H vs Q E hr h => ?_)
  · obtain ⟨p, rfl, _⟩ := h
    rfl
  · obtain ⟨p, rfl, hp, q⟩ := h
    refine ⟨_, (pss_cons (ps_set (i := 1) sc_sources.nd rfl (Or.inr rfl) pe_str)
      (pss_cons (ps_set (i := 2) sc_sources.nd rfl (Or.inr rfl) (pe_lst pa_nil))
      (pss_cons (ps_for PassesOwn.never rfl (pi_range1 rfl T.b_range (pa1 (pe_op op_add pe_int (pe_can (digit T) hr (pa2 (pv 0) pe_int))))) (pg_name (i := 3) sc_sources.nd rfl (Or.inl rfl))
        (pss_cons (ps_set (i := 4) sc_sources.nd rfl (Or.inl rfl) (pe_bmK K PySem.F.plainAttrs_str PySem.F.slot_str_join PySem.F.type_str_join mt_join pe_str (pa1 (pe_lc rfl (lcS sc_sources) (pi_range1 rfl T.b_range (pa1 (pe_op op_add pe_int (pe_can (digit T) hr (pa2 (pv 0) pe_int))))) (fun _ _ _ _ => pts_nil) (fun _ _ _ _ => (pe_ix ix_str (pv 2) (pe_can (digit T) hr (pa2 (pv 1) pe_int)) (fun _ _ => rfl)))))))
        (pss_cut (ps_if (pt_cmpR (op_in_seqK K) (pv 4) (pv 2) rfl)
          (pss_one (ps_set (i := 4) sc_sources.nd rfl (Or.inl rfl) (pe_ix (ix_listK K) (pe_lc rfl (lcS sc_sources) (pi_str (pv 1)) (fun _ _ _ _ => (pts_one (pt_cmpR (op_notIn_seqK K) (pv 0) (pv 3) rfl))) (fun _ _ _ _ => (pv 0))) pe_int (fun _ _ => rfl))))
          pss_nil)
        (pss_one (ps_expr (pe_bmK K PySem.F.plainAttrs_list PySem.F.slot_list_append PySem.F.type_list_append mt_append (pv 2) (pa1 (pv 4))))))))
      (pss_one (ps_ret (pv 2)))))), ?_⟩
    refine ⟨Nat.zero_le _, fun L hL => ?_⟩
    have s1 : Same H (upd H L (.lst [])) := Same.upd hL
    refine ⟨_, rfl, p, _, rfl, hp.same s1, by decide +kernel, by decide +kernel, fun d0 H0 a0 b0 c0 hp0 => ⟨_, _, rfl, rfl, _, rfl, by omega, by omega, ?_⟩⟩
    have nL : L ≠ p := hp.ne hL
    refine for_range (n := (1 + d0).toNat) (fun i σ H1 => ∃ v3 v4 zs, σ = [some (.ref p), some (.str AZ), some (.ref L), v3, v4] ∧ But p H H1 ∧ PotAt H1 p ∧ H1 L = some (.lst (zs.map V.str)) ∧ zs.length = i ∧ zs.Nodup ∧ ∀ z ∈ zs, Src z) ⟨_, _, [], rfl, s1.but.trans c0, hp0, c0 _ _ upd_same nL, rfl, List.nodup_nil, fun _ h => nomatch h⟩ ?turn ?fin
    case fin =>
      rintro σ H1 ⟨v3, v4, zs, rfl, c1, hp1, hL1, hl, nd, hs⟩
      exact ⟨_, rfl, q L zs _ ⟨by omega, by omega, nd, hs⟩ c1 hp1 hL hL1⟩
    case turn =>
      rintro i σ H1 hi ⟨v3, v4, zs, rfl, c1, hp1, hL1, hl, nd, hs⟩
      refine ⟨rfl, _, rfl, p, _, rfl, hp1, by decide +kernel, by decide +kernel, fun d1 H2 a1 b1 c2 hp2 => ⟨_, _, rfl, rfl, _, rfl, by omega, by omega, fun D hD => ?_⟩⟩
      have nD : D ≠ p := hp2.ne hD
      refine lc_range (fun i ys H3 => H3 D = some (.lst ys) ∧ But p H2 H3 ∧ PotAt H3 p ∧ ∃ cs : List Nat, ys = cs.map (fun c => V.str ⟨#[c]⟩) ∧ cs.length = i ∧ ∀ c ∈ cs, c ∈ AZ.cps.toList) ⟨upd_same, (Same.upd hD).but, hp2.same (Same.upd hD), [], rfl, rfl, fun _ h => nomatch h⟩ (fun i ys H3 h => h.1) (fun ys H3 h => ?_) fun i ys H3 hi h => ?go
      case go =>
        obtain ⟨h1, h2, h3, cs, rfl, h5, h6⟩ := h
        refine yesI ⟨_, rfl, _, rfl, p, _, rfl, h3, by decide +kernel, by decide +kernel, fun d H4 a4 b4 c4 hp4 => ?_⟩
        obtain ⟨ch, hch, hab⟩ := sign_at (sg := AZ) a4 (by show d < 26; exact b4)
        refine ⟨_, _, _, rfl, rfl, by decide +kernel, hch, LcNx.mk hi (by omega) (by rw [List.length_map]; omega) (c4 _ _ h1 nD) ⟨upd_same, ?_, ?_, cs ++ [ch], by rw [List.map_append]; rfl, by rw [List.length_append, h5]; rfl, fun z hz => ?_⟩⟩
        · intro b' o hb hn
          rw [upd_ne (ne_of_none hb hD)]
          exact c4 _ _ (h2 _ _ hb hn) hn
        · obtain ⟨x, y, hxy⟩ := hp4
          exact ⟨x, y, by rw [upd_ne (Ne.symm nD)]; exact hxy⟩
        · rcases List.mem_append.mp hz with hz | hz
          · exact h6 z hz
          · rw [List.mem_singleton.mp hz]; exact hab
      obtain ⟨h1, h2, h3, cs, rfl, h5, h6⟩ := h
      have e2 : cs.map (fun c => V.str ⟨#[c]⟩) = (cs.map fun c => (⟨#[c]⟩ : Str)).map V.str := by rw [List.map_map]; rfl
      rw [e2] at h1
      have hL3 := (c2.trans h2) _ _ hL1 nL
      have sw : Src (wd cs) := ⟨wd_pos (by omega), by have := wd_le cs; omega, fun c hc => ⟨az_all c (h6 c (wd_mem hc)), h6 c (wd_mem hc)⟩⟩
      refine ⟨_, D, _, rfl, rfl, .of h1, wd_join (by omega), ?_⟩
      refine ⟨fun σ' H' => ∃ nm', σ' = [some (.ref p), some (.str AZ), some (.ref L), some (.int (0 + (i : Int))), some (.str nm')] ∧ Same H3 H' ∧ nm' ∉ zs ∧ Src nm', ?_, ?_⟩
      · refine ⟨_, rfl, _, rfl, L, _, rfl, .inl (.of hL3), rfl, flat_strs zs, _, rfl, ?_⟩
        rcases Bool.eq_false_or_eq_true (inV (V.str (wd cs)) (zs.map V.str)) with hc | hc
        · refine iteC hc ?_
          have hal : AZ.cps.all (· < 128) = true := by decide +kernel
          refine ⟨_, rfl, AZ, rfl, hal, fun G hG => ?_⟩
          refine lc_go (n := AZ.cps.size) (fun i ys H5 => H5 G = some (.lst ys) ∧ Same H3 H5 ∧ ys = ((AZ.cps.toList.take i).filter (fun c => decide ((⟨#[c]⟩ : Str) ∉ zs))).map (fun c => V.str ⟨#[c]⟩)) ⟨upd_same, Same.upd hG, rfl⟩ (fun i ys H5 h => h.1) (fun ys H5 h => ⟨Nat.le_refl _, ?_⟩) fun i ys H5 hi h => ⟨hi, fun x H' y => ?_⟩
          · obtain ⟨g1, g2, rfl⟩ := h
            rw [List.take_of_length_le (by rw [Array.length_toList]; exact Nat.le_refl _)] at g1
            cases hf : AZ.cps.toList.filter (fun c => decide ((⟨#[c]⟩ : Str) ∉ zs)) with
            | nil =>
              exfalso
              have nd26 : (AZ.cps.toList.map fun c => (⟨#[c]⟩ : Str)).Nodup := by decide +kernel
              have l26 : (AZ.cps.toList.map fun c => (⟨#[c]⟩ : Str)).length = 26 := by decide +kernel
              have := few nd26 fun x hx => by
                obtain ⟨c, hc, rfl⟩ := List.mem_map.mp hx
                refine Classical.byContradiction fun z => ?_
                have : c ∈ AZ.cps.toList.filter (fun c => decide ((⟨#[c]⟩ : Str) ∉ zs)) := List.mem_filter.mpr ⟨hc, decide_eq_true z⟩
                rw [hf] at this
                cases this
              omega
            | cons c rest =>
              rw [hf] at g1
              have hm : c ∈ AZ.cps.toList.filter (fun c => decide ((⟨#[c]⟩ : Str) ∉ zs)) := by rw [hf]; exact List.mem_cons_self
              obtain ⟨m1, m2⟩ := List.mem_filter.mp hm
              exact ⟨G, _, _, _, rfl, rfl, .of g1, atI_nat (j := 0) rfl, ⟨#[c]⟩, rfl, g2, of_decide_eq_true m2, src_one m1⟩
          · obtain ⟨g1, g2, rfl⟩ := h
            obtain ⟨e1, c, hc5, e2⟩ := y
            subst e1 e2
            have tk1 : AZ.cps.toList.take (i + 1) = AZ.cps.toList.take i ++ [c] := by rw [List.take_add_one, hc5]; rfl
            have fl : ((AZ.cps.toList.take i).filter (fun c => decide ((⟨#[c]⟩ : Str) ∉ zs))).length ≤ i := Nat.le_trans (List.length_filter_le _ _) (by rw [List.length_take]; omega)
            have a26 : AZ.cps.size = 26 := by decide +kernel
            refine ⟨_, rfl, _, rfl, L, _, rfl, .inl (.of (g2 _ _ hL3)), rfl, flat_strs zs, _, rfl, ?_⟩
            have hv := inV_str ⟨#[c]⟩ zs
            by_cases z : (⟨#[c]⟩ : Str) ∈ zs
            · rw [decide_eq_true z] at hv
              refine iteN (show (!inV (V.str ⟨#[c]⟩) (zs.map V.str)) = false by rw [hv]; rfl) (LcNo.mk hi ⟨g1, g2, ?_⟩)
              rw [tk1, List.filter_append, List.filter_cons, if_neg (by simp [z])]
              simp
            · rw [decide_eq_false z] at hv
              refine iteC (show (!inV (V.str ⟨#[c]⟩) (zs.map V.str)) = true by rw [hv]; rfl) ⟨_, rfl, LcNx.mk hi (by omega) (by rw [List.length_map]; exact fl) g1 ⟨upd_same, fun b o e => ?_, ?_⟩⟩
              · rw [upd_ne (ne_of_none e hG)]; exact g2 _ _ e
              · rw [tk1, List.filter_append, List.filter_cons, if_pos (decide_eq_true z), List.map_append]
                rfl
        · refine iteN hc ⟨(wd cs), rfl, Same.refl _, fun z => ?_, sw⟩
          rw [inV_str, decide_eq_true z] at hc
          cases hc
      · rintro σ' H4 ⟨nm', rfl, s4, hn, hsn⟩
        have hL4 := s4 _ _ hL3
        refine ⟨_, rfl, .inl ⟨rfl, _, .of hL4⟩, _, rfl, L, _, _, rfl, rfl, hL4, by rw [List.length_map, sizeLine_eq]; omega, ?_⟩
        refine ⟨_, _, zs ++ [nm'], rfl, fun b o e n => ?_, ?_, by rw [upd_same, List.map_append]; rfl, by rw [List.length_append, hl]; rfl, ?_, fun z hz => ?_⟩
        · rw [upd_ne (ne_of_none e hL)]
          exact s4 _ _ ((c2.trans h2) _ _ (c1 _ _ e n) n)
        · obtain ⟨x, y, hxy⟩ := h3.same s4
          exact ⟨x, y, by rw [upd_ne (Ne.symm nL)]; exact hxy⟩
        · refine List.nodup_append.mpr ⟨nd, List.pairwise_singleton _ _, fun a ha b hb z => ?_⟩
          rw [List.mem_singleton.mp hb] at z
          exact hn (z ▸ ha)
        · rcases List.mem_append.mp hz with hz | hz
          · exact hs z hz
          · rw [List.mem_singleton.mp hz]; exact hsn
end
end Pr
set_option Elab.async false
set_option linter.all false
set_option maxRecDepth 100000
/-! reversed(l) of a list, walked by a for. -/
namespace L2
open PySem PySem.Spec PyProof.Rows
section
variable {X : Cx} {tg : Expr}
end
end L2
set_option Elab.async false
set_option linter.all false
set_option maxRecDepth 100000
/-! enumerate of a list, walked by a for or a comprehension with a pair of names. -/
namespace L2
open PySem PySem.Spec PyProof.Rows
section
variable {X : Cx} {pins : List (Addr × Obj)} {σ : St} {H : Hp} {s : Shared}
end
section
variable {X : Cx}
end
end L2
set_option Elab.async false
set_option linter.all false
set_option maxRecDepth 100000
/-! zip(l1, l2) -/
namespace L2
open PySem PySem.Spec PyProof.Rows
section
variable {X : Cx} {pins : List (Addr × Obj)} {σ : St} {H : Hp} {s : Shared}
end
section
variable {X : Cx}
end
end L2
set_option Elab.async false
set_option linter.all false
set_option maxRecDepth 100000
/-! books: the mathematics, and what any law of books wants -/
/-! what is told, by look alone; own -/
namespace Pr
open PySem L2 PyProof.Rows Ent
theorem look_put (m : TM) (p q : Str × Str) (x : Int × Int) : look (putM m p x) q = if q = p then some x else look m q := by
  have key : ∀ (m : TM), look (m.map fun y => if y.1 = p then (y.1, x) else y) q = if q = p ∧ (m.any fun y => decide (y.1 = p)) = true then some x else look m q := fun m => by
    induction m with
    | nil => simp [look]
    | cons y t ih =>
      unfold look at ih ⊢
      rw [List.map_cons, List.find?_cons, List.any_cons]
      by_cases e : y.1 = p
      · rw [if_pos e]
        by_cases eq : q = p
        · rw [if_pos ⟨eq, by rw [decide_eq_true e, Bool.true_or]⟩, decide_eq_true (by rw [e, eq])]
          rfl
        · have : ¬ y.1 = q := fun z => eq (z ▸ e)
          rw [if_neg (fun z => eq z.1), decide_eq_false this, List.find?_cons, decide_eq_false this]
          rw [ih, if_neg (fun z => eq z.1)]
      · rw [if_neg e, decide_eq_false e, Bool.false_or]
        by_cases yq : y.1 = q
        · have nq : ¬ q = p := fun z => e (yq.trans z)
          rw [decide_eq_true yq, List.find?_cons, decide_eq_true yq, if_neg (fun z => nq z.1)]
        · rw [decide_eq_false yq, List.find?_cons, decide_eq_false yq]
          exact ih
  have none_of : ∀ (m : TM), (m.any fun y => decide (y.1 = p)) = false → ∀ r : TM, look (m ++ r) q = if q = p then look r q else (look m q).or (look r q) := fun m => by
    induction m with
    | nil => intro _ r; by_cases z : q = p <;> simp [look, z]
    | cons y t ih =>
      intro h r
      rw [List.any_cons, Bool.or_eq_false_iff] at h
      have e : ¬ y.1 = p := of_decide_eq_false h.1
      have ih' := ih h.2 r
      unfold look at ih' ⊢
      rw [List.cons_append, List.find?_cons, List.find?_cons]
      by_cases yq : y.1 = q
      · have nq : ¬ q = p := fun z => e (yq.trans z)
        rw [decide_eq_true yq, if_neg nq]
        rfl
      · rw [decide_eq_false yq]
        exact ih'
  unfold putM
  cases h : m.any fun y => decide (y.1 = p) with
  | true =>
    rw [if_pos rfl, key m, h]
    by_cases z : q = p
    · rw [if_pos ⟨z, rfl⟩, if_pos z]
    · rw [if_neg fun y => z y.1, if_neg z]
  | false =>
    rw [if_neg (by simp), none_of m h]
    by_cases z : q = p
    · rw [if_pos z, if_pos z, z]
      unfold look
      rw [List.find?_cons, decide_eq_true rfl]
      rfl
    · rw [if_neg z, if_neg z]
      have : look [(p, x)] q = none := by
        unfold look
        rw [List.find?_cons, decide_eq_false (fun y : p = q => z y.symm)]
        rfl
      rw [this]
      cases look m q <;> rfl
theorem look_drop (p q : Str × Str) : ∀ m : TM, look (dropM m p) q = if q = p then none else look m q
  | [] => by by_cases z : q = p <;> simp [look, dropM, z]
  | y :: t => by
    have ih := look_drop p q t
    unfold look dropM at ih ⊢
    rw [List.filter_cons, List.find?_cons]
    by_cases e : y.1 = p
    · rw [if_neg (by simp [e]), ih]
      by_cases z : q = p
      · rw [if_pos z, if_pos z]
      · rw [if_neg z, if_neg z, decide_eq_false (fun w : y.1 = q => z (w ▸ e))]
    · rw [if_pos (decide_eq_true e), List.find?_cons]
      by_cases yq : y.1 = q
      · have nq : ¬ q = p := fun z => e (yq.trans z)
        rw [decide_eq_true yq, if_neg nq]
      · rw [decide_eq_false yq]
        exact ih
theorem mem_tells {os : List Str} {m : TM} {k : Str} {r : Str × Int × Int} : r ∈ tellsM os m k ↔ r.1 ∈ os ∧ look m (r.1, k) = some (r.2.1, r.2.2) := by
  unfold tellsM
  rw [List.mem_filterMap]
  constructor
  · rintro ⟨s, hs, e⟩
    cases hl : look m (s, k) with
    | none => rw [hl] at e; cases e
    | some x => rw [hl] at e; cases e; exact ⟨hs, hl⟩
  · rintro ⟨h1, h2⟩
    exact ⟨r.1, h1, by rw [h2]; rfl⟩
end Pr
/-! all entries are determined by what is told -/
namespace Pr
open PySem L2 PyProof.Rows Ent
theorem look_mem {m : TM} {p : Str × Str} {x : Int × Int} (h : look m p = some x) : (p, x) ∈ m := by
  unfold look at h
  cases e : m.find? (fun q => decide (q.1 = p)) with
  | none => rw [e] at h; cases h
  | some q =>
    rw [e] at h
    have h1 := List.mem_of_find?_eq_some e
    have h2' := List.find?_some e
    have h2 : q.1 = p := of_decide_eq_true h2'
    have h3 : q.2 = x := by simpa using h
    rw [← h2, ← h3]
    exact h1
theorem counted_key {os : List Str} {m : TM} {k : Str} {e : En} (h : countedM os m k = some e) : e.2.1 = k := by
  unfold countedM at h
  cases ht : (tellsM os m k).head? with
  | none => rw [ht] at h; cases h
  | some r => rw [ht] at h; cases h; rfl
theorem counted_told {os : List Str} {m : TM} {k : Str} {e : En} (h : countedM os m k = some e) : ∃ q ∈ m, q.1.2 = k := by
  unfold countedM at h
  cases ht : tellsM os m k with
  | nil => rw [ht] at h; cases h
  | cons r rs =>
    have := (mem_tells.mp (show r ∈ tellsM os m k by rw [ht]; exact List.mem_cons_self)).2
    exact ⟨_, look_mem this, rfl⟩
theorem AllM.mem {os : List Str} {m : TM} {es : List En} (h : AllM os m es) (e : En) : e ∈ es ↔ countedM os m e.2.1 = some e := by
  obtain ⟨zs, cs, p, nd, hz, hc, rfl, p1, p2⟩ := h
  rw [(pick_perm p1).mem_iff]
  constructor
  · intro he
    have : some e ∈ zs.map fun z => countedM os m z := by rw [hc]; exact List.mem_map_of_mem he
    obtain ⟨z, _, ez⟩ := List.mem_map.mp this
    rw [counted_key ez]
    exact ez
  · intro he
    have hk : e.2.1 ∈ zs := (hz _).mpr (counted_told he)
    have : some e ∈ cs.map some := by rw [← hc]; exact List.mem_map.mpr ⟨_, hk, he⟩
    obtain ⟨c, hc', ec⟩ := List.mem_map.mp this
    cases ec
    exact hc'
theorem AllM.keyed {os : List Str} {m : TM} {es : List En} (h : AllM os m es) : Ent.Keyed es := by
  obtain ⟨zs, cs, p, nd, hz, hc, rfl, p1, p2⟩ := h
  have e : cs.map (·.2.1) = zs := by
    have key : ∀ (zs : List Str) (cs : List En), zs.map (fun z => countedM os m z) = cs.map some → cs.map (·.2.1) = zs := fun zs => by
      induction zs with
      | nil => intro cs h; cases cs with
        | nil => rfl
        | cons c t => cases h
      | cons z t ih => intro cs h; cases cs with
        | nil => cases h
        | cons c r =>
          rw [List.map_cons, List.map_cons] at h
          have h1 := (List.cons.inj h).1
          rw [List.map_cons, ih r (List.cons.inj h).2, counted_key h1]
    exact key zs cs hc
  show ((pick cs p).map (·.2.1)).Nodup
  rw [((pick_perm p1).map _).nodup_iff, e]
  exact nd
theorem AllM.srt {os : List Str} {m : TM} {es : List En} (h : AllM os m es) : es.Pairwise fun a b => bef b a = false := by
  obtain ⟨zs, cs, p, nd, hz, hc, rfl, p1, p2⟩ := h
  unfold pick
  refine List.pairwise_map.mpr (p2.imp_of_mem fun {i j} hi hj hr => ?_)
  have hi' := List.mem_range.mp (p1.mem_iff.mp hi)
  have hj' := List.mem_range.mp (p1.mem_iff.mp hj)
  rw [← ltOf_en cs hj' hi']
  exact hr.elim (fun h => (Srt.ltOf_ord (cs.map pl)).1 h) (·.1)
theorem keyed_nd {es : List En} (k : Ent.Keyed es) : es.Nodup := (List.pairwise_map.mp k).imp fun h z => h (by rw [z])
/-- two lists of the same entries, of unlike keys, both in order, are one -/
theorem srt_one {es es' : List En} (k : Ent.Keyed es) (k' : Ent.Keyed es') (s : es.Pairwise fun a b => bef b a = false) (s' : es'.Pairwise fun a b => bef b a = false) (h : ∀ e, e ∈ es ↔ e ∈ es') : es = es' := by
  refine List.Perm.eq_of_pairwise (fun a b ha hb h1 h2 => ?_) s s' ((List.perm_ext_iff_of_nodup (keyed_nd k) (keyed_nd k')).mpr h)
  have e := Srt.plt_one h2 h1
  exact keyed_inj k ha ((h b).mpr hb) (congrArg Prod.snd e)
end Pr
/-! the law's check: there and back -/
namespace Pr
open PySem L2 PyProof.Rows Ent
/-- what is told: by these sources, of these keys, no more than n -/
structure MOk (os ks : List Str) (n : Nat) (m : TM) : Prop where
  l : m.length ≤ n
  s : ∀ q ∈ m, q.1.1 ∈ os ∧ q.1.2 ∈ ks
theorem MOk.put {os ks : List Str} {n : Nat} {m : TM} (h : MOk os ks n m) {s k : Str} (hs : s ∈ os) (hk : k ∈ ks) (x : Int × Int) : MOk os ks (n + 1) (putM m (s, k) x) := by
  have := h.l
  unfold putM
  split
  · refine ⟨by rw [List.length_map]; omega, fun q hq => ?_⟩
    obtain ⟨y, hy, rfl⟩ := List.mem_map.mp hq
    split
    · exact h.s y hy
    · exact h.s y hy
  · refine ⟨by rw [List.length_append]; show m.length + 1 ≤ _; omega, fun q hq => ?_⟩
    rcases List.mem_append.mp hq with hq | hq
    · exact h.s q hq
    · rw [List.mem_singleton.mp hq]; exact ⟨hs, hk⟩
theorem MOk.drop {os ks : List Str} {n : Nat} {m : TM} (h : MOk os ks n m) (p : Str × Str) : MOk os ks n (dropM m p) := by
  refine ⟨Nat.le_trans (List.length_filter_le _ _) h.l, fun q hq => h.s q (List.mem_filter.mp hq).1⟩
theorem MOk.keys {os ks : List Str} {n : Nat} {m : TM} (h : MOk os ks n m) : (allK (m.map fun q => (Sum.inr q.1.2 : Key))).length ≤ ks.length := by
  have := few (zs := ks.map (Sum.inr : Str → Key)) (allK_nd (m.map fun q => (Sum.inr q.1.2 : Key))) fun x hx => by
    rw [mem_allK] at hx
    obtain ⟨q, hq, rfl⟩ := List.mem_map.mp hx
    exact List.mem_map_of_mem (h.s q hq).2
  rw [List.length_map] at this
  exact this
def rD (r : Str × Int × Int) : PyData := .tuple [.str r.1, .int r.2.1, .int r.2.2]
theorem dat_rows {H : Hp} : ∀ {ys : List V} {rs : List (Str × Int × Int)}, Paired (RowT H) ys rs → DatAll H (rs.map rD) ys
  | _, _, .nil => by unfold DatAll; rfl
  | _, _, .cons ⟨a, e, h⟩ t => by
    rw [List.map_cons]
    unfold DatAll
    refine ⟨_, _, rfl, ?_, dat_rows t⟩
    unfold rD Dat
    refine ⟨a, _, e, h, ?_⟩
    unfold DatAll
    refine ⟨_, _, rfl, by unfold Dat; rfl, ?_⟩
    unfold DatAll
    refine ⟨_, _, rfl, by unfold Dat; rfl, ?_⟩
    unfold DatAll
    refine ⟨_, _, rfl, by unfold Dat; rfl, ?_⟩
    unfold DatAll
    rfl
theorem dat_ents {H : Hp} : ∀ {ys : List V} {es : List En}, Paired (EntT H) ys es → DatAll H (es.map eD) ys
  | _, _, .nil => by unfold DatAll; rfl
  | _, _, .cons h t => by
    rw [List.map_cons]
    unfold DatAll
    exact ⟨_, _, rfl, h.dat, dat_ents t⟩
theorem str_lay {k : Str} (h : ∀ c ∈ k.cps.toList, c < 128) : (PyData.str k).canLay0 = true := by
  unfold PyData.canLay0 PyData.strOk
  rw [Array.all_eq_true_iff_forall_mem]
  intro c hc
  have := h c (Array.mem_toList_iff.mpr hc)
  exact decide_eq_true (by omega)
theorem rows_lay : ∀ {rs : List (Str × Int × Int)}, (∀ r ∈ rs, ∀ c ∈ r.1.cps.toList, c < 128) → PyData.canLayAll0 (rs.map rD) = true
  | [], _ => rfl
  | r :: t, h => by
    rw [List.map_cons]
    unfold PyData.canLayAll0
    rw [rows_lay fun x hx => h x (List.mem_cons_of_mem _ hx), Bool.and_true]
    unfold rD PyData.canLay0 PyData.canLayAll0
    rw [str_lay (h r List.mem_cons_self)]
    rfl
theorem ents_lay : ∀ {es : List En}, (∀ e ∈ es, ∀ c ∈ e.2.1.cps.toList, c < 128) → PyData.canLayAll0 (es.map eD) = true
  | [], _ => rfl
  | r :: t, h => by
    rw [List.map_cons]
    unfold PyData.canLayAll0
    rw [ents_lay fun x hx => h x (List.mem_cons_of_mem _ hx), Bool.and_true]
    unfold eD PyData.canLay0 PyData.canLayAll0 PyData.canLayAll0
    rw [str_lay (h r List.mem_cons_self)]
    rfl
theorem rows_dep : ∀ rs : List (Str × Int × Int), PyData.depthAll (rs.map rD) ≤ 1
  | [] => by decide
  | r :: t => by
    rw [List.map_cons]
    have := rows_dep t
    simp only [PyData.depthAll, rD, PyData.depth]
    omega
theorem ents_dep : ∀ es : List En, PyData.depthAll (es.map eD) ≤ 1
  | [] => by decide
  | r :: t => by
    rw [List.map_cons]
    have := ents_dep t
    simp only [PyData.depthAll, eD, PyData.depth]
    omega
end Pr
/-! there and back -/
namespace L2
open PySem PySem.Spec PyProof.Rows
end L2
namespace Pr
open PySem L2 PyProof.Rows Ent
/-- a change of the book's own dict touches no list and no tuple -/
theorem keep_but {C : Addr} {H H' : Hp} {b d : Addr} {os : List Str} {m : TM} (hB : BookAt C H b d os m) (c : But d H H') : ∀ a xs, (H a = some (.lst xs) → H' a = some (.lst xs)) ∧ (H a = some (.tup xs) → H' a = some (.tup xs)) := fun a xs => by
  obtain ⟨dx, f, kvs, hb, hf, hd, r⟩ := hB
  exact ⟨fun h => c _ _ h (fun z => by rw [z, hd] at h; cases h), fun h => c _ _ h (fun z => by rw [z, hd] at h; cases h)⟩
section
variable {P : Program} {w : World} {K : PySem.W.Frag} {mg : Str → Option Value} {base : Heap} {C : Addr}
end
end Pr
/-! entries without a key; told anew: the mathematics -/
namespace Pr
open PySem L2 PyProof.Rows Ent
/-- what the law's own sort gives, where keys are unlike -/
theorem sorted_srt {es : List En} {is : List Nat} (k : Ent.Keyed es) (p1 : is.Perm (List.range es.length)) (p2 : is.Pairwise (Srt.R (Srt.ltE es))) : (pick es is).Pairwise (fun a b => bef b a = false) ∧ (pick es is).Perm es := by
  refine ⟨?_, pick_perm p1⟩
  unfold pick
  refine List.pairwise_map.mpr (p2.imp_of_mem fun {i j} hi hj hr => ?_)
  have hi' := List.mem_range.mp (p1.mem_iff.mp hi)
  have hj' := List.mem_range.mp (p1.mem_iff.mp hj)
  have hf : Srt.tlt (es.getD j dn) (es.getD i dn) = false := hr.elim (fun h => (Srt.ltE_ord es).1 h) (·.1)
  by_cases e : ((es.getD j dn).1, (es.getD j dn).2.1) = ((es.getD i dn).1, (es.getD i dn).2.1)
  · show Srt.plt (pl (es.getD j dn)) (pl (es.getD i dn)) = false
    rw [show pl (es.getD j dn) = pl (es.getD i dn) from e]
    exact Srt.plt_irr _
  · rw [Srt.tlt_plt e] at hf
    exact hf
end Pr
/-! told anew -/
namespace L2
open PySem PySem.Spec PyProof.Rows
end L2
namespace Pr
open PySem L2 PyProof.Rows Ent
theorem eD_lay {e : En} (h : KeyOk e.2.1) : (eD e).canLay0 = true := by
  unfold eD PyData.canLay0 PyData.canLayAll0 PyData.canLayAll0
  rw [str_lay h.2]
  rfl
theorem eD_dep (e : En) : (eD e).depth ≤ 8 := by unfold eD; simp only [PyData.depth, PyData.depthAll]; omega
end Pr
/-! the law: its first loop -/
namespace Pr
open PySem L2 PyProof.Rows Ent
theorem same_but {H H1 H2 : Hp} {p : Addr} (s : Same H H1) (hp : H p = none) (c : But p H1 H2) : Same H H2 := fun b o e => c b o (s b o e) (ne_of_none e hp)
theorem MOk.mono {os ks ks' : List Str} {n n' : Nat} {m : TM} (h : MOk os ks n m) (hk : ∀ z ∈ ks, z ∈ ks') (hn : n ≤ n') : MOk os ks' n' m := ⟨Nat.le_trans h.l hn, fun q hq => ⟨(h.s q hq).1, hk _ (h.s q hq).2⟩⟩
theorem told_look {m : TM} {z : Str} : (∃ q ∈ m, q.1.2 = z) ↔ ∃ s, (look m (s, z)).isSome = true := by
  constructor
  · rintro ⟨q, hq, rfl⟩
    exact ⟨q.1.1, look_some hq⟩
  · rintro ⟨s, h⟩
    cases e : look m (s, z) with
    | none => rw [e] at h; cases h
    | some x => exact ⟨_, look_mem e, rfl⟩
end Pr
/-! the law -/
namespace Pr
open PySem L2 PyProof.Rows Ent
theorem BookAt.wr {C : Addr} {H : Hp} {b d G : Addr} {os : List Str} {m : TM} {xs : List V} {o : HO} (h : BookAt C H b d os m) (hG : H G = some (.lst xs)) : BookAt C (upd H G o) b d os m := by
  obtain ⟨dx, f, kvs, hb, hf, hd, r⟩ := h
  have ne : ∀ {a : Addr} {u : HO}, H a = some u → (∀ ys, u ≠ .lst ys) → a ≠ G := fun e h z => by rw [z, hG] at e; exact h xs (Option.some.inj e).symm
  exact ⟨dx, f, kvs, by rw [upd_ne (ne hb (fun _ z => by cases z))]; exact hb, by rw [upd_ne (ne hf (fun _ z => by cases z))]; exact hf, by rw [upd_ne (ne hd (fun _ z => by cases z))]; exact hd, r.same fun c ys e => by rw [upd_ne (ne e (fun _ z => by cases z))]; exact e⟩
end Pr
namespace Pr
open PySem L2 PyProof.Rows Ent
theorem BookAt.butL {C : Addr} {H H' : Hp} {b d G : Addr} {os : List Str} {m : TM} {xs : List V} (h : BookAt C H b d os m) (hG : H G = some (.lst xs)) (c : But G H H') : BookAt C H' b d os m := by
  obtain ⟨dx, f, kvs, hb, hf, hd, r⟩ := h
  have ne : ∀ {a : Addr} {u : HO}, H a = some u → (∀ ys, u ≠ .lst ys) → a ≠ G := fun e h z => by rw [z, hG] at e; exact h xs (Option.some.inj e).symm
  exact ⟨dx, f, kvs, c _ _ hb (ne hb (fun _ z => by cases z)), c _ _ hf (ne hf (fun _ z => by cases z)), c _ _ hd (ne hd (fun _ z => by cases z)), r.same fun a ys e => c _ _ e (ne e (fun _ z => by cases z))⟩
theorem BookAt.butP {C : Addr} {H H' : Hp} {b d p : Addr} {os : List Str} {m : TM} (h : BookAt C H b d os m) (hp : PotAt H p) (c : But p H H') : BookAt C H' b d os m := by
  obtain ⟨x, y, hp⟩ := hp
  exact h.butL hp c
theorem PotAt.butD {C : Addr} {H H' : Hp} {b d p : Addr} {os : List Str} {m : TM} (h : PotAt H p) (hB : BookAt C H b d os m) (c : But d H H') : PotAt H' p := by
  obtain ⟨x, y, h⟩ := h
  exact ⟨x, y, (keep_but hB c _ _).1 h⟩
theorem putM_len (m : TM) (p : Str × Str) (x : Int × Int) : (putM m p x).length ≤ m.length + 1 := by
  unfold putM
  split
  · rw [List.length_map]; omega
  · rw [List.length_append]; exact Nat.le_refl _
theorem dropM_len (m : TM) (p : Str × Str) : (dropM m p).length ≤ m.length := List.length_filter_le _ _
theorem erase_perm {α : Type} : ∀ (l : List α) (k : Nat) (y : α), l[k]? = some y → (y :: l.eraseIdx k).Perm l
  | [], _, _, h => by cases h
  | x :: t, 0, y, h => by cases h; exact List.Perm.refl _
  | x :: t, k + 1, y, h => by
    have ih := erase_perm t k y h
    rw [List.eraseIdx_cons_succ]
    exact (List.Perm.swap x y _).trans (ih.cons x)
end Pr
set_option Elab.async false
set_option linter.all false
set_option maxRecDepth 100000
/-! a drawn order -/
namespace Pr
open PySem L2 PyProof.Rows Ent
theorem erase_map {α β : Type} (f : α → β) : ∀ (l : List α) (k : Nat), (l.map f).eraseIdx k = (l.eraseIdx k).map f
  | [], _ => rfl
  | _ :: _, 0 => rfl
  | x :: t, k + 1 => by
    rw [List.map_cons, List.eraseIdx_cons_succ, List.eraseIdx_cons_succ, List.map_cons, erase_map f t k]
section
variable {P : Program} {w : World} {K : PySem.W.Frag} {mg : Str → Option Value} {base : Heap} {C : Addr}
inductive sp_lorder (vs : List V) (H : Hp) (Q : VK) (E : XK) : Prop
  | mk (p a : Addr) (zs : List Str) (e : vs = [.ref p, .ref a]) (h1 : PotAt H p) (ha : H a = some (.lst (zs.map V.str))) (na : a ≠ p) (hl : zs.length < 900)
      (q : ∀ D (ys : List Str) H', ys.Perm zs → But p H H' → PotAt H' p → H D = none → H' D = some (.lst (ys.map V.str)) → Q (.ref D) H') : sp_lorder vs H Q E
theorem sc_lorder : FnScope ["_law_pot_here", "_law_sources_here", "_law_left", "_law_found", "_law_k"] ["_law_pot_here", "_law_sources_here"] (defScope s_law_order) := ⟨rfl, rfl, rfl, by decide +kernel, rfl, by decide +kernel, by decide +kernel⟩
set_option maxHeartbeats 2000000 in
theorem lorder (T : Txt K mg C) : Can P w K mg base 2 "_law_order" ["_law_pot_here", "_law_sources_here"] sp_lorder := by
  refine fn_can T.f_law_order sc_lorder (fun vs H Q E h => ?_) (fun f cdv A outer s H vs Q E hr h => ?_)
  · obtain ⟨p, a, zs, rfl, _⟩ := h
    rfl
  · obtain ⟨p, a, zs, rfl, hp, ha, na, hl, q⟩ := h
    refine ⟨_, (pss_cons (ps_set (i := 2) sc_lorder.nd rfl (Or.inl rfl) (pe_t (call_list_ofK K) T.b_list boot_list (pa1 (pv 1))))
      (pss_cons (ps_set (i := 3) sc_lorder.nd rfl (Or.inl rfl) (pe_lst pa_nil))
      (pss_cons (ps_for PassesOwn.never rfl (pi_range1 rfl T.b_range (pa1 (pe_b (call_lenK K) T.b_len boot_len (pa1 (pv 1))))) (pg_name (i := 4) sc_lorder.nd rfl (Or.inl rfl))
        (pss_one (ps_expr (pe_bmK K PySem.F.plainAttrs_list PySem.F.slot_list_append PySem.F.type_list_append mt_append (pv 3) (pa1 (pe_bmK K PySem.F.plainAttrs_list PySem.F.slot_list_pop PySem.F.type_list_pop mt_popAt (pv 2) (pa1 (pe_can (digit T) hr (pa2 (pv 0) (pe_b (call_lenK K) T.b_len boot_len (pa1 (pv 2))))))))))))
      (pss_one (ps_ret (pv 3)))))), ?_⟩
    refine ⟨_, rfl, a, _, rfl, .inl (.of ha), fun L hL => ?_⟩
    have s1 : Same H (upd H L (.lst (zs.map V.str))) := Same.upd hL
    refine ⟨Nat.zero_le _, fun F hF => ?_⟩
    have s2 : Same (upd H L (.lst (zs.map V.str))) (upd (upd H L (.lst (zs.map V.str))) F (.lst [])) := Same.upd hF
    have s12 := s1.trans s2
    have hL1 := s2 _ _ (upd_same (H := H) (a := L) (o := .lst (zs.map V.str)))
    have hF1 : (upd (upd H L (.lst (zs.map V.str))) F (.lst [])) F = some (.lst []) := upd_same
    have nLF : L ≠ F := fun z => by rw [← z, upd_same] at hF; cases hF
    have hF0 : H F = none := same_none s1 hF
    have nLp : L ≠ p := hp.ne hL
    have nFp : F ≠ p := hp.ne hF0
    generalize (upd (upd H L (.lst (zs.map V.str))) F (.lst [])) = H1 at s2 s12 hL1 hF1
    refine ⟨_, rfl, a, _, rfl, .inl (.of (s12 _ _ ha)), _, rfl, by omega, by rw [List.length_map]; omega, ?_⟩
    rw [List.length_map]
    refine for_range (n := zs.length) (fun i σ H2 => ∃ v4 ls fs, σ = [some (.ref p), some (.ref a), some (.ref L), some (.ref F), v4] ∧ But p H H2 ∧ PotAt H2 p ∧ H2 L = some (.lst (ls.map V.str)) ∧ H2 F = some (.lst (fs.map V.str)) ∧ fs.length = i ∧ (fs ++ ls).Perm zs) ⟨_, zs, [], rfl, s12.but, hp.same s12, hL1, hF1, rfl, List.Perm.refl _⟩ ?turn ?fin
    case fin =>
      rintro σ H2 ⟨v4, ls, fs, rfl, c2, hp2, hL2, hF2, hfl, pm⟩
      have e : ls = [] := by
        have := pm.length_eq
        rw [List.length_append] at this
        exact List.length_eq_zero_iff.mp (by omega)
      rw [e, List.append_nil] at pm
      exact ⟨_, rfl, q F fs H2 pm c2 hp2 hF0 hF2⟩
    case turn =>
      rintro i σ H2 hi ⟨v4, ls, fs, rfl, c2, hp2, hL2, hF2, hfl, pm⟩
      have hlen := pm.length_eq
      rw [List.length_append] at hlen
      refine ⟨_, rfl, .inl ⟨rfl, _, .of hF2⟩, _, rfl, .inl ⟨rfl, _, .of hL2⟩, _, rfl, _, rfl, L, _, rfl, .inl (.of hL2), p, _, rfl, hp2, by rw [List.length_map]; omega, by rw [List.length_map]; omega, fun d H3 a3 b3 c3 hp3 => ?_⟩
      rw [List.length_map] at b3
      obtain ⟨j, rfl⟩ : ∃ j : Nat, d = j := ⟨d.toNat, by omega⟩
      have hj : j < ls.length := by omega
      have hL3 := c3 _ _ hL2 nLp
      have hF3 := c3 _ _ hF2 nFp
      refine ⟨L, _, _, j, .str ls[j], rfl, rfl, hL3, by omega, by omega, by rw [List.length_map, seqIndex_of (by omega) (by omega)]; rfl, by rw [List.getElem?_map, List.getElem?_eq_getElem hj]; rfl, ?_⟩
      refine ⟨F, _, _, rfl, rfl, by rw [upd_ne (Ne.symm nLF)]; exact hF3, by rw [List.length_map, sizeLine_eq]; omega, ?_⟩
      refine ⟨_, ls.eraseIdx j, fs ++ [ls[j]], rfl, fun b o e n => ?_, ?_, ?_, ?_, ?_, ?_⟩
      · rw [upd_ne (ne_of_none e hF0), upd_ne (ne_of_none e hL)]
        exact c3 _ _ (c2 _ _ e n) n
      · obtain ⟨x, y, hxy⟩ := hp3
        exact ⟨x, y, by rw [upd_ne (Ne.symm nFp), upd_ne (Ne.symm nLp)]; exact hxy⟩
      · rw [upd_ne nLF, upd_same, erase_map]
      · rw [upd_same, List.map_append]; rfl
      · rw [List.length_append, hfl]; rfl
      · rw [List.append_assoc]
        exact ((erase_perm ls j _ (List.getElem?_eq_getElem hj)).append_left fs).trans pm
end
end Pr
set_option Elab.async false
set_option linter.all false
set_option maxRecDepth 100000
/-! dicts of pairs; tools -/
namespace Pr
open PySem L2 PyProof.Rows Ent
/-- a dict of pairs of texts, to pairs of numbers -/
def KnAt (H : Hp) (D : Addr) (kn : TM) : Prop := ∃ kvs, H D = some (.dT kvs) ∧ ToldR H kvs kn
theorem KnAt.same {H H' : Hp} {D : Addr} {kn : TM} (h : KnAt H D kn) (s : Same H H') : KnAt H' D kn := by
  obtain ⟨kvs, h1, r⟩ := h
  exact ⟨kvs, s _ _ h1, r.same fun _ _ e => s _ _ e⟩
theorem KnAt.but {H H' : Hp} {D a : Addr} {o : HO} {kn : TM} (h : KnAt H D kn) (ha : H a = some o) (hn : ∀ ys, o ≠ .tup ys) (ne : D ≠ a) (c : But a H H') : KnAt H' D kn := by
  obtain ⟨kvs, h1, r⟩ := h
  exact ⟨kvs, c _ _ h1 ne, r.same fun _ ys e => c _ _ e fun z => by rw [z, ha] at e; exact hn ys (Option.some.inj e)⟩
theorem KnAt.butP {H H' : Hp} {D p : Addr} {kn : TM} (h : KnAt H D kn) (hp : PotAt H p) (c : But p H H') : KnAt H' D kn := by
  obtain ⟨x, y, hp⟩ := hp
  refine h.but hp (fun _ z => by cases z) (fun z => ?_) c
  obtain ⟨kvs, h1, _⟩ := h
  rw [z, hp] at h1
  cases h1
theorem keys_of' (l : List Str) : ∃ zs : List Str, allK (l.map (Sum.inr : Str → Key)) = zs.map Sum.inr ∧ zs.Nodup ∧ ∀ z, z ∈ zs ↔ z ∈ l := by
  obtain ⟨zs, e⟩ := inr_all (ks := allK (l.map (Sum.inr : Str → Key))) fun k hk => by
    rw [mem_allK] at hk
    obtain ⟨q, _, rfl⟩ := List.mem_map.mp hk
    exact ⟨_, rfl⟩
  refine ⟨zs, e, ?_, fun z => ?_⟩
  · have := allK_nd (l.map (Sum.inr : Str → Key))
    rw [e] at this
    exact (List.pairwise_map.mp this).imp fun h z => h (by rw [z])
  · have h1 : z ∈ zs ↔ (Sum.inr z : Key) ∈ zs.map Sum.inr := by
      rw [List.mem_map]
      exact ⟨fun h => ⟨z, h, rfl⟩, fun ⟨y, hy, e⟩ => by cases e; exact hy⟩
    rw [h1, ← e, mem_allK, List.mem_map]
    exact ⟨fun ⟨q, hq, e⟩ => by cases e; exact hq, fun h => ⟨z, h, rfl⟩⟩
end Pr
set_option Elab.async false
set_option linter.all false
set_option maxRecDepth 100000
/-! methods from which errors may leave -/
namespace L2
open PySem PySem.Spec PyProof.Rows
def CanMX (P : Program) (w : World) (K : PySem.W.Frag) (mg : Str → Option Value) (base : Heap) (C : Addr) (k : Nat) (x : Str) (ps : List Str) (sp : Sp) : Prop :=
  ∃ f fd, FnOk P w K mg base (CX1 P w) k f fd ps sp ∧ Meth K C x f ∧ Binds K fd ps []
section
variable {P : Program} {w : World} {K : PySem.W.Frag} {mg : Str → Option Value} {base : Heap}
theorem fm_canX {C : Addr} {x qual : Str} {st : Stmt} {N ps : List Str} {k : Nat} {sp : Sp} (h : ∃ f fd, Fm K C x qual st ps f fd) (S : FnScope N ps (defScope st)) (len : ∀ vs H Q E, sp vs H Q E → vs.length = ps.length)
    (hbody : ∀ (f : Addr) (cdv : Value) (A : Around) (outer : List Env) (s : Shared) (H : Hp) (vs : List V) (Q : VK) (E : XK), Room k (A.deeper (envOfC qual (defScope st) s.heap.objs.size f cdv)) → Wish (cxOf (CX1 P w) P w K mg base N qual (defScope st) f cdv A outer s H E) E → sp vs H Q E →
      ∃ t, PSs (cxOf (CX1 P w) P w K mg base N qual (defScope st) f cdv A outer s H E) (defBody st) t ∧ t { nx := fun _ H' => Q .non H', rt := Q } (start N vs) H) : CanMX P w K mg base C (k + 1) x ps sp := by
  obtain ⟨f, fd, F⟩ := h
  obtain ⟨oc, od, kV, doc, pm, an, cdv, ct, osl, e, lk, hcd⟩ := F.fn.ex
  refine ⟨f, fd, ?_, F.m, F.b⟩
  subst e
  exact fn_of lk hcd S len fun A outer s H vs Q E hr hsp => hbody f cdv A outer s H vs Q E hr wish_def hsp
end
section
variable {X : Cx} {k k' : Nat} {x m : Str} {ps : List Str} {sp : Sp} {p pos apos : Pos} {e o : Expr} {es : List Expr} {ta : TE} {t : TA} {C : Addr} {E : XK}
theorem pe_canMX {pl : Sem Bool} (ho : PE X o ta) (c : Cls X.K C) (h : CanMX X.prog X.w X.K X.mg X.base C k m ps sp) (W : Wish X E) (hr : Room k' X.A) (ha : PA X (e :: es) t) (hk : k ≤ k' := by decide)
    (hst : starEach (e :: es) X.env = (false, eval e X.env) :: starEach es X.env := by rfl) (hpl : (backTo pos (starEach es X.env)).any (·.1) = false := by rfl)
    (ht : eval (.Call (.Attribute o m apos) (e :: es) [] pos) X.env = (do
      let ov ← eval o X.env
      standAt apos.atName
      let (f, first) ← holding [ov] (getMethod ov m pl)
      callWith pos f first (backTo pos (starEach (e :: es) X.env)) (backToKw pos (keywordEach [] X.env))) := by rfl) : PE X (.Call (.Attribute o m apos) (e :: es) [] pos) (tMeth C m sp [] E ta t) := by
  obtain ⟨f, fd, F, hm, b⟩ := h
  exact pe_meth (pl := pl) ho c hm F (hr.mono hk) b .nil W.pass ha hst hpl ht
end
end L2
set_option Elab.async false
set_option linter.all false
set_option maxRecDepth 100000
/-! d.pop(k), d.pop(k, x) of a dict with tuples for keys -/
namespace L2
open PySem PySem.Spec PyProof.Rows
theorem atKey_get {K : Type} [DecidableEq K] {xs : List (K × Addr × Value)} {k : K} {p : Addr × Value} (h : atKey xs k = some p) : xs ≠ [] := fun z => by rw [z] at h; cases h
theorem takeOut_none {prog : Program} {w : World} {K : Type} [DecidableEq K] {knd : HeapKind prog w K} {A : Around} {E : Value → Shared → Prop} {s : Shared} {d a : Addr} {xs : List (K × Addr × Value)} {k : K} {Q : Option DictEntry → Shared → Prop} (hu : knd.room A) (hkey : knd.is s.heap k a) (hm : s.heap.DictOfH knd d xs) (hp : atKey xs k = none)
    (h : Q none { s with toks := s.toks + knd.draws k }) : wpAny (model prog w) A (Builtin.Dict.takeOut d (.ref a)) Q E s := by
  obtain ⟨o, es, ep, ho, hc, hd, he, his, hn⟩ := hm
  unfold Builtin.Dict.takeOut
  try with_reducible refine wpAny_holding ?_
  refine wpAny_bind (knd.pyHash hu hkey (wpAny_bind (wpAny_dictFind_heap (s := { s with toks := s.toks + knd.draws k }) hu hkey ho hd he his hn (fun hno => ?_) fun j q hj => ?_)))
  · exact wpAny_pure h
  · rw [atKey_of_get hn hj] at hp; cases hp
section
variable {X : Cx} {pins : List (Addr × Obj)} {σ : St} {H : Hp} {s : Shared} {a b : Addr} {kvs : List (List Key × V)} {k : List Key} {A : Around} {E : Value → Shared → Prop}
theorem d_popT {v : V} {more : List Value} {Q : Value → Shared → Prop} (hu : A.units + 1 < cLine) (I : Inv X pins σ H s) (e : H a = some (.dT kvs)) (eb : H b = some (.tup (k.map kV))) (l : valV kvs k = some v) (hm : more = [] ∨ ∃ x, more = [x])
    (h : ∀ w' s', Inv X pins σ (upd H a (.dT (dropK kvs k))) s' → RelV v w' → Q w' s') : wpAny (model X.prog X.w) A (call (.builtin "dict.pop") (.ref a :: .ref b :: more)) Q E s := by
  obtain ⟨z, hd, xs, rel, dd⟩ := dt_of I.hok e
  have hx := rel.val k
  rw [l] at hx
  obtain ⟨p, hp⟩ : ∃ p, atKey xs k = some p := by
    cases q : atKey xs k with
    | none => rw [q] at hx; exact hx.elim
    | some p => exact ⟨p, rfl⟩
  rw [hp] at hx
  have hv : RelV v p.2 := hx
  have hl : xs.length ≤ sizeLine := by rw [← Paired.length rel]; exact z
  have ha : argsOk "dict.pop" ⟨.ref a :: .ref b :: more, []⟩ := by
    rcases hm with q | ⟨x, q⟩
    · subst q; exact PySem.F.args_dict_pop_2 _ _
    · subst q; exact PySem.F.args_dict_pop_3 _ _ _
  refine wpAny_call_entry PySem.F.slot_dict_pop dd.typeIs PySem.F.entry_dict_pop ?_ ha
  obtain ⟨o, es, ep, ho, hc, hda, he, his, hn⟩ := id dd
  have hne : es.isEmpty = false := by
    have h1 : xs ≠ [] := atKey_get hp
    have h2 : es.toList.length = xs.length := by rw [he, List.length_map]
    have h3 : xs.length ≠ 0 := fun z => h1 (List.length_eq_zero_iff.mp z)
    cases q : es.isEmpty with
    | false => rfl
    | true =>
      have := Array.isEmpty_iff.mp q
      rw [this] at h2
      simp at h2
      omega
  have nab : b ≠ a := fun z => by rw [z, e] at eb; cases eb
  have hpart : (keyPart (Value.ref b)).isSome = false := rfl
  have done : ∀ h', h'.DictOfH (tupleKind (mixKind X.prog X.w)) a (xs.filter fun y => decide (y.1 ≠ k)) → Heap.SameBut a s.heap h' → ∀ t', Q p.2 { s with heap := h', toks := t' } := fun h' dd' hs t' => by
    have he : ∃ q, h'.get? a = some q := let ⟨q, _, _, hq, _⟩ := dd'; ⟨q, hq⟩
    exact h _ _ (d_write I (by rw [e]; exact True.intro) hs he (dt_new (Nat.le_trans (dropK_le kvs k) z) hd ((rel.drop k).keeps fun c ys q => by rw [upd_ne (fun z => by rw [z, e] at q; cases q)]; exact q) dd')) hv
  unfold Builtin.«dict.pop»
  refine wpAny_bind ?_
  unfold Builtin.Dict.keyAndDefault
  refine wpAny_bind (wpAny_notOrdered_dict dd.typeIs ?_)
  rcases hm with rfl | ⟨dflt, rfl⟩
  · show wpAny _ _ (pure (a, Value.ref b, none)) _ _ s
    refine wpAny_pure ?_
    simp only [hpart, Bool.false_eq_true, if_false]
    refine wpAny_bind (wpAny_dictEntries ho hda (wpAny_bind (wpAny_pure ?_)))
    simp only [hne, Bool.false_eq_true, if_false]
    refine wpAny_bind (takeOut_heap (tupleKind_room_in1 hu) (key_of I.hok eb) dd hp hl fun h' dd' hs => ?_)
    simp only [Option.isNone_some, Bool.false_eq_true, if_false]
    exact wpAny_bind (wpAny_letGo (wpAny_pure ⟨_, rfl, done h' dd' hs _⟩))
  · show wpAny _ _ (pure (a, Value.ref b, some dflt)) _ _ s
    refine wpAny_pure ?_
    simp only [hpart, Bool.false_eq_true, if_false]
    refine wpAny_bind (wpAny_dictEntries ho hda (wpAny_bind (wpAny_pure ?_)))
    simp only [hne, Bool.false_eq_true, if_false]
    refine wpAny_bind (takeOut_heap (tupleKind_room_in1 hu) (key_of I.hok eb) dd hp hl fun h' dd' hs => ?_)
    simp only [Option.isNone_some, Bool.false_eq_true, if_false]
    exact wpAny_bind (wpAny_letGo (wpAny_pure ⟨_, rfl, done h' dd' hs _⟩))
theorem d_popTD {r : Value} {Q : Value → Shared → Prop} (hu : A.units + 1 < cLine) (I : Inv X pins σ H s) (e : H a = some (.dT kvs)) (eb : H b = some (.tup (k.map kV))) (l : valV kvs k = none) (h : ∀ s', Inv X pins σ H s' → Q r s') :
    wpAny (model X.prog X.w) A (call (.builtin "dict.pop") [.ref a, .ref b, r]) Q E s := by
  obtain ⟨z, hd, xs, rel, dd⟩ := dt_of I.hok e
  have hx := rel.val k
  rw [l] at hx
  have hp : atKey xs k = none := by
    cases q : atKey xs k with
    | none => rfl
    | some p => rw [q] at hx; exact hx.elim
  refine wpAny_call_entry PySem.F.slot_dict_pop dd.typeIs PySem.F.entry_dict_pop ?_ (PySem.F.args_dict_pop_3 _ _ _)
  obtain ⟨o, es, ep, ho, hc, hda, he, his, hn⟩ := id dd
  have hpart : (keyPart (Value.ref b)).isSome = false := rfl
  unfold Builtin.«dict.pop»
  refine wpAny_bind ?_
  unfold Builtin.Dict.keyAndDefault
  refine wpAny_bind (wpAny_notOrdered_dict dd.typeIs ?_)
  show wpAny _ _ (pure (a, Value.ref b, some r)) _ _ s
  refine wpAny_pure ?_
  simp only [hpart, Bool.false_eq_true, if_false]
  refine wpAny_bind (wpAny_dictEntries ho hda (wpAny_bind (wpAny_pure ?_)))
  cases hne : es.isEmpty with
  | true =>
    simp only [if_true]
    refine wpAny_bind (wpAny_rule (wpAny_bind (wpAny_pure ?_)))
    simp only [Option.isNone_none, if_true]
    refine wpAny_bind (wpAny_missedRemoval_other hd ?_)
    exact wpAny_bind (wpAny_rule (wpAny_pure ⟨r, rfl, h _ I⟩))
  | false =>
    simp only [Bool.false_eq_true, if_false]
    refine wpAny_bind (takeOut_none (tupleKind_room_in1 hu) (key_of I.hok eb) dd hp ?_)
    simp only [Option.isNone_none, if_true]
    refine wpAny_bind (wpAny_missedRemoval_other hd ?_)
    exact wpAny_bind (wpAny_rule (wpAny_pure ⟨r, rfl, h _ (I.tok _)⟩))
end
inductive rPopT2 (a : Addr) (y z : V) (H : Hp) (Q : VK) : Prop
  | mk (b : Addr) (kvs : List (List Key × V)) (k : List Key) (ey : y = .ref b) (ea : H a = some (.dT kvs)) (eb : H b = some (.tup (k.map kV))) (q : ∀ v, valV kvs k = some v → Q v (upd H a (.dT (dropK kvs k)))) (q0 : valV kvs k = none → Q z H) : rPopT2 a y z H Q
def tPopT2 (td ty tx : TE) : TE := fun σ H Q => td σ H fun x H1 => ∃ a, x = .ref a ∧ IsD H1 a ∧ ty σ H1 fun y H2 => tx σ H2 fun z H3 => rPopT2 a y z H3 Q
section
variable {X : Cx} {o e f : Expr} {apos cpos : Pos} {td ty tx : TE}
theorem pe_popT2 (hu : X.A.units + 1 < cLine) (ho : PE X o td) (he : PE X e ty) (hf : PE X f tx) (m : M2 X o "pop" apos e f cpos) : PE X (.Call (.Attribute o "pop" apos) [e, f] [] cpos) (tPopT2 td ty tx) := by
  refine ⟨?_⟩
  intro pins s σ H Q I h
  refine wpAny_Call_method m.base m.few m.line PySem.F.plainAttrs_dict PySem.F.slot_dict_pop PySem.F.type_dict_pop (thn (ho pins s σ H _ I h) fun u s1 ⟨x, H1, I1, rx, a, ex, d, q1⟩ => ?_)
  subst ex
  obtain rfl : u = Value.ref a := rx
  obtain ⟨t1, t2, _⟩ := isD_at I1 d
  refine ⟨t1, t2, ?_⟩
  rw [m.trees]
  refine Calls.callWith_builtin rfl (Calls.evalArgs_plain (Calls.spliced_cons (thn (he pins s1 σ H1 _ I1 q1) fun iv s2 ⟨y, H2, I2, ry, q2⟩ =>
    Calls.spliced_cons (thn (hf pins s2 σ H2 _ I2 q2) fun fv s3 ⟨z, H3, I3, rz, b, kvs, k, ey, ea, eb, q3, q4⟩ => Calls.spliced_nil ?_))))
  subst ey
  obtain rfl : iv = Value.ref b := ry
  cases l : valV kvs k with
  | some v => exact d_popT hu I3 ea eb l (.inr ⟨fv, rfl⟩) fun w' s4 I4 rw' => ⟨v, _, I4, rw', q3 v l⟩
  | none => exact d_popTD hu I3 ea eb l fun s4 I4 => ⟨z, H3, I4, rz, q4 l⟩
end
end L2
set_option Elab.async false
set_option linter.all false
set_option maxRecDepth 100000
/-! what is taken back, or isn't; what the law itself holds of what is told -/
namespace Pr
open PySem L2 PyProof.Rows Ent
theorem one_line : 1 ≤ sizeLine := by decide
section
variable {P : Program} {w : World} {K : PySem.W.Frag} {mg : Str → Option Value} {base : Heap} {C : Addr}
inductive sp_takeX (mg : Str → Option Value) (C : Addr) (vs : List V) (H : Hp) (Q : VK) (E : XK) : Prop
  | mk (b d : Addr) (os : List Str) (m : TM) (s k : Str) (e : vs = [.ref b, .str s, .str k]) (h : BookAt C H b d os m) (q : (look m (s, k)).isSome = true → ∀ H', But d H H' → BookAt C H' b d os (dropM m (s, k)) → Q .non H')
      (x : look m (s, k) = none → ∀ H', Same H H' → E (.ref (cOf mg "NoTell")) none H') : sp_takeX mg C vs H Q E
theorem takeX (T : Txt K mg C) : CanMX P w K mg base C 1 "take" ["self", "source", "key"] (sp_takeX mg C) := by
  refine fm_canX T.m_take sc_take (fun vs H Q E h => ?_) (fun f cdv A outer s H vs Q E hr W h => ?_)
  · obtain ⟨b, d, os, m, s, k, rfl, _⟩ := h
    rfl
  · obtain ⟨b, d, os, m, s, k, rfl, ⟨dx, f, kvs, hb, hf, hd, r⟩, q, x⟩ := h
    refine ⟨_, pss_cons (ps_set (i := 3) sc_take.nd rfl (Or.inl rfl) (pe_tup (pa2 (pv 1) (pv 2)))) (pss_cons (ps_if (pt_cmp (pc_dnotin (hu_of hr) (pv 3) (pe_fldK K (pv 0) rfl))) (pss_one (ps_raise W rfl T.x_NoTell.cls (pa1 pe_str))) pss_nil) (pss_one (ps_delT (hu_of hr) (pe_fldK K (pv 0) rfl) (pv 3)))), ?_⟩
    refine ⟨_, rfl, _, rfl, line1 (by show 2 ≤ 1000; decide), fun u hu => ?_⟩
    have s1 : Same H (upd H u (.tup [.str s, .str k])) := Same.upd hu
    refine ⟨_, rfl, _, rfl, b, C, dx, _, _, rfl, s1 _ _ hb, T.cl, T.n_told, rfl, d, _, rfl, DGet.t (k := tk (s, k)) (s1 _ _ hd) upd_same, _, rfl, ?_⟩
    rcases r.val (p := (s, k)) with ⟨z, hv⟩ | ⟨v, x, hl, hv, _⟩
    · rw [hv]
      exact iteT ⟨⟨one_line, x z _ s1⟩⟩
    rw [hv]
    refine iteF ?_
    refine ⟨⟨_, rfl, b, C, dx, _, _, rfl, s1 _ _ hb, T.cl, T.n_told, rfl, _, rfl, d, u, kvs, tk (s, k), rfl, rfl, s1 _ _ hd, upd_same, by rw [hv]; rfl, ?_⟩⟩
    have nt : ∀ a ys, (upd H u (.tup [.str s, .str k])) a = some (.tup ys) → a ≠ d := fun a ys e z => by rw [z, s1 _ _ hd] at e; cases e
    have nb : b ≠ d := fun z => by rw [z, hd] at hb; cases hb
    refine q (by rw [hl]; rfl) _ (fun a o e n => by rw [upd_ne n]; exact s1 _ _ e) ⟨dx, f, _, by rw [upd_ne nb]; exact s1 _ _ hb, by rw [upd_ne (nt _ _ (s1 _ _ hf))]; exact s1 _ _ hf, upd_same, ?_⟩
    refine ToldR.drop (r.same fun a ys e => ?_)
    have e' := s1 _ _ e
    rw [upd_ne (nt _ _ e')]; exact e'
inductive sp_taken (C : Addr) (vs : List V) (H : Hp) (Q : VK) (E : XK) : Prop
  | mk (b d : Addr) (os : List Str) (m : TM) (s k : Str) (e : vs = [.ref b, .str s, .str k]) (h : BookAt C H b d os m) (q : (look m (s, k)).isSome = true → ∀ H', But d H H' → BookAt C H' b d os (dropM m (s, k)) → Q (.bl false) H')
      (q0 : look m (s, k) = none → ∀ H', Same H H' → Q (.bl true) H') : sp_taken C vs H Q E
theorem sc_taken : FnScope ["_law_book", "_law_source", "_law_key_here", "_law_refused"] ["_law_book", "_law_source", "_law_key_here"] (defScope s_law_taken) := ⟨rfl, rfl, rfl, by decide +kernel, rfl, by decide +kernel, by decide +kernel⟩
theorem taken (T : Txt K mg C) : Can P w K mg base 2 "_law_taken" ["_law_book", "_law_source", "_law_key_here"] (sp_taken C) := by
  refine fn_can T.f_law_taken sc_taken (fun vs H Q E h => ?_) (fun f cdv A outer s H vs Q E hr h => ?_)
  · obtain ⟨b, d, os, m, s, k, rfl, _⟩ := h
    rfl
  · obtain ⟨b, d, os, m, s, k, rfl, hB, q, q0⟩ := h
    refine ⟨_, (pss_cons (ps_set (i := 3) sc_taken.nd rfl (Or.inl rfl) pe_bl)
      (pss_cons (ps_try (n := 4) (fun pn xe E W => (pss_one (ps_expr (pe_canMX (pv 0) T.cl (takeX T) W hr (pa2 (pv 1) (pv 2))))))
        (ph0 T.x_NoTell.m (fun a => pss_one (ps_set (i := 3) sc_taken.nd rfl (Or.inl rfl) pe_bl)) ph_nil))
      (pss_one (ps_ret (pv 3))))), ?_⟩
    obtain ⟨dx, f, kvs, hb, hf, hd, r⟩ := id hB
    refine ⟨_, rfl, b, dx, _, rfl, hb, rfl, _, rfl, _, rfl, b, d, os, m, s, k, rfl, hB, fun hl H' c hB' => ⟨_, rfl, q hl H' c hB'⟩, fun hl H' s' => ?_⟩
    intro σ' hσ
    match σ', hσ with
    | [t0, t1, t2, t3], _ =>
      exact .mk true T.e_NoTell_NoTell (iteT ⟨_, rfl, q0 hl H' s'⟩)
inductive sp_ltells (vs : List V) (H : Hp) (Q : VK) (E : XK) : Prop
  | mk (a D : Addr) (os : List Str) (kn m : TM) (k : Str) (e : vs = [.ref a, .ref D, .str k]) (ha : H a = some (.lst (os.map V.str))) (hd : KnAt H D kn) (lk : ∀ s, look kn (k, s) = look m (s, k)) (hl : os.length ≤ 6)
      (q : ∀ G ys H', Same H H' → H' G = some (.lst ys) → Paired (RowT H') ys (tellsM os m k) → Q (.ref G) H') : sp_ltells vs H Q E
theorem sc_ltells : FnScope ["_law_ranks", "_law_known", "_law_key_here"] ["_law_ranks", "_law_known", "_law_key_here"] (defScope s_law_tells) := ⟨rfl, rfl, rfl, by decide +kernel, rfl, by decide +kernel, by decide +kernel⟩
theorem tellsM_snoc (os : List Str) (s : Str) (m : TM) (k : Str) : tellsM (os ++ [s]) m k = tellsM os m k ++ ((look m (s, k)).map fun x => (s, x.1, x.2)).toList := by
  unfold tellsM
  rw [List.filterMap_append]
  congr 1
set_option maxHeartbeats 4000000 in
theorem ltells (T : Txt K mg C) : Can P w K mg base 1 "_law_tells" ["_law_ranks", "_law_known", "_law_key_here"] sp_ltells := by
  refine fn_can T.f_law_tells sc_ltells (fun vs H Q E h => ?_) (fun f cdv A outer s H vs Q E hr h => ?_)
  · obtain ⟨a, D, os, kn, m, k, rfl, _⟩ := h
    rfl
  · obtain ⟨a, D, os, kn, m, k, rfl, ha, ⟨kvs, hd, r⟩, lk, hl, q⟩ := h
    refine ⟨_, (pss_one (ps_ret (pe_lc rfl (lcS sc_ltells) (pi_listK K (pv 0)) (fun _ _ _ _ => (pts_one (pt_cmp (pc_din (hu_of hr) (pe_tup (pa2 (pv 3) (pv 0))) (pv 2))))) (fun _ _ _ _ => (pe_op (op_catTK K) (pe_tup (pa1 (pv 0))) (pe_dget (hu_of hr) (pv 2) (pe_tup (pa2 (pv 3) (pv 0))) (fun _ _ => rfl))))))), ?_⟩
    refine ⟨_, rfl, a, rfl, ⟨_, .of ha⟩, fun G hG => ?_⟩
    refine lc_list (xs := os.map V.str) (fun i ys H1 => H1 G = some (.lst ys) ∧ ys.length ≤ i ∧ Same H H1 ∧ Paired (RowT H1) ys (tellsM (os.take i) m k)) ⟨upd_same, Nat.le_refl _, Same.upd hG, .nil⟩ (fun i ys H1 h => ⟨h.1, .of (h.2.2.1 _ _ ha)⟩) (fun ys H1 h => ?fin) fun i x ys H1 hi hx h => ?turn
    case fin =>
      obtain ⟨g1, g2, g3, g4⟩ := h
      rw [List.length_map, List.take_of_length_le (Nat.le_refl _)] at g4
      exact q G ys H1 g3 g1 g4
    case turn =>
      obtain ⟨g1, g2, g3, g4⟩ := h
      rw [List.length_map] at hi
      rw [List.getElem?_map, List.getElem?_eq_getElem hi] at hx
      cases hx
      refine ⟨_, rfl, _, rfl, line1 (by show 2 ≤ 1000; decide), fun u hu => ?_⟩
      have s1 : Same H1 (upd H1 u (.tup [.str k, .str os[i]])) := Same.upd hu
      have s2 := g3.trans s1
      refine ⟨_, rfl, D, _, rfl, DGet.t (k := tk (k, os[i])) (s2 _ _ hd) upd_same, _, rfl, ?_⟩
      have tn : tellsM (os.take (i + 1)) m k = tellsM (os.take i) m k ++ ((look m (os[i], k)).map fun x => (os[i], x.1, x.2)).toList := by
        rw [List.take_add_one, List.getElem?_eq_getElem hi]
        exact tellsM_snoc _ _ _ _
      rcases r.val (p := (k, os[i])) with ⟨z1, z2⟩ | ⟨v, x, z1, z2, t, rfl, ht⟩
      · rw [z2]
        rw [lk] at z1
        refine iteF (LcNo.mk (by rw [List.length_map]; exact hi) ⟨s1 _ _ g1, by omega, s2, ?_⟩)
        rw [tn, z1]
        exact (List.append_nil (tellsM (os.take i) m k)).symm ▸ Paired.mapP g4 fun _ _ z => z.same s1
      · rw [z2]
        rw [lk] at z1
        generalize upd H1 u (.tup [.str k, .str os[i]]) = H2 at s1 s2
        refine iteT ⟨_, rfl, line1 (by show 1 ≤ 1000; decide), fun u1 hu1 => ?_⟩
        have s3 : Same H2 (upd H2 u1 (.tup [.str os[i]])) := Same.upd hu1
        have hu1' : (upd H2 u1 (.tup [.str os[i]])) u1 = some (.tup [.str os[i]]) := upd_same
        generalize (upd H2 u1 (.tup [.str os[i]])) = H3 at s3 hu1'
        refine ⟨_, rfl, _, rfl, _, rfl, line1 (by show 2 ≤ 1000; decide), fun u2 hu2 => ?_⟩
        have s4 : Same H3 (upd H3 u2 (.tup [.str k, .str os[i]])) := Same.upd hu2
        have hu2' : (upd H3 u2 (.tup [.str k, .str os[i]])) u2 = some (.tup [.str k, .str os[i]]) := upd_same
        generalize (upd H3 u2 (.tup [.str k, .str os[i]])) = H4 at s4 hu2'
        have s5 := s2.trans (s3.trans s4)
        have g := DGet.t (k := tk (k, os[i])) (s5 _ _ hd) hu2'
        rw [z2] at g
        refine ⟨D, .ref t, rfl, g, u1, t, _, _, rfl, rfl, .of (s4 _ _ hu1'), .of (s5 _ _ ht), by simp, line1 (by show 3 ≤ 1000; decide), (fun z => by cases z), fun _ p hp => ?_⟩
        have s6 := (s1.trans (s3.trans s4)).trans (Same.upd (o := .tup ([.str os[i]] ++ [.int x.1, .int x.2])) hp)
        have hp' : (upd H4 p (.tup ([.str os[i]] ++ [.int x.1, .int x.2]))) p = some (.tup [.str os[i], .int x.1, .int x.2]) := upd_same
        generalize (upd H4 p (.tup ([.str os[i]] ++ [.int x.1, .int x.2]))) = H5 at s6 hp'
        have ne : ∀ {a : Addr} {ys : List V}, H5 a = some (.tup ys) → a ≠ G := fun e z => by
          rw [z, s6 _ _ g1] at e; cases e
        refine LcNx.mk (by rw [List.length_map]; exact hi) (by rw [List.length_map]; omega) (by omega) (s6 _ _ g1) ⟨upd_same, by rw [List.length_append]; show _ + 1 ≤ _; omega, Same.but_ne'' (g3.trans s6) hG, ?_⟩
        rw [tn, z1]
        refine Paired.snoc ⟨p, rfl, by rw [upd_ne (ne hp')]; exact hp'⟩ (Paired.mapP g4 fun _ _ z => ?_)
        obtain ⟨a, ea, ha⟩ := z
        have := s6 _ _ ha
        exact ⟨a, ea, by rw [upd_ne (ne this)]; exact this⟩
inductive sp_lcounted (vs : List V) (H : Hp) (Q : VK) (E : XK) : Prop
  | mk (a D : Addr) (os : List Str) (kn m : TM) (k : Str) (e : vs = [.ref a, .ref D, .str k]) (ha : H a = some (.lst (os.map V.str))) (hd : KnAt H D kn) (lk : ∀ s, look kn (k, s) = look m (s, k)) (ok : Srcs os)
      (q0 : countedM os m k = none → ∀ H', Same H H' → Q .non H') (q1 : ∀ e, countedM os m k = some e → ∀ x H', Same H H' → EntT H' x e → Q x H') : sp_lcounted vs H Q E
theorem sc_lcounted : FnScope ["_law_ranks", "_law_known", "_law_key_here", "_law_tells_here"] ["_law_ranks", "_law_known", "_law_key_here"] (defScope s_law_counted) := ⟨rfl, rfl, rfl, by decide +kernel, rfl, by decide +kernel, by decide +kernel⟩
theorem rows_nil (rs : List (Str × Int × Int)) : PyData.eqv (.list (rs.map rD)) (.list []) = decide (rs = []) := by
  cases rs with
  | nil => rfl
  | cons x t => rw [decide_eq_false (by simp)]; rfl
theorem rows_lay' {os : List Str} {m : TM} {k : Str} (ok : Srcs os) : (PyData.list ((tellsM os m k).map rD)).canLay0 = true := by
  unfold PyData.canLay0
  exact rows_lay fun r hr c hc => ((ok.s _ (mem_tells.mp hr).1).c c hc).1
theorem rows_dep' (rs : List (Str × Int × Int)) : (PyData.list (rs.map rD)).depth ≤ 8 := by have := rows_dep rs; simp only [PyData.depth]; omega
set_option maxHeartbeats 2000000 in
theorem lcounted (T : Txt K mg C) : Can P w K mg base 2 "_law_counted" ["_law_ranks", "_law_known", "_law_key_here"] sp_lcounted := by
  refine fn_can T.f_law_counted sc_lcounted (fun vs H Q E h => ?_) (fun f cdv A outer s H vs Q E hr h => ?_)
  · obtain ⟨a, D, os, kn, m, k, rfl, _⟩ := h
    rfl
  · obtain ⟨a, D, os, kn, m, k, rfl, ha, hd, lk, ok, q0, q1⟩ := h
    refine ⟨_, (pss_cons (ps_set (i := 3) sc_lcounted.nd rfl (Or.inl rfl) (pe_can (ltells T) hr (pa3 (pv 0) (pv 1) (pv 2))))
      (pss_cons (ps_if (pt_cmpR (op_eqD hr) (pv 3) (pe_lst pa_nil) (nomark _))
        (pss_one (ps_ret pe_non))
        pss_nil)
      (pss_one (ps_ret (pe_tup (pa3 (pe_ix ix_ob (pe_ix (ix_listK K) (pv 3) pe_int (fun _ _ => rfl)) pe_int (fun _ _ => rfl)) (pv 2) (pe_ix ix_ob (pe_ix (ix_listK K) (pv 3) pe_int (fun _ _ => rfl)) pe_int (fun _ _ => rfl)))))))), ?_⟩
    refine ⟨_, rfl, _, rfl, _, rfl, a, D, os, kn, m, k, rfl, ha, hd, lk, ok.h, fun G ys H1 s1 hG hR => ?_⟩
    refine ⟨_, rfl, Nat.zero_le _, fun L hL => ?_⟩
    have s2 : Same H1 (upd H1 L (.lst [])) := Same.upd hL
    refine ⟨.list ((tellsM os m k).map rD), .list [], by unfold Dat; exact ⟨G, _, rfl, s2 _ _ hG, dat_rows (Paired.mapP hR fun _ _ z => z.same s2)⟩, by unfold Dat; exact ⟨L, _, rfl, upd_same, by unfold DatAll; rfl⟩, rows_lay' ok, rfl, rows_dep' _, _, rfl, ?_⟩
    rw [rows_nil]
    unfold countedM at q0 q1
    generalize upd H1 L (.lst []) = H2 at s2
    generalize tellsM os m k = rs at hR q0 q1
    cases hR with
    | nil => exact iteT (q0 rfl _ (s1.trans s2))
    | @cons x row xs rows hr0 ht =>
      obtain ⟨b, rfl, hb⟩ := hr0
      refine iteN (show (if false = true then !decide (row :: rows = []) else decide (row :: rows = [])) = false from by rw [if_neg Bool.false_ne_true]; exact decide_eq_false (by simp)) ?_
      have hG2 := s2 _ _ hG
      have hb2 := s2 _ _ hb
      refine ⟨_, rfl, G, _, _, _, rfl, rfl, .of hG2, atI_nat (j := 0) rfl, b, _, _, _, _, rfl, rfl, hb2, .inr rfl, atI_nat (j := 1) rfl, _, rfl, _, rfl, G, _, _, _, rfl, rfl, .of hG2, atI_nat (j := 0) rfl, b, _, _, _, _, rfl, rfl, hb2, .inr rfl, atI_nat (j := 2) rfl, line1 (by show 3 ≤ 1000; decide), fun t ht => ?_⟩
      exact q1 _ rfl _ _ (s1.trans (s2.trans (Same.upd ht))) ⟨t, rfl, upd_same⟩
end
end Pr
set_option Elab.async false
set_option linter.all false
set_option maxRecDepth 100000
/-! all entries, as the law finds them; whether the book agrees -/
namespace Pr
open PySem L2 PyProof.Rows Ent
section
variable {P : Program} {w : World} {K : PySem.W.Frag} {mg : Str → Option Value} {base : Heap} {C : Addr}
inductive sp_lentries (vs : List V) (H : Hp) (Q : VK) (E : XK) : Prop
  | mk (a D : Addr) (os ks : List Str) (kn m : TM) (n : Nat) (e : vs = [.ref a, .ref D]) (ha : H a = some (.lst (os.map V.str))) (hd : KnAt H D kn) (lk : ∀ s k, look kn (k, s) = look m (s, k)) (ok : Srcs os) (hn : kn.length < 900) (mo : MOk os ks n m) (hk : ks.length < 64)
      (q : ∀ G ys H' es, Same H H' → H' G = some (.lst ys) → Paired (EntT H') ys es → Ent.Keyed es → es.Pairwise (fun a b => bef b a = false) → (∀ e, e ∈ es ↔ countedM os m e.2.1 = some e) → Q (.ref G) H') : sp_lentries vs H Q E
theorem sc_lentries : FnScope ["_law_ranks", "_law_known", "_law_keys"] ["_law_ranks", "_law_known"] (defScope s_law_entries) := ⟨rfl, rfl, rfl, by decide +kernel, rfl, by decide +kernel, by decide +kernel⟩
set_option maxHeartbeats 8000000 in
theorem lentries (T : Txt K mg C) : Can P w K mg base 3 "_law_entries" ["_law_ranks", "_law_known"] sp_lentries := by
  refine fn_can T.f_law_entries sc_lentries (fun vs H Q E h => ?_) (fun f cdv A outer s H vs Q E hr h => ?_)
  · obtain ⟨a, D, os, ks, kn, m, n, rfl, _⟩ := h
    rfl
  · obtain ⟨a, D, os, ks, kn, m, n, rfl, ha, ⟨kvs, hd, r⟩, lk, ok, hn, mo, hk, q⟩ := h
    refine ⟨_, (pss_cons (ps_set (i := 2) sc_lentries.nd rfl (Or.inl rfl) (pe_thaw (pe_b (call_sortedT P w rfl) T.b_sorted boot_sorted (pa1 (pe_t (call_setT P w rfl) T.b_set boot_set (pa1 (pe_ln (xs := ["_law_key_here", "_law_source"]) (Ns := ["_law_ranks", "_law_known", "_law_keys"]) rfl (lnS _ sc_lentries) (pi_dT (pv 1)) (pg_pair rfl (lnS _ sc_lentries)) (fun _ _ _ _ => pts_nil) (fun _ _ _ _ => (pv 0)))))))))
      (pss_one (ps_ret (pe_b call_sortedE T.b_sorted boot_sorted (pa1 (pe_lc rfl (lcS sc_lentries) (pi_listK K (pv 2)) (fun _ _ _ _ => pts_nil) (fun _ _ _ _ => (pe_can (lcounted T) hr (pa3 (pv 1) (pv 2) (pv 0)))))))))), ?_⟩
    have hlen : kvs.length = kn.length := Paired.length r
    refine ⟨⟨_, rfl, D, kvs, rfl, hd, fun o L hL => ?_⟩⟩
    have nL : L ≠ D := fun z => by rw [z, upd_same] at hL; cases hL
    have hL0 : H L = none := by rw [upd_ne nL] at hL; exact hL
    have hDz : ∀ z, (upd (upd H D (.frz o (.dT kvs))) L z) D = some (.frz o (.dT kvs)) := fun z => by rw [upd_ne (Ne.symm nL), upd_same]
    refine lcN_go (n := kvs.length) (fun i ys H' => ys = ((kn.take i).map fun q => V.str q.1.1) ∧ H' = upd (upd H D (.frz o (.dT kvs))) L (.lst ys)) ⟨rfl, rfl⟩ (fun i ys H' h => by rw [h.2, upd_same]) (fun ys H' h => ?_) fun i ys H' hi h => ?_
    · obtain ⟨rfl, rfl⟩ := h
      refine ⟨⟨hDz _, Nat.le_refl _⟩, ?_⟩
      rw [hlen, List.take_of_length_le (Nat.le_refl _)]
      have em : (kn.map fun q => V.str q.1.1) = (kn.map fun q => q.1.1).map V.str := by rw [List.map_map]; rfl
      rw [em]
      generalize hks : (kn.map fun q => q.1.1) = kl
      obtain ⟨zs, ez, nz, mz⟩ := keys_of' kl
      refine ⟨L, _, kl, rfl, upd_same, .inl rfl, by rw [← hks, List.length_map]; omega, fun S hS => ?_⟩
      have nSL : S ≠ L := fun z => by rw [z, upd_same] at hS; cases hS
      have nSD : S ≠ D := fun z => by rw [z, hDz] at hS; cases hS
      rw [ez]
      have zk : ∀ z ∈ zs, ∃ qq ∈ m, qq.1.2 = z := fun z hz => by
        have := (mz z).mp hz
        rw [← hks] at this
        obtain ⟨q1, hq1, rfl⟩ := List.mem_map.mp this
        have h1 := look_some hq1
        rw [show q1.1 = (q1.1.1, q1.1.2) from rfl, lk] at h1
        exact told_look.mpr ⟨_, h1⟩
      have zl : zs.length < 64 := by
        have := few nz fun z hz => by
          obtain ⟨qq, hq, e⟩ := zk z hz
          exact e ▸ (mo.s qq hq).2
        omega
      refine ⟨S, zs, rfl, upd_same, zl, fun G ys is yp p1 p2 hG => ?_⟩
      have nGS : G ≠ S := fun z => by rw [z, upd_same] at hG; cases hG
      have nGL : G ≠ L := fun z => by rw [upd_ne nGS, z, upd_same] at hG; cases hG
      have nGD : G ≠ D := fun z => by rw [upd_ne nGS, z, hDz] at hG; cases hG
      have hG0 : H G = none := by rw [upd_ne nGS, upd_ne nGL, upd_ne nGD] at hG; exact hG
      have hS0 : H S = none := by rw [upd_ne nSL, upd_ne nSD] at hS; exact hS
      refine ⟨D, o, .dT kvs, by rw [upd_ne (Ne.symm nGD), upd_ne (Ne.symm nSD)]; exact hDz _, .t kvs, (fun o' u' z => by have z' : H D = some (.frz o' u') := z; rw [hd] at z'; cases z'), ?_⟩
      generalize hus : (is.map fun i => ys.getD i "") = us
      have sH : Same H (upd (upd (upd (upd (upd H D (.frz o (.dT kvs))) L (.lst (kl.map V.str))) S (SetH P w S (zs.map Sum.inr))) G (.lst (us.map V.str))) D (.dT kvs)) := fun a u e => by
        by_cases z : a = D
        · rw [z, upd_same]; rw [z, hd] at e; exact e
        · rw [upd_ne z, upd_ne (ne_of_none e hG0), upd_ne (ne_of_none e hS0), upd_ne (ne_of_none e hL0), upd_ne z]; exact e
      have hG5 : (upd (upd (upd (upd (upd H D (.frz o (.dT kvs))) L (.lst (kl.map V.str))) S (SetH P w S (zs.map Sum.inr))) G (.lst (us.map V.str))) D (.dT kvs)) G = some (.lst (us.map V.str)) := by rw [upd_ne nGD, upd_same]
      generalize (upd (upd (upd (upd (upd H D (.frz o (.dT kvs))) L (.lst (kl.map V.str))) S (SetH P w S (zs.map Sum.inr))) G (.lst (us.map V.str))) D (.dT kvs)) = H5 at sH hG5
      have up : us.Perm zs := by
        rw [← hus]
        refine List.Perm.trans ((p1.map _).trans ?_) yp
        rw [show ((List.range ys.length).map fun i => ys.getD i "") = ys from by
          apply List.ext_getElem (by simp)
          intro j h1 h2
          rw [List.getElem_map, List.getElem_range, List.getD_eq_getElem?_getD, List.getElem?_eq_getElem h2]
          rfl]
      have ul : us.length < 64 := by rw [up.length_eq]; exact zl
      have hce : ∀ z ∈ us, ∃ e, countedM os m z = some e := fun z hz => by
        obtain ⟨qq, hq, rfl⟩ := zk z (up.mem_iff.mp hz)
        exact counted_some hq (mo.s qq hq).1
      have hcs : ∀ l : List Str, (∀ z ∈ l, z ∈ us) → ∃ cs : List En, l.map (fun z => countedM os m z) = cs.map some := fun l => by
        induction l with
        | nil => intro _; exact ⟨[], rfl⟩
        | cons z t ih =>
          intro h
          obtain ⟨cs, ec⟩ := ih fun y hy => h y (List.mem_cons_of_mem _ hy)
          obtain ⟨e, he⟩ := hce z (h z List.mem_cons_self)
          exact ⟨e :: cs, by rw [List.map_cons, List.map_cons, he, ec]⟩
      obtain ⟨cs, hcs⟩ := hcs us fun _ h => h
      have cl : cs.length = us.length := by have := congrArg List.length hcs; rw [List.length_map, List.length_map] at this; exact this.symm
      have ck : cs.map (·.2.1) = us := by
        have key : ∀ (zs : List Str) (cs : List En), zs.map (fun z => countedM os m z) = cs.map some → cs.map (·.2.1) = zs := fun zs => by
          induction zs with
          | nil => intro cs h; cases cs with
            | nil => rfl
            | cons c t => cases h
          | cons z t ih => intro cs h; cases cs with
            | nil => cases h
            | cons c r =>
              rw [List.map_cons, List.map_cons] at h
              have h1 := (List.cons.inj h).1
              rw [List.map_cons, ih r (List.cons.inj h).2, counted_key h1]
        exact key us cs hcs
      have kyd : Ent.Keyed cs := by show (cs.map (·.2.1)).Nodup; rw [ck]; exact up.nodup_iff.mpr nz
      refine ⟨_, rfl, G, rfl, ⟨_, .of hG5⟩, fun R hR => ?_⟩
      refine lc_list (xs := us.map V.str) (fun i ys H6 => H6 R = some (.lst ys) ∧ ys.length = i ∧ Same H5 H6 ∧ Paired (EntT H6) ys (cs.take i)) ⟨upd_same, rfl, Same.upd hR, .nil⟩ (fun i ys H6 h => ⟨h.1, .of (h.2.2.1 _ _ hG5)⟩) (fun ys H6 h => ?fin) fun i x ys H6 hi hx h => ?turn
      case turn =>
        obtain ⟨l1, l2, l3, l4⟩ := h
        rw [List.length_map] at hi
        rw [List.getElem?_map, List.getElem?_eq_getElem hi] at hx
        cases hx
        have ei : countedM os m us[i] = some (cs[i]'(by omega)) := by
          have := congrArg (fun l => l[i]?) hcs
          simp only [List.getElem?_map] at this
          rw [List.getElem?_eq_getElem hi, List.getElem?_eq_getElem (show i < cs.length by omega)] at this
          simpa using this
        have s6 := sH.trans l3
        refine yesI ⟨_, rfl, _, rfl, _, rfl, a, D, os, kn, m, us[i], rfl, s6 _ _ ha, ⟨kvs, s6 _ _ hd, r.same fun _ _ e => s6 _ _ e⟩, fun s => lk s _, ok, (fun z => by rw [ei] at z; cases z), fun e he x H7 s7 hx7 => ?_⟩
        rw [ei] at he
        cases he
        refine LcNx.mk (by rw [List.length_map]; exact hi) (by rw [List.length_map]; omega) (by omega) (s7 _ _ l1) ⟨upd_same, by rw [List.length_append, l2]; rfl, Same.but_ne'' (l3.trans s7) hR, ?_⟩
        rw [List.take_add_one, List.getElem?_eq_getElem (show i < cs.length by omega)]
        exact Paired.snoc (hx7.wr (s7 _ _ l1)) (Paired.mapP l4 fun _ _ z => (z.same s7).wr (s7 _ _ l1))
      obtain ⟨l1, l2, l3, l4⟩ := h
      rw [List.length_map, List.take_of_length_le (by omega)] at l4
      refine ⟨R, _, _, cs, rfl, l1, .inl rfl, l4, by omega, fun DE is p1 p2 hDE => ?_⟩
      obtain ⟨so, pe⟩ := sorted_srt kyd p1 p2
      have hpk : Ent.Keyed (pick cs is) := by
        show ((pick cs is).map (·.2.1)).Nodup
        rw [(pe.map _).nodup_iff]
        exact kyd
      have sE : Same H6 (upd H6 DE (.lst (is.map fun i => ys.getD i .non))) := Same.upd hDE
      have LL : ys.length = cs.length := Paired.length l4
      have hpr : Paired (EntT H6) (is.map fun i => ys.getD i .non) (pick cs is) := Paired.picks l4 is fun i hi => by rw [LL]; exact List.mem_range.mp (p1.mem_iff.mp hi)
      refine q DE _ _ (pick cs is) (sH.trans (l3.trans sE)) upd_same (Paired.mapP hpr fun _ _ z => z.same sE) hpk so fun e => ?_
      rw [pe.mem_iff]
      constructor
      · intro he
        have : some e ∈ us.map fun z => countedM os m z := by rw [hcs]; exact List.mem_map_of_mem he
        obtain ⟨z, _, ez⟩ := List.mem_map.mp this
        rw [counted_key ez]
        exact ez
      · intro h
        obtain ⟨qq, hq, ek⟩ := counted_told h
        obtain ⟨s', hs'⟩ := told_look.mp ⟨qq, hq, ek⟩
        have hk1 : (look kn (e.2.1, s')).isSome = true := by rw [lk]; exact hs'
        have hk2 : e.2.1 ∈ kl := by
          rw [← hks]
          cases hl : look kn (e.2.1, s') with
          | none => rw [hl] at hk1; cases hk1
          | some x => exact List.mem_map.mpr ⟨_, look_mem hl, rfl⟩
        have hku : e.2.1 ∈ us := up.mem_iff.mpr ((mz _).mpr hk2)
        have : some e ∈ cs.map some := by rw [← hcs]; exact List.mem_map.mpr ⟨_, hku, h⟩
        obtain ⟨c, hc', ec⟩ := List.mem_map.mp this
        cases ec
        exact hc'
    · obtain ⟨rfl, rfl⟩ := h
      refine ⟨⟨hDz _, hi⟩, fun x H' u hu y => ?_⟩
      obtain ⟨rfl, bb, p, rfl, hp, hbb⟩ := y
      obtain ⟨qq, hqq, e1, e2⟩ := Paired.get r hp
      rw [e1] at hbb
      obtain ⟨u0, u1, rfl⟩ := len2 hu
      refine ⟨bb, _, rfl, .of hbb, rfl, _, _, rfl, _, _, rfl, rfl, ⟨[_, _], rfl, rfl⟩, ?_⟩
      refine yesI ⟨_, rfl, LcNx.mk hi (by omega) (by rw [List.length_map, List.length_take]; omega) upd_same ⟨?_, ?_⟩⟩
      · rw [List.take_add_one, hqq, List.map_append]
        rfl
      · funext a
        by_cases z : a = L
        · rw [z, upd_same, upd_same]
        · rw [upd_ne z, upd_ne z, upd_ne z]
inductive sp_agrees (C : Addr) (vs : List V) (H : Hp) (Q : VK) (E : XK) : Prop
  | mk (b d a D : Addr) (os ks : List Str) (kn m : TM) (n : Nat) (k : Str) (e : vs = [.ref b, .ref a, .ref D, .str k]) (h : BookAt C H b d os m) (ha : H a = some (.lst (os.map V.str))) (hd : KnAt H D kn) (lk : ∀ s k, look kn (k, s) = look m (s, k)) (ok : Srcs os) (hn : kn.length < 900) (mo : MOk os ks n m) (hn' : n < 900) (hk : ks.length < 64) (ko : ∀ z ∈ ks, KeyOk z) (kk : KeyOk k)
      (q : ∀ H', Same H H' → Q (.bl true) H') : sp_agrees C vs H Q E
theorem sc_agrees : FnScope ["_law_book", "_law_ranks", "_law_known", "_law_key_here"] ["_law_book", "_law_ranks", "_law_known", "_law_key_here"] (defScope s_law_agrees) := ⟨rfl, rfl, rfl, by decide +kernel, rfl, by decide +kernel, by decide +kernel⟩
set_option maxHeartbeats 8000000 in
theorem agrees (T : Txt K mg C) : Can P w K mg base 6 "_law_agrees" ["_law_book", "_law_ranks", "_law_known", "_law_key_here"] (sp_agrees C) := by
  refine fn_can T.f_law_agrees sc_agrees (fun vs H Q E h => ?_) (fun f cdv A outer s H vs Q E hr h => ?_)
  · obtain ⟨b, d, a, D, os, ks, kn, m, n, k, rfl, _⟩ := h
    rfl
  · obtain ⟨b, d, a, D, os, ks, kn, m, n, k, rfl, hB, ha, hd, lk, ok, hn, mo, hn', hk, ko, kk, q⟩ := h
    refine ⟨_, (pss_cut (ps_if (PW.pt (pw_or (pt_cmpR (op_neD hr) (pe_canM (pv 0) T.cl (tells T) hr (pa1 (pv 3))) (pe_can (ltells T) hr (pa3 (pv 1) (pv 2) (pv 3))) (nomark _)) (pw_or1 (pt_cmpR (op_neD hr) (pe_canM (pv 0) T.cl (counted T) hr (pa1 (pv 3))) (pe_can (lcounted T) hr (pa3 (pv 1) (pv 2) (pv 3))) (nomark _)))))
        (pss_one (ps_ret pe_bl))
        pss_nil)
      (pss_one (ps_ret (pe_and (pe_cmpR (op_eqD hr) (pe_canM0 (pv 0) T.cl (order T) hr) (pv 1) (nomark _)) (pe_one (pe_cmpR (op_eqD hr) (pe_canM0 (pv 0) T.cl (entries T) hr) (pe_can (lentries T) hr (pa2 (pv 1) (pv 2))) (nomark _))))))), ?_⟩
    obtain ⟨dx, f, kvs, hb, hf, hdd, r⟩ := id hB
    refine ⟨fun σ' H' => σ' = [some (.ref b), some (.ref a), some (.ref D), some (.str k)] ∧ Same H H', ?_, ?_⟩
    · refine ⟨_, rfl, b, dx, _, rfl, hb, rfl, _, rfl, b, d, os, m, k, rfl, hB, ok.h, fun D1 ys1 H1 s1 _ hy1 hR1 => ?_⟩
      refine ⟨_, rfl, _, rfl, _, rfl, a, D, os, kn, m, k, rfl, s1 _ _ ha, hd.same s1, fun s => lk s k, ok.h, fun G ys H2 s2 hG hR => ?_⟩
      refine ⟨.list ((tellsM os m k).map rD), .list ((tellsM os m k).map rD), by unfold Dat; exact ⟨D1, _, rfl, s2 _ _ hy1, dat_rows (Paired.mapP hR1 fun _ _ z => z.same s2)⟩, by unfold Dat; exact ⟨G, _, rfl, hG, dat_rows hR⟩, rows_lay' ok, rows_lay' ok, rows_dep' _, _, rfl, ?_⟩
      rw [PySem.SeqAt.eqv_refl _ (rows_lay' ok)]
      refine iteF ?_
      have s12 := s1.trans s2
      refine ⟨_, rfl, b, dx, _, rfl, s12 _ _ hb, rfl, _, rfl, b, d, os, m, k, rfl, hB.same s12, ok.h, fun hc H3 s3 => ?_, fun e hc x H3 s3 hx => ?_⟩
      · have s13 := s12.trans s3
        refine ⟨_, rfl, _, rfl, _, rfl, a, D, os, kn, m, k, rfl, s13 _ _ ha, hd.same s13, fun s => lk s k, ok, fun hc' H4 s4 => ?_, fun e hc' => by rw [hc] at hc'; cases hc'⟩
        refine ⟨.none, .none, by unfold Dat; rfl, by unfold Dat; rfl, rfl, rfl, by decide, _, rfl, iteF ⟨rfl, s13.trans s4⟩⟩
      · have s13 := s12.trans s3
        refine ⟨_, rfl, _, rfl, _, rfl, a, D, os, kn, m, k, rfl, s13 _ _ ha, hd.same s13, fun s => lk s k, ok, (fun hc' => by rw [hc] at hc'; cases hc'), fun e' hc' x' H4 s4 hx' => ?_⟩
        rw [hc] at hc'
        cases hc'
        have el : (eD e).canLay0 = true := eD_lay (by rw [counted_key hc]; exact kk)
        refine ⟨eD e, eD e, (hx.same s4).dat, hx'.dat, el, el, eD_dep _, _, rfl, ?_⟩
        rw [PySem.SeqAt.eqv_refl _ el]
        exact iteF ⟨rfl, s13.trans s4⟩
    rintro σ' H1 ⟨rfl, s1⟩
    have hB1 := hB.same s1
    refine ⟨_, rfl, b, dx, _, rfl, s1 _ _ hb, rfl, b, d, os, m, rfl, hB1, fun O hO => ?_⟩
    have s2 : Same H1 (upd H1 O (.lst (os.map V.str))) := Same.upd hO
    have hO' : (upd H1 O (.lst (os.map V.str))) O = some (.lst (os.map V.str)) := upd_same
    generalize (upd H1 O (.lst (os.map V.str))) = H2 at s2 hO'
    have s12 := s1.trans s2
    refine ⟨_, rfl, .list (os.map .str), .list (os.map .str), by unfold Dat; exact ⟨O, _, rfl, hO', strs_dat _ os⟩, by unfold Dat; exact ⟨a, _, rfl, s12 _ _ ha, strs_dat _ os⟩, strs_lay ok.s, strs_lay ok.s, strs_dep os, ?_⟩
    rw [PySem.SeqAt.eqv_refl _ (strs_lay ok.s)]
    refine ⟨_, rfl, iteT ?_⟩
    have h1 := mo.l
    have h2 := mo.keys
    refine ⟨_, rfl, b, dx, _, rfl, s12 _ _ hb, rfl, b, d, os, m, rfl, hB.same s12, ok.h, by omega, by omega, fun q hq => (mo.s q hq).1, fun D1 ys1 H3 es s3 _ hD1 hE1 hA1 => ?_⟩
    have s13 := s12.trans s3
    refine ⟨_, rfl, _, rfl, a, D, os, ks, kn, m, n, rfl, s13 _ _ ha, hd.same s13, lk, ok, hn, mo, hk, fun G ys H4 es' s4 hG hE hK hS hM => ?_⟩
    have ee : es = es' := srt_one hA1.keyed hK hA1.srt hS fun e => by rw [hA1.mem, hM]
    subst ee
    have el : (PyData.list (es.map eD)).canLay0 = true := by
      unfold PyData.canLay0
      refine ents_lay fun e he c hc => ?_
      obtain ⟨p, hp, ep⟩ := counted_told ((hA1.mem e).mp he)
      exact (ko _ (ep ▸ (mo.s p hp).2)).2 c hc
    refine ⟨.list (es.map eD), .list (es.map eD), by unfold Dat; exact ⟨D1, _, rfl, s4 _ _ hD1, dat_ents (Paired.mapP hE1 fun _ _ z => z.same s4)⟩, by unfold Dat; exact ⟨G, _, rfl, hG, dat_ents hE⟩, el, el, by have := ents_dep es; simp only [PyData.depth]; omega, ?_⟩
    rw [PySem.SeqAt.eqv_refl _ el]
    exact q _ (s13.trans s4)
end
end Pr
set_option Elab.async false
set_option linter.all false
set_option maxRecDepth 100000
/-! the law -/
namespace Pr
open PySem L2 PyProof.Rows Ent
/-- what stands between two turns of the law -/
structure L3 (C : Addr) (H : Hp) (B d KD G R : Addr) (os ks : List Str) (m kn : TM) (n : Nat) : Prop where
  b : BookAt C H B d os m
  r : H R = some (.lst (os.map V.str))
  g : H G = some (.lst (ks.map V.str))
  ka : KnAt H KD kn
  nk : KD ≠ d
  nd : ks.Nodup
  kl : ks.length ≤ n
  ko : ∀ z ∈ ks, KeyOk z
  mo : MOk os ks n m
  lk : ∀ s k, look kn (k, s) = look m (s, k)
  nl : kn.length ≤ n
  ok : Srcs os
variable {C : Addr} {H H' : Hp} {B d KD G R : Addr} {os ks : List Str} {m kn : TM} {n : Nat}
theorem L3.same (h : L3 C H B d KD G R os ks m kn n) (s : Same H H') : L3 C H' B d KD G R os ks m kn n := ⟨h.b.same s, s _ _ h.r, s _ _ h.g, h.ka.same s, h.nk, h.nd, h.kl, h.ko, h.mo, h.lk, h.nl, h.ok⟩
theorem L3.up (h : L3 C H B d KD G R os ks m kn n) : L3 C H B d KD G R os ks m kn (n + 1) := ⟨h.b, h.r, h.g, h.ka, h.nk, h.nd, by have := h.kl; omega, h.ko, h.mo.mono (fun _ h => h) (by omega), h.lk, by have := h.nl; omega, h.ok⟩
theorem L3.butP {p : Addr} (h : L3 C H B d KD G R os ks m kn n) (hp : PotAt H p) (n5 : R ≠ p) (n6 : G ≠ p) (c : But p H H') : L3 C H' B d KD G R os ks m kn n :=
  ⟨h.b.butP hp c, c _ _ h.r n5, c _ _ h.g n6, h.ka.butP hp c, h.nk, h.nd, h.kl, h.ko, h.mo, h.lk, h.nl, h.ok⟩
section
variable {P : Program} {w : World} {K : PySem.W.Frag} {mg : Str → Option Value} {base : Heap} {C : Addr}
inductive sp_law (K : PySem.W.Frag) (vs : List V) (H : Hp) (Q : VK) (E : XK) : Prop
  | mk (a : Addr) (ns : List Int) (e : vs = [.ref a]) (h : SqL K H a (ns.map V.int)) (hl : ns.length ≤ 63) (q : ∀ H', Q (.bl true) H') : sp_law K vs H Q E
theorem sc_law : FnScope ["_law_script", "_law_pot_here", "_law_ranks", "_law_book", "_law_known", "_law_keys", "_law_k", "_law_way", "_law_source", "_law_key_here", "_law_moment", "_law_value", "_law_other"] ["_law_script"] (defScope s_law) := ⟨rfl, rfl, rfl, by decide +kernel, rfl, by decide +kernel, by decide +kernel⟩
set_option maxHeartbeats 16000000 in
theorem law_ok (T : Txt K mg C) {f : Addr} {fd : FuncData} (F : Fun K "law" "law" s_law f fd) : FnOk P w K mg base CX0 8 f fd ["_law_script"] (sp_law K) := by
  obtain ⟨f0, fd0, F0, M, b0⟩ := T.m_init
  refine F.ok sc_law (fun vs H Q E h => ?_) (fun cdv A outer s H vs Q E hr h => ?_)
  · obtain ⟨a, ns, rfl, _⟩ := h
    rfl
  · obtain ⟨a, ns, rfl, ha, hl, q⟩ := h
    refine ⟨_, (pss_cons (ps_set (i := 1) sc_law.nd rfl (Or.inl rfl) (pe_can (pot T) hr (pa2 (pv 0) pe_int)))
      (pss_cons (ps_set (i := 2) sc_law.nd rfl (Or.inl rfl) (pe_can (sources T) hr (pa1 (pv 1))))
      (pss_cons (ps_set (i := 3) sc_law.nd rfl (Or.inl rfl) (pe_make M (init_ok T F0) (hr.mono (show 5 ≤ 7 by decide)) rfl T.mgC b0 .nil pass0 (pa1 (pe_t (call_list_ofK K) T.b_list boot_list (pa1 (pv 2))))))
      (pss_cons (ps_set (i := 4) sc_law.nd rfl (Or.inl rfl) pe_dnewT)
      (pss_cons (ps_set (i := 5) sc_law.nd rfl (Or.inl rfl) (pe_lst pa_nil))
      (pss_cons (ps_for PassesOwn.never rfl (pi_range2 rfl T.b_range (pa2 pe_int (pe_b (call_max2 rfl) T.b_max boot_max (pa2 pe_int (pe_b (call_min2 rfl) T.b_min boot_min (pa2 (pe_b (call_lenK K) T.b_len boot_len (pa1 (pv 0))) pe_int)))))) (pg_name (i := 6) sc_law.nd rfl (Or.inl rfl))
        (pss_cons (ps_set (i := 1) sc_law.nd rfl (Or.inl rfl) (pe_can (pot T) hr (pa2 (pv 0) (pv 6))))
        (pss_cons (ps_set (i := 7) sc_law.nd rfl (Or.inl rfl) (pe_can (digit T) hr (pa2 (pv 1) pe_int)))
        (pss_cons (ps_set (i := 8) sc_law.nd rfl (Or.inl rfl) (pe_ix (ix_listK K) (pv 2) (pe_can (digit T) hr (pa2 (pv 1) (pe_b (call_lenK K) T.b_len boot_len (pa1 (pv 2))))) (fun _ _ => rfl)))
        (pss_cons (ps_set (i := 9) sc_law.nd rfl (Or.inl rfl) (pe_can (key T) hr (pa2 (pv 1) (pv 5))))
        (pss_cut (ps_if (pt_cmpR (op_notIn_seqK K) (pv 9) (pv 5) rfl)
          (pss_one (ps_expr (pe_bmK K PySem.F.plainAttrs_list PySem.F.slot_list_append PySem.F.type_list_append mt_append (pv 5) (pa1 (pv 9)))))
          pss_nil)
        (pss_cut (ps_if (pt_cmpR op_lt (pv 7) pe_int (nomark _))
          (pss_cons (ps_dput (hu_of hr) (pv 4) (pe_tup (pa2 (pv 9) (pv 8))) (pe_tup (pa2 (pe_can (wide T) hr (pa1 (pv 1))) (pe_can (wide T) hr (pa1 (pv 1))))) rfl)
          (pss_cons (ps_asg (pe_dget (hu_of hr) (pv 4) (pe_tup (pa2 (pv 9) (pv 8))) (fun _ _ => rfl)) (pg_tupK K rfl (pgs_cons (pg_name (i := 10) sc_law.nd rfl (Or.inl rfl)) (pgs_cons (pg_name (i := 11) sc_law.nd rfl (Or.inl rfl)) pgs_nil))))
          (pss_one (ps_if (pt_cmpR op_notN (pe_canM (pv 3) T.cl (put T) hr (pa_cons (pv 8) (pa3 (pv 9) (pv 10) (pv 11)))) pe_non (nomark _))
            (pss_one (ps_ret pe_bl))
            pss_nil))))
          (pss_one (ps_if (pt_cmpR op_lt (pv 7) pe_int (nomark _))
            (pss_cons (ps_if (pt_cmpR op_ne (pe_can (taken T) hr (pa3 (pv 3) (pv 8) (pv 9))) (pe_cmp (pc_dnotin (hu_of hr) (pe_tup (pa2 (pv 9) (pv 8))) (pv 4))) (nomark _))
              (pss_one (ps_ret pe_bl))
              pss_nil)
            (pss_one (ps_expr (pe_popT2 (hu_of hr) (pv 4) (pe_tup (pa2 (pv 9) (pv 8))) pe_non ⟨rfl, rfl, rfl, rfl⟩))))
            (pss_cons (ps_set (i := 2) sc_law.nd rfl (Or.inl rfl) (pe_can (lorder T) hr (pa2 (pv 1) (pv 2))))
            (pss_one (ps_if (pt_cmpR op_notN (pe_canM (pv 3) T.cl (rank T) hr (pa1 (pe_t (call_list_ofK K) T.b_list boot_list (pa1 (pv 2))))) pe_non (nomark _))
              (pss_one (ps_ret pe_bl))
              pss_nil))))))
        (pss_cons (ps_set (i := 12) sc_law.nd rfl (Or.inl rfl) (pe_ix (ix_listK K) (pv 5) (pe_can (digit T) hr (pa2 (pv 1) (pe_b (call_lenK K) T.b_len boot_len (pa1 (pv 5))))) (fun _ _ => rfl)))
        (pss_one (ps_if (PW.pt (pw_or (pt_not (pt_val (pe_can (agrees T) hr (pa_cons (pv 3) (pa3 (pv 2) (pv 4) (pv 9)))))) (pw_or1 (pt_not (pt_val (pe_can (agrees T) hr (pa_cons (pv 3) (pa3 (pv 2) (pv 4) (pv 12)))))))))
          (pss_one (ps_ret pe_bl))
          pss_nil))))))))))
      (pss_one (ps_ret pe_bl)))))))), ?_⟩
    refine ⟨_, rfl, a, ns, 0, rfl, ha, hl, by omega, fun p H1 s1 hpn hp => ?_⟩
    refine ⟨_, rfl, p, rfl, hp, fun R0 zs H2 ok c2 hp2 hLn hL2 => ?_⟩
    have t2 : Same H H2 := same_but s1 hpn c2
    have z6 := ok.h
    refine ⟨_, rfl, R0, _, rfl, .inl (.of hL2), fun R1 hR1 => ?_⟩
    have s4 : Same H2 (upd H2 R1 (.lst (zs.map V.str))) := Same.upd hR1
    have hR4 : (upd H2 R1 (.lst (zs.map V.str))) R1 = some (.lst (zs.map V.str)) := upd_same
    generalize (upd H2 R1 (.lst (zs.map V.str))) = H4 at s4 hR4
    refine fun B dx hBn hdxn hne => ?_
    have sx : Same H4 (upd (upd H4 dx (.own B)) B (.ins C dx [])) := fun c o e => by rw [upd_ne (ne_of_none e hBn), upd_ne (ne_of_none e hdxn)]; exact e
    refine ⟨B, dx, R1, _, zs, rfl, upd_same, sx _ _ hR4, .inl rfl, ok, fun d H5 c5 hdn hB5 => ⟨rfl, ?_⟩⟩
    have t5' : Same H4 H5 := same_but sx hBn c5
    have t4 := t2.trans s4
    have t5 := t4.trans t5'
    have hd0 : H d = none := same_none (t4.trans sx) hdn
    have hB0 : H B = none := same_none t4 hBn
    intro KD hKD
    have s6 : Same H5 (upd H5 KD (.dT [])) := Same.upd hKD
    have hKD6 : (upd H5 KD (.dT [])) KD = some (.dT []) := upd_same
    have hKD0 : H KD = none := same_none t5 hKD
    generalize (upd H5 KD (.dT [])) = H6 at s6 hKD6
    refine ⟨Nat.zero_le _, fun G hG => ?_⟩
    have s7 : Same H6 (upd H6 G (.lst [])) := Same.upd hG
    have hG7 : (upd H6 G (.lst [])) G = some (.lst []) := upd_same
    have s57 := s6.trans s7
    have hG0 : H G = none := same_none (t5.trans s6) hG
    generalize (upd H6 G (.lst [])) = H7 at s7 hG7 s57
    have t7 := t5.trans s57
    have s27 : Same H2 H7 := s4.trans (t5'.trans s57)
    have nKd : KD ≠ d := fun z => by
      obtain ⟨_, _, kvs, _, _, hd, _⟩ := hB5
      rw [z, hd] at hKD
      cases hKD
    have la : L3 C H7 B d KD G R0 zs [] [] [] 0 := ⟨hB5.same s57, s27 _ _ hL2, hG7, ⟨[], s7 _ _ hKD6, .nil⟩, nKd, List.nodup_nil, Nat.le_refl _, (fun _ h => nomatch h), ⟨Nat.le_refl _, fun _ h => nomatch h⟩, fun _ _ => rfl, Nat.le_refl _, ok⟩
    have nRG : R0 ≠ G := fun z => by have h6 : H6 R0 = some (.lst (zs.map V.str)) := s6 _ _ (t5' _ _ (s4 _ _ hL2)); rw [z, hG] at h6; cases h6
    refine ⟨_, rfl, a, _, rfl, .inl (t7.seq ha), _, _, rfl, _, _, rfl, ?_⟩
    have rb : ∃ mm : Int, mm = (if (if (61 : Int) < ((ns.map V.int).length : Int) then (61 : Int) else ((ns.map V.int).length : Int)) > 2 then (if (61 : Int) < ((ns.map V.int).length : Int) then (61 : Int) else ((ns.map V.int).length : Int)) else 2) ∧ 2 ≤ mm ∧ mm ≤ 61 := ⟨_, rfl, by split <;> (try split) <;> omega, by split <;> (try split) <;> omega⟩
    obtain ⟨mm, em, m0, m8⟩ := rb
    rw [← em]
    refine ⟨1, mm, rfl, ⟨by omega, by omega, by omega, by omega⟩, for_range (n := (mm - 1).toNat) (fun i σ H8 => ∃ v1 v6 v7 v8 v9 v10 v11 v12 R os ks m kn, σ = [some (.ref a), v1, some (.ref R), some (.ref B), some (.ref KD), some (.ref G), v6, v7, v8, v9, v10, v11, v12] ∧ Same H H8 ∧ R ≠ G ∧ L3 C H8 B d KD G R os ks m kn i) ⟨_, _, _, _, _, _, _, _, R0, zs, _, _, _, rfl, t7, nRG, la⟩ ?turn ?fin⟩
    case fin =>
      rintro σ H8 ⟨v1, v6, v7, v8, v9, v10, v11, v12, R, os, ks, m, kn, rfl, t8, nR, l8⟩
      exact q _
    case turn =>
      rintro i σ H8 hi ⟨v1, v6, v7, v8, v9, v10, v11, v12, R, os, ks, m, kn, rfl, t8, nR, l8⟩
      have kl := l8.kl
      have ol := l8.ok.l
      have o6 := l8.ok.h
      refine ⟨_, rfl, _, rfl, a, ns, _, rfl, t8.seq ha, hl, by omega, fun p6 H9 s9 hp6n hp6 => ?_⟩
      have hp60 : H p6 = none := same_none t8 hp6n
      refine ⟨_, rfl, p6, _, rfl, hp6, by decide +kernel, by decide +kernel, fun way HA a1 b1 cA hpA => ?_⟩
      have tA : Same H8 HA := same_but s9 hp6n cA
      have lA := l8.same tA
      refine ⟨_, rfl, _, rfl, _, rfl, R, _, rfl, .inl (.of lA.r), p6, _, rfl, hpA, by rw [List.length_map]; omega, by rw [List.length_map]; omega, fun d1 HB a2 b2 cB hpB => ?_⟩
      rw [List.length_map] at b2
      obtain ⟨j, rfl⟩ : ∃ j : Nat, d1 = j := ⟨d1.toNat, by omega⟩
      have hj : j < os.length := by omega
      have tB : Same H8 HB := same_but tA hp6n cB
      have lB := l8.same tB
      refine ⟨R, _, _, .str os[j], rfl, rfl, .of lB.r, atI_nat (by rw [List.getElem?_map, List.getElem?_eq_getElem hj]; rfl), ?_⟩
      have hsz : os[j] ∈ os := List.getElem_mem hj
      generalize os[j] = sr at hsz
      refine ⟨_, rfl, _, rfl, p6, G, ks, rfl, hpB, lB.g, by omega, l8.ko, fun k HC kok cC hpC => ?_⟩
      have tC : Same H8 HC := same_but tB hp6n cC
      have lC := l8.same tC
      have n6G : G ≠ p6 := fun z => by have h8 := l8.g; rw [z, hp6n] at h8; cases h8
      have n6R : R ≠ p6 := fun z => by have h8 := l8.r; rw [z, hp6n] at h8; cases h8
      have tCC := t8.trans tC
      refine ⟨fun σ' H' => ∃ ks', σ' = [some (.ref a), some (.ref p6), some (.ref R), some (.ref B), some (.ref KD), some (.ref G), some (.int (1 + (i : Int))), some (.int way), some (.str sr), some (.str k), v10, v11, v12] ∧ Same H H' ∧ PotAt H' p6 ∧ L3 C H' B d KD G R os ks' m kn (i + 1) ∧ k ∈ ks', ?_, ?_⟩
      · refine ⟨_, rfl, _, rfl, G, _, rfl, .inl (.of lC.g), rfl, flat_strs ks, _, rfl, ?_⟩
        have hv := inV_str k ks
        by_cases z : k ∈ ks
        · rw [decide_eq_true z] at hv
          exact iteN (show (!inV (V.str k) (ks.map V.str)) = false by rw [hv]; rfl) ⟨ks, rfl, tCC, hpC, lC.up, z⟩
        · rw [decide_eq_false z] at hv
          refine iteC (show (!inV (V.str k) (ks.map V.str)) = true by rw [hv]; rfl) ?_
          refine ⟨_, rfl, .inl ⟨rfl, _, .of lC.g⟩, _, rfl, G, _, _, rfl, rfl, lC.g, by rw [List.length_map, sizeLine_eq]; omega, ?_⟩
          have hKnG : KD ≠ G := fun z => by obtain ⟨kvs, h1, _⟩ := lC.ka; rw [z, lC.g] at h1; cases h1
          refine ⟨ks ++ [k], rfl, same_but tCC hG0 But.upd, ?_, ⟨BookAt.wr lC.b lC.g, by rw [upd_ne nR]; exact lC.r, by rw [upd_same, List.map_append]; rfl, lC.ka.but lC.g (fun _ z => by cases z) hKnG But.upd, lC.nk, ?_, by rw [List.length_append]; show ks.length + 1 ≤ _; omega, fun y hy => ?_, lC.mo.mono (fun z hz => List.mem_append.mpr (.inl hz)) (by omega), lC.lk, by have := lC.nl; omega, lC.ok⟩, List.mem_append.mpr (.inr (List.mem_singleton.mpr rfl))⟩
          · obtain ⟨x, y, hxy⟩ := hpC
            exact ⟨x, y, by rw [upd_ne (Ne.symm n6G)]; exact hxy⟩
          · refine List.nodup_append.mpr ⟨lC.nd, List.pairwise_singleton _ _, fun u hu v hv' y => ?_⟩
            rw [List.mem_singleton.mp hv'] at y
            exact z (y ▸ hu)
          · rcases List.mem_append.mp hy with hy | hy
            · exact lC.ko y hy
            · rw [List.mem_singleton.mp hy]; exact kok
      rintro σ' HD ⟨ks', rfl, tD, hpD, lD, hkk⟩
      have kl' := lD.kl
      have nl8 := l8.nl
      have ml8 := l8.mo.l
      refine ⟨fun σ' H' => ∃ v10 v11 R' os' m' kn', σ' = [some (.ref a), some (.ref p6), some (.ref R'), some (.ref B), some (.ref KD), some (.ref G), some (.int (1 + (i : Int))), some (.int way), some (.str sr), some (.str k), v10, v11, v12] ∧ Same H H' ∧ PotAt H' p6 ∧ R' ≠ G ∧ L3 C H' B d KD G R' os' ks' m' kn' (i + 1), ?_, ?_⟩
      · refine ⟨_, rfl, _, _, rfl, rfl, _, rfl, iteB (fun _ => ?put) (fun _ => ⟨_, rfl, _, _, rfl, rfl, _, rfl, iteB (fun _ => ?take) (fun _ => ?rank)⟩)⟩
        case put =>
          refine ⟨_, rfl, p6, rfl, hpD, fun x HE _ cE hpE => ⟨_, rfl, p6, rfl, hpE, fun y HF _ cF hpF => ⟨line1 (by show 2 ≤ 1000; decide), fun t ht => ?_⟩⟩⟩
          have lF := (lD.butP hpD n6R n6G cE).butP hpE n6R n6G cF
          have tF : Same H HF := same_but (same_but tD hp60 cE) hp60 cF
          have sT : Same HF (upd HF t (.tup [.int x, .int y])) := Same.upd ht
          have htT : (upd HF t (.tup [.int x, .int y])) t = some (.tup [.int x, .int y]) := upd_same
          generalize (upd HF t (.tup [.int x, .int y])) = HT at sT htT
          refine ⟨_, rfl, _, rfl, _, rfl, line1 (by show 2 ≤ 1000; decide), fun u hu => ?_⟩
          have sU : Same HT (upd HT u (.tup [.str k, .str sr])) := Same.upd hu
          have huU : (upd HT u (.tup [.str k, .str sr])) u = some (.tup [.str k, .str sr]) := upd_same
          generalize (upd HT u (.tup [.str k, .str sr])) = HU at sU huU
          have sEU := sT.trans sU
          have lU := lF.same sEU
          obtain ⟨kvs, hkd, rkn⟩ := lU.ka
          have kll : kvs.length = kn.length := Paired.length rkn
          refine ⟨KD, _, rfl, DPut.t (k := tk (k, sr)) hkd huU (by rw [sizeLine_eq]; omega), ?_⟩
          have cG : But KD HU (upd HU KD (.dT (putK kvs (tk (k, sr)) (.ref t)))) := But.upd
          have nt : ∀ {a : Addr} {ys : List V}, HU a = some (.tup ys) → a ≠ KD := fun e z => by rw [z, hkd] at e; cases e
          have htU := sU _ _ htT
          have htG : (upd HU KD (.dT (putK kvs (tk (k, sr)) (.ref t)))) t = some (.tup [.int x, .int y]) := by rw [upd_ne (nt htU)]; exact htU
          have rG : ToldR (upd HU KD (.dT (putK kvs (tk (k, sr)) (.ref t)))) (putK kvs (tk (k, sr)) (.ref t)) (putM kn (k, sr) (x, y)) := ToldR.put ⟨t, rfl, htG⟩ (rkn.same fun a ys e => by rw [upd_ne (nt e)]; exact e)
          have hkG : (upd HU KD (.dT (putK kvs (tk (k, sr)) (.ref t)))) KD = some (.dT (putK kvs (tk (k, sr)) (.ref t))) := upd_same
          generalize hkv' : putK kvs (tk (k, sr)) (.ref t) = kvs' at cG htG rG hkG
          generalize (upd HU KD (.dT kvs')) = HG at cG htG rG hkG
          have bG : BookAt C HG B d os m := by
            obtain ⟨dx, f, kv, hb, hf, hd, r⟩ := lU.b
            exact ⟨dx, f, kv, cG _ _ hb fun z => by (rw [z, hkd] at hb; cases hb), cG _ _ hf (nt hf), cG _ _ hd (Ne.symm lU.nk), r.same fun a ys e => cG _ _ e (nt e)⟩
          have lsG : ∀ {a : Addr} {ys : List V}, HU a = some (.lst ys) → HG a = some (.lst ys) := fun e => cG _ _ e fun z => by rw [z, hkd] at e; cases e
          have lkn' : look (putM kn (k, sr) (x, y)) (k, sr) = some (x, y) := by rw [look_put, if_pos rfl]
          refine ⟨_, rfl, _, rfl, _, rfl, line1 (by show 2 ≤ 1000; decide), fun u1 hu1 => ?_⟩
          have s1' : Same HG (upd HG u1 (.tup [.str k, .str sr])) := Same.upd hu1
          have hu1' : (upd HG u1 (.tup [.str k, .str sr])) u1 = some (.tup [.str k, .str sr]) := upd_same
          generalize (upd HG u1 (.tup [.str k, .str sr])) = HG1 at s1' hu1'
          rcases rG.val (p := (k, sr)) with ⟨z1, _⟩ | ⟨v, xx, z1, z2, t', rfl, ht'⟩
          · rw [lkn'] at z1; cases z1
          rw [lkn'] at z1
          cases z1
          have g1 := DGet.t (k := tk (k, sr)) (s1' _ _ hkG) hu1'
          rw [z2] at g1
          refine ⟨KD, .ref t', rfl, g1, t', _, rfl, .of (s1' _ _ ht'), rfl, _, _, rfl, _, _, rfl, rfl, ?_⟩
          have bG1 := bG.same s1'
          obtain ⟨dxG, fG, kvG, hbG, _⟩ := id bG1
          refine ⟨_, rfl, B, dxG, _, rfl, hbG, rfl, _, rfl, _, rfl, _, rfl, _, rfl, B, d, os, m, sr, k, x, y, rfl, bG1, by omega, fun HH cH hBH => ⟨rfl, _, rfl, iteN (by decide) ?_⟩⟩
          have kH := keep_but bG1 cH
          have tEnd : Same H HH := by
            have t1 : Same H HG := same_but (tF.trans sEU) hKD0 cG
            exact same_but (t1.trans s1') hd0 cH
          refine ⟨_, _, R, os, putM m (sr, k) (x, y), putM kn (k, sr) (x, y), rfl, tEnd, ?_, nR, ⟨hBH, (kH _ _).1 (s1' _ _ (lsG lU.r)), (kH _ _).1 (s1' _ _ (lsG lU.g)), ⟨kvs', cH _ _ (s1' _ _ hkG) lD.nk, rG.same fun a ys e => (kH _ _).2 (s1' _ _ e)⟩, lD.nk, lD.nd, lD.kl, lD.ko, ?_, fun s' k' => ?_, ?_, lD.ok⟩⟩
          · obtain ⟨x, y, h⟩ := hpF
            exact ⟨x, y, (kH _ _).1 (s1' _ _ (lsG (sEU _ _ h)))⟩
          · have pl := putM_len m (sr, k) (x, y)
            exact ⟨by omega, ((lD.mo.put hsz hkk (x, y)).mono (fun _ h => h) (Nat.le_refl _)).s⟩
          · rw [look_put, look_put]
            by_cases e : (s', k') = (sr, k)
            · rw [if_pos e, if_pos (by cases e; rfl)]
            · rw [if_neg e, if_neg (fun e' => e (by cases e'; rfl))]
              exact lD.lk s' k'
          · have pl := putM_len kn (k, sr) (x, y)
            omega
        case take =>
          have pop : ∀ {HE : Hp} (m' : TM), Same H HE → PotAt HE p6 → BookAt C HE B d os m' → HE R = some (.lst (os.map V.str)) → HE G = some (.lst (ks'.map V.str)) → KnAt HE KD kn → MOk os ks' (i + 1) m' → (∀ s' k', look m' (s', k') = if (s', k') = (sr, k) then none else look m (s', k')) →
              tPopT2 (tVar 4) (tTup (tCons (tVar 9) (tCons (tVar 8) tNil))) (L2.tC V.non) [some (.ref a), some (.ref p6), some (.ref R), some (.ref B), some (.ref KD), some (.ref G), some (.int (1 + (i : Int))), some (.int way), some (.str sr), some (.str k), v10, v11, v12] HE (fun _ H' => ∃ w10 w11 R' os' m' kn', [some (V.ref a), some (.ref p6), some (.ref R), some (.ref B), some (.ref KD), some (.ref G), some (.int (1 + (i : Int))), some (.int way), some (.str sr), some (.str k), v10, v11, v12] = [some (.ref a), some (.ref p6), some (.ref R'), some (.ref B), some (.ref KD), some (.ref G), some (.int (1 + (i : Int))), some (.int way), some (.str sr), some (.str k), w10, w11, v12] ∧ Same H H' ∧ PotAt H' p6 ∧ R' ≠ G ∧ L3 C H' B d KD G R' os' ks' m' kn' (i + 1)) := fun {HE} m' tE hpE bE hRE hGE ⟨kvs, hkd, rkn⟩ mE lkE => by
            refine ⟨_, rfl, KD, rfl, .inr ⟨kvs, .inl hkd⟩, _, rfl, _, rfl, line1 (by show 2 ≤ 1000; decide), fun u hu => ?_⟩
            have sU : Same HE (upd HE u (.tup [.str k, .str sr])) := Same.upd hu
            have huU : (upd HE u (.tup [.str k, .str sr])) u = some (.tup [.str k, .str sr]) := upd_same
            generalize (upd HE u (.tup [.str k, .str sr])) = HU at sU huU
            have hkU := sU _ _ hkd
            have rU : ToldR HU kvs kn := rkn.same fun _ _ e => sU _ _ e
            have nt : ∀ {a : Addr} {ys : List V}, HU a = some (.tup ys) → a ≠ KD := fun e z => by rw [z, hkU] at e; cases e
            have nl : ∀ {a : Addr} {ys : List V}, HU a = some (.lst ys) → a ≠ KD := fun e z => by rw [z, hkU] at e; cases e
            have bU := bE.same sU
            have lkr : ∀ s' k', look (dropM kn (k, sr)) (k', s') = look m' (s', k') := fun s' k' => by
              rw [look_drop, lkE]
              by_cases e : (s', k') = (sr, k)
              · rw [if_pos e, if_pos (by cases e; rfl)]
              · rw [if_neg e, if_neg (fun e' => e (by cases e'; rfl))]
                exact lD.lk s' k'
            refine ⟨u, kvs, tk (k, sr), rfl, hkU, huU, fun v hv => ?_, fun hv => ?_⟩
            · have c : But KD HU (upd HU KD (.dT (dropK kvs (tk (k, sr))))) := But.upd
              refine ⟨_, _, R, os, m', dropM kn (k, sr), rfl, same_but (tE.trans sU) hKD0 c, ?_, nR, ⟨?_, ?_, ?_, ⟨_, upd_same, ToldR.drop (rU.same fun a ys e => by rw [upd_ne (nt e)]; exact e)⟩, lD.nk, lD.nd, lD.kl, lD.ko, mE, lkr, by have := dropM_len kn (k, sr); omega, lD.ok⟩⟩
              · obtain ⟨x, y, h⟩ := hpE
                have := sU _ _ h
                exact ⟨x, y, c _ _ this (nl this)⟩
              · obtain ⟨dx, f, kv, hb, hf, hd, r⟩ := bU
                exact ⟨dx, f, kv, c _ _ hb fun z => by (rw [z, hkU] at hb; cases hb), c _ _ hf (nt hf), c _ _ hd (Ne.symm lD.nk), r.same fun a ys e => c _ _ e (nt e)⟩
              · have := sU _ _ hRE
                exact c _ _ this (nl this)
              · have := sU _ _ hGE
                exact c _ _ this (nl this)
            · have hno : look kn (k, sr) = none := by
                rcases rU.val (p := (k, sr)) with ⟨z1, _⟩ | ⟨v, xx, z1, z2, _⟩
                · exact z1
                · rw [hv] at z2; cases z2
              refine ⟨_, _, R, os, m', kn, rfl, tE.trans sU, hpE.same sU, nR, ⟨bU, sU _ _ hRE, sU _ _ hGE, ⟨kvs, hkU, rU⟩, lD.nk, lD.nd, lD.kl, lD.ko, mE, fun s' k' => ?_, lD.nl, lD.ok⟩⟩
              rw [lkE]
              by_cases e : (s', k') = (sr, k)
              · rw [if_pos e]
                cases e
                exact hno
              · rw [if_neg e]
                exact lD.lk s' k'
          refine ⟨_, rfl, _, rfl, _, rfl, B, d, os, m, sr, k, rfl, lD.b, fun hsome HE cE hBE => ?_, fun hnone HE sE => ?_⟩
          · have kE := keep_but lD.b cE
            obtain ⟨kvs, hkd, rkn⟩ := lD.ka
            have hkE := cE _ _ hkd lD.nk
            have rE : ToldR HE kvs kn := rkn.same fun _ _ e => (kE _ _).2 e
            have tE : Same H HE := same_but tD hd0 cE
            refine ⟨_, rfl, _, rfl, line1 (by show 2 ≤ 1000; decide), fun u hu => ?_⟩
            have sU : Same HE (upd HE u (.tup [.str k, .str sr])) := Same.upd hu
            have huU : (upd HE u (.tup [.str k, .str sr])) u = some (.tup [.str k, .str sr]) := upd_same
            generalize (upd HE u (.tup [.str k, .str sr])) = HU at sU huU
            refine ⟨_, rfl, KD, _, rfl, DGet.t (k := tk (k, sr)) (sU _ _ hkE) huU, ?_⟩
            have hs2 : look kn (k, sr) ≠ none := fun z => by rw [lD.lk] at z; rw [z] at hsome; cases hsome
            rcases rE.val (p := (k, sr)) with ⟨z1, _⟩ | ⟨v, xx, z1, z2, _⟩
            · exact absurd z1 hs2
            rw [z2]
            refine ⟨rfl, _, rfl, iteN (show (!decide (V.bl false = V.bl false)) = false by decide) ?_⟩
            refine pop (dropM m (sr, k)) (tE.trans sU) ((hpD.butD lD.b cE).same sU) (hBE.same sU) (sU _ _ ((kE _ _).1 lD.r)) (sU _ _ ((kE _ _).1 lD.g)) ⟨kvs, sU _ _ hkE, rE.same fun _ _ e => sU _ _ e⟩ (lD.mo.drop (sr, k)) fun s' k' => look_drop _ _ _
          · have lE := lD.same sE
            obtain ⟨kvs, hkd, rkn⟩ := lE.ka
            refine ⟨_, rfl, _, rfl, line1 (by show 2 ≤ 1000; decide), fun u hu => ?_⟩
            have sU : Same HE (upd HE u (.tup [.str k, .str sr])) := Same.upd hu
            have huU : (upd HE u (.tup [.str k, .str sr])) u = some (.tup [.str k, .str sr]) := upd_same
            generalize (upd HE u (.tup [.str k, .str sr])) = HU at sU huU
            refine ⟨_, rfl, KD, _, rfl, DGet.t (k := tk (k, sr)) (sU _ _ hkd) huU, ?_⟩
            have hs2 : look kn (k, sr) = none := by rw [lD.lk]; exact hnone
            rcases rkn.val (p := (k, sr)) with ⟨z1, z2⟩ | ⟨v, xx, z1, z2, _⟩
            · rw [z2]
              refine ⟨rfl, _, rfl, iteN (by decide) ?_⟩
              have lU := lE.same sU
              refine pop m (tD.trans (sE.trans sU)) (hpD.same (sE.trans sU)) lU.b lU.r lU.g lU.ka lU.mo fun s' k' => ?_
              by_cases e : (s', k') = (sr, k)
              · rw [if_pos e, e]; exact hnone
              · rw [if_neg e]
            · rw [hs2] at z1; cases z1
        case rank =>
          refine ⟨_, rfl, _, rfl, p6, R, os, rfl, hpD, lD.r, n6R, by omega, fun R2 os2 HE po cE hpE hR2n hR2 => ?_⟩
          have lE := lD.butP hpD n6R n6G cE
          have tE : Same H HE := same_but tD hp60 cE
          obtain ⟨dx, f, kv, hb, _⟩ := id lE.b
          refine ⟨_, rfl, B, dx, _, rfl, hb, rfl, _, rfl, R2, _, rfl, .inl (.of hR2), fun R3 hR3 => ?_⟩
          have sF : Same HE (upd HE R3 (.lst (os2.map V.str))) := Same.upd hR3
          have hR3' : (upd HE R3 (.lst (os2.map V.str))) R3 = some (.lst (os2.map V.str)) := upd_same
          generalize (upd HE R3 (.lst (os2.map V.str))) = HF at sF hR3'
          have lF := lE.same sF
          have ok2 := lD.ok.perm po
          refine ⟨B, d, R3, _, os, m, os2, rfl, lF.b, hR3', .inl rfl, ok2, po, fun HG cG hBG => ⟨rfl, _, rfl, iteN (by decide) ?_⟩⟩
          obtain ⟨dxF, fF, kvF, hbF, _⟩ := id lF.b
          have kl1 : ∀ {a : Addr} {xs : List V}, HF a = some (.lst xs) → HG a = some (.lst xs) := fun h => cG _ _ h (fun z => by rw [z, hbF] at h; cases h)
          have kt1 : ∀ {a : Addr} {xs : List V}, HF a = some (.tup xs) → HG a = some (.tup xs) := fun h => cG _ _ h (fun z => by rw [z, hbF] at h; cases h)
          obtain ⟨kvs, hkd, rkn⟩ := lF.ka
          have nR2 : R2 ≠ G := fun z => by have h8 := lD.g; rw [← z, hR2n] at h8; cases h8
          refine ⟨_, _, R2, os2, m, kn, rfl, same_but (tE.trans sF) hB0 cG, ?_, nR2, ⟨hBG, kl1 (sF _ _ hR2), kl1 lF.g, ⟨kvs, cG _ _ hkd (fun z => by rw [z, hbF] at hkd; cases hkd), rkn.same fun _ _ e => kt1 e⟩, lF.nk, lF.nd, lF.kl, lF.ko, ⟨lF.mo.l, fun q hq => ⟨po.mem_iff.mpr (lF.mo.s q hq).1, (lF.mo.s q hq).2⟩⟩, lF.lk, lF.nl, ok2⟩⟩
          obtain ⟨x, y, h⟩ := hpE
          exact ⟨x, y, kl1 (sF _ _ h)⟩
      rintro σ' HE ⟨v10', v11', R', os', m', kn', rfl, tE, hpE, nR', lE⟩
      have kpos : 0 < ks'.length := List.length_pos_of_mem hkk
      have n6G' := n6G
      refine ⟨_, rfl, _, rfl, _, rfl, G, _, rfl, .inl (.of lE.g), p6, _, rfl, hpE, by rw [List.length_map]; omega, by rw [List.length_map]; omega, fun d2 HF a3 b3 cF hpF => ?_⟩
      rw [List.length_map] at b3
      obtain ⟨j2, rfl⟩ : ∃ j : Nat, d2 = j := ⟨d2.toNat, by omega⟩
      have hj2 : j2 < ks'.length := by omega
      have n6R' : R' ≠ p6 := fun z => by
        have h1 := lE.r
        rw [z] at h1
        obtain ⟨x, y, h2⟩ := hpE
        rw [h2] at h1
        have e := HO.lst.inj (Option.some.inj h1)
        cases ho : os' with
        | nil => rw [ho] at e; cases e
        | cons w t => rw [ho, List.map_cons] at e; have := (List.cons.inj e).1; cases this
      have lF := lE.butP hpE n6R' n6G cF
      have tF : Same H HF := same_but tE hp60 cF
      refine ⟨G, _, _, .str ks'[j2], rfl, rfl, .of lF.g, atI_nat (by rw [List.getElem?_map, List.getElem?_eq_getElem hj2]; rfl), ?_⟩
      have hk2 : ks'[j2] ∈ ks' := List.getElem_mem hj2
      generalize ks'[j2] = k2 at hk2
      have nlF := lF.nl
      refine ⟨_, rfl, _, rfl, _, rfl, _, rfl, B, d, R', KD, os', ks', kn', m', i + 1, k, rfl, lF.b, lF.r, lF.ka, lF.lk, lF.ok, by omega, lF.mo, by omega, by omega, lF.ko, lF.ko k hkk, fun HG sG => ⟨_, rfl, iteF ?_⟩⟩
      have lG := lF.same sG
      refine ⟨_, rfl, _, rfl, _, rfl, _, rfl, B, d, R', KD, os', ks', kn', m', i + 1, k2, rfl, lG.b, lG.r, lG.ka, lG.lk, lG.ok, by omega, lG.mo, by omega, by omega, lG.ko, lG.ko k2 hk2, fun HH sH => ⟨_, rfl, iteF ?_⟩⟩
      exact ⟨_, _, _, _, _, _, _, _, R', os', ks', m', kn', rfl, tF.trans (sG.trans sH), nR', lG.same sH⟩
theorem law_all (T : Txt K mg C) {fa : Addr} (hmg : mg "law" = some (.ref fa)) :
    ∃ fd : FuncData, (∀ (s : Shared) (u : Value), BindsTo s fd ⟨[u], []⟩ [("_law_script", u)]) ∧ ∀ base : Heap, K.In base → base.Ns mainGlobals mg → FnOk P w K mg base CX0 8 fa fd ["_law_script"] (sp_law K) := by
  obtain ⟨f, fd, F⟩ := T.f_law
  have e := hmg.symm.trans F.m
  cases e
  obtain ⟨oc, od, kV, doc, pm, an, cdv, ct, osl, rfl, lk, hcd⟩ := F.fn.ex
  exact ⟨_, fun s u => .of_eq rfl, fun base _ _ => law_ok T F.fn⟩
end
theorem walk {l : PySem.W.OpenLaw} {q : Program} {loose : List Str} {XP : (Str → Option Value) → Heap → Prop} {YP : World → Heap → Prop} {d : DefRec} {K : Params → PySem.W.Frag} (hn : l.most = some 63) (hdf : d.params.defaults = [])
    (hY : ∀ (w : World) (h : Heap), YP w h → (K w.params).In h)
    (F : ∀ (w : World) (mg : Str → Option Value) (fa : Addr) (h : Heap), (K w.params).In h → h.Ns mainGlobals mg → mg d.name = some (.ref fa) →
      ∃ fd : FuncData, (∀ (s : Shared) (u : Value), BindsTo s fd ⟨[u], []⟩ [("_law_script", u)]) ∧ ∀ base : Heap, (K w.params).In base → base.Ns mainGlobals mg → FnOk l.prog w (K w.params) mg base CX0 8 fa fd ["_law_script"] (sp_law (K w.params))) :
    PySem.W.WalkO q loose XP YP l.row.toRowW d [] (fun f vs => PySem.call f vs) :=
  L2.walk_of (n := 63) (k := 8) (x := "_law_script") (CX := fun _ => CX0) (sp := fun w => sp_law (K w.params)) hn (by decide) hdf ⟨rfl, by decide, by decide, rfl⟩ hY F (fun _ _ a ns hl _ hS => ⟨a, ns, rfl, hS, hl, fun _ => rfl⟩) fun _ _ _ _ _ z => z
end Pr
set_option Elab.async false
set_option linter.all false
set_option maxRecDepth 100000
namespace Pr
open PySem L2 PyProof.Rows
set_option maxHeartbeats 0 in
theorem txt_mk {K : PySem.W.Frag} {h : Heap} {mg : Str → Option Value} {C : Addr} (X : K.In h) (G : h.Ns mainGlobals mg) {f1 : Addr} {od1 an1 : Option Addr} {sl1 : Array (Option Value)} {oc1 kV1 dc1 pm1 cd1 ct1 : Value} {f2 : Addr} {od2 an2 : Option Addr} {sl2 : Array (Option Value)} {oc2 kV2 dc2 pm2 cd2 ct2 : Value} {f3 : Addr} {od3 an3 : Option Addr} {sl3 : Array (Option Value)} {oc3 kV3 dc3 pm3 cd3 ct3 : Value} {f4 : Addr} {od4 an4 : Option Addr} {sl4 : Array (Option Value)} {oc4 kV4 dc4 pm4 cd4 ct4 : Value} {f5 : Addr} {od5 an5 : Option Addr} {sl5 : Array (Option Value)} {oc5 kV5 dc5 pm5 cd5 ct5 : Value} {f6 : Addr} {od6 an6 : Option Addr} {sl6 : Array (Option Value)} {oc6 kV6 dc6 pm6 cd6 ct6 : Value} {f7 : Addr} {od7 an7 : Option Addr} {sl7 : Array (Option Value)} {oc7 kV7 dc7 pm7 cd7 ct7 : Value} {f8 : Addr} {od8 an8 : Option Addr} {sl8 : Array (Option Value)} {oc8 kV8 dc8 pm8 cd8 ct8 : Value} {f9 : Addr} {od9 an9 : Option Addr} {sl9 : Array (Option Value)} {oc9 kV9 dc9 pm9 cd9 ct9 : Value} {f10 : Addr} {od10 an10 : Option Addr} {sl10 : Array (Option Value)} {oc10 kV10 dc10 pm10 cd10 ct10 : Value} {f11 : Addr} {od11 an11 : Option Addr} {sl11 : Array (Option Value)} {oc11 kV11 dc11 pm11 cd11 ct11 : Value} {f12 : Addr} {od12 an12 : Option Addr} {sl12 : Array (Option Value)} {oc12 kV12 dc12 pm12 cd12 ct12 : Value} {f13 : Addr} {od13 an13 : Option Addr} {sl13 : Array (Option Value)} {oc13 kV13 dc13 pm13 cd13 ct13 : Value} {f14 : Addr} {od14 an14 : Option Addr} {sl14 : Array (Option Value)} {oc14 kV14 dc14 pm14 cd14 ct14 : Value} {f15 : Addr} {od15 an15 : Option Addr} {sl15 : Array (Option Value)} {oc15 kV15 dc15 pm15 cd15 ct15 : Value} {f16 : Addr} {od16 an16 : Option Addr} {sl16 : Array (Option Value)} {oc16 kV16 dc16 pm16 cd16 ct16 : Value} {f17 : Addr} {od17 an17 : Option Addr} {sl17 : Array (Option Value)} {oc17 kV17 dc17 pm17 cd17 ct17 : Value} {f18 : Addr} {od18 an18 : Option Addr} {sl18 : Array (Option Value)} {oc18 kV18 dc18 pm18 cd18 ct18 : Value} {f19 : Addr} {od19 an19 : Option Addr} {sl19 : Array (Option Value)} {oc19 kV19 dc19 pm19 cd19 ct19 : Value} {t_LETTERS : Tok} {t_MOST_SOURCE_SIGNS : Tok} {t_MOST_SOURCES : Tok} {f20 : Addr} {od20 an20 : Option Addr} {sl20 : Array (Option Value)} {oc20 kV20 dc20 pm20 cd20 ct20 : Value} {f21 : Addr} {od21 an21 : Option Addr} {sl21 : Array (Option Value)} {oc21 kV21 dc21 pm21 cd21 ct21 : Value} {f22 : Addr} {od22 an22 : Option Addr} {sl22 : Array (Option Value)} {oc22 kV22 dc22 pm22 cd22 ct22 : Value} {f23 : Addr} {od23 an23 : Option Addr} {sl23 : Array (Option Value)} {oc23 kV23 dc23 pm23 cd23 ct23 : Value} {f24 : Addr} {od24 an24 : Option Addr} {sl24 : Array (Option Value)} {oc24 kV24 dc24 pm24 cd24 ct24 : Value} {f25 : Addr} {od25 an25 : Option Addr} {sl25 : Array (Option Value)} {oc25 kV25 dc25 pm25 cd25 ct25 : Value} {f26 : Addr} {od26 an26 : Option Addr} {sl26 : Array (Option Value)} {oc26 kV26 dc26 pm26 cd26 ct26 : Value} {f27 : Addr} {od27 an27 : Option Addr} {sl27 : Array (Option Value)} {oc27 kV27 dc27 pm27 cd27 ct27 : Value} {c_PeakError : Addr} {cd_PeakError : ClassData} {c_NoSources : Addr} {cd_NoSources : ClassData} {c_NoTell : Addr} {cd_NoTell : ClassData}
    (aC : PySem.W.nsIn K mainGlobals "Book" = some (some (.ref C)))
    (a1 : PySem.W.nsIn K mainGlobals "in_order" = some (some (.ref f1)))
    (l1 : K.lookup f1 = some ⟨oc1, od1, .func (PySem.W.fnOf "in_order" "in_order" (defArgs s_in_order) (defBody s_in_order) (defScope s_in_order) .none kV1 dc1 pm1 an1 cd1 ct1), sl1⟩)
    (c1 : PySem.W.codeIn K cd1 "in_order" = true)
    (k1 : PySem.W.keepIn K (.ref f1) = true)
    (a2 : PySem.W.nsIn K mainGlobals "place_of" = some (some (.ref f2)))
    (l2 : K.lookup f2 = some ⟨oc2, od2, .func (PySem.W.fnOf "place_of" "place_of" (defArgs s_place_of) (defBody s_place_of) (defScope s_place_of) .none kV2 dc2 pm2 an2 cd2 ct2), sl2⟩)
    (c2 : PySem.W.codeIn K cd2 "place_of" = true)
    (k2 : PySem.W.keepIn K (.ref f2) = true)
    (a3 : PySem.W.nsIn K mainGlobals "is_list" = some (some (.ref f3)))
    (l3 : K.lookup f3 = some ⟨oc3, od3, .func (PySem.W.fnOf "is_list" "is_list" (defArgs s_is_list) (defBody s_is_list) (defScope s_is_list) .none kV3 dc3 pm3 an3 cd3 ct3), sl3⟩)
    (c3 : PySem.W.codeIn K cd3 "is_list" = true)
    (k3 : PySem.W.keepIn K (.ref f3) = true)
    (a4 : PySem.W.nsIn K mainGlobals "is_list_from" = some (some (.ref f4)))
    (l4 : K.lookup f4 = some ⟨oc4, od4, .func (PySem.W.fnOf "is_list_from" "is_list_from" (defArgs s_is_list_from) (defBody s_is_list_from) (defScope s_is_list_from) .none kV4 dc4 pm4 an4 cd4 ct4), sl4⟩)
    (c4 : PySem.W.codeIn K cd4 "is_list_from" = true)
    (k4 : PySem.W.keepIn K (.ref f4) = true)
    (a5 : PySem.W.nsIn K mainGlobals "is_word" = some (some (.ref f5)))
    (l5 : K.lookup f5 = some ⟨oc5, od5, .func (PySem.W.fnOf "is_word" "is_word" (defArgs s_is_word) (defBody s_is_word) (defScope s_is_word) .none kV5 dc5 pm5 an5 cd5 ct5), sl5⟩)
    (c5 : PySem.W.codeIn K cd5 "is_word" = true)
    (k5 : PySem.W.keepIn K (.ref f5) = true)
    (a6 : PySem.W.nsIn K mainGlobals "is_source" = some (some (.ref f6)))
    (l6 : K.lookup f6 = some ⟨oc6, od6, .func (PySem.W.fnOf "is_source" "is_source" (defArgs s_is_source) (defBody s_is_source) (defScope s_is_source) .none kV6 dc6 pm6 an6 cd6 ct6), sl6⟩)
    (c6 : PySem.W.codeIn K cd6 "is_source" = true)
    (k6 : PySem.W.keepIn K (.ref f6) = true)
    (a7 : PySem.W.nsIn K mainGlobals "are_sources" = some (some (.ref f7)))
    (l7 : K.lookup f7 = some ⟨oc7, od7, .func (PySem.W.fnOf "are_sources" "are_sources" (defArgs s_are_sources) (defBody s_are_sources) (defScope s_are_sources) .none kV7 dc7 pm7 an7 cd7 ct7), sl7⟩)
    (c7 : PySem.W.codeIn K cd7 "are_sources" = true)
    (k7 : PySem.W.keepIn K (.ref f7) = true)
    (a8 : PySem.W.nsIn K mainGlobals "_law_pot" = some (some (.ref f8)))
    (l8 : K.lookup f8 = some ⟨oc8, od8, .func (PySem.W.fnOf "_law_pot" "_law_pot" (defArgs s_law_pot) (defBody s_law_pot) (defScope s_law_pot) .none kV8 dc8 pm8 an8 cd8 ct8), sl8⟩)
    (c8 : PySem.W.codeIn K cd8 "_law_pot" = true)
    (k8 : PySem.W.keepIn K (.ref f8) = true)
    (a9 : PySem.W.nsIn K mainGlobals "_law_digit" = some (some (.ref f9)))
    (l9 : K.lookup f9 = some ⟨oc9, od9, .func (PySem.W.fnOf "_law_digit" "_law_digit" (defArgs s_law_digit) (defBody s_law_digit) (defScope s_law_digit) .none kV9 dc9 pm9 an9 cd9 ct9), sl9⟩)
    (c9 : PySem.W.codeIn K cd9 "_law_digit" = true)
    (k9 : PySem.W.keepIn K (.ref f9) = true)
    (a10 : PySem.W.nsIn K mainGlobals "_law_sources" = some (some (.ref f10)))
    (l10 : K.lookup f10 = some ⟨oc10, od10, .func (PySem.W.fnOf "_law_sources" "_law_sources" (defArgs s_law_sources) (defBody s_law_sources) (defScope s_law_sources) .none kV10 dc10 pm10 an10 cd10 ct10), sl10⟩)
    (c10 : PySem.W.codeIn K cd10 "_law_sources" = true)
    (k10 : PySem.W.keepIn K (.ref f10) = true)
    (a11 : PySem.W.nsIn K mainGlobals "_law_key" = some (some (.ref f11)))
    (l11 : K.lookup f11 = some ⟨oc11, od11, .func (PySem.W.fnOf "_law_key" "_law_key" (defArgs s_law_key) (defBody s_law_key) (defScope s_law_key) .none kV11 dc11 pm11 an11 cd11 ct11), sl11⟩)
    (c11 : PySem.W.codeIn K cd11 "_law_key" = true)
    (k11 : PySem.W.keepIn K (.ref f11) = true)
    (a12 : PySem.W.nsIn K mainGlobals "_law_wide" = some (some (.ref f12)))
    (l12 : K.lookup f12 = some ⟨oc12, od12, .func (PySem.W.fnOf "_law_wide" "_law_wide" (defArgs s_law_wide) (defBody s_law_wide) (defScope s_law_wide) .none kV12 dc12 pm12 an12 cd12 ct12), sl12⟩)
    (c12 : PySem.W.codeIn K cd12 "_law_wide" = true)
    (k12 : PySem.W.keepIn K (.ref f12) = true)
    (a13 : PySem.W.nsIn K mainGlobals "_law_order" = some (some (.ref f13)))
    (l13 : K.lookup f13 = some ⟨oc13, od13, .func (PySem.W.fnOf "_law_order" "_law_order" (defArgs s_law_order) (defBody s_law_order) (defScope s_law_order) .none kV13 dc13 pm13 an13 cd13 ct13), sl13⟩)
    (c13 : PySem.W.codeIn K cd13 "_law_order" = true)
    (k13 : PySem.W.keepIn K (.ref f13) = true)
    (a14 : PySem.W.nsIn K mainGlobals "_law_taken" = some (some (.ref f14)))
    (l14 : K.lookup f14 = some ⟨oc14, od14, .func (PySem.W.fnOf "_law_taken" "_law_taken" (defArgs s_law_taken) (defBody s_law_taken) (defScope s_law_taken) .none kV14 dc14 pm14 an14 cd14 ct14), sl14⟩)
    (c14 : PySem.W.codeIn K cd14 "_law_taken" = true)
    (k14 : PySem.W.keepIn K (.ref f14) = true)
    (a15 : PySem.W.nsIn K mainGlobals "_law_tells" = some (some (.ref f15)))
    (l15 : K.lookup f15 = some ⟨oc15, od15, .func (PySem.W.fnOf "_law_tells" "_law_tells" (defArgs s_law_tells) (defBody s_law_tells) (defScope s_law_tells) .none kV15 dc15 pm15 an15 cd15 ct15), sl15⟩)
    (c15 : PySem.W.codeIn K cd15 "_law_tells" = true)
    (k15 : PySem.W.keepIn K (.ref f15) = true)
    (a16 : PySem.W.nsIn K mainGlobals "_law_counted" = some (some (.ref f16)))
    (l16 : K.lookup f16 = some ⟨oc16, od16, .func (PySem.W.fnOf "_law_counted" "_law_counted" (defArgs s_law_counted) (defBody s_law_counted) (defScope s_law_counted) .none kV16 dc16 pm16 an16 cd16 ct16), sl16⟩)
    (c16 : PySem.W.codeIn K cd16 "_law_counted" = true)
    (k16 : PySem.W.keepIn K (.ref f16) = true)
    (a17 : PySem.W.nsIn K mainGlobals "_law_entries" = some (some (.ref f17)))
    (l17 : K.lookup f17 = some ⟨oc17, od17, .func (PySem.W.fnOf "_law_entries" "_law_entries" (defArgs s_law_entries) (defBody s_law_entries) (defScope s_law_entries) .none kV17 dc17 pm17 an17 cd17 ct17), sl17⟩)
    (c17 : PySem.W.codeIn K cd17 "_law_entries" = true)
    (k17 : PySem.W.keepIn K (.ref f17) = true)
    (a18 : PySem.W.nsIn K mainGlobals "_law_agrees" = some (some (.ref f18)))
    (l18 : K.lookup f18 = some ⟨oc18, od18, .func (PySem.W.fnOf "_law_agrees" "_law_agrees" (defArgs s_law_agrees) (defBody s_law_agrees) (defScope s_law_agrees) .none kV18 dc18 pm18 an18 cd18 ct18), sl18⟩)
    (c18 : PySem.W.codeIn K cd18 "_law_agrees" = true)
    (k18 : PySem.W.keepIn K (.ref f18) = true)
    (a19 : PySem.W.nsIn K mainGlobals "law" = some (some (.ref f19)))
    (l19 : K.lookup f19 = some ⟨oc19, od19, .func (PySem.W.fnOf "law" "law" (defArgs s_law) (defBody s_law) (defScope s_law) .none kV19 dc19 pm19 an19 cd19 ct19), sl19⟩)
    (c19 : PySem.W.codeIn K cd19 "law" = true)
    (k19 : PySem.W.keepIn K (.ref f19) = true)
    (c_LETTERS : PySem.W.nsIn K mainGlobals "LETTERS" = some (some (.str "abcdefghijklmnopqrstuvwxyz" t_LETTERS)))
    (c_MOST_SOURCE_SIGNS : PySem.W.nsIn K mainGlobals "MOST_SOURCE_SIGNS" = some (some (.int 6 t_MOST_SOURCE_SIGNS)))
    (c_MOST_SOURCES : PySem.W.nsIn K mainGlobals "MOST_SOURCES" = some (some (.int 6 t_MOST_SOURCES)))
    (b_ValueError : PySem.W.nsIn K mainGlobals "ValueError" = some none)
    (b_abs : PySem.W.nsIn K mainGlobals "abs" = some none)
    (b_all : PySem.W.nsIn K mainGlobals "all" = some none)
    (b_int : PySem.W.nsIn K mainGlobals "int" = some none)
    (b_isinstance : PySem.W.nsIn K mainGlobals "isinstance" = some none)
    (b_len : PySem.W.nsIn K mainGlobals "len" = some none)
    (b_list : PySem.W.nsIn K mainGlobals "list" = some none)
    (b_max : PySem.W.nsIn K mainGlobals "max" = some none)
    (b_min : PySem.W.nsIn K mainGlobals "min" = some none)
    (b_range : PySem.W.nsIn K mainGlobals "range" = some none)
    (b_set : PySem.W.nsIn K mainGlobals "set" = some none)
    (b_sorted : PySem.W.nsIn K mainGlobals "sorted" = some none)
    (b_str : PySem.W.nsIn K mainGlobals "str" = some none)
    (b_tuple : PySem.W.nsIn K mainGlobals "tuple" = some none)
    (pg : PySem.W.plainGet K C Str.empty = true)
    (hd : PySem.W.hasDictIn K C = true)
    (po : PySem.W.plainOver K C = true)
    (sa : PySem.W.findIn K (.ref C) "__setattr__" = some (some (.builtin "object.__setattr__")))
    (mk : PySem.W.makesIn K C = true)
    (kc : PySem.W.keepIn K (.ref C) = true)
    (n_best_first : PySem.W.findIn K (.ref C) "best_first" = some none)
    (n_told : PySem.W.findIn K (.ref C) "told" = some none)
    (a20 : PySem.W.findIn K (.ref C) "__init__" = some (some (.ref f20)))
    (i20 : PySem.W.isFn K (.ref f20) = true)
    (l20 : K.lookup f20 = some ⟨oc20, od20, .func (PySem.W.fnOf "__init__" "Book.__init__" (defArgs sm_init) (defBody sm_init) (defScope sm_init) .none kV20 dc20 pm20 an20 cd20 ct20), sl20⟩)
    (c20 : PySem.W.codeIn K cd20 "Book.__init__" = true)
    (k20 : PySem.W.keepIn K (.ref f20) = true)
    (a21 : PySem.W.findIn K (.ref C) "order" = some (some (.ref f21)))
    (i21 : PySem.W.isFn K (.ref f21) = true)
    (l21 : K.lookup f21 = some ⟨oc21, od21, .func (PySem.W.fnOf "order" "Book.order" (defArgs sm_order) (defBody sm_order) (defScope sm_order) .none kV21 dc21 pm21 an21 cd21 ct21), sl21⟩)
    (c21 : PySem.W.codeIn K cd21 "Book.order" = true)
    (k21 : PySem.W.keepIn K (.ref f21) = true)
    (a22 : PySem.W.findIn K (.ref C) "put" = some (some (.ref f22)))
    (i22 : PySem.W.isFn K (.ref f22) = true)
    (l22 : K.lookup f22 = some ⟨oc22, od22, .func (PySem.W.fnOf "put" "Book.put" (defArgs sm_put) (defBody sm_put) (defScope sm_put) .none kV22 dc22 pm22 an22 cd22 ct22), sl22⟩)
    (c22 : PySem.W.codeIn K cd22 "Book.put" = true)
    (k22 : PySem.W.keepIn K (.ref f22) = true)
    (a23 : PySem.W.findIn K (.ref C) "take" = some (some (.ref f23)))
    (i23 : PySem.W.isFn K (.ref f23) = true)
    (l23 : K.lookup f23 = some ⟨oc23, od23, .func (PySem.W.fnOf "take" "Book.take" (defArgs sm_take) (defBody sm_take) (defScope sm_take) .none kV23 dc23 pm23 an23 cd23 ct23), sl23⟩)
    (c23 : PySem.W.codeIn K cd23 "Book.take" = true)
    (k23 : PySem.W.keepIn K (.ref f23) = true)
    (a24 : PySem.W.findIn K (.ref C) "rank" = some (some (.ref f24)))
    (i24 : PySem.W.isFn K (.ref f24) = true)
    (l24 : K.lookup f24 = some ⟨oc24, od24, .func (PySem.W.fnOf "rank" "Book.rank" (defArgs sm_rank) (defBody sm_rank) (defScope sm_rank) .none kV24 dc24 pm24 an24 cd24 ct24), sl24⟩)
    (c24 : PySem.W.codeIn K cd24 "Book.rank" = true)
    (k24 : PySem.W.keepIn K (.ref f24) = true)
    (a25 : PySem.W.findIn K (.ref C) "tells" = some (some (.ref f25)))
    (i25 : PySem.W.isFn K (.ref f25) = true)
    (l25 : K.lookup f25 = some ⟨oc25, od25, .func (PySem.W.fnOf "tells" "Book.tells" (defArgs sm_tells) (defBody sm_tells) (defScope sm_tells) .none kV25 dc25 pm25 an25 cd25 ct25), sl25⟩)
    (c25 : PySem.W.codeIn K cd25 "Book.tells" = true)
    (k25 : PySem.W.keepIn K (.ref f25) = true)
    (a26 : PySem.W.findIn K (.ref C) "counted" = some (some (.ref f26)))
    (i26 : PySem.W.isFn K (.ref f26) = true)
    (l26 : K.lookup f26 = some ⟨oc26, od26, .func (PySem.W.fnOf "counted" "Book.counted" (defArgs sm_counted) (defBody sm_counted) (defScope sm_counted) .none kV26 dc26 pm26 an26 cd26 ct26), sl26⟩)
    (c26 : PySem.W.codeIn K cd26 "Book.counted" = true)
    (k26 : PySem.W.keepIn K (.ref f26) = true)
    (a27 : PySem.W.findIn K (.ref C) "entries" = some (some (.ref f27)))
    (i27 : PySem.W.isFn K (.ref f27) = true)
    (l27 : K.lookup f27 = some ⟨oc27, od27, .func (PySem.W.fnOf "entries" "Book.entries" (defArgs sm_entries) (defBody sm_entries) (defScope sm_entries) .none kV27 dc27 pm27 an27 cd27 ct27), sl27⟩)
    (c27 : PySem.W.codeIn K cd27 "Book.entries" = true)
    (k27 : PySem.W.keepIn K (.ref f27) = true)
    (esp : PySem.W.specialIn K (.builtin "object.__class__") "__get__" = some (some (.builtin "getset_descriptor.__get__")))
    (etk : PySem.W.takesIn K (.builtin "object.__class__") = some true)
    (ea_PeakError : PySem.W.nsIn K mainGlobals "PeakError" = some (some (.ref c_PeakError)))
    (eo_PeakError : PySem.W.excIn K c_PeakError bmV "ValueError.__new__" = true)
    (eg_PeakError : PySem.W.findIn K (.ref c_PeakError) "__getattribute__" = some (some (.builtin "BaseException.__getattribute__")))
    (en_PeakError : PySem.W.findIn K (.ref c_PeakError) "__getattr__" = some none)
    (ef_PeakError : PySem.W.findIn K (.ref c_PeakError) "__class__" = some (some (.builtin "object.__class__")))
    (em_PeakError : PySem.W.mroIn K c_PeakError (.type "object") = some true)
    (es_PeakError : PySem.W.subIn K (.ref c_PeakError) (.type "BaseException") = some true)
    (ec_PeakError : PySem.W.clsIn K c_PeakError = some cd_PeakError)
    (ea_NoSources : PySem.W.nsIn K mainGlobals "NoSources" = some (some (.ref c_NoSources)))
    (eo_NoSources : PySem.W.excIn K c_NoSources bmV "ValueError.__new__" = true)
    (eg_NoSources : PySem.W.findIn K (.ref c_NoSources) "__getattribute__" = some (some (.builtin "BaseException.__getattribute__")))
    (en_NoSources : PySem.W.findIn K (.ref c_NoSources) "__getattr__" = some none)
    (ef_NoSources : PySem.W.findIn K (.ref c_NoSources) "__class__" = some (some (.builtin "object.__class__")))
    (em_NoSources : PySem.W.mroIn K c_NoSources (.type "object") = some true)
    (es_NoSources : PySem.W.subIn K (.ref c_NoSources) (.type "BaseException") = some true)
    (ec_NoSources : PySem.W.clsIn K c_NoSources = some cd_NoSources)
    (ea_NoTell : PySem.W.nsIn K mainGlobals "NoTell" = some (some (.ref c_NoTell)))
    (eo_NoTell : PySem.W.excIn K c_NoTell bmV "ValueError.__new__" = true)
    (eg_NoTell : PySem.W.findIn K (.ref c_NoTell) "__getattribute__" = some (some (.builtin "BaseException.__getattribute__")))
    (en_NoTell : PySem.W.findIn K (.ref c_NoTell) "__getattr__" = some none)
    (ef_NoTell : PySem.W.findIn K (.ref c_NoTell) "__class__" = some (some (.builtin "object.__class__")))
    (em_NoTell : PySem.W.mroIn K c_NoTell (.type "object") = some true)
    (es_NoTell : PySem.W.subIn K (.ref c_NoTell) (.type "BaseException") = some true)
    (ec_NoTell : PySem.W.clsIn K c_NoTell = some cd_NoTell)
    (kv_NoSources : PySem.W.kitOne K (.ref c_NoSources) (.type "ValueError") = some true)
    (k_NoSources_PeakError : PySem.W.kitOne K (.ref c_NoSources) (.ref c_PeakError) = some true)
    (e_NoSources_PeakError : PySem.W.exmOne K (.ref c_NoSources) (.ref c_PeakError) = some true)
    (k_NoSources_NoSources : PySem.W.kitOne K (.ref c_NoSources) (.ref c_NoSources) = some true)
    (e_NoSources_NoSources : PySem.W.exmOne K (.ref c_NoSources) (.ref c_NoSources) = some true)
    (k_NoSources_NoTell : PySem.W.kitOne K (.ref c_NoSources) (.ref c_NoTell) = some false)
    (e_NoSources_NoTell : PySem.W.exmOne K (.ref c_NoSources) (.ref c_NoTell) = some false)
    (kv_NoTell : PySem.W.kitOne K (.ref c_NoTell) (.type "ValueError") = some true)
    (k_NoTell_PeakError : PySem.W.kitOne K (.ref c_NoTell) (.ref c_PeakError) = some true)
    (e_NoTell_PeakError : PySem.W.exmOne K (.ref c_NoTell) (.ref c_PeakError) = some true)
    (k_NoTell_NoSources : PySem.W.kitOne K (.ref c_NoTell) (.ref c_NoSources) = some false)
    (e_NoTell_NoSources : PySem.W.exmOne K (.ref c_NoTell) (.ref c_NoSources) = some false)
    (k_NoTell_NoTell : PySem.W.kitOne K (.ref c_NoTell) (.ref c_NoTell) = some true)
    (e_NoTell_NoTell : PySem.W.exmOne K (.ref c_NoTell) (.ref c_NoTell) = some true) : Txt K mg C :=
  ⟨⟨_, _, fun_mk (st := s_in_order) l1 c1 k1, PySem.W.mg_of X G a1, (fun_mk (st := s_in_order) l1 c1 k1).b1 fun _ _ _ _ _ _ _ => rfl⟩,
   ⟨_, _, fun_mk (st := s_place_of) l2 c2 k2, PySem.W.mg_of X G a2, (fun_mk (st := s_place_of) l2 c2 k2).b1 fun _ _ _ _ _ _ _ => rfl⟩,
   ⟨_, _, fun_mk (st := s_is_list) l3 c3 k3, PySem.W.mg_of X G a3, (fun_mk (st := s_is_list) l3 c3 k3).b1 fun _ _ _ _ _ _ _ => rfl⟩,
   ⟨_, _, fun_mk (st := s_is_list_from) l4 c4 k4, PySem.W.mg_of X G a4, (fun_mk (st := s_is_list_from) l4 c4 k4).b3 fun _ _ _ _ _ _ _ _ _ => rfl⟩,
   ⟨_, _, fun_mk (st := s_is_word) l5 c5 k5, PySem.W.mg_of X G a5, (fun_mk (st := s_is_word) l5 c5 k5).b3 fun _ _ _ _ _ _ _ _ _ => rfl⟩,
   ⟨_, _, fun_mk (st := s_is_source) l6 c6 k6, PySem.W.mg_of X G a6, (fun_mk (st := s_is_source) l6 c6 k6).b1 fun _ _ _ _ _ _ _ => rfl⟩,
   ⟨_, _, fun_mk (st := s_are_sources) l7 c7 k7, PySem.W.mg_of X G a7, (fun_mk (st := s_are_sources) l7 c7 k7).b1 fun _ _ _ _ _ _ _ => rfl⟩,
   ⟨_, _, fun_mk (st := s_law_pot) l8 c8 k8, PySem.W.mg_of X G a8, (fun_mk (st := s_law_pot) l8 c8 k8).b2 fun _ _ _ _ _ _ _ _ => rfl⟩,
   ⟨_, _, fun_mk (st := s_law_digit) l9 c9 k9, PySem.W.mg_of X G a9, (fun_mk (st := s_law_digit) l9 c9 k9).b2 fun _ _ _ _ _ _ _ _ => rfl⟩,
   ⟨_, _, fun_mk (st := s_law_sources) l10 c10 k10, PySem.W.mg_of X G a10, (fun_mk (st := s_law_sources) l10 c10 k10).b1 fun _ _ _ _ _ _ _ => rfl⟩,
   ⟨_, _, fun_mk (st := s_law_key) l11 c11 k11, PySem.W.mg_of X G a11, (fun_mk (st := s_law_key) l11 c11 k11).b2 fun _ _ _ _ _ _ _ _ => rfl⟩,
   ⟨_, _, fun_mk (st := s_law_wide) l12 c12 k12, PySem.W.mg_of X G a12, (fun_mk (st := s_law_wide) l12 c12 k12).b1 fun _ _ _ _ _ _ _ => rfl⟩,
   ⟨_, _, fun_mk (st := s_law_order) l13 c13 k13, PySem.W.mg_of X G a13, (fun_mk (st := s_law_order) l13 c13 k13).b2 fun _ _ _ _ _ _ _ _ => rfl⟩,
   ⟨_, _, fun_mk (st := s_law_taken) l14 c14 k14, PySem.W.mg_of X G a14, (fun_mk (st := s_law_taken) l14 c14 k14).b3 fun _ _ _ _ _ _ _ _ _ => rfl⟩,
   ⟨_, _, fun_mk (st := s_law_tells) l15 c15 k15, PySem.W.mg_of X G a15, (fun_mk (st := s_law_tells) l15 c15 k15).b3 fun _ _ _ _ _ _ _ _ _ => rfl⟩,
   ⟨_, _, fun_mk (st := s_law_counted) l16 c16 k16, PySem.W.mg_of X G a16, (fun_mk (st := s_law_counted) l16 c16 k16).b3 fun _ _ _ _ _ _ _ _ _ => rfl⟩,
   ⟨_, _, fun_mk (st := s_law_entries) l17 c17 k17, PySem.W.mg_of X G a17, (fun_mk (st := s_law_entries) l17 c17 k17).b2 fun _ _ _ _ _ _ _ _ => rfl⟩,
   ⟨_, _, fun_mk (st := s_law_agrees) l18 c18 k18, PySem.W.mg_of X G a18, (fun_mk (st := s_law_agrees) l18 c18 k18).b4 fun _ _ _ _ _ _ _ _ _ _ => rfl⟩,
   ⟨_, _, fun_mk (st := s_law) l19 c19 k19, PySem.W.mg_of X G a19, (fun_mk (st := s_law) l19 c19 k19).b1 fun _ _ _ _ _ _ _ => rfl⟩,
   ⟨_, PySem.W.mg_of X G c_LETTERS⟩,
   ⟨_, PySem.W.mg_of X G c_MOST_SOURCE_SIGNS⟩,
   ⟨_, PySem.W.mg_of X G c_MOST_SOURCES⟩,
   PySem.W.mg_none_of X G b_ValueError,
   PySem.W.mg_none_of X G b_abs,
   PySem.W.mg_none_of X G b_all,
   PySem.W.mg_none_of X G b_int,
   PySem.W.mg_none_of X G b_isinstance,
   PySem.W.mg_none_of X G b_len,
   PySem.W.mg_none_of X G b_list,
   PySem.W.mg_none_of X G b_max,
   PySem.W.mg_none_of X G b_min,
   PySem.W.mg_none_of X G b_range,
   PySem.W.mg_none_of X G b_set,
   PySem.W.mg_none_of X G b_sorted,
   PySem.W.mg_none_of X G b_str,
   PySem.W.mg_none_of X G b_tuple,
   ⟨pg, hd, po, sa⟩,
   PySem.W.mg_of X G aC,
   n_best_first,
   n_told,
   ⟨_, _, (fun_mk (st := sm_init) l20 c20 k20), ⟨mk, a20, i20, kc⟩, (fun_mk (st := sm_init) l20 c20 k20).b2 fun _ _ _ _ _ _ _ _ => rfl⟩,
   ⟨_, _, (fun_mk (st := sm_order) l21 c21 k21), ⟨a21, i21, k21⟩, (fun_mk (st := sm_order) l21 c21 k21).b1 fun _ _ _ _ _ _ _ => rfl⟩,
   ⟨_, _, (fun_mk (st := sm_put) l22 c22 k22), ⟨a22, i22, k22⟩, (fun_mk (st := sm_put) l22 c22 k22).b5 fun _ _ _ _ _ _ _ _ _ _ _ => rfl⟩,
   ⟨_, _, (fun_mk (st := sm_take) l23 c23 k23), ⟨a23, i23, k23⟩, (fun_mk (st := sm_take) l23 c23 k23).b3 fun _ _ _ _ _ _ _ _ _ => rfl⟩,
   ⟨_, _, (fun_mk (st := sm_rank) l24 c24 k24), ⟨a24, i24, k24⟩, (fun_mk (st := sm_rank) l24 c24 k24).b2 fun _ _ _ _ _ _ _ _ => rfl⟩,
   ⟨_, _, (fun_mk (st := sm_tells) l25 c25 k25), ⟨a25, i25, k25⟩, (fun_mk (st := sm_tells) l25 c25 k25).b2 fun _ _ _ _ _ _ _ _ => rfl⟩,
   ⟨_, _, (fun_mk (st := sm_counted) l26 c26 k26), ⟨a26, i26, k26⟩, (fun_mk (st := sm_counted) l26 c26 k26).b2 fun _ _ _ _ _ _ _ _ => rfl⟩,
   ⟨_, _, (fun_mk (st := sm_entries) l27 c27 k27), ⟨a27, i27, k27⟩, (fun_mk (st := sm_entries) l27 c27 k27).b1 fun _ _ _ _ _ _ _ => rfl⟩,
   xc_mk (PySem.W.mg_of X G ea_PeakError) eo_PeakError eg_PeakError en_PeakError ef_PeakError esp etk em_PeakError es_PeakError ec_PeakError,
   xc_mk (PySem.W.mg_of X G ea_NoSources) eo_NoSources eg_NoSources en_NoSources ef_NoSources esp etk em_NoSources es_NoSources ec_NoSources,
   xc_mk (PySem.W.mg_of X G ea_NoTell) eo_NoTell eg_NoTell en_NoTell ef_NoTell esp etk em_NoTell es_NoTell ec_NoTell,
   (by rw [cOf_eq (PySem.W.mg_of X G ea_NoSources)]; exact kv_NoSources),
   (by rw [cOf_eq (PySem.W.mg_of X G ea_NoSources), cOf_eq (PySem.W.mg_of X G ea_PeakError)]; exact k_NoSources_PeakError),
   (by rw [cOf_eq (PySem.W.mg_of X G ea_NoSources), cOf_eq (PySem.W.mg_of X G ea_PeakError)]; exact e_NoSources_PeakError),
   (by rw [cOf_eq (PySem.W.mg_of X G ea_NoSources)]; exact k_NoSources_NoSources),
   (by rw [cOf_eq (PySem.W.mg_of X G ea_NoSources)]; exact e_NoSources_NoSources),
   (by rw [cOf_eq (PySem.W.mg_of X G ea_NoSources), cOf_eq (PySem.W.mg_of X G ea_NoTell)]; exact k_NoSources_NoTell),
   (by rw [cOf_eq (PySem.W.mg_of X G ea_NoSources), cOf_eq (PySem.W.mg_of X G ea_NoTell)]; exact e_NoSources_NoTell),
   (by rw [cOf_eq (PySem.W.mg_of X G ea_NoTell)]; exact kv_NoTell),
   (by rw [cOf_eq (PySem.W.mg_of X G ea_NoTell), cOf_eq (PySem.W.mg_of X G ea_PeakError)]; exact k_NoTell_PeakError),
   (by rw [cOf_eq (PySem.W.mg_of X G ea_NoTell), cOf_eq (PySem.W.mg_of X G ea_PeakError)]; exact e_NoTell_PeakError),
   (by rw [cOf_eq (PySem.W.mg_of X G ea_NoTell), cOf_eq (PySem.W.mg_of X G ea_NoSources)]; exact k_NoTell_NoSources),
   (by rw [cOf_eq (PySem.W.mg_of X G ea_NoTell), cOf_eq (PySem.W.mg_of X G ea_NoSources)]; exact e_NoTell_NoSources),
   (by rw [cOf_eq (PySem.W.mg_of X G ea_NoTell)]; exact k_NoTell_NoTell),
   (by rw [cOf_eq (PySem.W.mg_of X G ea_NoTell)]; exact e_NoTell_NoTell)⟩
end Pr
set_option Elab.async false
set_option linter.all false
set_option maxRecDepth 100000
open PySem PySem.W PyProof.Rows
set_option maxHeartbeats 0 in
open_top hd for PySem.Challenge.rw_peakroll_k31_what_is_counted
set_option maxHeartbeats 0 in
theorem PySem.Challenge.cw_peakroll_k31_what_is_counted_holds : PySem.Challenge.rw_peakroll_k31_what_is_counted.Holds := by
  refine hd ?_
  k_fill
  refine Pr.walk (l := PySem.Challenge.rw_peakroll_k31_what_is_counted) rfl rfl (fun w h Y => PySem.W.kIn_of Y) ?F
  case F =>
    intro w mg fa h KX G hmg
    have T : ∃ C, Pr.Txt (L2.KOf KX) mg C := by
      dsimp only [L2.KOf]
      refine' ⟨_, Pr.txt_mk KX G ?aC ?a1 ?l1 ?c1 ?k1 ?a2 ?l2 ?c2 ?k2 ?a3 ?l3 ?c3 ?k3 ?a4 ?l4 ?c4 ?k4 ?a5 ?l5 ?c5 ?k5 ?a6 ?l6 ?c6 ?k6 ?a7 ?l7 ?c7 ?k7 ?a8 ?l8 ?c8 ?k8 ?a9 ?l9 ?c9 ?k9 ?a10 ?l10 ?c10 ?k10 ?a11 ?l11 ?c11 ?k11 ?a12 ?l12 ?c12 ?k12 ?a13 ?l13 ?c13 ?k13 ?a14 ?l14 ?c14 ?k14 ?a15 ?l15 ?c15 ?k15 ?a16 ?l16 ?c16 ?k16 ?a17 ?l17 ?c17 ?k17 ?a18 ?l18 ?c18 ?k18 ?a19 ?l19 ?c19 ?k19 ?c_LETTERS ?c_MOST_SOURCE_SIGNS ?c_MOST_SOURCES ?b_ValueError ?b_abs ?b_all ?b_int ?b_isinstance ?b_len ?b_list ?b_max ?b_min ?b_range ?b_set ?b_sorted ?b_str ?b_tuple ?pg ?hd ?po ?sa ?mk ?kc ?n_best_first ?n_told ?a20 ?i20 ?l20 ?c20 ?k20 ?a21 ?i21 ?l21 ?c21 ?k21 ?a22 ?i22 ?l22 ?c22 ?k22 ?a23 ?i23 ?l23 ?c23 ?k23 ?a24 ?i24 ?l24 ?c24 ?k24 ?a25 ?i25 ?l25 ?c25 ?k25 ?a26 ?i26 ?l26 ?c26 ?k26 ?a27 ?i27 ?l27 ?c27 ?k27 ?esp ?etk ?ea_PeakError ?eo_PeakError ?eg_PeakError ?en_PeakError ?ef_PeakError ?em_PeakError ?es_PeakError ?ec_PeakError ?ea_NoSources ?eo_NoSources ?eg_NoSources ?en_NoSources ?ef_NoSources ?em_NoSources ?es_NoSources ?ec_NoSources ?ea_NoTell ?eo_NoTell ?eg_NoTell ?en_NoTell ?ef_NoTell ?em_NoTell ?es_NoTell ?ec_NoTell ?kv_NoSources ?k_NoSources_PeakError ?e_NoSources_PeakError ?k_NoSources_NoSources ?e_NoSources_NoSources ?k_NoSources_NoTell ?e_NoSources_NoTell ?kv_NoTell ?k_NoTell_PeakError ?e_NoTell_PeakError ?k_NoTell_NoSources ?e_NoTell_NoSources ?k_NoTell_NoTell ?e_NoTell_NoTell⟩
      (case aC => k_is)
      (case a1 => k_is)
      (case l1 => k_is)
      (case c1 => k_is)
      (case k1 => k_is)
      (case a2 => k_is)
      (case l2 => k_is)
      (case c2 => k_is)
      (case k2 => k_is)
      (case a3 => k_is)
      (case l3 => k_is)
      (case c3 => k_is)
      (case k3 => k_is)
      (case a4 => k_is)
      (case l4 => k_is)
      (case c4 => k_is)
      (case k4 => k_is)
      (case a5 => k_is)
      (case l5 => k_is)
      (case c5 => k_is)
      (case k5 => k_is)
      (case a6 => k_is)
      (case l6 => k_is)
      (case c6 => k_is)
      (case k6 => k_is)
      (case a7 => k_is)
      (case l7 => k_is)
      (case c7 => k_is)
      (case k7 => k_is)
      (case a8 => k_is)
      (case l8 => k_is)
      (case c8 => k_is)
      (case k8 => k_is)
      (case a9 => k_is)
      (case l9 => k_is)
      (case c9 => k_is)
      (case k9 => k_is)
      (case a10 => k_is)
      (case l10 => k_is)
      (case c10 => k_is)
      (case k10 => k_is)
      (case a11 => k_is)
      (case l11 => k_is)
      (case c11 => k_is)
      (case k11 => k_is)
      (case a12 => k_is)
      (case l12 => k_is)
      (case c12 => k_is)
      (case k12 => k_is)
      (case a13 => k_is)
      (case l13 => k_is)
      (case c13 => k_is)
      (case k13 => k_is)
      (case a14 => k_is)
      (case l14 => k_is)
      (case c14 => k_is)
      (case k14 => k_is)
      (case a15 => k_is)
      (case l15 => k_is)
      (case c15 => k_is)
      (case k15 => k_is)
      (case a16 => k_is)
      (case l16 => k_is)
      (case c16 => k_is)
      (case k16 => k_is)
      (case a17 => k_is)
      (case l17 => k_is)
      (case c17 => k_is)
      (case k17 => k_is)
      (case a18 => k_is)
      (case l18 => k_is)
      (case c18 => k_is)
      (case k18 => k_is)
      (case a19 => k_is)
      (case l19 => k_is)
      (case c19 => k_is)
      (case k19 => k_is)
      (case c_LETTERS => k_is)
      (case c_MOST_SOURCE_SIGNS => k_is)
      (case c_MOST_SOURCES => k_is)
      (case b_ValueError => k_is)
      (case b_abs => k_is)
      (case b_all => k_is)
      (case b_int => k_is)
      (case b_isinstance => k_is)
      (case b_len => k_is)
      (case b_list => k_is)
      (case b_max => k_is)
      (case b_min => k_is)
      (case b_range => k_is)
      (case b_set => k_is)
      (case b_sorted => k_is)
      (case b_str => k_is)
      (case b_tuple => k_is)
      (case pg => k_is)
      (case hd => k_is)
      (case po => k_is)
      (case sa => k_is)
      (case mk => k_is)
      (case kc => k_is)
      (case n_best_first => k_is)
      (case n_told => k_is)
      (case a20 => k_is)
      (case i20 => k_is)
      (case l20 => k_is)
      (case c20 => k_is)
      (case k20 => k_is)
      (case a21 => k_is)
      (case i21 => k_is)
      (case l21 => k_is)
      (case c21 => k_is)
      (case k21 => k_is)
      (case a22 => k_is)
      (case i22 => k_is)
      (case l22 => k_is)
      (case c22 => k_is)
      (case k22 => k_is)
      (case a23 => k_is)
      (case i23 => k_is)
      (case l23 => k_is)
      (case c23 => k_is)
      (case k23 => k_is)
      (case a24 => k_is)
      (case i24 => k_is)
      (case l24 => k_is)
      (case c24 => k_is)
      (case k24 => k_is)
      (case a25 => k_is)
      (case i25 => k_is)
      (case l25 => k_is)
      (case c25 => k_is)
      (case k25 => k_is)
      (case a26 => k_is)
      (case i26 => k_is)
      (case l26 => k_is)
      (case c26 => k_is)
      (case k26 => k_is)
      (case a27 => k_is)
      (case i27 => k_is)
      (case l27 => k_is)
      (case c27 => k_is)
      (case k27 => k_is)
      (case esp => k_is)
      (case etk => k_is)
      (case ea_PeakError => k_is)
      (case eo_PeakError => k_exc)
      (case eg_PeakError => k_is)
      (case en_PeakError => k_is)
      (case ef_PeakError => k_is)
      (case em_PeakError => k_is)
      (case es_PeakError => k_is)
      (case ec_PeakError => k_is)
      (case ea_NoSources => k_is)
      (case eo_NoSources => k_exc)
      (case eg_NoSources => k_is)
      (case en_NoSources => k_is)
      (case ef_NoSources => k_is)
      (case em_NoSources => k_is)
      (case es_NoSources => k_is)
      (case ec_NoSources => k_is)
      (case ea_NoTell => k_is)
      (case eo_NoTell => k_exc)
      (case eg_NoTell => k_is)
      (case en_NoTell => k_is)
      (case ef_NoTell => k_is)
      (case em_NoTell => k_is)
      (case es_NoTell => k_is)
      (case ec_NoTell => k_is)
      (case kv_NoSources => kit_is)
      (case k_NoSources_PeakError => kit_is)
      (case e_NoSources_PeakError => kts_exm)
      (case k_NoSources_NoSources => kit_is)
      (case e_NoSources_NoSources => kts_exm)
      (case k_NoSources_NoTell => kit_is)
      (case e_NoSources_NoTell => kts_exm)
      (case kv_NoTell => kit_is)
      (case k_NoTell_PeakError => kit_is)
      (case e_NoTell_PeakError => kts_exm)
      (case k_NoTell_NoSources => kit_is)
      (case e_NoTell_NoSources => kts_exm)
      (case k_NoTell_NoTell => kit_is)
      (case e_NoTell_NoTell => kts_exm)
    obtain ⟨C, T⟩ := T
    exact Pr.law_all T hmg
