import PyProof.Rows.All
import Wide.All
import OpenK.AllK
import Wide.FinOn
import Lean
import PyProof.EqAt
import PyProof.EqKinds
import PyProof.TupleCall
import KE.KTryMore
import PyProof.RaisesMany
import PyProof.RulesAs
import PyProof.ExcBaseAll.ValueError
import PyProof.NsDelKeeps
import KE.KIsNot
import PyProof.ExcArgs
import KE.RegKIsAll
import KE.RegKTryMore
import PyProof.FactsAll.NoneType_1
import PyProof.SetRoads
import PyProof.CollectWalk
import PyProof.Walks
import PyProof.Rows.SortShell
import KE.KDictSum
import PyProof.Rows.SortWalk
import KE.KSortTup
import KE.KSortAsk
import PyProof.TupleOfSeq
import PyProof.Rows.SetFrom
import PyProof.WalksMore
import KE.KIntText
import KE.KDictList
import PyProof.DictRoadsH
import KE.KLam
import PySem.Challenge.RW_peakroll_k33_sources_refused
set_option Elab.async false
set_option linter.all false
set_option maxRecDepth 100000
/-! THE HAND LAYER, for ints, bools, texts, own classes, LISTS and tuples (index, slices, in, append, pop ..), calls, loops. Paste it whole ahead of your own text; what your proof does not reach may be deleted. -/
namespace L2
open PySem PySem.Spec PyProof.Rows

/-- a key: an int or a str -/
abbrev Key := Sum Int Str
def keyIs : Key → Value → Bool
  | .inl k, v => Value.isInt k v
  | .inr x, v => Value.isStrOf x v
def keyH (w : World) : Key → Int
  | .inl k => hashInt k
  | .inr x => hashStr w x
theorem keyIs_shape : ∀ {k : Key} {v : Value}, keyIs k v = true → (∃ i t, k = Sum.inl i ∧ v = Value.int i t) ∨ (∃ x t, k = Sum.inr x ∧ v = Value.str x t)
  | .inl i, v, h => by
    obtain ⟨t, e⟩ := Value.isInt_shape (k := i) (v := v) h
    exact .inl ⟨i, t, rfl, e⟩
  | .inr x, v, h => by
    obtain ⟨t, e⟩ := Value.isStrOf_shape (x := x) (v := v) h
    exact .inr ⟨x, t, rfl, e⟩
theorem keyIs_int (i : Int) (t : Tok) : keyIs (.inl i) (.int i t) = true := by simp [keyIs, Value.isInt]
theorem keyIs_str (x : Str) (t : Tok) : keyIs (.inr x) (.str x t) = true := by simp [keyIs, Value.isStrOf]
theorem key_ll (a b : Int) : decide ((Sum.inl a : Key) = Sum.inl b) = (a == b) := by
  by_cases e : a = b
  · subst e; simp
  · have h : ¬ (Sum.inl a : Key) = Sum.inl b := fun q => e (Sum.inl.inj q)
    rw [decide_eq_false h]
    exact (beq_eq_false_iff_ne.mpr e).symm
theorem key_rr (a b : Str) : decide ((Sum.inr a : Key) = Sum.inr b) = decide (a = b) := by
  by_cases e : a = b
  · subst e; simp
  · have h : ¬ (Sum.inr a : Key) = Sum.inr b := fun q => e (Sum.inr.inj q)
    rw [decide_eq_false h, decide_eq_false e]
theorem key_lr (a : Int) (b : Str) : decide ((Sum.inl a : Key) = Sum.inr b) = false := decide_eq_false (fun q => nomatch q)
theorem key_rl (a : Str) (b : Int) : decide ((Sum.inr a : Key) = Sum.inl b) = false := decide_eq_false (fun q => nomatch q)

def mixKind (prog : Program) (w : World) : PySem.KeyKind prog w Key where
  is := keyIs
  hash := keyH w
  inj := fun v a b ha hb => by
    rcases keyIs_shape ha with ⟨i, t, rfl, rfl⟩ | ⟨x, t, rfl, rfl⟩
    · rcases keyIs_shape hb with ⟨j, u, rfl, e⟩ | ⟨y, u, rfl, e⟩
      · injection e with e1 _; rw [e1]
      · exact nomatch e
    · rcases keyIs_shape hb with ⟨j, u, rfl, e⟩ | ⟨y, u, rfl, e⟩
      · exact nomatch e
      · injection e with e1 _; rw [e1]
  byValue := fun k v h => by
    rcases keyIs_shape h with ⟨i, t, rfl, rfl⟩ | ⟨x, t, rfl, rfl⟩ <;> rfl
  pyHash := fun hv h => by
    rcases keyIs_shape hv with ⟨i, t, rfl, rfl⟩ | ⟨x, t, rfl, rfl⟩
    · exact wpAny_pyHash_int h
    · exact wpAny_pyHash_str h
  eqBool := fun hu hv h => by
    rcases keyIs_shape hu with ⟨i, t, rfl, rfl⟩ | ⟨x, t, rfl, rfl⟩
    · rcases keyIs_shape hv with ⟨j, u, rfl, rfl⟩ | ⟨y, u, rfl, rfl⟩
      · rw [key_ll] at h; exact wpAny_eqBool_int h
      · rw [key_lr] at h; exact SeqAt.EqAt.int_str i t y u _ _ _ _ h
    · rcases keyIs_shape hv with ⟨j, u, rfl, rfl⟩ | ⟨y, u, rfl, rfl⟩
      · rw [key_rl] at h; exact SeqAt.EqAt.str_int x t j u _ _ _ _ h
      · rw [key_rr] at h; exact wpAny_eqBool_str h
  «strs» := fun k x t v h => by
    rcases keyIs_shape h with ⟨i, u, rfl, e⟩ | ⟨y, u, rfl, e⟩
    · exact nomatch e
    · injection e with e1 _
      subst e1
      cases v <;> rfl

theorem mixKind_int (prog : Program) (w : World) (i : Int) (t : Tok) : (mixKind prog w).is (.inl i) (.int i t) = true := keyIs_int i t
theorem mixKind_str (prog : Program) (w : World) (x : Str) (t : Tok) : (mixKind prog w).is (.inr x) (.str x t) = true := keyIs_str x t
end L2

namespace L2
open PySem PySem.Spec PyProof.Rows

/-- a value, without the heap -/
inductive V where
  | non | bl (b : Bool) | int (i : Int) | str (x : Str) | byt (b : Array UInt8) | flt (b : UInt64) | ref (a : Addr) | ty (n : String)
  deriving DecidableEq

def RelV : V → Value → Prop
  | .non, u => u = Value.none
  | .bl b, u => u = Value.bool b
  | .int i, u => ∃ t, u = Value.int i t
  | .str x, u => ∃ t, u = Value.str x t
  | .byt b, u => ∃ t, u = Value.bytes b t
  | .flt b, u => ∃ t, u = Value.float b t
  | .ref a, u => u = Value.ref a
  | .ty n, u => u = Value.type n

abbrev Vals : List V → List Value → Prop := Paired RelV
theorem Vals.length {xs : List V} {us : List Value} (r : Vals xs us) : xs.length = us.length := Paired.length r
theorem Vals.get : ∀ {xs : List V} {us : List Value} {i : Nat} {x : V}, Vals xs us → xs[i]? = some x → ∃ u, us[i]? = some u ∧ RelV x u
  | _, _, _, _, .nil, e => by simp at e
  | _, _, 0, _, .cons r _, e => by simp at e; subst e; exact ⟨_, rfl, r⟩
  | _, _, i + 1, x, .cons _ t, e => by
    obtain ⟨u, h1, h2⟩ := Vals.get (i := i) (x := x) t (by simpa using e)
    exact ⟨u, by simpa using h1, h2⟩
theorem Vals.set {x : V} {u : Value} (r : RelV x u) : ∀ {xs : List V} {us : List Value} (i : Nat), Vals xs us → Vals (xs.set i x) (us.set i u)
  | _, _, _, .nil => .nil
  | _, _, 0, .cons _ t => .cons r t
  | _, _, i + 1, .cons q t => .cons q (Vals.set r i t)
theorem Vals.append : ∀ {xs ys : List V} {us ws : List Value}, Vals xs us → Vals ys ws → Vals (xs ++ ys) (us ++ ws)
  | _, _, _, _, .nil, s => s
  | _, _, _, _, .cons r t, s => .cons r (Vals.append t s)
theorem Vals.take : ∀ {xs : List V} {us : List Value} (n : Nat), Vals xs us → Vals (xs.take n) (us.take n)
  | _, _, 0, _ => .nil
  | _, _, _ + 1, .nil => .nil
  | _, _, n + 1, .cons r t => .cons r (Vals.take n t)
theorem Vals.drop : ∀ {xs : List V} {us : List Value} (n : Nat), Vals xs us → Vals (xs.drop n) (us.drop n)
  | _, _, 0, r => r
  | _, _, _ + 1, .nil => .nil
  | _, _, n + 1, .cons _ t => Vals.drop n t

def RelO : Option V → Option Value → Prop
  | some v, some u => RelV v u
  | none, none => True
  | _, _ => False
def KV {κ : Type} : List (κ × V) → List (κ × Value) → Prop := Paired fun (p : κ × V) (q : κ × Value) => p.1 = q.1 ∧ RelV p.2 q.2

/-- a key of a dict (00_mix): an int or a text -/
def kV : Key → V
  | .inl i => .int i
  | .inr x => .str x

/-- what stands at a tracked address -/
inductive HO where
  /-- a list -/
  | lst (xs : List V)
  /-- a tuple (never changes) -/
  | tup (xs : List V)
  /-- a dict whose keys are ints and texts; one whose keys are tuples of ints and texts (the empty one is both) -/
  | dK (kvs : List (Key × V)) | dT (kvs : List (List Key × V))
  /-- a set of ints: its members, its size -/
  | set (S : Int → Bool) (n : Nat)
  /-- an instance of the class at C, its dict at dx, its attributes -/
  | ins (C dx : Addr) (fs : List (Str × V))
  /-- the dict of the instance at x -/
  | own (x : Addr)
  /-- the dict of an exception -/
  | xd (fs : List (Str × V))
  /-- a bound method, f of x -/
  | met (f x : Addr)
  /-- a range object lo, lo + 1, .. below hi -/
  | rng (lo hi : Int)
  /-- a thing that is known to the object (the script; a dict while a loop walks it): read, never written while it is so -/
  | frz (o : Obj) (u : HO)
  /-- a code object's table -/
  | tbl (ps : Array Value)
  /-- any other thing, by what is true of its one object (a def of one's own: SetO a S n := HO.ext fun h => ..) -/
  | ext (φ : Heap → Prop)

abbrev Hp := Addr → Option HO
def upd (H : Hp) (a : Addr) (o : HO) : Hp := fun b => if b = a then some o else H b
theorem upd_same {H : Hp} {a : Addr} {o : HO} : upd H a o a = some o := by unfold upd; rw [if_pos rfl]
theorem upd_ne {H : Hp} {a b : Addr} {o : HO} (h : b ≠ a) : upd H a o b = H b := by unfold upd; rw [if_neg h]
/-- two objects of different content stand apart -/
theorem ne_of {H : Hp} {a b : Addr} {o u : HO} (h : H a = some o) (h' : H b = some u) (d : o ≠ u) : a ≠ b := by
  intro e; subst e; rw [h] at h'; exact d (Option.some.inj h')
theorem ne_of_none {H : Hp} {a b : Addr} {o : HO} (h : H a = some o) (h' : H b = none) : a ≠ b := by
  intro e; subst e; rw [h] at h'; cases h'

section
variable (P : Program) (w : World)
def ObjOk (H : Hp) (h : Heap) (a : Addr) : HO → Prop
  | .lst xs => xs.length ≤ sizeLine ∧ ∃ (its : List Value) (n : Nat), Vals xs its ∧ h.get? a = some { cls := .type "list", data := .seq its.toArray n }
  | .tup xs => xs.length ≤ sizeLine ∧ ∃ its : List Value, Vals xs its ∧ IsTup h a its.toArray
  | .dK kvs => kvs.length ≤ sizeLine ∧ (a == sysModules) = false ∧ ∃ vs, KV kvs vs ∧ h.DictOf (mixKind P w) a vs
  | .dT kvs => kvs.length ≤ sizeLine ∧ (a == sysModules) = false ∧ ∃ xs : List (List Key × Addr × Value),
      Paired (fun (p : List Key × V) (q : List Key × Addr × Value) => p.1 = q.1 ∧ H q.2.1 = some (.tup (p.1.map kV)) ∧ RelV p.2 q.2.2) kvs xs ∧
      ∃ o es ep, h.get? a = some o ∧ o.ExactDict ∧ o.data = .dict es ep ∧ es.toList = xs.map (entryOfKey (tupleKind (mixKind P w))) ∧ (xs.map (·.1)).Nodup
  | .set S n => h.SetOf (intKind P w) a S n
  | .ins C dx fs => H dx = some (.own a) ∧ fs.length ≤ 1000 ∧ dx ≠ a ∧ h.get? a = some (PySem.W.instObj C dx) ∧
      ∃ mA, h.Ns1 dx mA ∧ (∀ f, RelO (fs.lookup f) (mA f)) ∧ PySem.Within mA (fs.map (·.1))
  | .own _ => ∃ o, h.get? a = some o
  | .xd fs => ∃ mA, h.Ns1 a mA ∧ ∀ f, RelO (fs.lookup f) (mA f)
  | .rng lo hi => ∃ t u v, h.get? a = some { cls := .type "range", data := .fields #[.int lo t, .int hi u, .int 1 v] }
  | .frz o u => h.get? a = some o ∧ ObjOk H h a u
  | .tbl ps => h.get? a = some { cls := .none, data := .fields ps }
  | .met f x => h.get? a = some (PySem.W.methodObj (.ref f) (.ref x))
  | .ext φ => φ h ∧ (∃ o, h.get? a = some o) ∧ ∀ h1 h2 : Heap, φ h1 → (∀ o, h1.get? a = some o → h2.get? a = some o) → φ h2
/-- the abstract heap is held -/
def HOk (H : Hp) (h : Heap) : Prop := ∀ a o, H a = some o → ObjOk P w H h a o
end

section
variable {P : Program} {w : World} {H H' : Hp} {h h' : Heap} {a : Addr} {o : HO}
theorem ObjOk.lt (x : ObjOk P w H h a o) : a < h.objs.size := by
  cases o with
  | lst xs => obtain ⟨_, _, _, _, e⟩ := x; exact Heap.lt_size e
  | tup xs => obtain ⟨_, _, _, p⟩ := x; exact p.lt
  | dK kvs => obtain ⟨_, _, _, _, o, _, _, e, _⟩ := x; exact Heap.lt_size e
  | dT kvs => obtain ⟨_, _, _, _, o, _, _, e, _⟩ := x; exact Heap.lt_size e
  | set S n => obtain ⟨o, _, _, _, e, _⟩ := x; exact Heap.lt_size e
  | ins C dx fs => obtain ⟨_, _, _, e, _⟩ := x; exact Heap.lt_size e
  | own y => obtain ⟨_, e⟩ := x; exact Heap.lt_size e
  | xd fs => obtain ⟨_, ⟨_, _, _, e, _⟩, _⟩ := x; exact Heap.lt_size e
  | rng lo hi => obtain ⟨_, _, _, e⟩ := x; exact Heap.lt_size e
  | frz ob u => obtain ⟨e, _⟩ := x; exact Heap.lt_size e
  | tbl ps => exact Heap.lt_size (show h.get? a = some _ from x)
  | met f y => exact Heap.lt_size (show h.get? a = some _ from x)
  | ext φ => obtain ⟨_, ⟨_, e⟩, _⟩ := x; exact Heap.lt_size e
theorem Paired.mapP {α β : Type} {F G : α → β → Prop} : ∀ {l₁ : List α} {l₂ : List β}, Paired F l₁ l₂ → (∀ a b, F a b → G a b) → Paired G l₁ l₂
  | _, _, .nil, _ => .nil
  | _, _, .cons r t, f => .cons (f _ _ r) (Paired.mapP t f)
/-- what an object's description leans on: its own object, its own dict, the tuples -/
theorem ObjOk.stay (x : ObjOk P w H h a o) (k : ∀ b u, (b = a ∨ H b = some (.own a)) → h.get? b = some u → h'.get? b = some u)
    (ho : ∀ b, H b = some (.own a) → H' b = some (.own a)) (ht : ∀ b xs, H b = some (.tup xs) → H' b = some (.tup xs)) : ObjOk P w H' h' a o := by
  induction o with
  | lst xs => obtain ⟨z, its, n, r, e⟩ := x; exact ⟨z, its, n, r, k _ _ (.inl rfl) e⟩
  | tup xs => obtain ⟨z, its, r, ob, e, c⟩ := x; exact ⟨z, its, r, ob, k _ _ (.inl rfl) e, c⟩
  | dK kvs => obtain ⟨z, y, vs, r, ob, es, ep, e, c⟩ := x; exact ⟨z, y, vs, r, ob, es, ep, k _ _ (.inl rfl) e, c⟩
  | dT kvs =>
    obtain ⟨z, y, xs, r, ob, es, ep, e, c⟩ := x
    exact ⟨z, y, xs, Paired.mapP r fun p q z => ⟨z.1, ht _ _ z.2.1, z.2.2⟩, ob, es, ep, k _ _ (.inl rfl) e, c⟩
  | set S n => obtain ⟨ob, es, ep, t, e, c⟩ := x; exact ⟨ob, es, ep, t, k _ _ (.inl rfl) e, c⟩
  | ins C dx fs =>
    obtain ⟨d, z, ne, e, mA, ⟨od, es, ep, e2, c⟩, r⟩ := x
    exact ⟨ho _ d, z, ne, k _ _ (.inl rfl) e, mA, ⟨od, es, ep, k _ _ (.inr d) e2, c⟩, r⟩
  | own y => obtain ⟨ob, e⟩ := x; exact ⟨ob, k _ _ (.inl rfl) e⟩
  | xd fs => obtain ⟨mA, ⟨od, es, ep, e, c⟩, r⟩ := x; exact ⟨mA, ⟨od, es, ep, k _ _ (.inl rfl) e, c⟩, r⟩
  | rng lo hi => obtain ⟨t, u, v, e⟩ := x; exact ⟨t, u, v, k _ _ (.inl rfl) e⟩
  | frz ob u ih => obtain ⟨e, q⟩ := x; exact ⟨k _ _ (.inl rfl) e, ih q⟩
  | tbl ps =>
    have e : h.get? a = some { cls := .none, data := .fields ps } := x
    show h'.get? a = some { cls := .none, data := .fields ps }
    exact k a _ (.inl rfl) e
  | met f y =>
    have e : h.get? a = some (PySem.W.methodObj (.ref f) (.ref y)) := x
    show h'.get? a = some (PySem.W.methodObj (.ref f) (.ref y))
    exact k a _ (.inl rfl) e
  | ext φ => obtain ⟨p, ⟨o, e⟩, st⟩ := x; exact ⟨st _ _ p fun o q => k _ _ (.inl rfl) q, ⟨o, k _ _ (.inl rfl) e⟩, st⟩
theorem HOk.lt (x : HOk P w H h) (e : H a = some o) : a < h.objs.size := (x a o e).lt
theorem HOk.fresh (x : HOk P w H h) (e : h.objs.size ≤ a) : H a = none := by
  cases q : H a with
  | none => rfl
  | some u => exact absurd (Nat.lt_of_lt_of_le (x.lt q) e) (Nat.lt_irrefl _)
/-- every object of the heap is kept -/
theorem HOk.kept (x : HOk P w H h) (k : ∀ b u, h.get? b = some u → h'.get? b = some u) : HOk P w H h' := fun a o e =>
  (x a o e).stay (fun b u _ q => k b u q) (fun _ q => q) fun _ _ q => q
/-- a new object is laid and tracked -/
theorem HOk.laid (x : HOk P w H h) (k : ∀ b u, h.get? b = some u → h'.get? b = some u) (hp : h.objs.size ≤ a) (new : ObjOk P w (upd H a o) h' a o) : HOk P w (upd H a o) h' := fun b u e => by
  have hn := x.fresh hp
  by_cases hb : b = a
  · subst hb; rw [upd_same] at e; cases e; exact new
  · rw [upd_ne hb] at e
    exact (x b u e).stay (fun c v _ q => k c v q) (fun c q => by rw [upd_ne (ne_of_none q hn)]; exact q) fun c xs q => by rw [upd_ne (ne_of_none q hn)]; exact q
end

/-- what may be read as u: it is u, or a known u -/
def Rd (H : Hp) (a : Addr) (u : HO) : Prop := H a = some u ∨ ∃ o, H a = some (.frz o u)
theorem Rd.ok {P : Program} {w : World} {H : Hp} {h : Heap} {a : Addr} {u : HO} (r : Rd H a u) (x : HOk P w H h) : ObjOk P w H h a u := by
  rcases r with r | ⟨o, r⟩
  · exact x a u r
  · obtain ⟨_, q⟩ := x a _ r
    exact q
/-- what may be written -/
def Mut : Option HO → Prop
  | some (.lst _) => True
  | some (.dK _) => True
  | some (.dT _) => True
  | some (.set _ _) => True
  | some (.ins _ _ _) => True
  | some (.ext _) => True
  | _ => False
section
variable {P : Program} {w : World} {H : Hp} {h h' : Heap} {x e : Addr} {o' : HO}
/-- the object at e is changed: x itself, or the dict of the instance x -/
theorem HOk.write (ok : HOk P w H h) (mu : Mut (H x)) (he : e = x ∨ H e = some (.own x)) (k : ∀ b u, b ≠ e → h.get? b = some u → h'.get? b = some u) (heo : ∃ u, h'.get? e = some u)
    (new : ObjOk P w (upd H x o') h' x o') : HOk P w (upd H x o') h' := fun b u q => by
  have nown : ∀ c y, H c = some (.own y) → c ≠ x := fun c y r z => by subst z; rw [r] at mu; exact mu
  have ntup : ∀ c xs, H c = some (.tup xs) → c ≠ x := fun c xs r z => by subst z; rw [r] at mu; exact mu
  by_cases hb : b = x
  · subst hb; rw [upd_same] at q; cases q; exact new
  · rw [upd_ne hb] at q
    by_cases hbe : b = e
    · have q' : H b = some (.own x) := by
        rcases he with z | z
        · exact absurd (hbe.trans z) hb
        · rw [hbe]; exact z
      rw [q] at q'; cases q'
      obtain ⟨v, hv⟩ := heo
      exact ⟨v, by rw [hbe]; exact hv⟩
    · refine (ok b u q).stay (fun c v hc r => k c v ?_ r) (fun c r => by rw [upd_ne (nown c b r)]; exact r) fun c xs r => by rw [upd_ne (ntup c xs r)]; exact r
      rcases hc with rfl | hc
      · exact hbe
      · rintro rfl
        rcases he with z | z
        · exact nown c b hc z
        · rw [hc] at z; cases z; exact hb rfl
end

/-! ### kept unless tracked; of the frames at fs (the callers') the slots may change (an exception that passes writes there); of the records at ex (iterators) nothing is said -/
structure Un (fs ex : List Addr) (H H' : Hp) (h h' : Heap) : Prop where
  keep : ∀ b o, h.get? b = some o → H b = none → b ∉ fs → b ∉ ex → h'.get? b = some o
  slot : ∀ b o, h.get? b = some o → H b = none → b ∈ fs → b ∉ ex → ∃ sl, h'.get? b = some { o with slots := sl }
  free : ∀ b o, h.get? b = some o → H b = none → b ∉ ex → H' b = none
  there : ∀ b o, h.get? b = some o → b ∉ ex → ∃ o', h'.get? b = some o'
  tups : ∀ b xs, H b = some (.tup xs) → H' b = some (.tup xs)
  frzs : ∀ b o u, H b = some (.frz o u) → H' b = some (.frz o u)
  tbls : ∀ b ps, H b = some (.tbl ps) → ∃ more, H' b = some (.tbl (ps ++ more))
section
variable {fs fs' ex ex' : List Addr} {H H1 H2 : Hp} {h h1 h2 h' : Heap} {a x e : Addr} {o : HO}
theorem Un.any (u : Un fs ex H H1 h h1) {b : Addr} {ob : Obj} (q : h.get? b = some ob) (n : H b = none) (hx : b ∉ ex) : ∃ sl, h1.get? b = some { ob with slots := sl } := by
  by_cases hb : b ∈ fs
  · exact u.slot b ob q n hb hx
  · exact ⟨ob.slots, u.keep b ob q n hb hx⟩
theorem Un.kept (k : ∀ b u, h.get? b = some u → h'.get? b = some u) : Un fs ex H H h h' :=
  ⟨fun b ob q _ _ _ => k b ob q, fun b ob q _ _ _ => ⟨ob.slots, k b ob q⟩, fun _ _ _ n _ => n, fun b ob q _ => ⟨ob, k b ob q⟩, fun _ _ q => q, fun _ _ _ q => q, fun _ ps q => ⟨#[], by rw [q]; simp⟩⟩
theorem Un.refl : Un fs ex H H h h := Un.kept fun _ _ q => q
theorem Un.laid (k : ∀ b u, h.get? b = some u → h'.get? b = some u) (hp : h.objs.size ≤ a) (hn : H a = none) : Un fs ex H (upd H a o) h h' where
  keep := fun b u q _ _ _ => k b u q
  slot := fun b u q _ _ _ => ⟨u.slots, k b u q⟩
  free := fun b u q n _ => by rw [upd_ne (Nat.ne_of_lt (Nat.lt_of_lt_of_le (Heap.lt_size q) hp))]; exact n
  there := fun b u q _ => ⟨u, k b u q⟩
  tups := fun b xs q => by rw [upd_ne (ne_of_none q hn)]; exact q
  frzs := fun b u xs q => by rw [upd_ne (ne_of_none q hn)]; exact q
  tbls := fun b ps q => ⟨#[], by rw [upd_ne (ne_of_none q hn), q]; simp⟩
theorem Un.write (mu : Mut (H x)) (he : e = x ∨ H e = some (.own x)) (k : ∀ b u, b ≠ e → h.get? b = some u → h'.get? b = some u) (heo : ∃ u, h'.get? e = some u) : Un fs ex H (upd H x o) h h' := by
  have hx : ∀ b, H b = none → b ≠ x := fun b n z => by subst z; rw [n] at mu; exact mu
  have hb : ∀ b, H b = none → b ≠ e := fun b n z => by
    subst z
    rcases he with r | r
    · exact hx b n r
    · rw [n] at r; cases r
  have hm : ∀ b u, H b = some u → ¬ Mut (some u) → b ≠ x := fun b u q nm z => by subst z; rw [q] at mu; exact nm mu
  refine ⟨fun b u q n _ _ => k b u (hb b n) q, fun b u q n _ _ => ⟨u.slots, k b u (hb b n) q⟩, fun b u q n _ => by rw [upd_ne (hx b n)]; exact n, fun b u q _ => ?_,
    fun b xs q => by rw [upd_ne (hm b _ q fun z => z)]; exact q, fun b u xs q => by rw [upd_ne (hm b _ q fun z => z)]; exact q, fun b ps q => ⟨#[], by rw [upd_ne (hm b _ q fun z => z), q]; simp⟩⟩
  by_cases hbe : b = e
  · subst hbe; exact heo
  · exact ⟨u, k b u hbe q⟩
end

/-! ### the heap without what is tracked -/
def trk (h : Heap) (H : Hp) : List Addr := (List.range h.objs.size).filter fun a => (H a).isSome
def hidT (h : Heap) (H : Hp) : Heap := PySem.W.hideAll h (trk h H)
theorem hidT_size (h : Heap) (H : Hp) : (hidT h H).objs.size = h.objs.size := PySem.W.hideAll_size _ _
theorem hidT_get {h : Heap} {H : Hp} {b : Addr} {o : Obj} (e : h.get? b = some o) (n : H b = none) : (hidT h H).get? b = some o :=
  PySem.W.hideAll_get _ e fun hm => by
    have q : (H b).isSome = true := (List.mem_filter.mp hm).2
    rw [n] at q; simp at q
theorem of_hidT {h : Heap} {H : Hp} {b : Addr} {o : Obj} (e : (hidT h H).get? b = some o) : h.get? b = some o ∧ H b = none := by
  have e' : h.get? b = some o := PySem.W.of_hideAll (trk h H) e
  refine ⟨e', ?_⟩
  cases q : H b with
  | none => rfl
  | some x =>
    have hm : b ∈ trk h H := List.mem_filter.mpr ⟨List.mem_range.mpr (Heap.lt_size e'), by simp [q]⟩
    have z : (hidT h H).get? b = none := PySem.W.hideAll_none (trk h H) hm
    rw [z] at e; cases e

/-! ### OpenK's ledger, filled with every new object but one -/
end L2

namespace L2
open PySem PySem.Spec PyProof.Rows

/-- the module's facts, over the base: the heap at the law's entry without what is tracked there -/
structure Mod (K : PySem.W.Frag) (mg : Str → Option Value) (base : Heap) : Prop where
  kin : K.In base
  glob : base.Ns mainGlobals mg
  blt : ∃ mb, base.Ns builtinsNs mb ∧ ∀ x : Str, x ≠ "__name__" → mb x = bootBuiltins x
  nolimit : base.NoLimit

/-- the context: a def's body (or a comprehension's block) running. base: fixed through the whole law; s₀, H₀: the entry; outer: the frames whose slots others may change (a def's callers); stack: all frames that run;
   ex: iterators that were made ahead of the entry and are walked here (a comprehension's); fn: the names whose cells were made at the entry (a def: all; a comprehension's block: its own); calm: not within an except suite; pn: pins that every state bears; xe: what is wanted of an exception that leaves the code -/
structure Cx where
  prog : Program
  w : World
  K : PySem.W.Frag
  mg : Str → Option Value
  base : Heap
  A : Around
  N : List Str
  s₀ : Shared
  H₀ : Hp
  env : Env
  outer : List Env
  stack : List Env
  ex : List Addr
  fn : Str → Bool
  calm : Bool
  pn : List (Addr × Obj)
  xe : Value → Shared → Prop
/-- the callers' frames -/
def frs (l : List Env) : List Addr := l.filterMap (·.frame)
abbrev Cx.fs (X : Cx) : List Addr := frs X.outer

def Vis (sc : Scope) (x : Str) : Prop := sc.names.lookup x = some .local ∨ sc.names.lookup x = some .cell ∨ sc.names.lookup x = some .free
def Loc (sc : Scope) (x : Str) : Prop := sc.names.lookup x = some .local ∨ sc.names.lookup x = some .cell
def Look (env : Env) (h : Heap) (m : Str → Option Value) (x : Str) (u : Value) : Prop :=
  (env.kindOf x = some .local ∧ m x = some u) ∨ ((env.kindOf x = some .cell ∨ env.kindOf x = some .free) ∧ ∃ c, env.cells.lookup x = some c ∧ h.IsCell c (some u))

structure Cx.Ok (X : Cx) : Prop where
  mod : Mod X.K X.mg X.base
  kind : X.env.scope.kind = .function
  glob : X.env.globals = mainGlobals
  blt : X.env.builtins = builtinsNs
  above : X.s₀.heap.objs.size ≤ X.env.locals
  inj : ∀ x y c, X.env.cells.lookup x = some c → X.env.cells.lookup y = some c → x = y
  has : ∀ x, (X.env.kindOf x = some .cell ∨ X.env.kindOf x = some .free) → ∃ c, X.env.cells.lookup x = some c
  cab : ∀ x c, X.fn x = true → X.env.cells.lookup x = some c → X.s₀.heap.objs.size ≤ c
  hd : X.calm = true → X.A.handled = none
  frames : X.A.frames = some X.stack
  stk : X.stack = X.outer ∨ (X.stack = X.env :: X.outer ∧ X.env.frame = some X.env.locals)
  exf : ∀ b ∈ X.ex, b ≠ X.env.locals ∧ ∀ x c, X.env.cells.lookup x = some c → c ≠ b
  bs : ∀ b o, X.base.get? b = some o → X.s₀.heap.get? b = some o ∧ X.H₀ b = none
  bsz : X.base.objs.size ≤ X.s₀.heap.objs.size
  noex : ∀ b o, X.base.get? b = some o → b ∉ X.ex
  exfs : ∀ b ∈ X.ex, b ∉ X.fs
  funs : X.s₀.heap.FunFrames X.base X.outer
  frf : ∀ b ∈ X.fs, X.H₀ b = none

structure Inv (X : Cx) (pins : List (Addr × Obj)) (σ : List (Option V)) (H : Hp) (s : Shared) : Prop where
  ok : X.Ok
  os : s.os = X.s₀.os
  bare : AllBare s.gens
  base : Un X.fs X.ex X.H₀ H X.s₀.heap s.heap
  loc : ∃ m, s.heap.Ns X.env.locals m ∧ ∀ (i : Nat) (x : Str) (v : V), X.N[i]? = some x → σ[i]? = some (some v) → Vis X.env.scope x → ∃ u, RelV v u ∧ Look X.env s.heap m x u
  cell : ∀ x c, X.env.cells.lookup x = some c → ∃ v, s.heap.IsCell c v
  free : H X.env.locals = none
  freeC : ∀ x c, X.env.cells.lookup x = some c → H c = none
  pin : ∀ p ∈ X.pn ++ pins, s.heap.get? p.1 = some p.2 ∧ H p.1 = none ∧ p.1 ≠ X.env.locals ∧ p.1 ∉ X.fs ∧ ∀ v, p.2.data ≠ .cell v
  hok : HOk X.prog X.w H s.heap
  len : σ.length = X.N.length

section
variable {X : Cx} {pins : List (Addr × Obj)} {σ : List (Option V)} {H H' : Hp} {s : Shared} {h' : Heap}

theorem Cx.Ok.nofr (ok : X.Ok) {b : Addr} {o : Obj} (e : X.base.get? b = some o) : b ∉ X.fs := fun hb => by
  have := (ok.funs.mem hb).1
  rw [e] at this; cases this
theorem Inv.bs (I : Inv X pins σ H s) : ∀ b o, X.base.get? b = some o → s.heap.get? b = some o ∧ H b = none := fun b o e =>
  ⟨I.base.keep b o (I.ok.bs b o e).1 (I.ok.bs b o e).2 (I.ok.nofr e) (I.ok.noex b o e), I.base.free b o (I.ok.bs b o e).1 (I.ok.bs b o e).2 (I.ok.noex b o e)⟩
theorem Inv.bk (I : Inv X pins σ H s) : ∀ b o, X.base.get? b = some o → s.heap.get? b = some o := fun b o e => (I.bs b o e).1
theorem Inv.mod (I : Inv X pins σ H s) : Mod X.K X.mg X.base := I.ok.mod
theorem Inv.kIn (I : Inv X pins σ H s) : X.K.In s.heap := I.ok.mod.kin.keeps I.bk
theorem Inv.lt (I : Inv X pins σ H s) : X.env.locals < s.heap.objs.size := let ⟨_, hn, _⟩ := I.loc; hn.lt
theorem Inv.sz (I : Inv X pins σ H s) : X.s₀.heap.objs.size ≤ s.heap.objs.size := Nat.le_trans I.ok.above (Nat.le_of_lt I.lt)
theorem Inv.nofs (I : Inv X pins σ H s) {a : Addr} (h : s.heap.objs.size ≤ a) : a ∉ X.fs := fun hb => by
  obtain ⟨_, o, ho, _⟩ := I.ok.funs.mem hb
  exact absurd (Nat.lt_of_lt_of_le (Heap.lt_size ho) (Nat.le_trans I.sz h)) (Nat.lt_irrefl _)
theorem Inv.cne (I : Inv X pins σ H s) : ∀ x c, X.env.cells.lookup x = some c → c ≠ X.env.locals := fun x c e z => by
  obtain ⟨v, o, ho, hd⟩ := I.cell x c e
  obtain ⟨m, ⟨o', es, ep, ho', hd', _⟩, _⟩ := I.loc
  rw [z, ho'] at ho; cases ho; rw [hd'] at hd; cases hd
theorem Inv.funs (I : Inv X pins σ H s) : s.heap.FunFrames X.base X.outer := by
  have all : ∀ (l : List Env), (∀ b ∈ frs l, b ∈ X.fs) → X.s₀.heap.FunFrames X.base l → s.heap.FunFrames X.base l := by
    intro l
    induction l with
    | nil => intro _ _; trivial
    | cons env r ih =>
      intro hs hl
      obtain ⟨hk, ⟨L, o, hf, hn, ho, hd⟩, hr⟩ := hl
      have hL : L ∈ X.fs := hs L (by unfold frs; rw [List.filterMap_cons, hf]; exact List.mem_cons_self)
      obtain ⟨sl, e⟩ := I.base.slot L o ho (I.ok.frf L hL) hL fun z => I.ok.exfs L z hL
      exact ⟨hk, ⟨L, _, hf, hn, e, hd⟩, ih (fun b hb => hs b (by unfold frs; rw [List.filterMap_cons, hf]; exact List.mem_cons_of_mem _ hb)) hr⟩
  exact all X.outer (fun _ hb => hb) I.ok.funs

/-- the frames that run, for a call -/
theorem Inv.stack (I : Inv X pins σ H s) : s.heap.FunFrames X.base X.stack := by
  rcases I.ok.stk with e | ⟨e, hf⟩
  · rw [e]; exact I.funs
  · rw [e]
    obtain ⟨m, hn, _⟩ := I.loc
    refine .cons (by rw [I.ok.kind]; decide) hf hn ?_ I.funs
    exact Heap.get?_none_of_le (Nat.le_trans I.ok.bsz I.ok.above)
theorem Inv.stkSub (I : Inv X pins σ H s) : ∀ b ∈ frs X.stack, b ∈ X.env.locals :: X.fs := fun b hb => by
  rcases I.ok.stk with e | ⟨e, hf⟩
  · rw [e] at hb; exact List.mem_cons_of_mem _ hb
  · rw [e] at hb
    unfold frs at hb
    rw [List.filterMap_cons, hf] at hb
    exact hb
theorem Inv.stkFree (I : Inv X pins σ H s) : ∀ b ∈ frs X.stack, H b = none := fun b hb => by
  rcases List.mem_cons.mp (I.stkSub b hb) with e | hb
  · rw [e]; exact I.free
  · obtain ⟨_, o, ho, _⟩ := I.ok.funs.mem hb
    exact I.base.free b o ho (I.ok.frf b hb) fun z => I.ok.exfs b z hb

/-- THE STEP: the untracked objects but the frame and the records at ch are kept (the callers' frames up to slots), the frame's map is kept, the new abstract heap is held -/
theorem Inv.step {g' : Array GenState} {t' : Nat} {d' : Drawn} {ch : List Addr} (I : Inv X pins σ H s)
    (hch : ∀ b ∈ ch, (b ∈ X.ex ∨ X.s₀.heap.objs.size ≤ b) ∧ b ≠ X.env.locals ∧ (∀ x c, X.env.cells.lookup x = some c → c ≠ b) ∧ ∀ p ∈ X.pn ++ pins, p.1 ≠ b)
    (keep : ∀ b o, b ≠ X.env.locals → b ∉ X.fs → b ∉ ch → s.heap.get? b = some o → H b = none → h'.get? b = some o)
    (slot : ∀ b o, b ≠ X.env.locals → b ∈ X.fs → b ∉ ch → s.heap.get? b = some o → H b = none → ∃ sl, h'.get? b = some { o with slots := sl }) (free : ∀ b o, b ∉ ch → s.heap.get? b = some o → H b = none → H' b = none)
    (there : ∀ b o, b ∉ ch → s.heap.get? b = some o → ∃ o', h'.get? b = some o')
    (tups : ∀ b xs, H b = some (.tup xs) → H' b = some (.tup xs)) (frzs : ∀ b o u, H b = some (.frz o u) → H' b = some (.frz o u)) (tbls : ∀ b ps, H b = some (.tbl ps) → ∃ more, H' b = some (.tbl (ps ++ more)))
    (ns : ∀ m, s.heap.Ns X.env.locals m → h'.Ns X.env.locals m) (hok : HOk X.prog X.w H' h') (hg : AllBare g') :
    Inv X pins σ H' { s with heap := h', gens := g', drawn := d', toks := t' } := by
  have neL : ∀ b o, X.s₀.heap.get? b = some o → b ≠ X.env.locals := fun b o e => Nat.ne_of_lt (Nat.lt_of_lt_of_le (Heap.lt_size e) I.ok.above)
  have neC : ∀ b o, X.s₀.heap.get? b = some o → b ∉ X.ex → b ∉ ch := fun b o e hx hb => by
    rcases (hch b hb).1 with z | z
    · exact hx z
    · exact absurd (Nat.lt_of_lt_of_le (Heap.lt_size e) z) (Nat.lt_irrefl _)
  have cellK : ∀ x c, X.env.cells.lookup x = some c → ∀ v, s.heap.IsCell c v → h'.IsCell c v := fun x c e v ⟨o, ho, hd⟩ => by
    have nch : c ∉ ch := fun z => (hch c z).2.2.1 x c e rfl
    by_cases hc : c ∈ X.fs
    · obtain ⟨sl, q⟩ := slot c o (I.cne x c e) hc nch ho (I.freeC x c e)
      exact ⟨_, q, hd⟩
    · exact ⟨o, keep c o (I.cne x c e) hc nch ho (I.freeC x c e), hd⟩
  refine ⟨I.ok, I.os, hg, ⟨fun b o e n hb hx => ?_, fun b o e n hb hx => ?_, fun b o e n hx => ?_, fun b o e hx => ?_, fun b xs e => tups b xs (I.base.tups b xs e), fun b o xs e => frzs b o xs (I.base.frzs b o xs e), fun b ps e => ?_⟩, ?_, fun x c e => ?_, ?_, fun x c e => ?_, fun p hp => ?_, hok, I.len⟩
  · exact keep b o (neL b o e) hb (neC b o e hx) (I.base.keep b o e n hb hx) (I.base.free b o e n hx)
  · obtain ⟨sl, e1⟩ := I.base.slot b o e n hb hx
    obtain ⟨sl', e2⟩ := slot b _ (neL b o e) hb (neC b o e hx) e1 (I.base.free b o e n hx)
    exact ⟨sl', e2⟩
  · obtain ⟨o', e1⟩ := I.base.there b o e hx
    exact free b o' (neC b o e hx) e1 (I.base.free b o e n hx)
  · obtain ⟨o', e1⟩ := I.base.there b o e hx
    exact there b o' (neC b o e hx) e1
  · obtain ⟨m1, e1⟩ := I.base.tbls b ps e
    obtain ⟨m2, e2⟩ := tbls b _ e1
    exact ⟨m1 ++ m2, by rw [e2, Array.append_assoc]⟩
  · obtain ⟨m, hn, hl⟩ := I.loc
    refine ⟨m, ns m hn, fun i x v e1 e2 e3 => ?_⟩
    obtain ⟨u, r, l⟩ := hl i x v e1 e2 e3
    refine ⟨u, r, ?_⟩
    rcases l with l | ⟨k, c, e, z⟩
    · exact .inl l
    · exact .inr ⟨k, c, e, cellK x c e _ z⟩
  · obtain ⟨v, z⟩ := I.cell x c e
    exact ⟨v, cellK x c e v z⟩
  · obtain ⟨m, ⟨o, _, _, ho, _⟩, _⟩ := I.loc
    exact free _ o (fun z => (hch _ z).2.1 rfl) ho I.free
  · obtain ⟨v, o, ho, hd⟩ := I.cell x c e
    exact free c o (fun z => (hch c z).2.2.1 x c e rfl) ho (I.freeC x c e)
  · obtain ⟨e, n, ne, nf, d⟩ := I.pin p hp
    have nch : p.1 ∉ ch := fun z => (hch p.1 z).2.2.2 p hp rfl
    exact ⟨keep p.1 p.2 ne nf nch e n, free p.1 p.2 nch e n, ne, nf, d⟩
/-- .. where the frame's own object is kept too -/
theorem Inv.un {t' : Nat} (I : Inv X pins σ H s) (u : Un X.fs [] H H' s.heap h') (hok : HOk X.prog X.w H' h') : Inv X pins σ H' { s with heap := h', toks := t' } := by
  obtain ⟨m, ⟨o, es, ep, ho, r⟩, _⟩ := id I.loc
  obtain ⟨sl, hL⟩ := u.any ho I.free (by simp)
  exact I.step (g' := s.gens) (d' := s.drawn) (ch := []) (fun _ z => nomatch z) (fun b o _ hb _ e n => u.keep b o e n hb (by simp)) (fun b o _ hb _ e n => u.slot b o e n hb (by simp)) (fun b o _ e n => u.free b o e n (by simp)) (fun b o _ e => u.there b o e (by simp)) u.tups u.frzs u.tbls (fun m' hm => by
    obtain ⟨o', es', ep', ho', r'⟩ := hm
    rw [ho] at ho'; cases ho'
    exact ⟨_, es', ep', hL, r'⟩) hok I.bare
/-- behind a call (or a comprehension's block): the slots of this frame may have changed too, the records at ch may have turned -/
theorem Inv.call {g' : Array GenState} {t' : Nat} {d' : Drawn} {ch : List Addr} (I : Inv X pins σ H s) (u : Un (frs X.stack) ch H H' s.heap h') (hok : HOk X.prog X.w H' h') (hg : AllBare g')
    (hch : ∀ b ∈ ch, (b ∈ X.ex ∨ X.s₀.heap.objs.size ≤ b) ∧ b ≠ X.env.locals ∧ (∀ x c, X.env.cells.lookup x = some c → c ≠ b) ∧ ∀ p ∈ X.pn ++ pins, p.1 ≠ b) :
    Inv X pins σ H' { s with heap := h', gens := g', drawn := d', toks := t' } := by
  obtain ⟨m, ⟨o, es, ep, ho, r⟩, _⟩ := id I.loc
  obtain ⟨sl, hL⟩ := u.any ho I.free fun z => (hch _ z).2.1 rfl
  exact I.step (ch := ch) hch (fun b o hL hb hc e n => u.keep b o e n (fun z => (List.mem_cons.mp (I.stkSub b z)).elim hL hb) hc) (fun b o _ _ hc e n => u.any e n hc) (fun b o hc e n => u.free b o e n hc) (fun b o hc e => u.there b o e hc) u.tups u.frzs u.tbls (fun m' hm => by
    obtain ⟨o', es', ep', ho', r'⟩ := hm
    rw [ho] at ho'; cases ho'
    exact ⟨_, es', ep', hL, r'⟩) hok hg
/-- an untracked record of ours (an iterator) has turned -/
theorem Inv.turned {t' : Nat} {it : Addr} (I : Inv X pins σ H s) (k : ∀ b o, b ≠ it → s.heap.get? b = some o → h'.get? b = some o) (hn : H it = none) (hL : it ≠ X.env.locals)
    (h1 : it ∈ X.ex ∨ X.s₀.heap.objs.size ≤ it) (h2 : ∀ x c, X.env.cells.lookup x = some c → c ≠ it) (h3 : ∀ p ∈ X.pn ++ pins, p.1 ≠ it) : Inv X pins σ H { s with heap := h', toks := t' } := by
  have nit : ∀ b u, H b = some u → b ≠ it := fun b u e z => by rw [z, hn] at e; cases e
  refine I.step (g' := s.gens) (d' := s.drawn) (ch := [it]) (fun b hb => ?_) (fun b o _ _ hc e _ => k b o (fun z => hc (by simp [z])) e) (fun b o _ _ hc e _ => ⟨o.slots, k b o (fun z => hc (by simp [z])) e⟩) (fun _ _ _ _ n => n)
    (fun b o hc e => ⟨o, k b o (fun z => hc (by simp [z])) e⟩) (fun _ _ e => e) (fun _ _ _ e => e) (fun b ps e => ⟨#[], by rw [e]; simp⟩) (fun m hm => ?_) (fun b u e => ?_) I.bare
  · have e : b = it := by simpa using hb
    subst e
    exact ⟨h1, hL, h2, h3⟩
  · obtain ⟨o, es, ep, ho, r⟩ := hm
    exact ⟨o, es, ep, k _ o (Ne.symm hL) ho, r⟩
  · refine (I.hok b u e).stay (fun c v hc q => k c v ?_ q) (fun _ q => q) fun _ _ q => q
    rcases hc with z | z
    · rw [z]; exact nit b u e
    · exact nit c _ z
theorem Inv.tok (I : Inv X pins σ H s) (t : Nat) : Inv X pins σ H { s with toks := t } := I.un (h' := s.heap) (t' := t) Un.refl I.hok
/-- all objects kept -/
theorem Inv.kept {t' : Nat} (I : Inv X pins σ H s) (k : ∀ b u, s.heap.get? b = some u → h'.get? b = some u) : Inv X pins σ H { s with heap := h', toks := t' } := I.un (Un.kept k) (I.hok.kept k)
/-- a new object laid and tracked -/
theorem Inv.laid {a : Addr} {o : HO} {t' : Nat} (I : Inv X pins σ H s) (k : ∀ b u, s.heap.get? b = some u → h'.get? b = some u) (hp : s.heap.objs.size ≤ a) (new : ObjOk X.prog X.w (upd H a o) h' a o) :
    Inv X pins σ (upd H a o) { s with heap := h', toks := t' } := I.un (Un.laid k hp (I.hok.fresh hp)) (I.hok.laid k hp new)
/-- an object written -/
theorem Inv.write {x e : Addr} {o : HO} {t' : Nat} (I : Inv X pins σ H s) (mu : Mut (H x)) (he : e = x ∨ H e = some (.own x)) (k : ∀ b u, b ≠ e → s.heap.get? b = some u → h'.get? b = some u) (heo : ∃ u, h'.get? e = some u)
    (new : ObjOk X.prog X.w (upd H x o) h' x o) : Inv X pins σ (upd H x o) { s with heap := h', toks := t' } := I.un (Un.write mu he k heo) (I.hok.write mu he k heo new)
theorem Inv.pins_of {pins' : List (Addr × Obj)} (I : Inv X pins σ H s) (h : ∀ p ∈ pins', s.heap.get? p.1 = some p.2 ∧ H p.1 = none ∧ p.1 ≠ X.env.locals ∧ p.1 ∉ X.fs ∧ ∀ v, p.2.data ≠ .cell v) : Inv X pins' σ H s :=
  ⟨I.ok, I.os, I.bare, I.base, I.loc, I.cell, I.free, I.freeC, fun p hp => (List.mem_append.mp hp).elim (fun z => I.pin p (List.mem_append_left _ z)) (h p), I.hok, I.len⟩

theorem nodup_ix {N : List Str} (hN : N.Nodup) {i j : Nat} {x : Str} (a : N[i]? = some x) (b : N[j]? = some x) : i = j := by
  obtain ⟨h1, e1⟩ := List.getElem?_eq_some_iff.mp a
  obtain ⟨h2, e2⟩ := List.getElem?_eq_some_iff.mp b
  exact (List.getElem_inj hN).mp (e1.trans e2.symm)

/-- a name is stored; what changed -/
theorem store_ok2 {M : Model} {A : Around} {E : Value → Shared → Prop} {i : Nat} {x : Str} {v : V} {u : Value} {Q : Unit → Shared → Prop} (I : Inv X pins σ H s) (hN : X.N.Nodup) (hi : X.N[i]? = some x) (hx : Loc X.env.scope x) (r : RelV v u)
    (h : ∀ s', Inv X pins (σ.set i (some v)) H s' → (∃ a, Heap.SameBut a s.heap s'.heap ∧ (a = X.env.locals ∨ X.env.cells.lookup x = some a)) → Q () s') (hf : X.fn x = true ∨ X.env.scope.names.lookup x = some .local := by first | exact .inl rfl | exact .inr rfl | assumption) : wpAny M A (storeName X.env x u) Q E s := by
  obtain ⟨m, hn, hl⟩ := id I.loc
  have hcls : (X.env.scope.kind == .class || (X.env.scope.kind == .module && X.env.locals != X.env.globals)) = false := by rw [I.ok.kind]; rfl
  have hiσ : i < σ.length := by rw [I.len]; exact (List.getElem?_eq_some_iff.mp hi).1
  have cne := I.cne
  have tracked : ∀ {a : Addr} {h' : Heap}, (∃ o, s.heap.get? a = some o ∧ H a = none) → Heap.SameBut a s.heap h' → HOk X.prog X.w H h' := fun {a h'} ha hs b ob e => by
    obtain ⟨_, _, hfree⟩ := ha
    refine (I.hok b ob e).stay (fun c w' hc q => (hs.2 c ?_).trans q) (fun _ q => q) fun _ _ q => q
    rintro rfl
    rcases hc with rfl | hc
    · rw [hfree] at e; cases e
    · rw [hfree] at hc; cases hc
  rcases hx with hk | hk
  · refine wpAny_storeName_local hk hn (fun h' hn' hs => ?_) hcls
    obtain ⟨oL, _, _, hoL, _⟩ := id hn
    refine h _ ⟨I.ok, I.os, I.bare, ⟨fun b o e n hb hx => ?_, fun b o e n hb hx => ?_, I.base.free, fun b o e hx => ?_, I.base.tups, I.base.frzs, I.base.tbls⟩, ⟨_, hn', fun j y v' e1 e2 e3 => ?_⟩, fun y c e => ?_, I.free, I.freeC, fun p hp => ?_, tracked ⟨oL, hoL, I.free⟩ hs, by simpa using I.len⟩ ⟨_, hs, .inl rfl⟩
    · exact (hs.2 b (Nat.ne_of_lt (Nat.lt_of_lt_of_le (Heap.lt_size e) I.ok.above))).trans (I.base.keep b o e n hb hx)
    · obtain ⟨sl, e1⟩ := I.base.slot b o e n hb hx
      exact ⟨sl, (hs.2 b (Nat.ne_of_lt (Nat.lt_of_lt_of_le (Heap.lt_size e) I.ok.above))).trans e1⟩
    · obtain ⟨o', e1⟩ := I.base.there b o e hx
      exact ⟨o', (hs.2 b (Nat.ne_of_lt (Nat.lt_of_lt_of_le (Heap.lt_size e) I.ok.above))).trans e1⟩
    · by_cases hj : j = i
      · subst hj
        rw [hi] at e1; cases e1
        rw [List.getElem?_set_self hiσ] at e2
        cases e2
        exact ⟨u, r, .inl ⟨hk, by simp⟩⟩
      · rw [List.getElem?_set_ne (Ne.symm hj)] at e2
        obtain ⟨u', r', q⟩ := hl j y v' e1 e2 e3
        refine ⟨u', r', ?_⟩
        rcases q with ⟨k, e⟩ | ⟨k, c, e, z⟩
        · refine .inl ⟨k, ?_⟩
          have : y ≠ x := fun e => hj (nodup_ix hN e1 (e ▸ hi))
          simp [this, e]
        · exact .inr ⟨k, c, e, z.sameBut hs (cne y c e)⟩
    · obtain ⟨w', z⟩ := I.cell y c e
      exact ⟨w', z.sameBut hs (cne y c e)⟩
    · obtain ⟨e, n, ne, nf, d⟩ := I.pin p hp
      exact ⟨(hs.2 p.1 ne).trans e, n, ne, nf, d⟩
  · have hfn : X.fn x = true := by
      rcases hf with z | z
      · exact z
      · rw [z] at hk; cases hk
    obtain ⟨c, hc⟩ := I.ok.has x (.inl hk)
    obtain ⟨w', z⟩ := I.cell x c hc
    refine wpAny_storeName_cell I.ok.kind hk hc z (fun h' hc' hs => ?_)
    obtain ⟨oc, hoc, hocd⟩ := id z
    refine h { s with heap := h' } ⟨I.ok, I.os, I.bare, ⟨fun b o e n hb hx => ?_, fun b o e n hb hx => ?_, I.base.free, fun b o e hx => ?_, I.base.tups, I.base.frzs, I.base.tbls⟩, ⟨m, hn.sameBut hs (Ne.symm (cne x c hc)), fun j y v' e1 e2 e3 => ?_⟩, fun y c' e => ?_, I.free, I.freeC, fun p hp => ?_, tracked ⟨oc, hoc, I.freeC x c hc⟩ hs, by simpa using I.len⟩ ⟨c, hs, .inr hc⟩
    · exact (hs.2 b (Nat.ne_of_lt (Nat.lt_of_lt_of_le (Heap.lt_size e) (I.ok.cab x c hfn hc)))).trans (I.base.keep b o e n hb hx)
    · obtain ⟨sl, e1⟩ := I.base.slot b o e n hb hx
      exact ⟨sl, (hs.2 b (Nat.ne_of_lt (Nat.lt_of_lt_of_le (Heap.lt_size e) (I.ok.cab x c hfn hc)))).trans e1⟩
    · obtain ⟨o', e1⟩ := I.base.there b o e hx
      exact ⟨o', (hs.2 b (Nat.ne_of_lt (Nat.lt_of_lt_of_le (Heap.lt_size e) (I.ok.cab x c hfn hc)))).trans e1⟩
    · by_cases hj : j = i
      · subst hj
        rw [hi] at e1; cases e1
        rw [List.getElem?_set_self hiσ] at e2
        cases e2
        exact ⟨u, r, .inr ⟨.inl hk, c, hc, hc'⟩⟩
      · rw [List.getElem?_set_ne (Ne.symm hj)] at e2
        obtain ⟨u', r', q⟩ := hl j y v' e1 e2 e3
        refine ⟨u', r', ?_⟩
        rcases q with q | ⟨k, c', e, z'⟩
        · exact .inl q
        · refine .inr ⟨k, c', e, z'.sameBut hs ?_⟩
          rintro rfl
          exact hj (nodup_ix hN e1 (I.ok.inj _ _ _ e hc ▸ hi))
    · by_cases hcc : c' = c
      · subst hcc; exact ⟨_, hc'⟩
      · obtain ⟨w2, z2⟩ := I.cell y c' e
        exact ⟨w2, z2.sameBut hs hcc⟩
    · obtain ⟨e, n, ne, nf, d⟩ := I.pin p hp
      refine ⟨(hs.2 p.1 ?_).trans e, n, ne, nf, d⟩
      intro q
      rw [q, hoc] at e
      have q' : oc = p.2 := Option.some.inj e
      exact d w' (by rw [← q']; exact hocd)
theorem store_ok {M : Model} {A : Around} {E : Value → Shared → Prop} {i : Nat} {x : Str} {v : V} {u : Value} {Q : Unit → Shared → Prop} (I : Inv X pins σ H s) (hN : X.N.Nodup) (hi : X.N[i]? = some x) (hx : Loc X.env.scope x) (r : RelV v u)
    (h : ∀ s', Inv X pins (σ.set i (some v)) H s' → Q () s') (hf : X.fn x = true ∨ X.env.scope.names.lookup x = some .local := by first | exact .inl rfl | exact .inr rfl | assumption) : wpAny M A (storeName X.env x u) Q E s :=
  store_ok2 I hN hi hx r (fun s' I' _ => h s' I') hf
/-- behind a call or a block, the state as it is -/
theorem Inv.call' {s' : Shared} {ch : List Addr} (I : Inv X pins σ H s) (ho : s'.os = s.os) (u : Un (frs X.stack) ch H H' s.heap s'.heap) (hok : HOk X.prog X.w H' s'.heap) (hg : AllBare s'.gens)
    (hch : ∀ b ∈ ch, (b ∈ X.ex ∨ X.s₀.heap.objs.size ≤ b) ∧ b ≠ X.env.locals ∧ (∀ x c, X.env.cells.lookup x = some c → c ≠ b) ∧ ∀ p ∈ X.pn ++ pins, p.1 ≠ b) : Inv X pins σ H' s' := by
  obtain ⟨h', g', d', t', o'⟩ := s'
  have e : o' = s.os := ho
  subst e
  exact I.call (g' := g') (t' := t') (d' := d') u hok hg hch
end

/-! ### the judgements -/
/-- an exception: its class, its own dict's address (where it has one), the abstract heap behind it -/
abbrev XK := Value → Option Addr → Hp → Prop
abbrev St := List (Option V)
abbrev VK := V → Hp → Prop
/-- an expression's reading; a test's; an argument list's -/
abbrev TE := St → Hp → VK → Prop
abbrev TT := St → Hp → (Bool → Hp → Prop) → Prop
abbrev TA := St → Hp → (List V → Hp → Prop) → Prop
/-- what is wanted behind a statement -/
structure Ends where
  nx : St → Hp → Prop
  rt : VK
  bk : St → Hp → Prop := fun _ _ => False
  ct : St → Hp → Prop := fun _ _ => False
abbrev TS := Ends → St → Hp → Prop

def EP (X : Cx) (pins : List (Addr × Obj)) (σ : St) (Q : VK) (u : Value) (s' : Shared) : Prop := ∃ v H', Inv X pins σ H' s' ∧ RelV v u ∧ Q v H'
def TP (X : Cx) (pins : List (Addr × Obj)) (σ : St) (Q : Bool → Hp → Prop) (b : Bool) (s' : Shared) : Prop := ∃ H', Inv X pins σ H' s' ∧ Q b H'
def AP (X : Cx) (pins : List (Addr × Obj)) (σ : St) (Q : List V → Hp → Prop) (us : List Value) (s' : Shared) : Prop := ∃ vs H', Inv X pins σ H' s' ∧ Vals vs us ∧ Q vs H'
def SP (X : Cx) (pins : List (Addr × Obj)) (D : Ends) (f : Flow) (s' : Shared) : Prop :=
  match f with
  | .next => ∃ σ' H', Inv X pins σ' H' s' ∧ D.nx σ' H'
  | .brk => ∃ σ' H', Inv X pins σ' H' s' ∧ D.bk σ' H'
  | .cont => ∃ σ' H', Inv X pins σ' H' s' ∧ D.ct σ' H'
  | .ret u => ∃ v σ' H', Inv X pins σ' H' s' ∧ RelV v u ∧ D.rt v H'

structure PE (X : Cx) (e : Expr) (t : TE) : Prop where
  go : ∀ (pins : List (Addr × Obj)) (s : Shared) (σ : St) (H : Hp) (Q : VK), Inv X pins σ H s → t σ H Q → wpAny (model X.prog X.w) X.A (eval e X.env) (EP X pins σ Q) X.xe s
instance {X : Cx} {e : Expr} {t : TE} : CoeFun (PE X e t) (fun _ => ∀ (pins : List (Addr × Obj)) (s : Shared) (σ : St) (H : Hp) (Q : VK), Inv X pins σ H s → t σ H Q → wpAny (model X.prog X.w) X.A (eval e X.env) (EP X pins σ Q) X.xe s) := ⟨PE.go⟩
structure PT (X : Cx) (e : Expr) (t : TT) : Prop where
  go : ∀ (pins : List (Addr × Obj)) (s : Shared) (σ : St) (H : Hp) (Q : Bool → Hp → Prop), Inv X pins σ H s → t σ H Q → wpAny (model X.prog X.w) X.A (isTrue e X.env (eval e X.env)) (TP X pins σ Q) X.xe s
instance {X : Cx} {e : Expr} {t : TT} : CoeFun (PT X e t) (fun _ => ∀ (pins : List (Addr × Obj)) (s : Shared) (σ : St) (H : Hp) (Q : Bool → Hp → Prop), Inv X pins σ H s → t σ H Q → wpAny (model X.prog X.w) X.A (isTrue e X.env (eval e X.env)) (TP X pins σ Q) X.xe s) := ⟨PT.go⟩
/-- a test whatever its 'whole' is (and, or) -/
structure PW (X : Cx) (e : Expr) (t : TT) : Prop where
  go : ∀ (whole : Sem Value) (pins : List (Addr × Obj)) (s : Shared) (σ : St) (H : Hp) (Q : Bool → Hp → Prop), Inv X pins σ H s → t σ H Q → wpAny (model X.prog X.w) X.A (isTrue e X.env whole) (TP X pins σ Q) X.xe s
instance {X : Cx} {e : Expr} {t : TT} : CoeFun (PW X e t) (fun _ => ∀ (whole : Sem Value) (pins : List (Addr × Obj)) (s : Shared) (σ : St) (H : Hp) (Q : Bool → Hp → Prop), Inv X pins σ H s → t σ H Q → wpAny (model X.prog X.w) X.A (isTrue e X.env whole) (TP X pins σ Q) X.xe s) := ⟨PW.go⟩
theorem PW.pt {X : Cx} {e : Expr} {t : TT} (h : PW X e t) : PT X e t := .mk (h _)
/-- an argument list (no star), from the left -/
structure PA (X : Cx) (es : List Expr) (t : TA) : Prop where
  go : ∀ (pos : Pos) (pins : List (Addr × Obj)) (s : Shared) (σ : St) (H : Hp) (Q : List V → Hp → Prop), Inv X pins σ H s → t σ H Q → wpAny (model X.prog X.w) X.A (spliced (backTo pos (starEach es X.env))) (AP X pins σ Q) X.xe s
instance {X : Cx} {es : List Expr} {t : TA} : CoeFun (PA X es t) (fun _ => ∀ (pos : Pos) (pins : List (Addr × Obj)) (s : Shared) (σ : St) (H : Hp) (Q : List V → Hp → Prop), Inv X pins σ H s → t σ H Q → wpAny (model X.prog X.w) X.A (spliced (backTo pos (starEach es X.env))) (AP X pins σ Q) X.xe s) := ⟨PA.go⟩
structure PS (X : Cx) (st : Stmt) (t : TS) : Prop where
  go : ∀ (pins : List (Addr × Obj)) (s : Shared) (σ : St) (H : Hp) (D : Ends), Inv X pins σ H s → t D σ H → wpAny (model X.prog X.w) X.A (exec st X.env) (SP X pins D) X.xe s
instance {X : Cx} {st : Stmt} {t : TS} : CoeFun (PS X st t) (fun _ => ∀ (pins : List (Addr × Obj)) (s : Shared) (σ : St) (H : Hp) (D : Ends), Inv X pins σ H s → t D σ H → wpAny (model X.prog X.w) X.A (exec st X.env) (SP X pins D) X.xe s) := ⟨PS.go⟩
structure PSs (X : Cx) (st : List Stmt) (t : TS) : Prop where
  go : ∀ (pins : List (Addr × Obj)) (s : Shared) (σ : St) (H : Hp) (D : Ends), Inv X pins σ H s → t D σ H → wpAny (model X.prog X.w) X.A (execs st X.env) (SP X pins D) X.xe s
instance {X : Cx} {st : List Stmt} {t : TS} : CoeFun (PSs X st t) (fun _ => ∀ (pins : List (Addr × Obj)) (s : Shared) (σ : St) (H : Hp) (D : Ends), Inv X pins σ H s → t D σ H → wpAny (model X.prog X.w) X.A (execs st X.env) (SP X pins D) X.xe s) := ⟨PSs.go⟩
/-- weaken the end -/
theorem thn {α : Type} {t : Sem α} {Q Q' : α → Shared → Prop} {M : Model} {A : Around} {E : Value → Shared → Prop} {s : Shared} (h : wpAny M A t Q E s) (hQ : ∀ a s, Q a s → Q' a s) : wpAny M A t Q' E s := wpAny_mono h hQ fun _ _ x => x
end L2

namespace L2
open PySem PySem.Spec PyProof.Rows
section
variable {X : Cx}


/-! ### names and constants -/
inductive tVar (i : Nat) (σ : St) (H : Hp) (Q : VK) : Prop
  | mk (v : V) (e : σ[i]? = some (some v)) (q : Q v H) : tVar i σ H Q
abbrev tC (v : V) : TE := fun _ H Q => Q v H
theorem pe_var {i : Nat} {x : Str} {pos : Pos} (hN : X.N[i]? = some x) (hv : Vis X.env.scope x) (hd : (x == ("__debug__" : Str)) = false := by decide) (hcd : (x == ("__classdict__" : Str)) = false := by decide) : PE X (.Name x pos) (tVar i) := by
  refine ⟨?_⟩
  intro pins s σ H Q I h
  obtain ⟨v, e, h⟩ := h
  obtain ⟨m, hn, hl⟩ := I.loc
  obtain ⟨u, r, l⟩ := hl i x v hN e hv
  have fin : EP X pins σ Q u s := ⟨v, H, I, r, h⟩
  rcases l with ⟨hk, hm⟩ | ⟨hk, c, hc, hcell⟩
  · exact wpAny_Name (wpAny_loadName_local I.ok.kind hk hn hm fin) hd
  · rcases hk with hk | hk
    · exact wpAny_Name (wpAny_loadName_cell I.ok.kind hk hc hcell fin) hd
    · exact wpAny_Name (wpAny_loadName_free I.ok.kind hk hc hcell fin hcd) hd
theorem pe_int {i j pos} : PE X (.Constant (.int i) j pos) (tC (.int i)) := .mk fun _ _ _ H _ I h => wpAny_Constant_int ⟨.int i, H, I.tok _, ⟨_, rfl⟩, h⟩
theorem pe_bl {b j pos} : PE X (.Constant (.bool b) j pos) (tC (.bl b)) := .mk fun _ _ _ H _ I h => Constant_bool ⟨.bl b, H, I, rfl, h⟩
theorem pe_non {j pos} : PE X (.Constant .none j pos) (tC .non) := .mk fun _ _ _ H _ I h => Constant_none ⟨.non, H, I, rfl, h⟩
theorem pe_str {x j pos} : PE X (.Constant (.str x) j pos) (tC (.str x)) := .mk fun _ _ _ H _ I h => Calls.Constant_str ⟨.str x, H, I.tok _, ⟨_, rfl⟩, h⟩

/-- a global name of the def -/
def Gl (X : Cx) (x : Str) : Prop := X.env.kindOf x = some .globalImplicit
theorem ld_glob {E : Value → Shared → Prop} {pins : List (Addr × Obj)} {s : Shared} {σ : St} {H : Hp} {x : Str} {u : Value} {pos : Pos} {Q : Value → Shared → Prop} (I : Inv X pins σ H s) (hg : Gl X x) (hm : X.mg x = some u) (h : Q u s)
    (hd : (x == ("__debug__" : Str)) = false := by decide) : wpAny (model X.prog X.w) X.A (eval (.Name x pos) X.env) Q E s :=
  Calls.Name_function_global I.ok.kind hg (Calls.loadGlobal_global (by rw [I.ok.glob]; exact I.mod.glob.keeps I.bk) hm h) hd
theorem ld_blt {E : Value → Shared → Prop} {pins : List (Addr × Obj)} {s : Shared} {σ : St} {H : Hp} {x : Str} {u : Value} {pos : Pos} {Q : Value → Shared → Prop} (I : Inv X pins σ H s) (hg : Gl X x) (hm : X.mg x = none) (hv : bootBuiltins x = some u) (h : Q u s)
    (hn : x ≠ "__name__" := by decide) (hd : (x == ("__debug__" : Str)) = false := by decide) : wpAny (model X.prog X.w) X.A (eval (.Name x pos) X.env) Q E s := by
  obtain ⟨mb, h1, h2⟩ := I.mod.blt
  exact Calls.Name_function_global I.ok.kind hg (Calls.loadGlobal_builtin (by rw [I.ok.glob]; exact I.mod.glob.keeps I.bk) hm (by rw [I.ok.blt]; exact h1.keeps I.bk) ((h2 x hn).trans hv) h) hd
/-- a module's constant, a class, a function, as a value -/
theorem pe_glob {x : Str} {v : V} {u : Value} {pos : Pos} (hg : Gl X x) (hm : X.mg x = some u) (r : RelV v u) (hd : (x == ("__debug__" : Str)) = false := by decide) : PE X (.Name x pos) (tC v) := .mk
  fun _ _ _ H _ I h => ld_glob I hg hm ⟨v, H, I, r, h⟩ hd
theorem pe_bltn {x : Str} {v : V} {u : Value} {pos : Pos} (hg : Gl X x) (hm : X.mg x = none) (hv : bootBuiltins x = some u) (r : RelV v u) (hn : x ≠ "__name__" := by decide) (hd : (x == ("__debug__" : Str)) = false := by decide) : PE X (.Name x pos) (tC v) := .mk
  fun _ _ _ H _ I h => ld_blt I hg hm hv ⟨v, H, I, r, h⟩ hn hd

/-! ### arithmetic -/
variable {a b : Expr} {ta tb : TE} {pos : Pos}

/-! ### comparisons -/
def PC (X : Cx) (op : CmpOp) (a b : Expr) (t : TE) : Prop :=
  ∀ (pins : List (Addr × Obj)) (s : Shared) (σ : St) (H : Hp) (Q : VK), Inv X pins σ H s → t σ H Q →
    wpAny (model X.prog X.w) X.A (eval a X.env) (fun v s₁ => wpAny (model X.prog X.w) X.A (eval b X.env) (fun u s₂ => wpAny (model X.prog X.w) X.A (compareOp op v u) (EP X pins σ Q) X.xe s₂) X.xe s₁) X.xe s
/-- a comparison as a value, as a test -/
inductive tBx (x : V) (H1 : Hp) (Q : Bool → Hp → Prop) : Prop
  | mk (c : Bool) (e : x = .bl c) (q : Q c H1) : tBx x H1 Q
def tB (t : TE) : TT := fun σ H Q => t σ H fun x H1 => tBx x H1 Q
theorem pt_cmp {op : CmpOp} {t : TE} (h : PC X op a b t) (h1 : behindInMarks op b = false := by first | exact nobehind _ (by decide) (by decide) | rfl) : PT X (.Compare a [op] [b] pos) (tB t) := by
  refine ⟨?_⟩
  intro pins s σ H Q I hw
  refine wpAny_isTrue_Compare1 (thn (h pins s σ H _ I hw) fun v s1 h1 => thn h1 fun u s2 h2 => thn h2 fun c s3 ⟨x, H1, I1, r1, q1⟩ => ?_) h1
  obtain ⟨d, rfl, q⟩ := q1
  cases r1
  exact wpAny_truthy_bool ⟨H1, I1, q⟩
/-- an expression whose value is a bool, as a test -/
theorem pt_val {e : Expr} {t : TE} (h : PE X e t) (he : ∀ whole, isTrue e X.env whole = (do let v ← whole; standAt e.pos; holding [v] (truthy v)) := by intro _; rfl) : PT X e (tB t) := by
  refine ⟨?_⟩
  intro pins s σ H Q I hw
  refine isTrue_plain (thn (h pins s σ H _ I hw) fun v s1 ⟨x, H1, I1, r1, q1⟩ => ?_) (he _)
  obtain ⟨d, rfl, q⟩ := q1
  cases r1
  exact wpAny_truthy_bool ⟨H1, I1, q⟩

/-! ### and, or, not -/
variable {tA tB' : TT} {rest : List Expr}
def tOr (t u : TT) : TT := fun σ H Q => t σ H fun c H1 => if c = true then Q true H1 else u σ H1 Q
def tNot (t : TT) : TT := fun σ H Q => t σ H fun c H1 => Q (!c) H1
theorem pw_or1 (ha : PT X a tA) : PW X (.BoolOp .Or [a] pos) tA := by
  refine ⟨?_⟩
  intro wh pins s σ H Q I h
  refine isTrue_or (thn (ha pins s σ H Q I h) fun c s1 e => ?_)
  cases c with
  | false => exact isTrue_or_nil e
  | true => exact e
theorem pw_or (ha : PT X a tA) (hb : PW X (.BoolOp .Or (b :: rest) pos) tB') : PW X (.BoolOp .Or (a :: b :: rest) pos) (tOr tA tB') := by
  refine ⟨?_⟩
  intro wh pins s σ H Q I h
  refine isTrue_or (thn (ha pins s σ H _ I h) fun c s1 ⟨H1, I1, q1⟩ => ?_)
  cases c with
  | true => exact ⟨H1, I1, q1⟩
  | false => exact hb wh pins s1 σ H1 Q I1 q1
theorem pt_not (ha : PT X a tA) : PT X (.UnaryOp .Not a pos) (tNot tA) := by
  refine ⟨?_⟩
  intro pins s σ H Q I h
  exact isTrue_not (ha pins s σ H (fun c H1 => Q (!c) H1) I h)
/-- .. as values (bools) -/
inductive tAndX (tb : TE) (σ : St) (x : V) (H1 : Hp) (Q : VK) : Prop
  | mk (c : Bool) (e : x = .bl c) (q : if c = true then tb σ H1 Q else Q (.bl false) H1) : tAndX tb σ x H1 Q
def tAndV (ta tb : TE) : TE := fun σ H Q => ta σ H fun x H1 => tAndX tb σ x H1 Q
theorem pe_one {op} {t : TE} (h : PE X a t) : PE X (.BoolOp op [a] pos) t := .mk fun pins s σ H Q I hw => BoolOp_one (h pins s σ H Q I hw)
theorem pe_and (ha : PE X a ta) (hb : PE X (.BoolOp .And (b :: rest) pos) tb) : PE X (.BoolOp .And (a :: b :: rest) pos) (tAndV ta tb) := by
  refine ⟨?_⟩
  intro pins s σ H Q I h
  refine BoolOp_and (thn (ha pins s σ H _ I h) fun v s1 ⟨x, H1, I1, r1, q1⟩ => ?_)
  obtain ⟨c, rfl, q1⟩ := q1
  cases r1
  refine wpAny_truthy_bool ?_
  cases c with
  | true => exact hb pins s1 σ H1 Q I1 q1
  | false => exact ⟨.bl false, H1, I1, rfl, q1⟩
end
end L2

namespace L2
open PySem PySem.Spec PyProof.Rows

/-! ### a list, a tuple that is read: tracked, frozen, or an object of the module -/
def SqL (K : PySem.W.Frag) (H : Hp) (a : Addr) (xs : List V) : Prop :=
  Rd H a (.lst xs) ∨
    ∃ (o : Obj) (its : Array Value) (n : Nat), K.lookup a = some o ∧ o.cls = .type "list" ∧ o.dict = none ∧ o.data = .seq its n ∧ its.size ≤ sizeLine ∧ Vals xs its.toList
def SqT (K : PySem.W.Frag) (H : Hp) (a : Addr) (xs : List V) : Prop :=
  Rd H a (.tup xs) ∨
    ∃ (o : Obj) (its : Array Value) (n : Nat), K.lookup a = some o ∧ o.cls = .type "tuple" ∧ o.data = .seq its n ∧ its.size ≤ sizeLine ∧ Vals xs its.toList
def absV : Value → Option V
  | .none => some .non
  | .bool b => some (.bl b)
  | .int i _ => some (.int i)
  | .str x _ => some (.str x)
  | .bytes b _ => some (.byt b)
  | .float b _ => some (.flt b)
  | .ref a => some (.ref a)
  | .type n => some (.ty n)
  | _ => none
theorem RelV.abs {x : V} {u : Value} (r : RelV x u) : absV u = some x := by
  cases x with
  | non => cases r; rfl
  | bl _ => cases r; rfl
  | int _ => obtain ⟨t, rfl⟩ := r; rfl
  | str _ => obtain ⟨t, rfl⟩ := r; rfl
  | byt _ => obtain ⟨t, rfl⟩ := r; rfl
  | flt _ => obtain ⟨t, rfl⟩ := r; rfl
  | ref _ => cases r; rfl
  | ty _ => cases r; rfl
theorem RelV.inj {x y : V} {u : Value} (r : RelV x u) (q : RelV y u) : x = y := Option.some.inj (r.abs.symm.trans q.abs)
theorem Vals.inj : ∀ {xs ys : List V} {us : List Value}, Vals xs us → Vals ys us → xs = ys
  | _, _, _, .nil, .nil => rfl
  | _, _, _, .cons r t, .cons r' t' => by rw [r.inj r', Vals.inj t t']
section
variable {X : Cx} {pins : List (Addr × Obj)} {σ : St} {H : Hp} {s : Shared} {a : Addr} {xs ys : List V}
theorem SqL.of {K : PySem.W.Frag} (h : H a = some (.lst xs)) : SqL K H a xs := .inl (.inl h)
theorem SqT.of {K : PySem.W.Frag} (h : H a = some (.tup xs)) : SqT K H a xs := .inl (.inl h)
theorem Inv.list (I : Inv X pins σ H s) (h : SqL X.K H a xs) : ∃ its : List Value, Vals xs its ∧ PlainL s.heap a its.toArray ∧ xs.length ≤ sizeLine := by
  rcases h with h | ⟨o, its, n, hk, hc, hd, hs, hz, r⟩
  · obtain ⟨z, its, n, r, e⟩ := h.ok I.hok
    exact ⟨its, r, ⟨_, n, e, rfl, rfl, rfl⟩, z⟩
  · refine ⟨its.toList, r, ⟨o, n, I.kIn a o hk, hc, hd, by simpa using hs⟩, ?_⟩
    have e := r.length
    simp only [Array.length_toList] at e
    omega
theorem Inv.tuple (I : Inv X pins σ H s) (h : SqT X.K H a xs) : ∃ its : List Value, Vals xs its ∧ IsTup s.heap a its.toArray ∧ xs.length ≤ sizeLine := by
  rcases h with h | ⟨o, its, n, hk, hc, hs, hz, r⟩
  · obtain ⟨z, its, r, p⟩ := h.ok I.hok
    exact ⟨its, r, p, z⟩
  · refine ⟨its.toList, r, ⟨o, I.kIn a o hk, hc, n, by simpa using hs⟩, ?_⟩
    have e := r.length
    simp only [Array.length_toList] at e
    omega
theorem Inv.list_inj (I : Inv X pins σ H s) (h : SqL X.K H a xs) (h' : SqL X.K H a ys) : xs = ys := by
  obtain ⟨its, r, ⟨o, n, e, _, _, d⟩, _⟩ := I.list h
  obtain ⟨its', r', ⟨o', n', e', _, _, d'⟩, _⟩ := I.list h'
  rw [e] at e'; cases e'
  rw [d] at d'
  injection d' with d1 _
  have : its = its' := by simpa using congrArg Array.toList d1
  subst this
  exact r.inj r'
theorem Inv.tuple_inj (I : Inv X pins σ H s) (h : SqT X.K H a xs) (h' : SqT X.K H a ys) : xs = ys := by
  obtain ⟨its, r, ⟨o, e, _, n, d⟩, _⟩ := I.tuple h
  obtain ⟨its', r', ⟨o', e', _, n', d'⟩, _⟩ := I.tuple h'
  rw [e] at e'; cases e'
  rw [d] at d'
  injection d' with d1 _
  have : its = its' := by simpa using congrArg Array.toList d1
  subst this
  exact r.inj r'
end

/-! ### another wish about exceptions -/
abbrev Cx.wish (X : Cx) (E : Value → Shared → Prop) : Cx := { X with xe := E }
/-- no exception leaves -/
abbrev Cx.nox (X : Cx) : Cx := X.wish fun _ _ => False
theorem Cx.Ok.wish {X : Cx} (ok : X.Ok) (E : Value → Shared → Prop) : (X.wish E).Ok :=
  ⟨ok.mod, ok.kind, ok.glob, ok.blt, ok.above, ok.inj, ok.has, ok.cab, ok.hd, ok.frames, ok.stk, ok.exf, ok.bs, ok.bsz, ok.noex, ok.exfs, ok.funs, ok.frf⟩
theorem Cx.Ok.unwish {X : Cx} {E : Value → Shared → Prop} (ok : (X.wish E).Ok) : X.Ok :=
  ⟨ok.mod, ok.kind, ok.glob, ok.blt, ok.above, ok.inj, ok.has, ok.cab, ok.hd, ok.frames, ok.stk, ok.exf, ok.bs, ok.bsz, ok.noex, ok.exfs, ok.funs, ok.frf⟩
section
variable {X : Cx} {pins : List (Addr × Obj)} {σ : St} {H : Hp} {s : Shared} {E : Value → Shared → Prop}
theorem Inv.wish (I : Inv X pins σ H s) (E : Value → Shared → Prop) : Inv (X.wish E) pins σ H s := ⟨I.ok.wish E, I.os, I.bare, I.base, I.loc, I.cell, I.free, I.freeC, I.pin, I.hok, I.len⟩
theorem Inv.unwish (I : Inv (X.wish E) pins σ H s) : Inv X pins σ H s := ⟨I.ok.unwish, I.os, I.bare, I.base, I.loc, I.cell, I.free, I.freeC, I.pin, I.hok, I.len⟩
theorem SP.unwish {D : Ends} {f : Flow} {s' : Shared} (h : SP (X.wish E) pins D f s') : SP X pins D f s' := by
  cases f with
  | next => obtain ⟨σ', H', I, q⟩ := h; exact ⟨σ', H', I.unwish, q⟩
  | brk => obtain ⟨σ', H', I, q⟩ := h; exact ⟨σ', H', I.unwish, q⟩
  | cont => obtain ⟨σ', H', I, q⟩ := h; exact ⟨σ', H', I.unwish, q⟩
  | ret u => obtain ⟨v, σ', H', I, r, q⟩ := h; exact ⟨v, σ', H', I.unwish, r, q⟩
theorem PSs.nox {st : List Stmt} {t : TS} (h : PSs X.nox st t) : PSs X st t := .mk fun pins s σ H D I hw =>
  wpAny_mono (h pins s σ H D (I.wish _) hw) (fun _ _ q => q.unwish) fun _ _ z => False.elim z
end

/-! ### blocks and small statements -/
section
variable {X : Cx} {st : Stmt} {rest : List Stmt} {t u : TS} {e : Expr} {te : TE} {pos : Pos}
def tNext : TS := fun D σ H => D.nx σ H
def tSeq (t u : TS) : TS := fun D σ H => t { D with nx := u D } σ H
theorem pss_nil : PSs X [] tNext := .mk fun _ _ σ H _ I h => wpAny_execs_nil ⟨σ, H, I, h⟩
theorem pss_cons (h1 : PS X st t) (h2 : PSs X rest u) : PSs X (st :: rest) (tSeq t u) := by
  refine ⟨?_⟩
  intro pins s σ H D I h
  refine wpAny_execs_cons (thn (h1 pins s σ H { D with nx := u D } I h) fun f s1 q => ?_)
  cases f with
  | next =>
    obtain ⟨σ', H', I', q⟩ := q
    exact h2 pins s1 σ' H' D I' q
  | ret v => exact q
  | brk => exact q
  | cont => exact q
theorem pss_one (h1 : PS X st t) : PSs X [st] t := by
  refine ⟨?_⟩
  intro pins s σ H D I h
  refine wpAny_execs_cons (thn (h1 pins s σ H D I h) fun f s1 q => ?_)
  cases f with
  | next => exact wpAny_execs_nil q
  | ret v => exact q
  | brk => exact q
  | cont => exact q
/-- in a def's body nothing is shown -/
theorem Inv.quiet {pins : List (Addr × Obj)} {σ : St} {H : Hp} {s : Shared} (I : Inv X pins σ H s) : interactive X.env = false := by simp [interactive, I.ok.kind]
/-- an expression whose value is dropped -/
def tDrop (te : TE) : TS := fun D σ H => te σ H fun _ H1 => D.nx σ H1
theorem ps_expr (he : PE X e te) (hs : swapsWith e none pos.line X.env = pure false := by rfl) : PS X (.Expr e pos) (tDrop te) := by
  refine ⟨?_⟩
  intro pins s σ H D I h
  exact wpAny_Expr_any (thn (he pins s σ H _ I h) fun v s1 ⟨x, H1, I1, r1, q1⟩ => ⟨σ, H1, I1, q1⟩) I.quiet hs
def tRet (te : TE) : TS := fun D σ H => te σ H D.rt
theorem ps_ret (he : PE X e te) : PS X (.Return (some e) pos) (tRet te) := by
  refine ⟨?_⟩
  intro pins s σ H D I h
  exact wpAny_Return_some (thn (he pins s σ H _ I h) fun v s1 ⟨x, H1, I1, r1, q1⟩ => ⟨x, σ, H1, I1, r1, q1⟩)
def tIfS (c : TT) (t u : TS) : TS := fun D σ H => c σ H fun b H1 => if b = true then t D σ H1 else u D σ H1
theorem ps_if {c : Expr} {a b : List Stmt} {tc : TT} (hc : PT X c tc) (ha : PSs X a t) (hb : PSs X b u) : PS X (.If c a b pos) (tIfS tc t u) := by
  refine ⟨?_⟩
  intro pins s σ H D I h
  refine wpAny_If (thn (hc pins s σ H _ I h) fun d s1 ⟨H1, I1, q1⟩ => ?_)
  cases d with
  | true => exact ha pins s1 σ H1 D I1 q1
  | false => exact hb pins s1 σ H1 D I1 q1
/-- code that the proof never comes to -/
def tNever : TS := fun _ _ _ => False
theorem ps_never : PS X st tNever := .mk fun _ _ _ _ _ _ h => h.elim
theorem pss_never {sts : List Stmt} : PSs X sts tNever := .mk fun _ _ _ _ _ _ h => h.elim
end

/-! ### targets -/
abbrev TG := V → St → Hp → (St → Hp → Prop) → Prop
abbrev TGs := List V → St → Hp → (St → Hp → Prop) → Prop
def PG (X : Cx) (target : Expr) (t : TG) : Prop :=
  ∀ (pins : List (Addr × Obj)) (s : Shared) (σ : St) (H : Hp) (v : V) (u : Value) (Q : St → Hp → Prop), Inv X pins σ H s → RelV v u → t v σ H Q →
    wpAny (model X.prog X.w) X.A (assign target X.env u) (fun _ s' => ∃ σ' H', Inv X pins σ' H' s' ∧ Q σ' H') X.xe s
/-- several targets, one after another -/
def PGs (X : Cx) (ts : List Expr) (t : TGs) : Prop :=
  ∀ (pins : List (Addr × Obj)) (s : Shared) (σ : St) (H : Hp) (vs : List V) (us : List Value) (Q : St → Hp → Prop), Inv X pins σ H s → Vals vs us → t vs σ H Q →
    wpAny (model X.prog X.w) X.A (assignInOrder ((assignEach ts X.env).map (·.2)) us) (fun _ s' => ∃ σ' H', Inv X pins σ' H' s' ∧ Q σ' H') X.xe s
/-- o[i] = v, by values -/
abbrev TSet := V → V → V → Hp → (Hp → Prop) → Prop
def PSet (X : Cx) (t : TSet) : Prop :=
  ∀ (pins : List (Addr × Obj)) (s : Shared) (σ : St) (H : Hp) (o i v : V) (ov iv u : Value) (Q : Hp → Prop), Inv X pins σ H s → RelV o ov → RelV i iv → RelV v u → t o i v H Q →
    wpAny (model X.prog X.w) X.A (setItem ov iv u) (fun _ s' => ∃ H', Inv X pins σ H' s' ∧ Q H') X.xe s
section
variable {X : Cx} {pos : Pos}
def gName (i : Nat) : TG := fun v σ H Q => Q (σ.set i (some v)) H
theorem pg_name {i : Nat} {x : Str} (hN : X.N.Nodup) (hi : X.N[i]? = some x) (hx : Loc X.env.scope x) (hf : X.fn x = true ∨ X.env.scope.names.lookup x = some .local := by first | exact .inl rfl | exact .inr rfl | assumption) : PG X (.Name x pos) (gName i) := by
  intro pins s σ H v u Q I r h
  exact wpAny_assign_Name (store_ok I hN hi hx r (fun s' I' => ⟨_, H, I', h⟩) hf)
def gNil : TGs := fun vs σ H Q => vs = [] ∧ Q σ H
inductive gCons (t : TG) (u : TGs) (vs : List V) (σ : St) (H : Hp) (Q : St → Hp → Prop) : Prop
  | mk (v : V) (r : List V) (e : vs = v :: r) (q : t v σ H fun σ' H' => u r σ' H' Q) : gCons t u vs σ H Q
theorem pgs_nil : PGs X [] gNil := by
  intro pins s σ H vs us Q I r h
  obtain ⟨e, h⟩ := h
  subst e
  cases r
  exact assignInOrder_nil ⟨σ, H, I, h⟩
theorem pgs_cons {e : Expr} {es : List Expr} {t : TG} {u : TGs} (h1 : PG X e t) (h2 : PGs X es u)
    (hs : (assignEach (e :: es) X.env).map (·.2) = assign e X.env :: (assignEach es X.env).map (·.2) := by rfl) : PGs X (e :: es) (gCons t u) := by
  intro pins s σ H vs us Q I r h
  obtain ⟨v, vr, e1, h⟩ := h
  subst e1
  cases r with
  | cons r rr =>
    rw [hs]
    refine assignInOrder_cons (thn (h1 pins s σ H _ _ _ I r h) fun _ s1 ⟨σ1, H1, I1, q1⟩ => ?_)
    exact h2 pins s1 σ1 H1 _ _ Q I1 rr q1
/-- (a, b, ..) = a tuple of that length -/
inductive gTup (K : PySem.W.Frag) (n : Nat) (t : TGs) (v : V) (σ : St) (H : Hp) (Q : St → Hp → Prop) : Prop
  | mk (a : Addr) (xs : List V) (e : v = .ref a) (h : SqT K H a xs) (l : xs.length = n) (q : t xs σ H Q) : gTup K n t v σ H Q
theorem pg_tup {es : List Expr} {k : Nat} {t : TGs} {n : Nat} (hc : X.calm = true) (h : PGs X es t)
    (hn : (assignEach es X.env).length = n := by rfl) (hst : (assignEach es X.env).findIdx? (·.1) = none := by rfl) : PG X (.Tuple es k pos) (gTup X.K n t) := by
  intro pins s σ H v u Q I r hw
  obtain ⟨a, xs, e1, hq, hl, hw⟩ := hw
  subst e1
  cases r
  obtain ⟨its, rv, ht, hz⟩ := I.tuple hq
  refine assign_Tuple_tuple (I.ok.hd hc) ht (by simp [hn, ← hl, rv.length]) hst fun h' hx => ?_
  have I1 : Inv X pins σ H { s with heap := h' } := I.kept (t' := s.toks) fun b o e => hx b o (Nat.ne_of_lt (Heap.lt_size e)) e
  exact h pins _ σ H xs _ Q I1 (by simpa using rv) hw
/-- o[i] = .. -/
def gSub (to ti : TE) (t : TSet) : TG := fun v σ H Q => to σ H fun o H1 => ti σ H1 fun i H2 => t o i v H2 fun H3 => Q σ H3
theorem pg_sub {o i : Expr} {to ti : TE} {t : TSet} (ho : PE X o to) (hi : PE X i ti) (hs : PSet X t)
    (ha : ∀ v, assign (.Subscript o i pos) X.env v = (do
      let ov ← holding [v] (eval o X.env)
      let iv ← holding [v, ov] (eval i X.env)
      standAt pos
      holding [v, ov, iv] (setItem ov iv v)
      release [v, ov, iv] []) := by intro _; rfl) : PG X (.Subscript o i pos) (gSub to ti t) := by
  intro pins s σ H v u Q I r h
  rw [ha]
  refine wpAny_bind (wpAny_holding (thn (ho pins s σ H _ I h) fun ov s1 ⟨x, H1, I1, r1, q1⟩ => ?_))
  refine wpAny_bind (wpAny_holding (thn (hi pins s1 σ H1 _ I1 q1) fun iv s2 ⟨y, H2, I2, r2, q2⟩ => ?_))
  refine wpAny_bind (wpAny_standAt (wpAny_bind (wpAny_holding (thn (hs pins s2 σ H2 x y v ov iv u _ I2 r1 r2 r q2) fun _ s3 ⟨H3, I3, q3⟩ => ?_))))
  exact wpAny_release ⟨σ, H3, I3, q3⟩
/-- target = value -/
def tAsg (te : TE) (g : TG) : TS := fun D σ H => te σ H fun x H1 => g x σ H1 D.nx
theorem ps_asg {tg e : Expr} {te : TE} {g : TG} (he : PE X e te) (hg : PG X tg g) (hs : swapsWithSole [tg] e pos.line X.env = pure false := by rfl) (hw : swappedStores [tg] e X.env = pure none := by rfl)
    (h1 : (assignEach [tg] X.env).map (·.2) = [assign tg X.env] := by rfl) : PS X (.Assign [tg] e pos) (tAsg te g) := by
  refine ⟨?_⟩
  intro pins s σ H D I h
  refine wpAny_Assign_stores (thn (he pins s σ H _ I h) fun v s1 ⟨x, H1, I1, r1, q1⟩ => ?_) hs hw
  rw [h1]
  exact thn (hg pins s1 σ H1 x v _ I1 r1 q1) fun _ s2 q => q
/-- name = value -/
theorem ps_set {i : Nat} {x : Str} {e : Expr} {te : TE} {pos' : Pos} (hN : X.N.Nodup) (hi : X.N[i]? = some x) (hx : Loc X.env.scope x) (he : PE X e te) (hs : swapsWith e (some (.Name x pos')) pos.line X.env = pure false := by rfl) (hf : X.fn x = true ∨ X.env.scope.names.lookup x = some .local := by first | exact .inl rfl | exact .inr rfl | assumption) :
    PS X (.Assign [.Name x pos'] e pos) (tAsg te (gName i)) := by
  refine ⟨?_⟩
  intro pins s σ H D I h
  refine wpAny_Assign_Name (thn (he pins s σ H _ I h) fun v s1 ⟨y, H1, I1, r1, q1⟩ => ?_) hs
  exact store_ok I1 hN hi hx r1 (fun s2 I2 => ⟨_, H1, I2, q1⟩) hf
end

/-! ### while -/
section
variable {X : Cx} {pos : Pos}
end

/-! ### what a loop or a comprehension walks -/
/-- at turn i: it yields x (the heap may grow), or it stops -/
structure It where
  go : Nat → Hp → Prop
  yld : Nat → Hp → V → Hp → Prop
  stop : Nat → Hp → Prop
/-- the iterator's own objects may turn: they are not the frame's, not pinned, younger than the entry (or a comprehension's own) -/
def FpOk (X : Cx) (pins : List (Addr × Obj)) (H : Hp) (b : Addr) : Prop :=
  H b = none ∧ b ≠ X.env.locals ∧ b ∉ X.fs ∧ (b ∈ X.ex ∨ X.s₀.heap.objs.size ≤ b) ∧ (∀ x c, X.env.cells.lookup x = some c → c ≠ b) ∧ ∀ p ∈ X.pn ++ pins, p.1 ≠ b
theorem Inv.fpOk {X : Cx} {pins : List (Addr × Obj)} {σ : St} {H H' : Hp} {s : Shared} {b : Addr} (I : Inv X pins σ H s) (hb : s.heap.objs.size ≤ b) (hn : H' b = none) : FpOk X pins H' b := by
  refine ⟨hn, Nat.ne_of_gt (Nat.lt_of_lt_of_le I.lt hb), I.nofs hb, .inr (Nat.le_trans I.sz hb), fun x c e z => ?_, fun p hp z => ?_⟩
  · obtain ⟨v, q⟩ := I.cell x c e
    exact absurd (Nat.lt_of_lt_of_le q.lt (by rw [z]; exact hb)) (Nat.lt_irrefl _)
  · exact absurd (Nat.lt_of_lt_of_le (Heap.lt_size (I.pin p hp).1) (by rw [z]; exact hb)) (Nat.lt_irrefl _)
structure Turn (P : Program) (w : World) (K : PySem.W.Frag) (tg : Expr) (J : It) (fp : List Addr) (it : Addr) (tn : Nat → Heap → Prop) : Prop where
  mem : it ∈ fp
  obj : ∀ i h, tn i h → ∀ b ∈ fp, ∃ o, h.get? b = some o ∧ ∀ v, o.data ≠ .cell v
  keep : ∀ i h h', tn i h → (∀ b ∈ fp, ∀ o, h.get? b = some o → h'.get? b = some o) → tn i h'
  item : ∀ (X : Cx), X.prog = P → X.w = w → X.K = K → X.calm = true → ∀ (i : Nat) (pins : List (Addr × Obj)) (s : Shared) (σ : St) (H : Hp) (E : Value → Shared → Prop), Inv X pins σ H s → (∀ b ∈ fp, FpOk X pins H b) → tn i s.heap → J.go i H →
    wpAny (model P w) X.A (pyNext (.ref it)) (fun r s1 => ∃ u, r = some u ∧
      wpAny (model P w) X.A (letOwnedTupleGo tg (.ref it) u) (fun _ s2 => ∃ x H', Inv X pins σ H' s2 ∧ RelV x u ∧ J.yld i H x H' ∧ tn (i + 1) s2.heap ∧ ∀ b ∈ fp, H' b = none) E s1) E s
  done : ∀ (X : Cx), X.prog = P → X.w = w → X.K = K → X.calm = true → ∀ (i : Nat) (pins : List (Addr × Obj)) (s : Shared) (σ : St) (H : Hp) (E : Value → Shared → Prop), Inv X pins σ H s → (∀ b ∈ fp, FpOk X pins H b) → tn i s.heap → J.stop i H →
    wpAny (model P w) X.A (pyNext (.ref it)) (fun r s1 => r = none ∧ Inv X pins σ H s1) E s
  self : ∀ (A : Around) (i : Nat) (s : Shared) (Q : Value → Shared → Prop) (E : Value → Shared → Prop), tn i s.heap → Q (.ref it) s → wpAny (model P w) A (pyIter (.ref it)) Q E s
abbrev TI := St → Hp → (It → Hp → Prop) → Prop
/-- an iterator has come -/
def PIE (X : Cx) (pins : List (Addr × Obj)) (σ : St) (tg : Expr) (R : It → Hp → Prop) (itv : Value) (s2 : Shared) : Prop :=
  ∃ (it : Addr) (fp : List Addr) (tn : Nat → Heap → Prop) (J : It) (H' : Hp), itv = .ref it ∧ Inv X pins σ H' s2 ∧ Turn X.prog X.w X.K tg J fp it tn ∧ tn 0 s2.heap ∧ (∀ b ∈ fp, FpOk X pins H' b) ∧ R J H'
def PI (X : Cx) (tg iter : Expr) (wi : TI) : Prop :=
  ∀ (pins : List (Addr × Obj)) (s : Shared) (σ : St) (H : Hp) (R : It → Hp → Prop), Inv X pins σ H s → wi σ H R →
    wpAny (model X.prog X.w) X.A (eval iter X.env) (fun v s1 => wpAny (model X.prog X.w) X.A (pyIter v) (PIE X pins σ tg R) X.xe s1) X.xe s

/-- the step ahead of the store is nothing for an iterator that keeps no tuple -/
theorem go_of {M : Model} {A : Around} {E : Value → Shared → Prop} {s : Shared} {tg : Expr} {it : Addr} {u : Value} {o : Obj} {n : String} {vs : Array Value} {Q : Unit → Shared → Prop} (ho : s.heap.get? it = some o) (hc : o.cls = .type n) (hd : o.data = .fields vs)
    (hn : ["enumerate", "zip", "dict_itemiterator", "dict_reverseitemiterator", "odict_iterator", "itertools.zip_longest", "itertools.pairwise"].contains n = false) (hQ : Q () s) : wpAny M A (letOwnedTupleGo tg (.ref it) u) Q E s := by
  unfold letOwnedTupleGo
  cases tg <;> first
    | exact wpAny_pure hQ
    | (cases u <;> first
        | exact wpAny_pure hQ
        | (refine wpAny_bind (wpAny_load ho ?_)
           rw [hc, hd]
           show wpAny M A (if (["enumerate", "zip", "dict_itemiterator", "dict_reverseitemiterator", "odict_iterator", "itertools.zip_longest", "itertools.pairwise"].contains n && vs[0]? == some (rawInt _)) = true then _ else _) Q E s
           rw [if_neg (by intro h; rw [hn, Bool.false_and] at h; cases h)]
           exact wpAny_pure hQ))

/-- the list at a, as it stands at each turn (a loop may append to it) -/
def Itl (K : PySem.W.Frag) (a : Addr) : It :=
  ⟨fun i H => ∃ xs x, SqL K H a xs ∧ xs[i]? = some x, fun i H x H' => H' = H ∧ ∀ xs, SqL K H a xs → xs[i]? = some x, fun i H => ∃ xs, SqL K H a xs ∧ xs.length ≤ i⟩
def Itt (K : PySem.W.Frag) (a : Addr) : It :=
  ⟨fun i H => ∃ xs x, SqT K H a xs ∧ xs[i]? = some x, fun i H x H' => H' = H ∧ ∀ xs, SqT K H a xs → xs[i]? = some x, fun i H => ∃ xs, SqT K H a xs ∧ xs.length ≤ i⟩
/-- lo, lo + 1, .. (n of them) -/
def Itr (lo : Int) (n : Nat) : It := ⟨fun i _ => i < n, fun i H x H' => H' = H ∧ x = .int (lo + i), fun i _ => n ≤ i⟩
theorem turn_list {P : Program} {w : World} {K : PySem.W.Frag} {tg : Expr} (a it : Addr) : Turn P w K tg (Itl K a) [it] it (fun i h => h.IsListIter it a i) where
  mem := by simp
  obj := fun i h st b hb => by
    have e : b = it := by simpa using hb
    subst e
    obtain ⟨o, e, c, d⟩ := st
    exact ⟨o, e, fun v z => by rw [d] at z; cases z⟩
  keep := fun i h h' st k => st.at fun o e => k it (by simp) o e
  item := by
    intro X hP hw hK hc i pins s σ H E I hf st hg
    subst hP hw hK
    obtain ⟨xs, x, hq, hx⟩ := hg
    obtain ⟨its, rv, p, hz⟩ := I.list hq
    obtain ⟨u, hu, ru⟩ := rv.get hx
    obtain ⟨f0, f1, f2, f3, f4, f5⟩ := hf it (by simp)
    refine wpAny_pyNext_list_item st p.isList (x := u) (by simpa using hu) fun h' st' sb => ?_
    have I1 : Inv X pins σ H { s with heap := h' } := I.turned (t' := s.toks) (fun b o hb e => (sb.2 b hb).trans e) f0 f1 f3 f4 f5
    obtain ⟨o, e, c, d⟩ := id st'
    exact ⟨u, rfl, go_of (s := { s with heap := h' }) e c d (by decide) ⟨x, H, I1, ru, ⟨rfl, fun ys hy => by rw [I.list_inj hy hq]; exact hx⟩, st', fun b hb => (hf b hb).1⟩⟩
  done := by
    intro X hP hw hK hc i pins s σ H E I hf st hg
    subst hP hw hK
    obtain ⟨xs, hq, hx⟩ := hg
    obtain ⟨its, rv, p, hz⟩ := I.list hq
    obtain ⟨f0, f1, f2, f3, f4, f5⟩ := hf it (by simp)
    have hl := rv.length
    exact wpAny_pyNext_list_end (I.ok.hd hc) st p.isList (by simp; omega) fun h' eb => ⟨rfl, I.turned (t' := s.toks) (fun b o hb e => eb b o hb e) f0 f1 f3 f4 f5⟩
  self := fun _ _ _ _ _ st h => wpAny_pyIter_listiter st h
theorem turn_tuple {P : Program} {w : World} {K : PySem.W.Frag} {tg : Expr} (a it : Addr) : Turn P w K tg (Itt K a) [it] it (fun i h => h.IsTupleIter it a i) where
  mem := by simp
  obj := fun i h st b hb => by
    have e : b = it := by simpa using hb
    subst e
    obtain ⟨o, e, c, d⟩ := st
    exact ⟨o, e, fun v z => by rw [d] at z; cases z⟩
  keep := fun i h h' st k => st.at fun o e => k it (by simp) o e
  item := by
    intro X hP hw hK hc i pins s σ H E I hf st hg
    subst hP hw hK
    obtain ⟨xs, x, hq, hx⟩ := hg
    obtain ⟨its, rv, p, hz⟩ := I.tuple hq
    obtain ⟨u, hu, ru⟩ := rv.get hx
    obtain ⟨f0, f1, f2, f3, f4, f5⟩ := hf it (by simp)
    refine wpAny_pyNext_tuple_item st (show s.heap.IsTuple a its.toArray from p) (x := u) (by simpa using hu) fun h' st' sb => ?_
    have I1 : Inv X pins σ H { s with heap := h' } := I.turned (t' := s.toks) (fun b o hb e => (sb.2 b hb).trans e) f0 f1 f3 f4 f5
    obtain ⟨o, e, c, d⟩ := id st'
    exact ⟨u, rfl, go_of (s := { s with heap := h' }) e c d (by decide) ⟨x, H, I1, ru, ⟨rfl, fun ys hy => by rw [I.tuple_inj hy hq]; exact hx⟩, st', fun b hb => (hf b hb).1⟩⟩
  done := by
    intro X hP hw hK hc i pins s σ H E I hf st hg
    subst hP hw hK
    obtain ⟨xs, hq, hx⟩ := hg
    obtain ⟨its, rv, p, hz⟩ := I.tuple hq
    obtain ⟨f0, f1, f2, f3, f4, f5⟩ := hf it (by simp)
    have hl := rv.length
    exact wpAny_pyNext_tuple_end (I.ok.hd hc) st (show s.heap.IsTuple a its.toArray from p) (by simp; omega) fun h' eb => ⟨rfl, I.turned (t' := s.toks) (fun b o hb e => eb b o hb e) f0 f1 f3 f4 f5⟩
  self := fun _ _ _ _ _ st h => wpAny_pyIter_tupleiter st h
theorem turn_range {P : Program} {w : World} {K : PySem.W.Frag} {tg : Expr} (it : Addr) (lo : Int) (n : Nat) : Turn P w K tg (Itr lo n) [it] it (fun i h => IsRangeIter h it (lo + (i : Nat) * 1) ((n : Int) - (i : Nat)) 1) where
  mem := by simp
  obj := fun i h st b hb => by
    have e : b = it := by simpa using hb
    subst e
    exact ⟨_, st, fun v z => by
      have z' : Data.fields _ = Data.cell v := z
      cases z'⟩
  keep := fun i h h' st k => k it (by simp) _ st
  item := by
    intro X hP hw hK hc i pins s σ H E I hf st hg
    subst hP hw hK
    obtain ⟨f0, f1, f2, f3, f4, f5⟩ := hf it (by simp)
    have W := Walks.range (prog := X.prog) (w := X.w) (I.ok.hd hc) it lo 1 n
    refine W.item i s _ _ hg st fun v h' tk hv st' kk => ?_
    obtain ⟨t, rfl⟩ := hv
    have I1 : Inv X pins σ H { s with heap := h', toks := tk } := I.turned (fun b o hb e => kk b o (by simpa using hb) e) f0 f1 f3 f4 f5
    refine ⟨_, rfl, go_of (s := { s with heap := h', toks := tk }) (n := "range_iterator") st' rfl rfl (by decide) ⟨.int (lo + i), H, I1, ⟨t, ?_⟩, ⟨rfl, rfl⟩, st', fun b hb => (hf b hb).1⟩⟩
    rw [Int.mul_one]
  done := by
    intro X hP hw hK hc i pins s σ H E I hf st hg
    subst hP hw hK
    obtain ⟨f0, f1, f2, f3, f4, f5⟩ := hf it (by simp)
    exact wpAny_pyNext_range_end (I.ok.hd hc) st (by have : n ≤ i := hg; omega) fun h' eb => ⟨rfl, I.turned (t' := s.toks) (fun b o hb e => eb b o hb e) f0 f1 f3 f4 f5⟩
  self := fun _ _ _ _ _ st h => wpAny_pyIter_rangeiter st h
end L2

namespace L2
open PySem PySem.Spec PyProof.Rows
section
variable {X : Cx} {tg : Expr}
inductive iListX (K : PySem.W.Frag) (R : It → Hp → Prop) (x : V) (H1 : Hp) : Prop
  | mk (a : Addr) (e : x = .ref a) (h : ∃ xs, SqL K H1 a xs) (q : R (Itl K a) H1) : iListX K R x H1
def iList (K : PySem.W.Frag) (tl : TE) : TI := fun σ H R => tl σ H fun x H1 => iListX K R x H1
theorem pi_list {l : Expr} {tl : TE} (hl : PE X l tl) : PI X tg l (iList X.K tl) := by
  intro pins s σ H R I h
  refine thn (hl pins s σ H _ I h) fun v s1 ⟨x, H1, I1, r1, q1⟩ => ?_
  obtain ⟨a, e, ⟨xs, hq⟩, q⟩ := q1
  subst e
  cases r1
  obtain ⟨its, rv, p, hz⟩ := I1.list hq
  refine wpAny_pyIter_list p.isList ?_
  refine ⟨s1.heap.objs.size, [s1.heap.objs.size], _, _, H1, rfl, I1.kept (t' := s1.toks) fun b o e => Heap.get?_push_of_some _ e, turn_list a _, ⟨_, Heap.get?_push_size _ rfl, rfl, rfl⟩, fun b hb => ?_, q⟩
  have e : b = s1.heap.objs.size := by simpa using hb
  subst e
  exact I1.fpOk (Nat.le_refl _) (I1.hok.fresh (Nat.le_refl _))
/-- a range object just made, walked -/
theorem range_it {pins : List (Addr × Obj)} {σ : St} {H : Hp} {s : Shared} {R : It → Hp → Prop} {E : Value → Shared → Prop} {lo hi : Int} {t u v : Tok} {tk : Nat} (I : Inv X pins σ H s) (h1 : -(2 ^ 62) ≤ lo) (h2 : lo < 2 ^ 62) (h3 : -(2 ^ 62) ≤ hi) (h4 : hi < 2 ^ 62)
    (q : R (Itr lo (hi - lo).toNat) H) : wpAny (model X.prog X.w) X.A (pyIter (.ref s.heap.objs.size)) (PIE X pins σ tg R) E { s with heap := s.heap.push { cls := .type "range", data := .fields #[.int lo t, .int hi u, .int 1 v] }, toks := tk } := by
  refine wpAny_pyIter_range (IsRange.new ..) (small_one h1 h2 h3 h4) ?_
  have I1 : Inv X pins σ H { s with heap := s.heap.push { cls := .type "range", data := .fields #[.int lo t, .int hi u, .int 1 v] }, toks := tk } := I.kept fun b o e => Heap.get?_push_of_some _ e
  refine ⟨(s.heap.push { cls := .type "range", data := .fields #[.int lo t, .int hi u, .int 1 v] }).objs.size, [(s.heap.push { cls := .type "range", data := .fields #[.int lo t, .int hi u, .int 1 v] }).objs.size], _, _, H, rfl,
    I1.kept (t' := tk) fun b o e => Heap.get?_push_of_some _ e, turn_range _ lo (hi - lo).toNat, ?_, fun b hb => ?_, q⟩
  · have e1 : lo + ((0 : Nat) : Int) * 1 = lo := by simp
    have e2 : (((hi - lo).toNat : Nat) : Int) - ((0 : Nat) : Int) = Builtin.Range.rangeSize lo hi 1 := by rw [rangeSize_one]; split <;> omega
    show IsRangeIter _ _ (lo + ((0 : Nat) : Int) * 1) ((((hi - lo).toNat : Nat) : Int) - ((0 : Nat) : Int)) 1
    rw [e1, e2]
    exact Heap.get?_push_size _ rfl
  · have e : b = (s.heap.push { cls := .type "range", data := .fields #[.int lo t, .int hi u, .int 1 v] }).objs.size := by simpa using hb
    subst e
    exact I1.fpOk (Nat.le_refl _) (I1.hok.fresh (Nat.le_refl _))
inductive iRng1X (R : It → Hp → Prop) (vs : List V) (H1 : Hp) : Prop
  | mk (j : Int) (e : vs = [.int j]) (h1 : -(2 ^ 62) ≤ j) (h2 : j < 2 ^ 62) (q : R (Itr 0 j.toNat) H1) : iRng1X R vs H1
def iRng1 (ta : TA) : TI := fun σ H R => ta σ H fun vs H1 => iRng1X R vs H1
theorem pi_range1 {a : Expr} {ta : TA} {p pos : Pos} (hg : Gl X "range") (hm : X.mg "range" = none) (ha : PA X [a] ta) (hs : starEach [a] X.env = [(false, eval a X.env)] := by rfl) : PI X tg (.Call (.Name "range" p) [a] [] pos) (iRng1 ta) := by
  intro pins s σ H R I h
  refine Call_ (ld_blt I hg hm boot_range (PyProof.Rows.callWith_type1 (thn (ha pos pins s σ H _ I h) fun us s1 ⟨vs, H1, I1, r1, q1⟩ => ?_) hs rfl))
  obtain ⟨j, e, q1, q2, q⟩ := q1
  subst e
  cases r1 with
  | cons r rr =>
    cases rr
    obtain ⟨t, rfl⟩ := r
    exact call_range_1 (range_it I1 (by omega) (by omega) q1 q2 (by simpa using q))

/-! ### for -/
/-- W: the invariant by the turn and a measure; N: what the body is to reach -/
def tFor (wi : TI) (g : TG) (tb : TS) : TS := fun D σ H => wi σ H fun J H1 => ∃ W : Nat → Nat → St → Hp → Prop, (∃ m, W 0 m σ H1) ∧ ∀ i m σ H, W i m σ H →
  (J.stop i H ∧ D.nx σ H) ∨ (J.go i H ∧ ∃ N : St → Hp → Prop, (∀ σ' H', N σ' H' → ∃ m', m' < m ∧ W (i + 1) m' σ' H') ∧ ∀ x H', J.yld i H x H' → g x σ H' fun σ2 H2 => tb { D with nx := N, ct := N, bk := D.nx } σ2 H2)
/-- the records at fp as they stand -/
def pinsAt (fp : List Addr) (h : Heap) : List (Addr × Obj) := fp.filterMap fun b => (h.get? b).map fun o => (b, o)
theorem mem_pinsAt {fp : List Addr} {h : Heap} {b : Addr} {o : Obj} (hb : b ∈ fp) (e : h.get? b = some o) : (b, o) ∈ pinsAt fp h := List.mem_filterMap.mpr ⟨b, hb, by rw [e]; rfl⟩
theorem of_pinsAt {fp : List Addr} {h : Heap} {p : Addr × Obj} (hp : p ∈ pinsAt fp h) : p.1 ∈ fp ∧ h.get? p.1 = some p.2 := by
  obtain ⟨b, hb, e⟩ := List.mem_filterMap.mp hp
  cases q : h.get? b with
  | none => rw [q] at e; cases e
  | some o =>
    rw [q] at e
    have e' : (b, o) = p := Option.some.inj e
    subst e'
    exact ⟨hb, q⟩
theorem Inv.pinned {pins : List (Addr × Obj)} {σ : St} {H : Hp} {s : Shared} {fp : List Addr} (I : Inv X pins σ H s) (hf : ∀ b ∈ fp, FpOk X pins H b) (ho : ∀ b ∈ fp, ∃ o, s.heap.get? b = some o ∧ ∀ v, o.data ≠ .cell v) : Inv X (pins ++ pinsAt fp s.heap) σ H s :=
  I.pins_of fun p hp => (List.mem_append.mp hp).elim (fun z => I.pin p (List.mem_append_right _ z)) fun z => by
    obtain ⟨hb, e⟩ := of_pinsAt z
    obtain ⟨f0, f1, f2, _⟩ := hf p.1 hb
    obtain ⟨o, e', d⟩ := ho p.1 hb
    rw [e] at e'; cases e'
    exact ⟨e, f0, f1, f2, d⟩
theorem Inv.unpinned {pins pl : List (Addr × Obj)} {σ : St} {H : Hp} {s : Shared} (I : Inv X (pins ++ pl) σ H s) : Inv X pins σ H s := I.pins_of fun p hp => I.pin p (List.mem_append_right _ (List.mem_append_left _ hp))
theorem ps_for {iter : Expr} {body : List Stmt} {wi : TI} {g : TG} {tb : TS} {pos : Pos} (hp : PassesOwn (model X.prog X.w) X.A X.env X.xe) (hc : X.calm = true) (hi : PI X tg iter wi) (hg : PG X tg g) (hb : PSs X body tb)
    (hs : ∀ x, foldedSetIterable iter X.env x = pure x := by intro _; rfl) : PS X (.For tg iter body [] pos) (tFor wi g tb) := by
  refine ⟨?_⟩
  intro pins s σ H D I h
  refine wpAny_For (thn (hi pins s σ H _ I h) fun v s1 h1 => thn h1 fun itv s2 h2 => ?_) hs
  obtain ⟨it, fp, tn, J, H2, e, I2, T, st2, f2, W, ⟨m0, w0⟩, turn⟩ := h2
  subst e
  have stat : ∀ {H' : Hp}, (∀ b ∈ fp, H' b = none) → ∀ b ∈ fp, FpOk X pins H' b := fun hn b hb => ⟨hn b hb, (f2 b hb).2⟩
  refine codeAny_forLoop_any (fun n s' => ∃ i σ' H', Inv X pins σ' H' s' ∧ tn i s'.heap ∧ (∀ b ∈ fp, H' b = none) ∧ W i n σ' H') ?_ m0 ⟨0, σ, H2, I2, st2, fun b hb => (f2 b hb).1, w0⟩
  rintro n s3 ⟨i, σ3, H3, I3, st3, fr3, w3⟩
  rcases turn i n σ3 H3 w3 with ⟨stop, qn⟩ | ⟨go, N, hN, step⟩
  · refine wpAny_passesOwn hp (thn (T.done X rfl rfl rfl hc i pins s3 σ3 H3 X.xe I3 (stat fr3) st3 stop) fun r s4 ⟨hr, I4⟩ => ?_)
    subst hr
    exact wpAny_execs_nil ⟨σ3, H3, I4, qn⟩
  · refine wpAny_passesOwn hp (thn (T.item X rfl rfl rfl hc i pins s3 σ3 H3 X.xe I3 (stat fr3) st3 go) fun r s4 ⟨u, hr, h4⟩ => ?_)
    subst hr
    refine wpAny_passesOwn hp (thn h4 fun _ s5 ⟨x, H5, I5, r5, y5, st5, fr5⟩ => ?_)
    have I5' := I5.pinned (stat fr5) (T.obj _ _ st5)
    refine wpAny_passesOwn hp (thn (hg _ s5 σ3 H5 x u _ I5' r5 (step x H5 y5)) fun _ s6 ⟨σ6, H6, I6, q6⟩ => ?_)
    refine wpAny_passesOwn hp (thn (hb _ s6 σ6 H6 _ I6 q6) fun f s7 q7 => ?_)
    have again : ∀ {σ7 : St} {H7 : Hp}, Inv X (pins ++ pinsAt fp s5.heap) σ7 H7 s7 → N σ7 H7 → ∃ m, m < n ∧ ∃ i σ' H', Inv X pins σ' H' s7 ∧ tn i s7.heap ∧ (∀ b ∈ fp, H' b = none) ∧ W i m σ' H' := fun {σ7 H7} I7 n7 => by
      obtain ⟨m', hm, w7⟩ := hN σ7 H7 n7
      refine ⟨m', hm, i + 1, σ7, H7, I7.unpinned, T.keep _ _ _ st5 fun b hb o e => (I7.pin (b, o) (List.mem_append_right _ (List.mem_append_right _ (mem_pinsAt hb e)))).1, fun b hb => ?_, w7⟩
      obtain ⟨o, e, d⟩ := T.obj _ _ st5 b hb
      exact (I7.pin (b, o) (List.mem_append_right _ (List.mem_append_right _ (mem_pinsAt hb e)))).2.1
    cases f with
    | next => obtain ⟨σ7, H7, I7, n7⟩ := q7; exact again I7 n7
    | cont => obtain ⟨σ7, H7, I7, n7⟩ := q7; exact again I7 n7
    | brk => obtain ⟨σ7, H7, I7, q7⟩ := q7; exact ⟨σ7, H7, I7.unpinned, q7⟩
    | ret v => obtain ⟨x7, σ7, H7, I7, r7, q7⟩ := q7; exact ⟨x7, σ7, H7, I7.unpinned, r7, q7⟩
end

/-! ### the forms one uses -/
/-- over a list that the body leaves as it is -/
theorem for_list {K : PySem.W.Frag} {a : Addr} {xs : List V} {g : TG} {tb : TS} {D : Ends} {σ : St} {H : Hp} (Pv : Nat → St → Hp → Prop) (h0 : Pv 0 σ H) (hl : ∀ i σ H, i ≤ xs.length → Pv i σ H → SqL K H a xs)
    (hs : ∀ i x σ H, xs[i]? = some x → Pv i σ H → g x σ H fun σ2 H2 => tb { D with nx := Pv (i + 1), ct := Pv (i + 1), bk := D.nx } σ2 H2) (hd : ∀ σ H, Pv xs.length σ H → D.nx σ H) :
    ∃ W : Nat → Nat → St → Hp → Prop, (∃ m, W 0 m σ H) ∧ ∀ i m σ H, W i m σ H →
      ((Itl K a).stop i H ∧ D.nx σ H) ∨ ((Itl K a).go i H ∧ ∃ N : St → Hp → Prop, (∀ σ' H', N σ' H' → ∃ m', m' < m ∧ W (i + 1) m' σ' H') ∧ ∀ x H', (Itl K a).yld i H x H' → g x σ H' fun σ2 H2 => tb { D with nx := N, ct := N, bk := D.nx } σ2 H2) := by
  refine ⟨fun i m σ H => m = xs.length - i ∧ i ≤ xs.length ∧ Pv i σ H, ⟨xs.length, by simp, Nat.zero_le _, h0⟩, ?_⟩
  rintro i m σ H ⟨rfl, hi, p⟩
  have q := hl i σ H hi p
  by_cases hlt : i < xs.length
  · refine .inr ⟨⟨xs, xs[i], q, by simp [hlt]⟩, Pv (i + 1), fun σ' H' p' => ⟨xs.length - (i + 1), by omega, rfl, hlt, p'⟩, fun x H' y => ?_⟩
    obtain ⟨e, y⟩ := y
    subst e
    exact hs i x σ _ (y xs q) p
  · have e : i = xs.length := by omega
    subst e
    exact .inl ⟨⟨xs, q, Nat.le_refl _⟩, hd σ H p⟩
theorem for_range {lo : Int} {n : Nat} {g : TG} {tb : TS} {D : Ends} {σ : St} {H : Hp} (Pv : Nat → St → Hp → Prop) (h0 : Pv 0 σ H)
    (hs : ∀ i σ H, i < n → Pv i σ H → g (.int (lo + i)) σ H fun σ2 H2 => tb { D with nx := Pv (i + 1), ct := Pv (i + 1), bk := D.nx } σ2 H2) (hd : ∀ σ H, Pv n σ H → D.nx σ H) :
    ∃ W : Nat → Nat → St → Hp → Prop, (∃ m, W 0 m σ H) ∧ ∀ i m σ H, W i m σ H →
      ((Itr lo n).stop i H ∧ D.nx σ H) ∨ ((Itr lo n).go i H ∧ ∃ N : St → Hp → Prop, (∀ σ' H', N σ' H' → ∃ m', m' < m ∧ W (i + 1) m' σ' H') ∧ ∀ x H', (Itr lo n).yld i H x H' → g x σ H' fun σ2 H2 => tb { D with nx := N, ct := N, bk := D.nx } σ2 H2) := by
  refine ⟨fun i m σ H => m = n - i ∧ i ≤ n ∧ Pv i σ H, ⟨n, by simp, Nat.zero_le _, h0⟩, ?_⟩
  rintro i m σ H ⟨rfl, hi, p⟩
  by_cases hlt : i < n
  · refine .inr ⟨hlt, Pv (i + 1), fun σ' H' p' => ⟨n - (i + 1), by omega, rfl, hlt, p'⟩, fun x H' y => ?_⟩
    obtain ⟨e, y⟩ := y
    subst e y
    exact hs i σ _ hlt p
  · have e : i = n := by omega
    subst e
    exact .inl ⟨Nat.le_refl _, hd σ H p⟩
end L2

namespace L2
open PySem PySem.Spec PyProof.Rows

abbrev R2 := V → V → Hp → VK → Prop
/-- a two-place operation on values: f is binaryOp op, inplaceOp op or compareOp op -/
def OpR (X : Cx) (f : Value → Value → Sem Value) (r : R2) : Prop :=
  ∀ (pins : List (Addr × Obj)) (s : Shared) (σ : St) (H : Hp) (x y : V) (v u : Value) (Q : VK), Inv X pins σ H s → RelV x v → RelV y u → r x y H Q →
    wpAny (model X.prog X.w) X.A (f v u) (EP X pins σ Q) X.xe s
/-- a call of a value that is known (a builtin, a type) with values -/
def CallR (X : Cx) (f : Value) (r : List V → Hp → VK → Prop) : Prop :=
  ∀ (pins : List (Addr × Obj)) (s : Shared) (σ : St) (H : Hp) (xs : List V) (us : List Value) (Q : VK), Inv X pins σ H s → Vals xs us → r xs H Q →
    wpAny (model X.prog X.w) X.A (call f us) (EP X pins σ Q) X.xe s
/-- a value's truth -/
def TruR (X : Cx) (r : V → Hp → (Bool → Hp → Prop) → Prop) : Prop :=
  ∀ (pins : List (Addr × Obj)) (s : Shared) (σ : St) (H : Hp) (x : V) (v : Value) (Q : Bool → Hp → Prop), Inv X pins σ H s → RelV x v → r x H Q →
    wpAny (model X.prog X.w) X.A (truthy v) (TP X pins σ Q) X.xe s

def tOp (r : R2) (ta tb : TE) : TE := fun σ H Q => ta σ H fun x H1 => tb σ H1 fun y H2 => r x y H2 Q
/-- ints in, under C, and a value out -/
inductive rI (C : Int → Int → Prop) (g : Int → Int → V) (x y : V) (H : Hp) (Q : VK) : Prop
  | mk (i j : Int) (e1 : x = .int i) (e2 : y = .int j) (c : C i j) (q : Q (g i j) H) : rI C g x y H Q
inductive rI0 (g : Int → Int → V) (x y : V) (H : Hp) (Q : VK) : Prop
  | mk (i j : Int) (e1 : x = .int i) (e2 : y = .int j) (q : Q (g i j) H) : rI0 g x y H Q

section
variable {X : Cx} {a b c : Expr} {ta tb tc : TE} {pos : Pos}

theorem binT (ha : PE X a ta) (hb : PE X b tb) {pins : List (Addr × Obj)} {s : Shared} {σ : St} {H : Hp} {R : V → V → Hp → Prop} (I : Inv X pins σ H s)
    (h : ta σ H fun x H1 => tb σ H1 fun y H2 => R x y H2) {Q : Value → Shared → Prop} {f : Value → Value → Sem Value}
    (hf : ∀ v u s2 x y H2, Inv X pins σ H2 s2 → RelV x v → RelV y u → R x y H2 → wpAny (model X.prog X.w) X.A (f v u) Q X.xe s2) :
    wpAny (model X.prog X.w) X.A (eval a X.env) (fun v s₁ => wpAny (model X.prog X.w) X.A (eval b X.env) (fun u s₂ => wpAny (model X.prog X.w) X.A (f v u) Q X.xe s₂) X.xe s₁) X.xe s := by
  refine thn (ha pins s σ H _ I h) fun v s1 ⟨x, H1, I1, r1, q1⟩ => ?_
  refine thn (hb pins s1 σ H1 _ I1 q1) fun u s2 ⟨y, H2, I2, r2, q2⟩ => ?_
  exact hf v u s2 x y H2 I2 r1 r2 q2

theorem pe_op {op : Operator} {r : R2} (ho : OpR X (binaryOp op) r) (ha : PE X a ta) (hb : PE X b tb) : PE X (.BinOp a op b pos) (tOp r ta tb) := by
  refine ⟨?_⟩
  intro pins s σ H Q I h
  exact wpAny_BinOp (binT ha hb I h fun v u s2 x y H2 I2 rx ry q => ho pins s2 σ H2 x y v u Q I2 rx ry q)

/-! ### ints -/
theorem opI {f : Value → Value → Sem Value} {C : Int → Int → Prop} {g : Int → Int → Int}
    (rule : ∀ (i j : Int) (t u : Tok) (s : Shared) (Q : Value → Shared → Prop) (E : Value → Shared → Prop), C i j → Q (.int (g i j) s.toks) { s with toks := s.toks + 1 } → wpAny (model X.prog X.w) X.A (f (.int i t) (.int j u)) Q E s) :
    OpR X f (rI C fun i j => .int (g i j)) := by
  intro pins s σ H x y v u Q I rx ry h
  obtain ⟨i, j, rfl, rfl, hc, q⟩ := h
  obtain ⟨t, rfl⟩ := rx
  obtain ⟨t', rfl⟩ := ry
  exact rule i j t t' s _ _ hc ⟨.int (g i j), H, I.tok _, ⟨_, rfl⟩, q⟩
theorem opI0 {f : Value → Value → Sem Value} {g : Int → Int → Int}
    (rule : ∀ (i j : Int) (t u : Tok) (s : Shared) (Q : Value → Shared → Prop) (E : Value → Shared → Prop), Q (.int (g i j) s.toks) { s with toks := s.toks + 1 } → wpAny (model X.prog X.w) X.A (f (.int i t) (.int j u)) Q E s) :
    OpR X f (rI0 fun i j => .int (g i j)) := by
  intro pins s σ H x y v u Q I rx ry h
  obtain ⟨i, j, rfl, rfl, q⟩ := h
  obtain ⟨t, rfl⟩ := rx
  obtain ⟨t', rfl⟩ := ry
  exact rule i j t t' s _ _ ⟨.int (g i j), H, I.tok _, ⟨_, rfl⟩, q⟩
theorem opB0 {f : Value → Value → Sem Value} {g : Int → Int → Bool}
    (rule : ∀ (i j : Int) (t u : Tok) (s : Shared) (Q : Value → Shared → Prop) (E : Value → Shared → Prop), Q (.bool (g i j)) s → wpAny (model X.prog X.w) X.A (f (.int i t) (.int j u)) Q E s) :
    OpR X f (rI0 fun i j => .bl (g i j)) := by
  intro pins s σ H x y v u Q I rx ry h
  obtain ⟨i, j, rfl, rfl, q⟩ := h
  obtain ⟨t, rfl⟩ := rx
  obtain ⟨t', rfl⟩ := ry
  exact rule i j t t' s _ _ ⟨.bl (g i j), H, I, rfl, q⟩

def CPow (i j : Int) : Prop := 0 ≤ j ∧ j ≤ 1000000 ∧ i.natAbs < 2 ^ 64
def CMul (i j : Int) : Prop := (-(2 ^ 64) < i ∧ i < 2 ^ 64) ∨ (-(2 ^ 64) < j ∧ j < 2 ^ 64)
theorem CMul.ok {i j : Int} (h : CMul i j) : IntMulOk i j := by
  rcases h with ⟨h1, h2⟩ | ⟨h1, h2⟩
  · exact .of_left (intBits_le_64 h1 h2)
  · exact .of_right (intBits_le_64 h1 h2)

theorem op_add : OpR X (binaryOp .Add) (rI0 fun i j => .int (i + j)) := opI0 fun _ _ _ _ _ _ _ q => add_int q
theorem op_sub : OpR X (binaryOp .Sub) (rI0 fun i j => .int (i - j)) := opI0 fun _ _ _ _ _ _ _ q => sub_int q
theorem op_mul : OpR X (binaryOp .Mult) (rI CMul fun i j => .int (i * j)) := opI fun _ _ _ _ _ _ _ hc q => mul_int q hc.ok
/-- % by a positive divisor of any size -/
theorem op_mod : OpR X (binaryOp .Mod) (rI (fun _ j => 0 < j) fun i j => .int (i % j)) := opI fun i j _ _ _ _ _ hc q => by
  have h1 : (0 : Int) < j := hc
  exact mod_int' (by omega) (by rw [Int.fmod_eq_emod_of_nonneg i (by omega)]; exact q)
theorem op_pow : OpR X (binaryOp .Pow) (rI CPow fun i j => .int (i ^ j.toNat)) := opI fun _ _ _ _ _ _ _ hc q => pow_int_small hc.1 hc.2.1 hc.2.2 q



/-! ### bools among ints: n += (a < b) -/
end

/-! ### comparisons -/
/-- the scalars that == tells apart as data does -/
def scal : V → V → Bool
  | .non, .non => true | .non, .int _ => true | .int _, .non => true | .non, .bl _ => true | .bl _, .non => true | .non, .str _ => true | .str _, .non => true
  | .int _, .int _ => true | .bl _, .bl _ => true | .str _, .str _ => true | .byt _, .byt _ => true
  | .int _, .str _ => true | .str _, .int _ => true | .bl _, .str _ => true | .str _, .bl _ => true
  | _, _ => false
def rEq : R2 := fun x y H Q => scal x y = true ∧ Q (.bl (decide (x = y))) H
def rNe : R2 := fun x y H Q => scal x y = true ∧ Q (.bl (!decide (x = y))) H

theorem dec_int {i j : Int} : decide (V.int i = V.int j) = (i == j) := by
  rw [Bool.eq_iff_iff]
  simp
theorem dec_bl {i j : Bool} : decide (V.bl i = V.bl j) = (i == j) := by
  rw [Bool.eq_iff_iff]
  simp
theorem dec_str {i j : Str} : decide (V.str i = V.str j) = (i == j) := by
  rw [Bool.eq_iff_iff]
  simp
theorem dec_byt {i j : Array UInt8} : decide (V.byt i = V.byt j) = (i.toList == j.toList) := by
  rw [Bool.eq_iff_iff]
  cases i
  cases j
  simp

section
variable {X : Cx} {a b c : Expr} {ta tb tc : TE} {pos : Pos}
theorem fin_bl {pins : List (Addr × Obj)} {σ : St} {H : Hp} {s : Shared} {Q : VK} {k k' : Bool} (I : Inv X pins σ H s) (q : Q (.bl k) H) (e : k = k') : EP X pins σ Q (.bool k') s := by
  subst e
  exact ⟨.bl k, H, I, rfl, q⟩
theorem op_eq : OpR X (compareOp .Eq) rEq := by
  intro pins s σ H x y v u Q I rx ry h
  obtain ⟨hs, q⟩ := h
  cases x with
  | non =>
    cases rx
    cases y with
    | non => cases ry; exact PySem.EqNone.eq_none_none (fin_bl I q (by simp))
    | bl j => cases ry; exact PySem.EqNone.eq_none_bool (fin_bl I q (by simp))
    | int j => obtain ⟨t', rfl⟩ := ry; exact PySem.EqNone.eq_none_int (fin_bl I q (by simp))
    | str j => obtain ⟨t', rfl⟩ := ry; exact PySem.EqNone.eq_none_str (fin_bl I q (by simp))
    | _ => exact absurd (show false = true from hs) Bool.false_ne_true
  | bl i =>
    cases rx
    cases y with
    | non => cases ry; exact PySem.EqNone.eq_bool_none (fin_bl I q (by simp))
    | bl j => cases ry; exact eq_bool (fin_bl I q dec_bl)
    | str j => obtain ⟨t', rfl⟩ := ry; exact PySem.EqMixed.eq_bool_str (fin_bl I q (by simp))
    | _ => exact absurd (show false = true from hs) Bool.false_ne_true
  | int i =>
    obtain ⟨t, rfl⟩ := rx
    cases y with
    | non => cases ry; exact PySem.EqNone.eq_int_none (fin_bl I q (by simp))
    | int j => obtain ⟨t', rfl⟩ := ry; exact eq_int (fin_bl I q dec_int)
    | str j => obtain ⟨t', rfl⟩ := ry; exact PySem.EqMixed.eq_int_str (fin_bl I q (by simp))
    | _ => exact absurd (show false = true from hs) Bool.false_ne_true
  | str i =>
    obtain ⟨t, rfl⟩ := rx
    cases y with
    | non => cases ry; exact PySem.EqNone.eq_str_none (fin_bl I q (by simp))
    | bl j => cases ry; exact PySem.EqMixed.eq_str_bool (fin_bl I q (by simp))
    | int j => obtain ⟨t', rfl⟩ := ry; exact PySem.EqMixed.eq_str_int (fin_bl I q (by simp))
    | str j => obtain ⟨t', rfl⟩ := ry; exact eq_str (fin_bl I q dec_str)
    | _ => exact absurd (show false = true from hs) Bool.false_ne_true
  | byt i =>
    obtain ⟨t, rfl⟩ := rx
    cases y with
    | byt j => obtain ⟨t', rfl⟩ := ry; exact PySem.W.eq_bytes (fin_bl I q dec_byt)
    | _ => exact absurd (show false = true from hs) Bool.false_ne_true
  | _ => cases y <;> exact absurd (show false = true from hs) Bool.false_ne_true
theorem op_ne : OpR X (compareOp .NotEq) rNe := by
  intro pins s σ H x y v u Q I rx ry h
  obtain ⟨hs, q⟩ := h
  cases x with
  | non =>
    cases rx
    cases y with
    | non => cases ry; exact PySem.EqNone.ne_none_none (fin_bl I q (by simp))
    | bl j => cases ry; exact PySem.EqNone.ne_none_bool (fin_bl I q (by simp))
    | int j => obtain ⟨t', rfl⟩ := ry; exact PySem.EqNone.ne_none_int (fin_bl I q (by simp))
    | str j => obtain ⟨t', rfl⟩ := ry; exact PySem.EqNone.ne_none_str (fin_bl I q (by simp))
    | _ => exact absurd (show false = true from hs) Bool.false_ne_true
  | bl i =>
    cases rx
    cases y with
    | non => cases ry; exact PySem.EqNone.ne_bool_none (fin_bl I q (by simp))
    | bl j => cases ry; exact ne_bool (fin_bl I q (congrArg not dec_bl))
    | str j => obtain ⟨t', rfl⟩ := ry; exact PySem.EqMixed.ne_bool_str (fin_bl I q (by simp))
    | _ => exact absurd (show false = true from hs) Bool.false_ne_true
  | int i =>
    obtain ⟨t, rfl⟩ := rx
    cases y with
    | non => cases ry; exact PySem.EqNone.ne_int_none (fin_bl I q (by simp))
    | int j => obtain ⟨t', rfl⟩ := ry; exact ne_int (fin_bl I q (congrArg not dec_int))
    | str j => obtain ⟨t', rfl⟩ := ry; exact PySem.EqMixed.ne_int_str (fin_bl I q (by simp))
    | _ => exact absurd (show false = true from hs) Bool.false_ne_true
  | str i =>
    obtain ⟨t, rfl⟩ := rx
    cases y with
    | non => cases ry; exact PySem.EqNone.ne_str_none (fin_bl I q (by simp))
    | bl j => cases ry; exact PySem.EqMixed.ne_str_bool (fin_bl I q (by simp))
    | int j => obtain ⟨t', rfl⟩ := ry; exact PySem.EqMixed.ne_str_int (fin_bl I q (by simp))
    | str j => obtain ⟨t', rfl⟩ := ry; exact ne_str (fin_bl I q (congrArg not dec_str))
    | _ => exact absurd (show false = true from hs) Bool.false_ne_true
  | byt i =>
    obtain ⟨t, rfl⟩ := rx
    cases y with
    | byt j => obtain ⟨t', rfl⟩ := ry; exact PySem.W.ne_bytes (fin_bl I q (congrArg not dec_byt))
    | _ => exact absurd (show false = true from hs) Bool.false_ne_true
  | _ => cases y <;> exact absurd (show false = true from hs) Bool.false_ne_true

theorem op_lt : OpR X (compareOp .Lt) (rI0 fun i j => .bl (decide (i < j))) := opB0 fun _ _ _ _ _ _ _ q => lt_int q
theorem op_le : OpR X (compareOp .LtE) (rI0 fun i j => .bl (decide (i ≤ j))) := opB0 fun _ _ _ _ _ _ _ q => le_int q
theorem op_gt : OpR X (compareOp .Gt) (rI0 fun i j => .bl (decide (j < i))) := opB0 fun _ _ _ _ _ _ _ q => gt_int q
theorem op_ge : OpR X (compareOp .GtE) (rI0 fun i j => .bl (decide (j ≤ i))) := opB0 fun _ _ _ _ _ _ _ q => ge_int q
/-- the one string within the other -/
theorem op_in_str : OpR X (compareOp .In) (fun x y H Q => ∃ i j, x = .str i ∧ y = .str j ∧ Q (.bl (!(Builtin.Str.occurrences j i 0 j.length 1).isEmpty)) H) := by
  intro pins s σ H x y v u Q I rx ry h
  obtain ⟨i, j, rfl, rfl, q⟩ := h
  obtain ⟨t, rfl⟩ := rx
  obtain ⟨t', rfl⟩ := ry
  exact in_str (fin_bl I q rfl)




theorem nomark (b : Expr) {op : CmpOp} (h : op ≠ .In := by decide) (h2 : op ≠ .NotIn := by decide) : behindInMarks op b = false := by
  have e1 : (op == CmpOp.In) = false := by cases op <;> first | rfl | exact absurd rfl h
  have e2 : (op == CmpOp.NotIn) = false := by cases op <;> first | rfl | exact absurd rfl h2
  cases b <;> simp [behindInMarks, e1, e2]
/-- a comparison as a value; hm: nomark b, or (for in, not in) by with_unfolding_all rfl -/
theorem pe_cmpR {op : CmpOp} {r : R2} (ho : OpR X (compareOp op) r) (ha : PE X a ta) (hb : PE X b tb) (hm : behindInMarks op b = false) : PE X (.Compare a [op] [b] pos) (tOp r ta tb) := by
  refine ⟨?_⟩
  intro pins s σ H Q I h
  exact wpAny_Compare1 (binT ha hb I h fun v u s2 x y H2 I2 rx ry q => ho pins s2 σ H2 x y v u Q I2 rx ry q) hm
/-- a reading of a value as a test -/
def tTest (t : TE) : TT := fun σ H Q => t σ H fun x H' => ∃ k, x = .bl k ∧ Q k H'
theorem pt_cmpR {op : CmpOp} {r : R2} (ho : OpR X (compareOp op) r) (ha : PE X a ta) (hb : PE X b tb) (hm : behindInMarks op b = false) : PT X (.Compare a [op] [b] pos) (tTest (tOp r ta tb)) := by
  refine ⟨?_⟩
  intro pins s σ H Q I h
  refine wpAny_isTrue_Compare1 (thn (ha pins s σ H _ I h) fun v s1 ⟨x, H1, I1, r1, q1⟩ => thn (hb pins s1 σ H1 _ I1 q1) fun u s2 ⟨y, H2, I2, r2, q2⟩ =>
    thn (ho pins s2 σ H2 x y v u _ I2 r1 r2 q2) fun c s3 ⟨z, H3, I3, r3, k, e, q3⟩ => ?_) hm
  subst e
  cases r3
  exact wpAny_truthy_bool ⟨H3, I3, q3⟩
/-- a op1 b op2 c -/
def tChain (r r' : R2) (ta tb tc : TE) : TE := fun σ H Q => ta σ H fun x H1 => tb σ H1 fun y H2 => r x y H2 fun z H3 => ∃ k, z = .bl k ∧
  (if k = true then tc σ H3 fun w' H4 => r' y w' H4 Q else Q (.bl false) H3)
theorem pe_chain {op op' : CmpOp} {r r' : R2} (ho : OpR X (compareOp op) r) (ho' : OpR X (compareOp op') r') (ha : PE X a ta) (hb : PE X b tb) (hc : PE X c tc)
    (hm : lastMarks [op, op'] [b, c] = false := by with_unfolding_all rfl) : PE X (.Compare a [op, op'] [b, c] pos) (tChain r r' ta tb tc) := by
  refine ⟨?_⟩
  intro pins s σ H Q I h
  refine Compare_chain (thn (ha pins s σ H _ I h) fun v s1 ⟨x, H1, I1, r1, q1⟩ => chain_link (thn (hb pins s1 σ H1 _ I1 q1) fun u s2 ⟨y, H2, I2, r2, q2⟩ =>
    thn (ho pins s2 σ H2 x y v u _ I2 r1 r2 q2) fun d s3 ⟨z, H3, I3, r3, k, e, q3⟩ => ?_)) hm
  subst e
  cases r3
  refine wpAny_truthy_bool ?_
  cases k with
  | false => exact ite_ff ⟨.bl false, H3, I3, rfl, q3⟩
  | true => exact ite_tt (chain_last (thn (hc pins s3 σ H3 _ I3 q3) fun w' s4 ⟨z', H4, I4, r4, q4⟩ => ho' pins s4 σ H4 y z' u w' Q I4 r2 r4 q4))

/-! ### truth -/
/-- a value's truth by the abstract heap -/
def TruV (K : PySem.W.Frag) (x : V) (H : Hp) (k : Bool) : Prop :=
  match x with
  | .non => k = false
  | .bl b => k = b
  | .int i => k = (i != 0)
  | .str y => y.length ≤ sizeLine ∧ k = ((y.length : Int) != 0)
  | .byt y => y.size ≤ sizeLine ∧ k = ((y.size : Int) != 0)
  | .ref p => (∃ xs, SqL K H p xs ∧ k = !xs.isEmpty) ∨ (∃ xs, SqT K H p xs ∧ k = !xs.isEmpty) ∨ ∃ kvs, H p = some (.dK kvs) ∧ k = !kvs.isEmpty
  | _ => False
theorem isEmpty_kv {κ : Type} {kvs : List (κ × V)} {vs : List (κ × Value)} (r : KV kvs vs) : (!vs.isEmpty) = !kvs.isEmpty := by
  cases r <;> rfl
theorem isEmpty_of {xs : List V} {its : List Value} (r : Vals xs its) : (!its.toArray.isEmpty) = !xs.isEmpty := by
  cases r <;> simp
theorem line63 : (sizeLine : Nat) < 2 ^ 63 := by rw [sizeLine_eq]; decide
theorem tru_ok : TruR X (fun x H Q => ∃ k, TruV X.K x H k ∧ Q k H) := by
  intro pins s σ H x v Q I rx h
  obtain ⟨k, e, q⟩ := h
  have hl := line63
  have hs : sizeLine = 16777216 := sizeLine_eq
  cases x with
  | non =>
    cases rx
    have e' : k = false := e
    subst e'
    exact truthy_none ⟨H, I, q⟩
  | bl b =>
    cases rx
    have e' : k = b := e
    subst e'
    exact wpAny_truthy_bool ⟨H, I, q⟩
  | int i =>
    obtain ⟨t, rfl⟩ := rx
    have e' : k = (i != 0) := e
    subst e'
    exact PySem.P.truthy_int ⟨H, I, q⟩
  | str y =>
    obtain ⟨t, rfl⟩ := rx
    obtain ⟨hy, e'⟩ : y.length ≤ sizeLine ∧ k = ((y.length : Int) != 0) := e
    subst e'
    exact PySem.P.truthy_str (by omega) ⟨H, I.tok _, q⟩
  | byt y =>
    obtain ⟨t, rfl⟩ := rx
    obtain ⟨hy, e'⟩ : y.size ≤ sizeLine ∧ k = ((y.size : Int) != 0) := e
    subst e'
    exact PySem.W.truthy_bytes (by omega) ⟨H, I.tok _, q⟩
  | ref p =>
    cases rx
    have e' : (∃ xs, SqL X.K H p xs ∧ k = !xs.isEmpty) ∨ (∃ xs, SqT X.K H p xs ∧ k = !xs.isEmpty) ∨ ∃ kvs, H p = some (.dK kvs) ∧ k = !kvs.isEmpty := e
    rcases e' with ⟨xs, hx, e'⟩ | ⟨xs, hx, e'⟩ | ⟨kvs, hx, e'⟩
    · subst e'
      obtain ⟨its, r, pl, hz⟩ := I.list hx
      have hlen := r.length
      exact wpAny_truthy_list pl.isList (by simp only [List.size_toArray]; omega) ⟨H, I.tok _, by rw [isEmpty_of r]; exact q⟩
    · subst e'
      obtain ⟨its, r, pl, hz⟩ := I.tuple hx
      have hlen := r.length
      exact truthy_tuple pl (by simp only [List.size_toArray]; omega) ⟨H, I.tok _, by rw [isEmpty_of r]; exact q⟩
    · subst e'
      obtain ⟨hz, hS, vs, r, m⟩ : kvs.length ≤ sizeLine ∧ (p == sysModules) = false ∧ ∃ vs, KV kvs vs ∧ s.heap.DictOf (mixKind X.prog X.w) p vs := I.hok p _ hx
      have hlen : kvs.length = vs.length := Paired.length r
      exact wpAny_truthy_dict hS m (by omega) ⟨H, I.tok _, by rw [isEmpty_kv r]; exact q⟩
  | _ => exact (show False from e).elim
/-- any expression whose test is its value's truth (a name, a call, a subscript, a field ..: he by fun _ => rfl) -/
theorem pt_truth (ha : PE X a ta) (he : ∀ whole, isTrue a X.env whole = (do let v ← whole; standAt a.pos; holding [v] (truthy v))) :
    PT X a (fun σ H Q => ta σ H fun x H' => ∃ k, TruV X.K x H' k ∧ Q k H') := by
  refine ⟨?_⟩
  intro pins s σ H Q I h
  exact isTrue_plain (thn (ha pins s σ H _ I h) fun v s1 ⟨x, H1, I1, r1, q1⟩ => tru_ok pins s1 σ H1 x v Q I1 r1 q1) (he _)

/-! ### strs and bytes -/
theorem op_add_str : OpR X (binaryOp .Add) (fun x y H Q => ∃ i j, x = .str i ∧ y = .str j ∧ i.length + j.length ≤ sizeLine ∧ Q (.str (i ++ j)) H) := by
  intro pins s σ H x y v u Q I rx ry h
  obtain ⟨i, j, rfl, rfl, hz, q⟩ := h
  obtain ⟨t, rfl⟩ := rx
  obtain ⟨t', rfl⟩ := ry
  exact add_str (fun t' tk => ⟨.str (i ++ j), H, I.tok _, ⟨_, rfl⟩, q⟩) hz


/-! ### scalar builtins, by CallR -/
theorem vals1 {x : V} {us : List Value} (r : Vals [x] us) : ∃ u, us = [u] ∧ RelV x u := by
  cases r with
  | cons r1 r2 => cases r2; exact ⟨_, rfl, r1⟩
theorem vals2 {x y : V} {us : List Value} (r : Vals [x, y] us) : ∃ u w', us = [u, w'] ∧ RelV x u ∧ RelV y w' := by
  cases r with
  | cons r1 r2 =>
    cases r2 with
    | cons r3 r4 => cases r4; exact ⟨_, _, rfl, r1, r3⟩
theorem call_max2 (hc : X.calm = true) : CallR X (.builtin "max") (fun xs H Q => ∃ i j, xs = [.int i, .int j] ∧ Q (.int (if j > i then j else i)) H) := by
  intro pins s σ H xs us Q I r h
  obtain ⟨i, j, rfl, q⟩ := h
  obtain ⟨u, w', rfl, ⟨t, rfl⟩, ⟨t', rfl⟩⟩ := vals2 r
  refine max_two_ints (I.ok.hd hc) fun h' tk k => ⟨_, H, I.kept k, ?_, q⟩
  by_cases hj : j > i
  · rw [if_pos hj, if_pos hj]; exact ⟨_, rfl⟩
  · rw [if_neg hj, if_neg hj]; exact ⟨_, rfl⟩
theorem call_min2 (hc : X.calm = true) : CallR X (.builtin "min") (fun xs H Q => ∃ i j, xs = [.int i, .int j] ∧ Q (.int (if j < i then j else i)) H) := by
  intro pins s σ H xs us Q I r h
  obtain ⟨i, j, rfl, q⟩ := h
  obtain ⟨u, w', rfl, ⟨t, rfl⟩, ⟨t', rfl⟩⟩ := vals2 r
  refine min_two_ints (I.ok.hd hc) fun h' tk k => ⟨_, H, I.kept k, ?_, q⟩
  by_cases hj : j < i
  · rw [if_pos hj, if_pos hj]; exact ⟨_, rfl⟩
  · rw [if_neg hj, if_neg hj]; exact ⟨_, rfl⟩
theorem call_int1 : CallR X (.type "int") (fun xs H Q => (∃ i, xs = [.int i] ∧ Q (.int i) H) ∨ ∃ k, xs = [.bl k] ∧ Q (.int (if k then 1 else 0)) H) := by
  intro pins s σ H xs us Q I r h
  rcases h with ⟨i, rfl, q⟩ | ⟨k, rfl, q⟩
  · obtain ⟨u, rfl, t, rfl⟩ := vals1 r
    exact call_int_int ⟨.int i, H, I, ⟨_, rfl⟩, q⟩
  · obtain ⟨u, rfl, r1⟩ := vals1 r
    cases r1
    exact call_int_bool ⟨.int (if k then 1 else 0), H, I.tok _, ⟨_, rfl⟩, q⟩
end
end L2

namespace L2
open PySem PySem.Spec PyProof.Rows

/-! ### an instance, its attributes a map -/
structure ObjM (h : Heap) (x dx C : Addr) (mA : Str → Option Value) : Prop where
  obj : h.get? x = some (PySem.W.instObj C dx)
  ns : h.Ns1 dx mA
  ne : dx ≠ x

theorem lookIn_ns {h : Heap} {dx : Addr} {mA : Str → Option Value} (n : h.Ns1 dx mA) : ∃ od, h.get? dx = some od ∧ ∀ name, PySem.W.lookIn name od = some (mA name) := by
  obtain ⟨o, es, ep, ho, hd, hk, _, hm⟩ := n
  refine ⟨o, ho, fun name => ?_⟩
  have e := hm name
  unfold nsFind findBy at e
  rw [← Array.find?_toList] at e
  unfold PySem.W.lookIn
  rw [hd]
  dsimp only
  split
  · rename_i y q
    rw [q] at e
    exact congrArg some e
  · rename_i q
    rw [q] at e
    have a : es.toList.any (·.refKey) = false := by
      rw [List.any_eq_false]
      intro y hy
      obtain ⟨z, t, hkey⟩ := hk y (Array.mem_toList_iff.mp hy)
      simp [DictEntry.refKey, hkey]
    have a' : ¬ es.toList.any (·.refKey) = true := by rw [a]; exact Bool.false_ne_true
    rw [if_neg a']
    exact congrArg some e

theorem ObjM.look {h : Heap} {x dx C : Addr} {mA : Str → Option Value} (I : ObjM h x dx C mA) : ∃ od, PySem.W.InstAt h x (PySem.W.instObj C dx) C (some od) ∧ ∀ name, PySem.W.lookIn name od = some (mA name) :=
  let ⟨od, ho, hl⟩ := lookIn_ns I.ns
  ⟨od, ⟨I.obj, rfl, rfl, ho⟩, hl⟩

section
variable {prog : Program} {w : World} {A : Around} {E : Value → Shared → Prop} {s : Shared} {K : PySem.W.Frag} {x dx C f : Addr} {mA : Str → Option Value} {name : Str} {v : Value}

theorem get_map {expr : Bool} {Q : Value → Shared → Prop} (X : K.In s.heap) (I : ObjM s.heap x dx C mA) (hg : PySem.W.plainGet K C name = true) (hh : PySem.W.hasDictIn K C = true)
    (ha : PySem.W.findIn K (.ref C) name = some none) (hv : mA name = some v) (hv' : PySem.W.handedIn v = true) (h : Q v { s with toks := s.toks + 1 }) :
    wpAny (model prog w) A (getAttr (.ref x) name expr) Q E s := by
  obtain ⟨od, J, hl⟩ := I.look
  exact PySem.W.get_value X J (PySem.W.plainGet_of hg).1 (PySem.W.findObj_own hh ha rfl (by rw [hl, hv])) hv' h


theorem get_meth {pl : Sem Bool} {Q : Value × List Value → Shared → Prop} (X : K.In s.heap) (I : ObjM s.heap x dx C mA) (hg : PySem.W.plainGet K C name = true)
    (hf : PySem.W.findIn K (.ref C) name = some (some (.ref f))) (ht : PySem.W.isFn K (.ref f) = true) (hv : mA name = none) (h : Q (.ref f, [.ref x]) s) :
    wpAny (model prog w) A (getMethod (.ref x) name pl) Q E s := by
  obtain ⟨od, J, hl⟩ := I.look
  exact PySem.W.method_fn X J (PySem.W.plainGet_of hg).1 (PySem.W.plainGet_of hg).2 hf (beq_iff_eq.mp ht) (by show (PySem.W.lookIn name od).map (·.isSome) = some false; rw [hl, hv]; rfl) h

theorem set_map {ns : List Str} {Q : Unit → Shared → Prop} (X : K.In s.heap) (I : ObjM s.heap x dx C mA)
    (hs : PySem.W.findIn K (.ref C) "__setattr__" = some (some (.builtin "object.__setattr__"))) (hp : PySem.W.plainOver K C = true) (ht : PySem.W.takerIn K C name = some none) (hh : PySem.W.hasDictIn K C = true)
    (hw : PySem.Within mA ns) (hsz : ns.length ≤ sizeLine)
    (h : ∀ h', ObjM h' x dx C (fun y => if y = name then some v else mA y) → Heap.SameBut dx s.heap h' → Q () { s with heap := h', toks := s.toks + 2 }) :
    wpAny (model prog w) A (setAttr (.ref x) name v) Q E s := by
  obtain ⟨od, J, hl⟩ := I.look
  refine PySem.W.set_plain X J hs (PySem.W.osa_open (s := { s with toks := s.toks + 1 }) (r := none) X J hp ht fun b => ?_)
  obtain ⟨cd, hc, hd'⟩ := PySem.W.any_some hh
  have hx : s.heap.get? x = some ⟨.ref C, some dx, .plain, #[]⟩ := I.obj
  refine wpAny_bind (wpAny_pure (wpAny_bind (wpAny_bind (wpAny_loadPart hx (wpAny_bind (PySem.W.Looks.here (s := { s with toks := s.toks + 1 }) (PySem.W.looks_clsIn X hc) ?_))))))
  rw [hd']
  refine wpAny_pure (a := some dx) (wpAny_bind (wpAny_pure (wpAny_bind ?_)))
  refine wpAny_nsSet1 (s := { s with toks := s.toks + 1 }) I.ns fun h' hn2 hs2 => ?_
  obtain ⟨oD, esD, epD, hoD, hdD, hcD⟩ := hn2.count (PySem.Within.cons name v hw)
  refine wpAny_bind (wpAny_lookBehind hoD (by rw [hdD]; exact pastItsLine_dict (Nat.le_trans hcD (by rw [List.length_cons]; omega))) ?_)
  exact wpAny_pure (h _ ⟨(hs2.2 _ (Ne.symm I.ne)).trans I.obj, hn2, I.ne⟩ hs2)

/-- C(..): the dict at the heap's end, the instance behind it; then its __init__ -/
theorem make_map {R : Result → Shared → Prop} {vs : List Value} {kw : List (Str × Value)} (X : K.In s.heap) (hm : PySem.W.makesIn K C = true)
    (hi : PySem.W.findIn K (.ref C) "__init__" = some (some (.ref f))) (hf : PySem.W.typeIn K (.ref f) = some (.type "function"))
    (h : codeAny (model prog w) (A.under (.builtin "type.__call__" ⟨.ref C :: vs, kw⟩)) (.call (.ref f) ⟨.ref (s.heap.objs.size + 1) :: vs, kw⟩) (PySem.W.InitBack (s.heap.objs.size + 1) R)
      { s with heap := (s.heap.push PySem.W.emptyDict).push (PySem.W.instObj C s.heap.objs.size) }) :
    codeAny (model prog w) A (.call (.ref C) ⟨vs, kw⟩) R s := by
  obtain ⟨hh, g, d, t, os⟩ := s
  exact PySem.W.make_core (PySem.W.makes_of X hm) (PySem.W.looks_findIn X hi) (fun self => PySem.W.bind_fn X self hf) (.inl rfl) h
end

/-! ### the attributes as a list of pairs -/
def putF (f : Str) (v : V) : List (Str × V) → List (Str × V)
  | [] => [(f, v)]
  | (g, x) :: r => if g = f then (g, v) :: r else (g, x) :: putF f v r
theorem lookup_putF (f g : Str) (v : V) : ∀ fs : List (Str × V), (putF f v fs).lookup g = if g = f then some v else fs.lookup g
  | [] => by
    show List.lookup g [(f, v)] = _
    by_cases h : g = f
    · have hb : (g == f) = true := beq_iff_eq.mpr h
      simp only [List.lookup, hb, if_pos h]
    · have hb : (g == f) = false := beq_eq_false_iff_ne.mpr h
      simp only [List.lookup, hb, if_neg h]
  | (k, x) :: r => by
    have ih := lookup_putF f g v r
    rw [show putF f v ((k, x) :: r) = (if k = f then (k, v) :: r else (k, x) :: putF f v r) from rfl]
    by_cases hk : k = f
    · rw [if_pos hk]
      by_cases h : g = k
      · have hb : (g == k) = true := beq_iff_eq.mpr h
        simp only [List.lookup, hb, if_pos (h.trans hk)]
      · have hb : (g == k) = false := beq_eq_false_iff_ne.mpr h
        simp only [List.lookup, hb, if_neg (fun e : g = f => h (e.trans hk.symm))]
    · rw [if_neg hk]
      by_cases h : g = k
      · have hb : (g == k) = true := beq_iff_eq.mpr h
        simp only [List.lookup, hb, if_neg (fun e : g = f => hk (h.symm.trans e))]
      · have hb : (g == k) = false := beq_eq_false_iff_ne.mpr h
        simp only [List.lookup, hb]
        exact ih
theorem keys_putF (f : Str) (v : V) : ∀ fs : List (Str × V), f ∈ (putF f v fs).map (·.1) ∧ ∀ g, g ∈ fs.map (·.1) → g ∈ (putF f v fs).map (·.1)
  | [] => ⟨by simp [putF], fun g h => by simp at h⟩
  | (k, x) :: r => by
    obtain ⟨i1, i2⟩ := keys_putF f v r
    rw [show putF f v ((k, x) :: r) = (if k = f then (k, v) :: r else (k, x) :: putF f v r) from rfl]
    by_cases hk : k = f
    · rw [if_pos hk]
      subst hk
      exact ⟨by simp, fun g h => by simpa using h⟩
    · rw [if_neg hk]
      refine ⟨?_, fun g h => ?_⟩
      · rw [List.map_cons]
        exact List.mem_cons_of_mem _ i1
      · rw [List.map_cons] at h ⊢
        rcases List.mem_cons.mp h with e | e
        · exact List.mem_cons.mpr (.inl e)
        · exact List.mem_cons_of_mem _ (i2 g e)
theorem length_putF (f : Str) (v : V) : ∀ fs : List (Str × V), (putF f v fs).length ≤ fs.length + 1
  | [] => by simp [putF]
  | (k, x) :: r => by
    have ih := length_putF f v r
    rw [show putF f v ((k, x) :: r) = (if k = f then (k, v) :: r else (k, x) :: putF f v r) from rfl]
    by_cases hk : k = f
    · rw [if_pos hk, List.length_cons, List.length_cons]; omega
    · rw [if_neg hk, List.length_cons, List.length_cons]; omega

theorem RelO.some_of {v : V} {o : Option Value} (r : RelO (some v) o) : ∃ u, o = some u ∧ RelV v u := by
  cases o with
  | none => exact (show False from r).elim
  | some u => exact ⟨u, rfl, r⟩
theorem RelO.none_of {o : Option Value} (r : RelO none o) : o = none := by
  cases o with
  | none => rfl
  | some u => exact (show False from r).elim
theorem handed_of {v : V} {u : Value} (r : RelV v u) : PySem.W.handedIn u = true := by
  cases v with
  | non => cases (show u = Value.none from r); rfl
  | bl b => cases (show u = Value.bool b from r); rfl
  | int i => obtain ⟨t, e⟩ := (show ∃ t, u = Value.int i t from r); cases e; rfl
  | str x => obtain ⟨t, e⟩ := (show ∃ t, u = Value.str x t from r); cases e; rfl
  | byt b => obtain ⟨t, e⟩ := (show ∃ t, u = Value.bytes b t from r); cases e; rfl
  | flt b => obtain ⟨t, e⟩ := (show ∃ t, u = Value.float b t from r); cases e; rfl
  | ref a => cases (show u = Value.ref a from r); rfl
  | ty n => cases (show u = Value.type n from r); rfl

section
variable {P : Program} {w : World} {H H' : Hp} {h h' : Heap} {a C dx : Addr} {fs fs' : List (Str × V)}
theorem ins_get (hok : HOk P w H h) (e : H a = some (.ins C dx fs)) : ∃ mA, ObjM h a dx C mA ∧ (∀ f, RelO (fs.lookup f) (mA f)) ∧ PySem.Within mA (fs.map (·.1)) ∧ fs.length ≤ 1000 ∧ H dx = some (.own a) := by
  obtain ⟨d, z, ne, ob, mA, n, r, q⟩ := (show ObjOk P w H h a (.ins C dx fs) from hok a _ e)
  exact ⟨mA, ⟨ob, n, ne⟩, r, q, z, d⟩
end

/-! ### what of the text a class must have -/
structure Cls (K : PySem.W.Frag) (C : Addr) : Prop where
  pg : PySem.W.plainGet K C Str.empty = true
  hd : PySem.W.hasDictIn K C = true
  po : PySem.W.plainOver K C = true
  sa : PySem.W.findIn K (.ref C) "__setattr__" = some (some (.builtin "object.__setattr__"))
theorem Cls.get {K : PySem.W.Frag} {C : Addr} (c : Cls K C) (f : Str) : PySem.W.plainGet K C f = true := c.pg
/-- no class of it has the name -/
def NoAttr (K : PySem.W.Frag) (C : Addr) (f : Str) : Prop := PySem.W.findIn K (.ref C) f = some none
theorem NoAttr.taker {K : PySem.W.Frag} {C : Addr} {f : Str} (n : NoAttr K C f) : PySem.W.takerIn K C f = some none := by
  unfold PySem.W.takerIn
  rw [show PySem.W.findIn K (.ref C) f = some none from n]
  rfl
/-- a method: a plain def of the class or of one above it -/
structure Meth (K : PySem.W.Frag) (C : Addr) (m : Str) (f : Addr) : Prop where
  at_ : PySem.W.findIn K (.ref C) m = some (some (.ref f))
  fn : PySem.W.isFn K (.ref f) = true
  kp : PySem.W.keepIn K (.ref f) = true

section
variable {X : Cx} {pins : List (Addr × Obj)} {σ : St} {H : Hp} {s : Shared} {a C dx : Addr} {fs : List (Str × V)} {f : Str} {v : V} {A : Around} {E : Value → Shared → Prop}

theorem getattr_ok {b : Bool} {Q : Value → Shared → Prop} (I : Inv X pins σ H s) (e : H a = some (.ins C dx fs)) (c : Cls X.K C) (n : NoAttr X.K C f) (l : fs.lookup f = some v)
    (h : ∀ u s', Inv X pins σ H s' → RelV v u → Q u s') : wpAny (model X.prog X.w) A (getAttr (.ref a) f b) Q E s := by
  obtain ⟨mA, O, r, _, _, _⟩ := ins_get I.hok e
  obtain ⟨u, hu, ru⟩ := RelO.some_of (v := v) (o := mA f) (by rw [← l]; exact r f)
  exact get_map I.kIn O (c.get f) c.hd n hu (handed_of ru) (h u _ (I.tok _) ru)


theorem getmeth_ok {m : Str} {g : Addr} {pl : Sem Bool} {Q : Value × List Value → Shared → Prop} (I : Inv X pins σ H s) (e : H a = some (.ins C dx fs)) (c : Cls X.K C) (k : Meth X.K C m g) (l : fs.lookup m = none)
    (h : Q (.ref g, [.ref a]) s) : wpAny (model X.prog X.w) A (getMethod (.ref a) m pl) Q E s := by
  obtain ⟨mA, O, r, _, _, _⟩ := ins_get I.hok e
  have hn : mA m = none := RelO.none_of (by rw [← l]; exact r m)
  exact get_meth I.kIn O (c.get m) k.at_ k.fn hn h

theorem setattr_ok {y : V} {u : Value} {Q : Unit → Shared → Prop} (I : Inv X pins σ H s) (e : H a = some (.ins C dx fs)) (c : Cls X.K C) (n : NoAttr X.K C f) (hl : fs.length < 1000) (ry : RelV y u)
    (h : ∀ s', Inv X pins σ (upd H a (.ins C dx (putF f y fs))) s' → Q () s') : wpAny (model X.prog X.w) A (setAttr (.ref a) f u) Q E s := by
  obtain ⟨mA, O, r, wi, _, ho⟩ := ins_get I.hok e
  have hz : (fs.map (·.1)).length ≤ sizeLine := by rw [List.length_map, sizeLine_eq]; omega
  refine set_map I.kIn O c.sa c.po n.taker c.hd wi hz fun h' O' sb => h _ ?_
  have hd : ∃ o, h'.get? dx = some o := let ⟨o, _, _, e', _⟩ := O'.ns; ⟨o, e'⟩
  refine I.write (x := a) (e := dx) (by rw [e]; exact True.intro) (.inr ho) (fun b q hb z => (sb.2 b hb).trans z) hd ?_
  refine ⟨by rw [upd_ne O.ne]; exact ho, ?_, O.ne, O'.obj, _, O'.ns, fun g => ?_, fun g hg => ?_⟩
  · have := length_putF f y fs; omega
  · show RelO ((putF f y fs).lookup g) (if g = f then some u else mA g)
    rw [lookup_putF]
    by_cases q : g = f
    · rw [if_pos q, if_pos q]; exact ry
    · rw [if_neg q, if_neg q]; exact r g
  · by_cases q : g = f
    · rw [q]; exact (keys_putF f y fs).1
    · refine (keys_putF f y fs).2 g (wi g fun z => hg ?_)
      show (if g = f then some u else mA g) = none
      rw [if_neg q]; exact z

/-- a new instance, tracked, without attributes -/
theorem Inv.made (I : Inv X pins σ H s) : Inv X pins σ (upd (upd H s.heap.objs.size (.own (s.heap.objs.size + 1))) (s.heap.objs.size + 1) (.ins C s.heap.objs.size []))
    { s with heap := (s.heap.push PySem.W.emptyDict).push (PySem.W.instObj C s.heap.objs.size) } := by
  have e1 : (s.heap.push PySem.W.emptyDict).get? s.heap.objs.size = some PySem.W.emptyDict := Heap.get?_push_size s.heap rfl
  have e2 : ((s.heap.push PySem.W.emptyDict).push (PySem.W.instObj C s.heap.objs.size)).get? (s.heap.objs.size + 1) = some (PySem.W.instObj C s.heap.objs.size) := by
    have := Heap.get?_push_size (s.heap.push PySem.W.emptyDict) (o := PySem.W.instObj C s.heap.objs.size) rfl
    rwa [Heap.size_push] at this
  have e3 : (s.heap.push PySem.W.emptyDict).Ns s.heap.objs.size (fun _ => none) := ⟨PySem.W.emptyDict, #[], _, e1, rfl, (fun e he => absurd he (by simp)), fun _ => rfl⟩
  have I1 := I.laid (a := s.heap.objs.size) (o := .own (s.heap.objs.size + 1)) (h' := s.heap.push PySem.W.emptyDict) (t' := s.toks) (fun b u q => Heap.get?_push_of_some _ q) (Nat.le_refl _) ⟨_, e1⟩
  refine I1.laid (a := s.heap.objs.size + 1) (o := .ins C s.heap.objs.size []) (t' := s.toks) (fun b u q => Heap.get?_push_of_some _ q) (Nat.le_of_eq (Heap.size_push _ _)) ?_
  have ne : s.heap.objs.size ≠ s.heap.objs.size + 1 := Nat.ne_of_lt (Nat.lt_succ_self _)
  refine ⟨by rw [upd_ne ne, upd_same], Nat.zero_le _, ne, e2, fun _ => none, (Heap.Ns1.of_empty e3).at fun o q => Heap.get?_push_of_some _ q, fun _ => True.intro, fun y hy => absurd rfl hy⟩

/-- e.f where nothing but the object is asked: through attributeBase (super) and the last hold -/
theorem attr_of {prog : Program} {w : World} {env : Env} {e : Expr} {f : Str} {pos : Pos} {s : Shared} {Q : Value → Shared → Prop} (hb : attributeBase e f env (eval e env) = eval e env)
    (h : wpAny (model prog w) A (eval e env) (fun o s₁ => wpAny (model prog w) A (getAttr o f true) Q E s₁) E s) : wpAny (model prog w) A (eval (.Attribute e f pos) env) Q E s :=
  Attribute_any_ h (by rw [arm_eval_Attribute, hb])
end

/-! ### readings and rules -/
/-- e.f, an attribute of the instance -/
inductive rFld (K : PySem.W.Frag) (f : Str) (x : V) (H1 : Hp) (Q : VK) : Prop
  | mk (a C dx : Addr) (fs : List (Str × V)) (v : V) (e : x = .ref a) (h : H1 a = some (.ins C dx fs)) (c : Cls K C) (n : NoAttr K C f) (l : fs.lookup f = some v) (q : Q v H1) : rFld K f x H1 Q
def tFld (K : PySem.W.Frag) (ta : TE) (f : Str) : TE := fun σ H Q => ta σ H fun x H1 => rFld K f x H1 Q
/-- e.f = value -/
def sFld (K : PySem.W.Frag) (ta tv : TE) (f : Str) : TS := fun D σ H => tv σ H fun y H1 => ta σ H1 fun x H2 => ∃ a C dx fs, x = .ref a ∧ H2 a = some (.ins C dx fs) ∧ Cls K C ∧ NoAttr K C f ∧ fs.length < 1000 ∧
  D.nx σ (upd H2 a (.ins C dx (putF f y fs)))

section
variable {X : Cx} {o e value : Expr} {f : Str} {pos pos' tpos : Pos} {ta tv : TE}
theorem pe_fld (he : PE X e ta) (hb : attributeBase e f X.env (eval e X.env) = eval e X.env) : PE X (.Attribute e f pos) (tFld X.K ta f) := by
  refine ⟨?_⟩
  intro pins s σ H Q I h
  refine attr_of hb (thn (he pins s σ H _ I h) fun u s1 ⟨x, H1, I1, rx, a, C, dx, fs, v, ex, ea, c, n, l, q⟩ => ?_)
  subst ex
  obtain rfl : u = Value.ref a := rx
  exact getattr_ok I1 ea c n l fun u' s2 I2 ru => ⟨v, H1, I2, ru, q⟩
theorem ps_fld (ha : PE X o ta) (hv : PE X value tv) (hs : swapsWith value (some (.Attribute o f pos')) pos.line X.env = pure false) : PS X (.Assign [.Attribute o f pos'] value pos) (sFld X.K ta tv f) := by
  refine ⟨?_⟩
  intro pins s σ H D I h
  refine plainObj_wpAny_Assign_Attribute (thn (hv pins s σ H _ I h) fun u s1 ⟨y, H1, I1, ry, q⟩ => thn (ha pins s1 σ H1 _ I1 q) fun ov s2 ⟨x, H2, I2, rx, a, C, dx, fs, ex, ea, c, n, l, q2⟩ => ?_) hs
  subst ex
  obtain rfl : ov = Value.ref a := rx
  exact setattr_ok I2 ea c n l ry fun s3 I3 => ⟨σ, _, I3, q2⟩

end

/-! ### isinstance -/
section
variable {X : Cx} {pins : List (Addr × Obj)} {σ : St} {H : Hp} {s : Shared} {A : Around} {E : Value → Shared → Prop} {Q : Value → Shared → Prop} {c : Value} {b : Bool}
end
end L2

namespace L2
open PySem PySem.Spec PyProof.Rows

/-! ### room -/
structure Room (k : Nat) (A : Around) : Prop where
  hd : A.handled = none
  dp : A.depth + 3 * k + 5 < recursionLimit
  un : A.units + 16 * k + 200 < cLine
  gd : A.guards = some []
theorem Room.mono {j k : Nat} {A : Around} (r : Room k A) (h : j ≤ k) : Room j A := ⟨r.hd, by have := r.dp; omega, by have := r.un; omega, r.gd⟩
theorem Room.deeper {k : Nat} {A : Around} (r : Room (k + 1) A) (env : Env) : Room k (A.deeper env) :=
  ⟨r.hd, by have := r.dp; show A.depth + 1 + 3 * k + 5 < _; omega, by have := r.un; show A.units + 3 + 16 * k + 200 < _; omega, r.gd⟩
theorem Room.in1 {k : Nat} {A : Around} (r : Room (k + 1) A) : Room k A.in1 :=
  ⟨r.hd, by have := r.dp; show A.depth + 3 * k + 5 < _; omega, by have := r.un; show A.units + 1 + 16 * k + 200 < _; omega, r.gd⟩
theorem make_depth {A : Around} {C : Addr} {us : List Value} {kw : List (Str × Value)} : (A.under (.builtin "type.__call__" ⟨.ref C :: us, kw⟩)).depth = A.depth + 1 := by
  first | rfl | simp [Around.under, Code.weight, Code.isCreation, Code.isGuard, Code.isCaller, Code.frames, Code.isFrame, guardIds]
theorem make_units {A : Around} {C : Addr} {us : List Value} {kw : List (Str × Value)} : (A.under (.builtin "type.__call__" ⟨.ref C :: us, kw⟩)).units = A.units + 1 := by
  first | rfl | simp [Around.under, Code.cUnits, Code.frames, Code.isFrame]
theorem make_guards {A : Around} {C : Addr} {us : List Value} {kw : List (Str × Value)} : (A.under (.builtin "type.__call__" ⟨.ref C :: us, kw⟩)).guards = A.guards := by
  first | rfl | simp [Around.under, Code.weight, Code.isCreation, Code.isGuard, Code.isCaller, Code.frames, Code.isFrame, guardIds]
theorem Room.make {k : Nat} {A : Around} (r : Room (k + 1) A) (C : Addr) (us : List Value) (kw : List (Str × Value)) : Room k (A.under (.builtin "type.__call__" ⟨.ref C :: us, kw⟩)) :=
  ⟨r.hd, by have := r.dp; rw [make_depth]; omega, by have := r.un; rw [make_units]; omega, by rw [make_guards]; exact r.gd⟩
theorem Room.depth {k : Nat} {A : Around} (r : Room k A) : A.depth < recursionLimit := by have := r.dp; omega
theorem Room.units {k : Nat} {A : Around} (r : Room k A) : A.units + 64 < cLine := by have := r.un; omega

/-! ### argument lists and displays -/
abbrev tNil : TA := fun _ H Q => Q [] H
abbrev tCons (ta : TE) (tr : TA) : TA := fun σ H Q => ta σ H fun x H1 => tr σ H1 fun xs H2 => Q (x :: xs) H2
section
variable {X : Cx} {e : Expr} {es : List Expr} {te : TE} {t : TA} {pos : Pos}
theorem pa_nil : PA X [] tNil := .mk fun _ _ _ _ H Q I h => Calls.spliced_nil ⟨[], H, I, .nil, h⟩
theorem pa_cons (ha : PE X e te) (hr : PA X es t) (hs : starEach (e :: es) X.env = (false, eval e X.env) :: starEach es X.env := by rfl) : PA X (e :: es) (tCons te t) := by
  refine ⟨?_⟩
  intro pos pins s σ H Q I h
  rw [hs]
  show wpAny _ _ (spliced ((false, eval e X.env) :: backTo pos (starEach es X.env))) _ _ s
  refine Calls.spliced_cons (thn (ha pins s σ H _ I h) fun u s1 ⟨x, H1, I1, r1, q1⟩ => ?_)
  exact thn (hr pos pins s1 σ H1 _ I1 q1) fun us s2 ⟨xs, H2, I2, r2, q2⟩ => ⟨x :: xs, H2, I2, .cons r1 r2, q2⟩

/-- a tuple, a list of written items -/
def tTup (t : TA) : TE := fun σ H Q => t σ H fun xs H1 => xs.length ≤ sizeLine ∧ ∀ p, H1 p = none → Q (.ref p) (upd H1 p (.tup xs))
def tLst (t : TA) : TE := fun σ H Q => t σ H fun xs H1 => xs.length ≤ sizeLine ∧ ∀ p, H1 p = none → Q (.ref p) (upd H1 p (.lst xs))
theorem pe_tup {x1} (h : PA X es t) : PE X (.Tuple es x1 pos) (tTup t) := by
  refine ⟨?_⟩
  intro pins s σ H Q I hq
  refine wpAny_Tuple_spliced (thn (h pos pins s σ H _ I hq) fun us s1 ⟨xs, H1, I1, r, z, q⟩ => ⟨by rw [← r.length]; exact z, ?_⟩)
  have hf : H1 s1.heap.objs.size = none := I1.hok.fresh (Nat.le_refl _)
  refine ⟨.ref s1.heap.objs.size, upd H1 s1.heap.objs.size (.tup xs), I1.laid (t' := s1.toks) (fun b u e => Heap.get?_push_of_some _ e) (Nat.le_refl _) ?_, rfl, q _ hf⟩
  exact ⟨z, us, r, ⟨_, Heap.get?_push_size _ rfl, rfl, _, rfl⟩⟩
theorem pe_lst (h : PA X es t) : PE X (.List es pos) (tLst t) := by
  refine ⟨?_⟩
  intro pins s σ H Q I hq
  refine wpAny_List_spliced (thn (h pos pins s σ H _ I hq) fun us s1 ⟨xs, H1, I1, r, z, q⟩ => ⟨by rw [← r.length]; exact z, ?_⟩)
  have hf : H1 s1.heap.objs.size = none := I1.hok.fresh (Nat.le_refl _)
  refine ⟨.ref s1.heap.objs.size, upd H1 s1.heap.objs.size (.lst xs), I1.laid (t' := s1.toks) (fun b u e => Heap.get?_push_of_some _ e) (Nat.le_refl _) ?_, rfl, q _ hf⟩
  exact ⟨z, us, 0, r, Heap.get?_push_size _ rfl⟩
end

/-! ### what a def promises -/
/-- a def's promise: the bound arguments in the parameters' order, the heap, the wanted end, the wanted exception -/
abbrev Sp := List V → Hp → VK → XK → Prop
/-- how an exception lies behind a call (file 08 gives it): the callers' frames, abstract heap and state ahead of the call, the wish, the exception, the state -/
abbrev CXT := List Env → Hp → Shared → XK → Value → Shared → Prop

/-- the state at a call -/
structure Env0 (P : Program) (w : World) (K : PySem.W.Frag) (mg : Str → Option Value) (base : Heap) (A : Around) (outer : List Env) (s : Shared) (H : Hp) : Prop where
  frames : A.frames = some outer
  mod : Mod K mg base
  bs : ∀ b o, base.get? b = some o → s.heap.get? b = some o ∧ H b = none
  bsz : base.objs.size ≤ s.heap.objs.size
  funs : s.heap.FunFrames base outer
  frf : ∀ b ∈ frs outer, H b = none
  hok : HOk P w H s.heap
  bare : AllBare s.gens
/-- a call's end -/
def CE (outer : List Env) (P : Program) (w : World) (H : Hp) (s : Shared) (Q : VK) (u : Value) (s' : Shared) : Prop :=
  ∃ v H', s'.os = s.os ∧ AllBare s'.gens ∧ Un (frs outer) [] H H' s.heap s'.heap ∧ HOk P w H' s'.heap ∧ RelV v u ∧ Q v H'
def CR (CX : CXT) (outer : List Env) (P : Program) (w : World) (H : Hp) (s : Shared) (Q : VK) (E : XK) (r : Result) (s' : Shared) : Prop :=
  match r with
  | .ok (.ret u) => CE outer P w H s Q u s'
  | .ok _ => False
  | .error e => CX outer H s E e s'
structure FnOk (P : Program) (w : World) (K : PySem.W.Frag) (mg : Str → Option Value) (base : Heap) (CX : CXT) (k : Nat) (f : Addr) (fd : FuncData) (ps : List Str) (sp : Sp) : Prop where
  len : ∀ vs H Q E, sp vs H Q E → vs.length = ps.length
  run : ∀ (A : Around) (outer : List Env) (s : Shared) (H : Hp) (args : Args) (us : List Value) (vs : List V) (Q : VK) (E : XK), Room k A → Env0 P w K mg base A outer s H → BindsTo s fd args (ps.zip us) → Vals vs us → sp vs H Q E →
    codeAny (model P w) A (.call (.ref f) args) (CR CX outer P w H s Q E) s

theorem Env0.make {P : Program} {w : World} {K : PySem.W.Frag} {mg : Str → Option Value} {base : Heap} {A : Around} {outer : List Env} {s : Shared} {H : Hp} (e : Env0 P w K mg base A outer s H) (C : Addr) (us : List Value) (kw : List (Str × Value)) :
    Env0 P w K mg base (A.under (.builtin "type.__call__" ⟨.ref C :: us, kw⟩)) outer s H := ⟨by first | exact e.frames | (simpa [Around.under, Code.envs, Code.isFrame, pushEnvs] using e.frames), e.mod, e.bs, e.bsz, e.funs, e.frf, e.hok, e.bare⟩

section
variable {X : Cx} {pins : List (Addr × Obj)} {σ : St} {H : Hp} {s s' : Shared}
/-- from a body: what a callee wants -/
theorem Inv.env0 (I : Inv X pins σ H s) : Env0 X.prog X.w X.K X.mg X.base X.A X.stack s H :=
  ⟨I.ok.frames, I.ok.mod, I.bs, Nat.le_trans I.ok.bsz I.sz, I.stack, I.stkFree, I.hok, I.bare⟩
/-- behind a call -/
theorem Inv.after {Q : VK} {u : Value} (I : Inv X pins σ H s) (h : CE X.stack X.prog X.w H s Q u s') : EP X pins σ Q u s' := by
  obtain ⟨v, H', os, bare, un, hok, r, q⟩ := h
  obtain ⟨hh, g, d, t, os'⟩ := s'
  obtain rfl : os' = s.os := os
  exact ⟨v, H', I.call (h' := hh) (g' := g) (d' := d) (t' := t) (ch := []) un hok bare (fun b z => absurd z (by simp)), r, q⟩
end

/-! ### calls -/
/-- f(..): the written arguments, then the defaults dvs; E: what is wanted of an exception -/
abbrev tCall (sp : Sp) (dvs : List V) (E : XK) (t : TA) : TE := fun σ H Q => t σ H fun vs H1 => sp (vs ++ dvs) H1 Q E
/-- o.m(..) of an instance of the class at C -/
inductive rMeth (C : Addr) (m : Str) (x : V) (H1 : Hp) (R : Prop) : Prop
  | mk (a dx : Addr) (fs : List (Str × V)) (e : x = .ref a) (h : H1 a = some (.ins C dx fs)) (l : fs.lookup m = none) (q : R) : rMeth C m x H1 R
def tMeth (C : Addr) (m : Str) (sp : Sp) (dvs : List V) (E : XK) (ta : TE) (t : TA) : TE := fun σ H Q => ta σ H fun x H1 => rMeth C m x H1 (t σ H1 fun vs H2 => sp (x :: (vs ++ dvs)) H2 Q E)
/-- C(..): a new instance and its dict, then __init__ -/
def tMake (C : Addr) (sp : Sp) (dvs : List V) (E : XK) (t : TA) : TE := fun σ H Q => t σ H fun vs H1 => ∀ x dx, H1 x = none → H1 dx = none → dx ≠ x →
  sp (.ref x :: (vs ++ dvs)) (upd (upd H1 dx (.own x)) x (.ins C dx [])) (fun v H2 => v = .non ∧ Q (.ref x) H2) E

/-- how the parameters are bound: us the positional arguments, kw the keywords' values by name, ds the defaults that fill up -/
def Binds (K : PySem.W.Frag) (fd : FuncData) (ps : List Str) (ds : List Value) : Prop :=
  ∀ (s : Shared) (us : List Value), K.In s.heap → (us ++ ds).length = ps.length → BindsTo s fd ⟨us, []⟩ (ps.zip (us ++ ds))
/-- every parameter is given -/
theorem Binds.all {K : PySem.W.Frag} {fd : FuncData} {ps : List Str} (h : ∀ us : List Value, us.length = ps.length → bindArgs fd ⟨us, []⟩ = pure (ps.zip us)) : Binds K fd ps [] := fun s us _ hl => by
  rw [List.append_nil] at hl ⊢
  exact .of_eq (h us hl)

/-- an exception of a callee reaches what this body wants of exceptions -/
def Passes (CX : CXT) (X : Cx) (E : XK) : Prop := ∀ (pins : List (Addr × Obj)) (σ : St) (H : Hp) (s : Shared) (e : Value) (s' : Shared), Inv X pins σ H s → CX X.stack H s E e s' → X.xe e s'

section
variable {X : Cx} {CX : CXT} {k : Nat} {f C : Addr} {fd : FuncData} {ps : List Str} {sp : Sp} {dvs : List V} {ds : List Value} {E : XK} {x m : Str} {p pos apos : Pos} {e o : Expr} {es : List Expr} {ta : TE} {t : TA}

/-- the callee runs -/
theorem run_fn {pins : List (Addr × Obj)} {σ : St} {H : Hp} {s : Shared} {Q : VK} {us : List Value} {vs : List V} (F : FnOk X.prog X.w X.K X.mg X.base CX k f fd ps sp) (hr : Room k X.A) (hb : Binds X.K fd ps ds) (hd : Vals dvs ds) (hx : Passes CX X E)
    (I : Inv X pins σ H s) (r : Vals vs us) (h : sp (vs ++ dvs) H Q E) : wpAny (model X.prog X.w) X.A (call (.ref f) us) (EP X pins σ Q) X.xe s := by
  have r2 : Vals (vs ++ dvs) (us ++ ds) := r.append hd
  have hl : (us ++ ds).length = ps.length := by rw [← r2.length]; exact F.len _ _ _ _ h
  refine wpAny_call (codeAny_mono (F.run X.A X.stack s H ⟨us, []⟩ (us ++ ds) (vs ++ dvs) Q E hr I.env0 (hb s us I.kIn hl) r2 h) fun r s' hq => ?_)
  cases r with
  | error e => exact hx pins σ H s e s' I hq
  | ok fl =>
    cases fl with
    | ret u => exact I.after hq
    | next => exact False.elim hq
    | brk => exact False.elim hq
    | cont => exact False.elim hq

theorem pe_call (F : FnOk X.prog X.w X.K X.mg X.base CX k f fd ps sp) (hr : Room k X.A) (hg : Gl X x) (hm : X.mg x = some (.ref f)) (hk : PySem.W.keepIn X.K (.ref f) = true) (hb : Binds X.K fd ps ds) (hd : Vals dvs ds) (hx : Passes CX X E)
    (ha : PA X (e :: es) t) (hdb : (x == ("__debug__" : Str)) = false := by decide) (he : starEach (e :: es) X.env = (false, eval e X.env) :: starEach es X.env := by rfl) (hpl : (backTo pos (starEach es X.env)).any (·.1) = false := by rfl) :
    PE X (.Call (.Name x p) (e :: es) [] pos) (tCall sp dvs E t) := by
  refine ⟨?_⟩
  intro pins s σ H Q I h
  refine wpAny_Call_Name_kw (ld_glob I hg hm ?_ hdb)
  refine PySem.W.callWith_K (h₀ := X.base) I.ok.mod.kin hk (thn (ha pos pins s σ H _ I h) fun us s1 ⟨vs, H1, I1, r, q⟩ => ⟨I1.kIn, ?_⟩) he hpl
  exact run_fn F hr hb hd hx I1 r q

/-- o.m(e, ..) -/
theorem pe_meth {pl : Sem Bool} (he : PE X o ta) (c : Cls X.K C) (hm : Meth X.K C m f) (F : FnOk X.prog X.w X.K X.mg X.base CX k f fd ps sp) (hr : Room k X.A) (hb : Binds X.K fd ps ds) (hd : Vals dvs ds) (hx : Passes CX X E) (ha : PA X (e :: es) t)
    (hst : starEach (e :: es) X.env = (false, eval e X.env) :: starEach es X.env := by rfl) (hpl : (backTo pos (starEach es X.env)).any (·.1) = false := by rfl)
    (ht : eval (.Call (.Attribute o m apos) (e :: es) [] pos) X.env = (do
      let ov ← eval o X.env
      standAt apos.atName
      let (f, first) ← holding [ov] (getMethod ov m pl)
      callWith pos f first (backTo pos (starEach (e :: es) X.env)) (backToKw pos (keywordEach [] X.env))) := by rfl) :
    PE X (.Call (.Attribute o m apos) (e :: es) [] pos) (tMeth C m sp dvs E ta t) := by
  refine ⟨?_⟩
  intro pins s σ H Q I h
  refine PySem.W.methodCall_KW (pl := pl) (thn (he pins s σ H _ I h) fun u s1 ⟨x, H1, I1, rx, a, dx, fs, ex, ea, l, q⟩ => ?_) ht
  subst ex
  obtain rfl : u = Value.ref a := rx
  refine getmeth_ok I1 ea c hm l ?_
  refine PySem.W.callWith_K (first := [.ref a]) (h₀ := X.base) I.ok.mod.kin hm.kp (thn (ha pos pins s1 σ H1 _ I1 q) fun us s2 ⟨vs, H2, I2, r, q2⟩ => ⟨I2.kIn, ?_⟩) hst hpl
  exact run_fn (us := .ref a :: us) (vs := .ref a :: vs) F hr hb hd hx I2 (.cons rfl r) q2
/-- o.m() -/
theorem pe_meth0 {pl : Sem Bool} (he : PE X o ta) (c : Cls X.K C) (hm : Meth X.K C m f) (F : FnOk X.prog X.w X.K X.mg X.base CX k f fd ps sp) (hr : Room k X.A) (hb : Binds X.K fd ps ds) (hd : Vals dvs ds) (hx : Passes CX X E)
    (ht : eval (.Call (.Attribute o m apos) [] [] pos) X.env = (do
      let ov ← eval o X.env
      standAt apos.atName
      let (f, first) ← holding [ov] (getMethod ov m pl)
      callWith pos f first (backTo pos (starEach [] X.env)) (backToKw pos (keywordEach [] X.env))) := by rfl) :
    PE X (.Call (.Attribute o m apos) [] [] pos) (tMeth C m sp dvs E ta tNil) := by
  refine ⟨?_⟩
  intro pins s σ H Q I h
  refine PySem.W.methodCall_KW (pl := pl) (thn (he pins s σ H _ I h) fun u s1 ⟨x, H1, I1, rx, a, dx, fs, ex, ea, l, q⟩ => ?_) ht
  subst ex
  obtain rfl : u = Value.ref a := rx
  refine getmeth_ok I1 ea c hm l ?_
  exact PySem.W.callWith_K0 (first := [.ref a]) I1.kIn hm.kp (run_fn (us := [.ref a]) (vs := [.ref a]) F hr hb hd hx I1 (.cons rfl .nil) q)

/-- what a class must have to be made -/
structure Mk (K : PySem.W.Frag) (C f : Addr) : Prop where
  makes : PySem.W.makesIn K C = true
  init : PySem.W.findIn K (.ref C) "__init__" = some (some (.ref f))
  fn : PySem.W.isFn K (.ref f) = true
  kp : PySem.W.keepIn K (.ref C) = true

theorem run_make {pins : List (Addr × Obj)} {σ : St} {H : Hp} {s : Shared} {Q : VK} {us : List Value} {vs : List V} (M : Mk X.K C f) (F : FnOk X.prog X.w X.K X.mg X.base CX k f fd ps sp) (hr : Room (k + 1) X.A) (hb : Binds X.K fd ps ds) (hd : Vals dvs ds)
    (hx : Passes CX X E) (I : Inv X pins σ H s) (r : Vals vs us)
    (h : ∀ x dx, H x = none → H dx = none → dx ≠ x → sp (.ref x :: (vs ++ dvs)) (upd (upd H dx (.own x)) x (.ins C dx [])) (fun v H2 => v = .non ∧ Q (.ref x) H2) E) :
    wpAny (model X.prog X.w) X.A (call (.ref C) us) (EP X pins σ Q) X.xe s := by
  have hq := h (s.heap.objs.size + 1) s.heap.objs.size (I.hok.fresh (Nat.le_succ _)) (I.hok.fresh (Nat.le_refl _)) (Nat.ne_of_lt (Nat.lt_succ_self _))
  have I2 := Inv.made (C := C) I
  have r2 : Vals (V.ref (s.heap.objs.size + 1) :: (vs ++ dvs)) (Value.ref (s.heap.objs.size + 1) :: (us ++ ds)) := .cons rfl (r.append hd)
  have hl : (Value.ref (s.heap.objs.size + 1) :: us ++ ds).length = ps.length := by
    have e := r2.length
    rw [F.len _ _ _ _ hq] at e
    exact e.symm
  refine wpAny_call (make_map (f := f) I.kIn M.makes M.init (beq_iff_eq.mp M.fn) (codeAny_mono (F.run _ X.stack _ _ ⟨Value.ref (s.heap.objs.size + 1) :: us, []⟩ (Value.ref (s.heap.objs.size + 1) :: (us ++ ds)) _ _ E (hr.make C us [])
    (I2.env0.make C us []) (hb _ (Value.ref (s.heap.objs.size + 1) :: us) I2.kIn hl) r2 hq) fun r s' hq' => ?_))
  cases r with
  | error e => exact hx pins σ _ _ e s' I2 hq'
  | ok fl =>
    cases fl with
    | ret u =>
      obtain ⟨v, H', I3, rv, ev, q3⟩ := I2.after hq'
      subst ev
      exact ⟨rv, ⟨V.ref (s.heap.objs.size + 1), H', I3, rfl, q3⟩⟩
    | next => exact False.elim hq'
    | brk => exact False.elim hq'
    | cont => exact False.elim hq'
theorem pe_make (M : Mk X.K C f) (F : FnOk X.prog X.w X.K X.mg X.base CX k f fd ps sp) (hr : Room (k + 1) X.A) (hg : Gl X x) (hm : X.mg x = some (.ref C)) (hb : Binds X.K fd ps ds) (hd : Vals dvs ds) (hx : Passes CX X E)
    (ha : PA X (e :: es) t) (hdb : (x == ("__debug__" : Str)) = false := by decide) (he : starEach (e :: es) X.env = (false, eval e X.env) :: starEach es X.env := by rfl) (hpl : (backTo pos (starEach es X.env)).any (·.1) = false := by rfl) :
    PE X (.Call (.Name x p) (e :: es) [] pos) (tMake C sp dvs E t) := by
  refine ⟨?_⟩
  intro pins s σ H Q I h
  refine wpAny_Call_Name_kw (ld_glob I hg hm ?_ hdb)
  refine PySem.W.callWith_K (h₀ := X.base) I.ok.mod.kin M.kp (thn (ha pos pins s σ H _ I h) fun us s1 ⟨vs, H1, I1, r, q⟩ => ⟨I1.kIn, ?_⟩) he hpl
  exact run_make M F hr hb hd hx I1 r q
end

/-! ### keywords -/
/-- the values of the keywords, from the left -/
def PK (X : Cx) (kws : List Keyword) (t : TA) : Prop :=
  ∀ (pos : Pos) (pins : List (Addr × Obj)) (s : Shared) (σ : St) (H : Hp) (Q : List V → Hp → Prop), Inv X pins σ H s → t σ H Q → wpAny (model X.prog X.w) X.A (evalAll ((backToKw pos (keywordEach kws X.env)).map (·.2))) (AP X pins σ Q) X.xe s
section
variable {X : Cx} {CX : CXT} {k : Nat} {f C : Addr} {fd : FuncData} {ps ks : List Str} {sp : Sp} {E : XK} {x m : Str} {p pos apos kpos : Pos} {e o : Expr} {es : List Expr} {kws : List Keyword} {te ta : TE} {t tk : TA} {nm : Option Str}
theorem pk_nil : PK X [] tNil := fun _ _ _ _ H Q I h => wpAny_evalAll_nil ⟨[], H, I, .nil, h⟩
theorem pk_cons (ha : PE X e te) (hr : PK X kws t) : PK X (⟨nm, e, kpos⟩ :: kws) (tCons te t) := by
  intro pos pins s σ H Q I h
  show wpAny _ _ (evalAll ((do let v ← eval e X.env; standAt pos; pure v) :: (backToKw pos (keywordEach kws X.env)).map (·.2))) _ _ s
  refine wpAny_evalAll_cons (wpAny_bind (thn (ha pins s σ H _ I h) fun u s1 ⟨x, H1, I1, r1, q1⟩ => wpAny_bind (wpAny_standAt (wpAny_pure ?_))))
  exact thn (hr pos pins s1 σ H1 _ I1 q1) fun us s2 ⟨xs, H2, I2, r2, q2⟩ => ⟨x :: xs, H2, I2, .cons r1 r2, q2⟩

variable {g : List Value → List Value → List Value} {gV : List V → List V → List V}
end

/-! ### a def's body keeps its promise -/
/-- names: the parameters first -/
structure FnScope (N P : List Str) (sc : Scope) : Prop where
  kind : sc.kind = .function
  co : sc.isCoroutine = false
  gen : sc.isGenerator = false
  nd : N.Nodup
  pre : N.take P.length = P
  par : ∀ x ∈ P, sc.names.lookup x = some .local ∨ sc.names.lookup x = some .cell
  nofree : ∀ y ∈ sc.names, y.2 ≠ .free

theorem bindL_out {kindOf : Str → Option NameKind} {x : Str} : ∀ {binds : List (Str × Value)} {m : Str → Option Value}, (∀ v, (x, v) ∉ binds) → bindL kindOf binds m x = m x
  | [], _, _ => rfl
  | (n, v) :: r, m, h => by
    unfold bindL
    rw [bindL_out fun w hw => h w (List.mem_cons_of_mem _ hw)]
    split
    · have : x ≠ n := by rintro rfl; exact h v List.mem_cons_self
      simp [this]
    · rfl
theorem bindC_out {kindOf : Str → Option NameKind} {x : Str} : ∀ {binds : List (Str × Value)} {m : Str → Option Value}, (∀ v, (x, v) ∉ binds) → bindC kindOf binds m x = m x
  | [], _, _ => rfl
  | (n, v) :: r, m, h => by
    unfold bindC
    rw [bindC_out fun w hw => h w (List.mem_cons_of_mem _ hw)]
    split
    · rfl
    · have : x ≠ n := by rintro rfl; exact h v List.mem_cons_self
      simp [this]
theorem bindL_get {kindOf : Str → Option NameKind} {x : Str} {v : Value} : ∀ {P : List Str} {vs : List Value} {i : Nat} {m : Str → Option Value}, P.Nodup → P[i]? = some x → vs[i]? = some v → kindOf x = some .local →
    bindL kindOf (P.zip vs) m x = some v
  | [], _, _, _, _, h, _, _ => by simp at h
  | _ :: _, [], _, _, _, _, h, _ => by simp at h
  | p :: P, w :: vs, 0, m, nd, h1, h2, hk => by
    simp at h1 h2; subst h1; subst h2
    show bindL kindOf ((p, w) :: P.zip vs) m p = _
    unfold bindL
    rw [bindL_out fun v hv => (List.nodup_cons.mp nd).1 (List.of_mem_zip hv).1, if_pos hk]
    simp
  | p :: P, w :: vs, i + 1, m, nd, h1, h2, hk => by
    show bindL kindOf ((p, w) :: P.zip vs) m x = _
    unfold bindL
    exact bindL_get (i := i) (List.nodup_cons.mp nd).2 (by simpa using h1) (by simpa using h2) hk
theorem bindC_get {kindOf : Str → Option NameKind} {x : Str} {v : Value} : ∀ {P : List Str} {vs : List Value} {i : Nat} {m : Str → Option Value}, P.Nodup → P[i]? = some x → vs[i]? = some v → kindOf x ≠ some .local →
    bindC kindOf (P.zip vs) m x = some v
  | [], _, _, _, _, h, _, _ => by simp at h
  | _ :: _, [], _, _, _, _, h, _ => by simp at h
  | p :: P, w :: vs, 0, m, nd, h1, h2, hk => by
    simp at h1 h2; subst h1; subst h2
    show bindC kindOf ((p, w) :: P.zip vs) m p = _
    unfold bindC
    rw [bindC_out fun v hv => (List.nodup_cons.mp nd).1 (List.of_mem_zip hv).1, if_neg hk]
    simp
  | p :: P, w :: vs, i + 1, m, nd, h1, h2, hk => by
    show bindC kindOf ((p, w) :: P.zip vs) m x = _
    unfold bindC
    exact bindC_get (i := i) (List.nodup_cons.mp nd).2 (by simpa using h1) (by simpa using h2) hk

/-- the names' values at the entry -/
def start (N : List Str) (vs : List V) : St := vs.map some ++ List.replicate (N.length - vs.length) none

/-- the context of a def's body, at its entry; an exception leaves the frame, then lies as CX says -/
def cxOf (CX : CXT) (P : Program) (w : World) (K : PySem.W.Frag) (mg : Str → Option Value) (base : Heap) (N : List Str) (qual : Str) (scope : Scope) (f : Addr) (cd : Value) (A : Around) (outer : List Env) (s : Shared) (H : Hp) (E : XK) : Cx where
  prog := P
  w := w
  K := K
  mg := mg
  base := base
  A := A.deeper (envOfC qual scope s.heap.objs.size f cd)
  N := N
  s₀ := s
  H₀ := H
  env := envOfC qual scope s.heap.objs.size f cd
  outer := outer
  stack := envOfC qual scope s.heap.objs.size f cd :: outer
  ex := []
  calm := true
  fn := fun _ => true
  pn := []
  xe := fun e s' => wpAny (model P w) (A.deeper (envOfC qual scope s.heap.objs.size f cd)) (leaving (envOfC qual scope s.heap.objs.size f cd) e) (fun _ s'' => CX outer H s E e s'') (fun e' s'' => CX outer H s E e' s'') s'

theorem cell_has {sc : Scope} {n : Nat} {x : Str} (h : sc.names.lookup x = some .cell) : ∃ c, (cellsFrom n sc.names []).lookup x = some c := by
  have q := PySem.W.cellsFrom_some sc.names n [] (.inl h)
  exact Option.isSome_iff_exists.mp q

theorem inv_start {CX : CXT} {P : Program} {w : World} {K : PySem.W.Frag} {mg : Str → Option Value} {base : Heap} {N ps : List Str} {qual : Str} {scope : Scope} {f : Addr} {cd : Value} {A : Around} {outer : List Env} {s s1 : Shared} {H : Hp} {E : XK} {us : List Value} {vs : List V}
    (S : FnScope N ps scope) (hd : A.handled = none) (e0 : Env0 P w K mg base A outer s H) (hl : vs.length = ps.length) (r : Vals vs us)
    (x : InCallC s s.heap.objs.size (bindL (envOfC qual scope s.heap.objs.size f cd).kindOf (ps.zip us) fun _ => none) (cellsFrom (s.heap.objs.size + 1) scope.names []) (bindC (envOfC qual scope s.heap.objs.size f cd).kindOf (ps.zip us) fun _ => none) s1) :
    Inv (cxOf CX P w K mg base N qual scope f cd A outer s H E) [] (start N vs) H s1 := by
  have hpl : ps.length ≤ N.length := by have := congrArg List.length S.pre; rw [List.length_take] at this; omega
  obtain ⟨h1, tk, rfl, hk⟩ := x.done
  have noA : ∀ b : Addr, b ∉ (cxOf CX P w K mg base N qual scope f cd A outer s H E).ex := fun b z => absurd (show b ∈ ([] : List Addr) from z) (by simp)
  refine ⟨⟨e0.mod, S.kind, rfl, rfl, Nat.le_refl _, fun y z c h1 h2 => ?_, fun y hy => ?_, fun y c _ h => ?_, fun _ => hd, Around.frames_deeper e0.frames, .inr ⟨rfl, rfl⟩, fun b z => absurd z (noA b), e0.bs, e0.bsz, fun b _ _ => noA b, fun b z => absurd z (noA b), e0.funs, e0.frf⟩,
    rfl, e0.bare, Un.kept hk, ⟨_, x.toInCall.ns, fun i y v h1 h2 h3 => ?_⟩, fun y c h => ⟨_, x.cell y c h⟩, e0.hok.fresh (Nat.le_refl _), fun y c h => ?_, fun p hp => absurd (show p ∈ ([] : List (Addr × Obj)) from hp) (by simp), e0.hok.kept hk, ?_⟩
  · exact name_of_addr x.apart (PySem.mem_of_lookup h1) (PySem.mem_of_lookup h2)
  · have hy : scope.names.lookup y = some .cell ∨ scope.names.lookup y = some .free := hy
    rcases hy with hy | hy
    · exact cell_has hy
    · exact absurd rfl (S.nofree _ (PySem.mem_of_lookup hy))
  · exact Nat.le_of_lt (x.above y c (PySem.mem_of_lookup h))
  · have hi : i < vs.length := by
      unfold start at h2
      by_cases hi : i < vs.length
      · exact hi
      · rw [List.getElem?_append_right (by simpa using hi)] at h2
        rw [List.getElem?_replicate] at h2
        split at h2 <;> cases h2
    have ha : vs[i]? = some v := by
      unfold start at h2
      rw [List.getElem?_append_left (by simpa using hi), List.getElem?_map] at h2
      cases e : vs[i]? with
      | none => rw [e] at h2; cases h2
      | some a => rw [e] at h2; cases h2; rfl
    obtain ⟨u, hu, rv⟩ := r.get ha
    have hp : ps[i]? = some y := by
      rw [← S.pre, List.getElem?_take_of_lt (by omega)]; exact h1
    have ndP : ps.Nodup := by rw [← S.pre]; exact S.nd.sublist (List.take_sublist _ _)
    refine ⟨u, rv, ?_⟩
    rcases S.par y (List.mem_of_getElem? hp) with k | k
    · exact .inl ⟨k, bindL_get ndP hp hu k⟩
    · obtain ⟨c, e⟩ := cell_has (n := s.heap.objs.size + 1) k
      refine .inr ⟨.inl k, c, e, ?_⟩
      have q := x.cell y c e
      rw [bindC_get ndP hp hu (by show scope.names.lookup y ≠ _; rw [k]; decide)] at q
      exact q
  · exact e0.hok.fresh (Nat.le_of_lt (x.above y c (PySem.mem_of_lookup h)))
  · unfold start
    show _ = N.length
    rw [List.length_append, List.length_map, List.length_replicate]
    omega

/-- THE RULE: a def (or a method) of the text, by its body. The body's reading t is chosen for each entry; it is run at the parameters' values -/
theorem fn_of {CX : CXT} {P : Program} {w : World} {K : PySem.W.Frag} {mg : Str → Option Value} {base : Heap} {k : Nat} {f : Addr} {name qual : Str} {params : Arguments} {body : List Stmt} {scope : Scope} {dV kV doc pm cdv ct oc : Value} {an od : Option Addr}
    {osl : Array (Option Value)} {N ps : List Str} {sp : Sp} (lk : K.lookup f = some ⟨oc, od, .func (PySem.W.fnOf name qual params body scope dV kV doc pm an cdv ct), osl⟩) (hcd : PySem.W.codeIn K cdv qual = true) (S : FnScope N ps scope)
    (len : ∀ vs H Q E, sp vs H Q E → vs.length = ps.length)
    (hbody : ∀ (A : Around) (outer : List Env) (s : Shared) (H : Hp) (vs : List V) (Q : VK) (E : XK), Room k (A.deeper (envOfC qual scope s.heap.objs.size f cdv)) → sp vs H Q E →
      ∃ t, PSs (cxOf CX P w K mg base N qual scope f cdv A outer s H E) body t ∧ t { nx := fun _ H' => Q .non H', rt := Q } (start N vs) H) :
    FnOk P w K mg base CX (k + 1) f (PySem.W.fnOf name qual params body scope dV kV doc pm an cdv ct) ps sp := by
  refine ⟨len, fun A outer s H args us vs Q E hr e0 hb r hsp => ?_⟩
  have hl := len _ _ _ _ hsp
  have KX : K.In s.heap := e0.mod.kin.keeps fun b o e => (e0.bs b o e).1
  have lim : s.heap.NoLimit := e0.mod.nolimit.keeps fun b o e => (e0.bs b o e).1
  have hkind : ∀ y ∈ ps.zip us, scope.names.lookup y.1 = some .local ∨ (scope.names.lookup y.1 = some .cell ∧ ((cellsFrom (s.heap.objs.size + 1) scope.names []).lookup y.1).isSome = true) := fun ⟨n, v⟩ hy => by
    rcases S.par n (List.of_mem_zip hy).1 with q | q
    · exact .inl q
    · exact .inr ⟨q, PySem.W.cellsFrom_some _ _ _ (.inl q)⟩
  refine codeAny_call_function hr.depth (KX _ _ lk) rfl S.co S.gen rfl (PySem.W.codeRec_of KX hcd) (hb _ _ _ _ ?_)
  refine wpAny_newFunctionEnv_cells S.kind hkind fun env he s1 x => ?_
  subst he
  refine ⟨lim.keeps x.toInCall.keep, codeAny_func ?_⟩
  obtain ⟨t, ht, hq⟩ := hbody A outer s H vs Q E (hr.deeper _) hsp
  have I : Inv (cxOf CX P w K mg base N qual scope f cdv A outer s H E) [] (start N vs) H s1 := inv_start S hr.hd e0 hl r x
  refine wpAny_mono (ht [] s1 (start N vs) H _ I hq) (fun fl s' hs => ?_) fun e s' hs => hs
  have fin : ∀ {σ' : St} {H' : Hp} {v : V} {u : Value}, Inv (cxOf CX P w K mg base N qual scope f cdv A outer s H E) [] σ' H' s' → RelV v u → Q v H' → CE outer P w H s Q u s' :=
    fun {σ' H' v u} J rv q => ⟨v, H', J.os, J.bare, J.base, J.hok, rv, q⟩
  cases fl with
  | ret u =>
    obtain ⟨v, σ', H', J, rv, q⟩ := hs
    exact fin J rv q
  | next =>
    obtain ⟨σ', H', J, q⟩ := hs
    exact fin (v := V.non) (u := Value.none) J rfl q
  | brk =>
    obtain ⟨_, _, _, q⟩ := hs
    exact False.elim q
  | cont =>
    obtain ⟨_, _, _, q⟩ := hs
    exact False.elim q
end L2

namespace L2
open PySem PySem.Spec PyProof.Rows
section
variable {X : Cx} {x : Str} {p pos : Pos} {e : Expr} {es : List Expr} {t : TA} {id T : String} {r : List V → Hp → VK → Prop}

def tCB (r : List V → Hp → VK → Prop) (t : TA) : TE := fun σ H Q => t σ H fun vs H1 => r vs H1 Q
/-- f(e, ..), f a built-in function -/
theorem pe_callB (hc : CallR X (.builtin id) r) (hg : Gl X x) (hm : X.mg x = none) (hv : bootBuiltins x = some (.builtin id)) (ha : PA X (e :: es) t) (hn : x ≠ "__name__" := by decide) (hdb : (x == ("__debug__" : Str)) = false := by decide)
    (he : starEach (e :: es) X.env = (false, eval e X.env) :: starEach es X.env := by rfl) (hpl : (backTo pos (starEach es X.env)).any (·.1) = false := by rfl) : PE X (.Call (.Name x p) (e :: es) [] pos) (tCB r t) := by
  refine ⟨?_⟩
  intro pins s σ H Q I h
  refine wpAny_Call_Name_kw (ld_blt I hg hm hv ?_ hn hdb)
  exact PyProof.Rows.callWith_builtin1 (thn (ha pos pins s σ H _ I h) fun us s1 ⟨vs, H1, I1, r1, q1⟩ => hc pins s1 σ H1 vs us Q I1 r1 q1) he hpl
/-- T(e, ..), T a built-in type -/
theorem pe_callTy (hc : CallR X (.type T) r) (hg : Gl X x) (hm : X.mg x = none) (hv : bootBuiltins x = some (.type T)) (ha : PA X (e :: es) t) (hn : x ≠ "__name__" := by decide) (hdb : (x == ("__debug__" : Str)) = false := by decide)
    (he : starEach (e :: es) X.env = (false, eval e X.env) :: starEach es X.env := by rfl) (hpl : (backTo pos (starEach es X.env)).any (·.1) = false := by rfl) : PE X (.Call (.Name x p) (e :: es) [] pos) (tCB r t) := by
  refine ⟨?_⟩
  intro pins s σ H Q I h
  refine wpAny_Call_Name_kw (ld_blt I hg hm hv ?_ hn hdb)
  exact PyProof.Rows.callWith_type1 (thn (ha pos pins s σ H _ I h) fun us s1 ⟨vs, H1, I1, r1, q1⟩ => hc pins s1 σ H1 vs us Q I1 r1 q1) he hpl
end
end L2

namespace HT
open PySem PyProof.Rows



section
open PySem.SeqAt
open PySem.AutoSeq1 (wpAny_loadPart')
open PySem.MeetsSeq PySem.MeetsSeq2 PySem.MeetsSeq3

end

section
variable {prog : Program} {w : World} {A : Around} {E : Value → Shared → Prop} {s : Shared}


/-- t + u, t not empty -/
theorem cat_tup {t b : Addr} {vs ws : List Value} {Q : Value → Shared → Prop} (ht : IsTup s.heap t vs.toArray) (hb : IsTup s.heap b ws.toArray) (hv : vs ≠ [])
    (h1 : ws = [] → Q (.ref t) s) (h2 : ws ≠ [] → Q (.ref s.heap.objs.size) { s with heap := s.heap.push { cls := .type "tuple", data := .seq (vs ++ ws).toArray } })
    (hsz : vs.length + ws.length ≤ sizeLine) : wpAny (model prog w) A (binaryOp .Add (.ref t) (.ref b)) Q E s := by
  obtain ⟨⟨cls, dd, data, sl⟩, ho, hc, n, hd⟩ := id ht
  obtain ⟨⟨cls2, dd2, data2, sl2⟩, ho2, hc2, n2, hd2⟩ := id hb
  simp only at hc hd hc2 hd2
  subst hc hd hc2 hd2
  have e : vs.toArray ++ ws.toArray = (vs ++ ws).toArray := by simp
  by_cases hw : ws = []
  · exact concat_meets ⟨_, ho, rfl⟩ ⟨_, ho2, rfl⟩ noFill_tuple_add seq_tuple_add PySem.F.slot_tuple_add PySem.F.entry_tuple_add (PySem.F.args_tuple_add_2 _ _)
      (tuple_addW1 t b vs.toArray ws.toArray n n2 dd dd2 sl sl2 (by simpa using hv) (by simp [hw])) ⟨ho, ho2, h1 hw⟩
  · refine concat_meets ⟨_, ho, rfl⟩ ⟨_, ho2, rfl⟩ noFill_tuple_add seq_tuple_add PySem.F.slot_tuple_add PySem.F.entry_tuple_add (PySem.F.args_tuple_add_2 _ _)
      (tuple_addW2 t b vs.toArray ws.toArray n n2 dd dd2 sl sl2 (by simpa using hv) (by simpa using hw) (by rw [List.size_toArray, List.size_toArray]; exact hsz)) ⟨ho, ho2, ?_⟩
    rw [e]
    exact h2 hw

/-! ### t[a:b], not the whole -/
/-- a slice's bound as a place among n (d where it is left out) -/
def sIx (n d : Nat) : Option Int → Nat
  | none => d
  | some v => if v < 0 then (v + (n : Int)).toNat else min v.toNat n
theorem sIx_none (n d : Nat) : sIx n d none = d := rfl
theorem sIx_nat (n d k : Nat) : sIx n d (some (k : Int)) = min k n := by
  show (if (k : Int) < 0 then ((k : Int) + (n : Int)).toNat else min (k : Int).toNat n) = min k n
  rw [if_neg (by omega), Int.toNat_natCast]

end
end HT

namespace L2
open PySem PySem.Spec PyProof.Rows

/-! ### the parts of a slice -/
abbrev TO := St → Hp → (Option Int → Hp → Prop) → Prop
/-- a slice's part (left out, or an int) -/
def PO (X : Cx) (e : Option Expr) (t : TO) : Prop :=
  ∀ (pins : List (Addr × Obj)) (s : Shared) (σ : St) (H : Hp) (Q : Option Int → Hp → Prop), Inv X pins σ H s → t σ H Q →
    wpAny (model X.prog X.w) X.A (evalPart e X.env) (fun u s' => ∃ o H', Inv X pins σ H' s' ∧ IsPart u o ∧ Q o H') X.xe s
def tNoPart : TO := fun _ H Q => Q none H
def tPart (t : TE) : TO := fun σ H Q => t σ H fun x H1 => ∃ i, x = .int i ∧ Q (some i) H1


section
variable {X : Cx} {e : Expr} {te : TE} {lo hi : Option Expr} {tl th : TO} {pos p2 : Pos}

theorem po_none : PO X none tNoPart := by
  intro pins s σ H Q I h
  rw [evalPart_none]
  exact wpAny_pure ⟨none, H, I, .none, h⟩
theorem po_some (h : PE X e te) : PO X (some e) (tPart te) := by
  intro pins s σ H Q I hw
  rw [evalPart_some]
  refine thn (h pins s σ H _ I hw) fun u s1 ⟨x, H1, I1, r1, q1⟩ => ?_
  obtain ⟨i, rfl, q⟩ := q1
  obtain ⟨t, rfl⟩ := r1
  exact ⟨some i, H1, I1, .int i t, q⟩

/-- what a slice of a value is, by values: the slice object stands at sl -/
def SlR (X : Cx) (r : V → Option Int → Option Int → Hp → VK → Prop) : Prop :=
  ∀ (pins : List (Addr × Obj)) (s : Shared) (σ : St) (H : Hp) (x : V) (v vl vu : Value) (lo hi : Option Int) (sl : Addr) (Q : VK), Inv X pins σ H s → RelV x v → s.heap.IsSliceOf sl vl vu .none → IsPart vl lo → IsPart vu hi → r x lo hi H Q →
    ∃ T id, typeLookup (.type T) "__getitem__" = pure (some (.builtin id)) ∧ s.TypeIs v T ∧ wpAny (model X.prog X.w) X.A (getItem v (.ref sl)) (EP X pins σ Q) X.xe s
def tSl (r : V → Option Int → Option Int → Hp → VK → Prop) (te : TE) (tl th : TO) : TE := fun σ H Q => te σ H fun x H1 => tl σ H1 fun l H2 => th σ H2 fun u H3 => r x l u H3 Q
/-- a[lo:hi], any a -/
theorem pe_slice {r : V → Option Int → Option Int → Hp → VK → Prop} (hr : SlR X r) (he : PE X e te) (hl : PO X lo tl) (hu : PO X hi th) : PE X (.Subscript e (.Slice lo hi none p2) pos) (tSl r te tl th) := by
  refine ⟨?_⟩
  intro pins s σ H Q I h
  refine Subscript_ (thn (he pins s σ H _ I h) fun v s1 ⟨x, H1, I1, r1, q1⟩ => ?_)
  refine wpAny_Slice (thn (hl pins s1 σ H1 _ I1 q1) fun vl s2 ⟨l, H2, I2, pl, q2⟩ => thn (hu pins s2 σ H2 _ I2 q2) fun vu s3 ⟨u, H3, I3, pu, q3⟩ => ?_)
  rw [evalPart_none]
  refine wpAny_pure ?_
  have I4 : Inv X pins σ H3 { s3 with heap := s3.heap.push { cls := .type "slice", data := .fields #[vl, vu, .none] } } := I3.kept (t' := s3.toks) fun b ob q => Heap.get?_push_of_some _ q
  obtain ⟨T, id, hT, ht, hg⟩ := hr pins { s3 with heap := s3.heap.push { cls := .type "slice", data := .fields #[vl, vu, .none] } } σ H3 x v vl vu l u s3.heap.objs.size Q I4 r1 (Heap.IsSliceOf.new ..) pl pu q3
  show wpAny (model X.prog X.w) X.A (subscriptTail e (.Slice lo hi none p2) v (.ref s3.heap.objs.size)) (EP X pins σ Q) X.xe { s3 with heap := s3.heap.push { cls := .type "slice", data := .fields #[vl, vu, .none] } }
  exact tail_any (ops := [.ref s3.heap.objs.size, v]) ht hT hg (by with_unfolding_all rfl)

/-- the items of xs[lo:hi] -/
def cutV (xs : List V) (lo hi : Option Int) : List V := (xs.drop (HT.sIx xs.length 0 lo)).take (HT.sIx xs.length xs.length hi - HT.sIx xs.length 0 lo)
theorem cutV_length (xs : List V) (lo hi : Option Int) : (cutV xs lo hi).length ≤ xs.length := by
  unfold cutV
  rw [List.length_take, List.length_drop]
  omega

/-! ### t < u, t + u -/
/-- t + u, t not empty: u empty gives t itself -/
def rCatT (K : PySem.W.Frag) : R2 := fun x y H Q => ∃ a b xs ys, x = .ref a ∧ y = .ref b ∧ SqT K H a xs ∧ SqT K H b ys ∧ xs ≠ [] ∧ xs.length + ys.length ≤ sizeLine ∧
  (ys = [] → Q (.ref a) H) ∧ (ys ≠ [] → ∀ p, H p = none → Q (.ref p) (upd H p (.tup (xs ++ ys))))
theorem Vals.nil_iff {xs : List V} {us : List Value} (r : Vals xs us) : us = [] ↔ xs = [] := by
  cases r with
  | nil => simp
  | cons _ _ => simp
theorem op_catT : OpR X (binaryOp .Add) (rCatT X.K) := by
  intro pins s σ H x y v u Q I rx ry h
  obtain ⟨a, b, xs, ys, rfl, rfl, ha, hb, hx, hz, q1, q2⟩ := h
  cases rx
  cases ry
  obtain ⟨its, r1, p1, _⟩ := I.tuple ha
  obtain ⟨its2, r2, p2, _⟩ := I.tuple hb
  refine HT.cat_tup p1 p2 (fun z => hx (r1.nil_iff.mp z)) (fun z => ⟨.ref a, H, I, rfl, q1 (r2.nil_iff.mp z)⟩) (fun z => ?_) (by rw [← r1.length, ← r2.length]; exact hz)
  refine ⟨.ref s.heap.objs.size, _, I.laid (t' := s.toks) (o := .tup (xs ++ ys)) (fun b ob q => Heap.get?_push_of_some _ q) (Nat.le_refl _) ?_, rfl, q2 (fun w => z (r2.nil_iff.mpr w)) _ (I.hok.fresh (Nat.le_refl _))⟩
  exact ⟨by rw [List.length_append]; exact hz, _, r1.append r2, IsTup.new _ _⟩
end
end L2

namespace L2
open PySem PySem.Spec PyProof.Rows

/-! ### places -/
/-- the place that an index of any sign means -/
def ixN (n : Nat) (i : Int) : Option Nat := if 0 ≤ i then (if i < n then some i.toNat else none) else if -(n : Int) ≤ i then some (i + n).toNat else none
def atI {α : Type} (xs : List α) (i : Int) : Option α := (ixN xs.length i).bind fun j => xs[j]?
theorem ixN_seq {n : Nat} {i : Int} {j : Nat} (h : ixN n i = some j) : seqIndex? i n = some j ∧ j < n ∧ -(n : Int) ≤ i ∧ i < n := by
  unfold ixN at h
  by_cases h0 : 0 ≤ i
  · rw [if_pos h0] at h
    by_cases h1 : i < n
    · rw [if_pos h1] at h
      have e : i.toNat = j := Option.some.inj h
      exact ⟨by rw [seqIndex_of h0 h1, e], by omega, by omega, h1⟩
    · rw [if_neg h1] at h; cases h
  · rw [if_neg h0] at h
    by_cases h1 : -(n : Int) ≤ i
    · rw [if_pos h1] at h
      have e : (i + n).toNat = j := Option.some.inj h
      exact ⟨by rw [seqIndex_neg (by omega) h1, e], by omega, h1, by omega⟩
    · rw [if_neg h1] at h; cases h
theorem atI_get {α : Type} {xs : List α} {i : Int} {v : α} (h : atI xs i = some v) : ∃ j, seqIndex? i xs.length = some j ∧ xs[j]? = some v ∧ j < xs.length ∧ -(xs.length : Int) ≤ i ∧ i < xs.length := by
  unfold atI at h
  cases e : ixN xs.length i with
  | none => rw [e] at h; cases h
  | some j =>
    rw [e] at h
    obtain ⟨h1, h2, h3, h4⟩ := ixN_seq e
    exact ⟨j, h1, h, h2, h3, h4⟩
theorem atI_nat {α : Type} {xs : List α} {j : Nat} {v : α} (h : xs[j]? = some v) : atI xs (j : Int) = some v := by
  have hj : j < xs.length := (List.getElem?_eq_some_iff.mp h).1
  have e : ixN xs.length (j : Int) = some j := by
    unfold ixN
    rw [if_pos (by omega), if_pos (by omega)]; simp
  unfold atI; rw [e]; exact h
theorem atI_last {α : Type} (xs : List α) (v : α) : atI (xs ++ [v]) (-1) = some v := by
  have hl : (xs ++ [v]).length = xs.length + 1 := by simp
  have e : ixN (xs ++ [v]).length (-1) = some xs.length := by
    unfold ixN
    rw [hl, if_neg (by decide), if_pos (by omega)]
    congr 1
    omega
  unfold atI
  rw [e]
  show (xs ++ [v])[xs.length]? = some v
  simp

/-! ### what may be subscripted -/
/-- what stands as an index of a plain subscript -/
def PlainIx (b : Expr) : Prop := ∀ o i, subscripted b false o i = operate [o, i] (getItem o i)
/-- a subscript by values -/
def IxR (X : Cx) (r : R2) : Prop :=
  ∀ (value slice : Expr) (pins : List (Addr × Obj)) (s : Shared) (σ : St) (H : Hp) (x y : V) (v u : Value) (Q : VK), Inv X pins σ H s → RelV x v → RelV y u → r x y H Q →
    subscripted slice false v u = operate [v, u] (getItem v u) → wpAny (model X.prog X.w) X.A (subscriptTail value slice v u) (EP X pins σ Q) X.xe s
/-- a call of a builtin's method by values: the receiver, the arguments -/
def MtR (X : Cx) (id : String) (r : V → List V → Hp → VK → Prop) : Prop :=
  ∀ (pins : List (Addr × Obj)) (s : Shared) (σ : St) (H : Hp) (x : V) (xs : List V) (v : Value) (us : List Value) (Q : VK), Inv X pins σ H s → RelV x v → Vals xs us → r x xs H Q →
    wpAny (model X.prog X.w) X.A (call (.builtin id) (v :: us)) (EP X pins σ Q) X.xe s
section
variable {X : Cx} {a b : Expr} {ta tb : TE} {pos : Pos}
/-- a[b] -/
theorem pe_ix {r : R2} (hr : IxR X r) (ha : PE X a ta) (hb : PE X b tb) (hs : PlainIx b) : PE X (.Subscript a b pos) (tOp r ta tb) := by
  refine ⟨?_⟩
  intro pins s σ H Q I h
  exact Subscript_ (binT ha hb I h fun v u s2 x y H2 I2 rx ry q => hr a b pins s2 σ H2 x y v u Q I2 rx ry q (hs _ _))

inductive rIxL (K : PySem.W.Frag) (x y : V) (H : Hp) (Q : VK) : Prop
  | mk (p : Addr) (xs : List V) (i : Int) (v : V) (e1 : x = .ref p) (e2 : y = .int i) (h : SqL K H p xs) (e : atI xs i = some v) (q : Q v H) : rIxL K x y H Q
inductive rIxT (K : PySem.W.Frag) (x y : V) (H : Hp) (Q : VK) : Prop
  | mk (p : Addr) (xs : List V) (i : Int) (v : V) (e1 : x = .ref p) (e2 : y = .int i) (h : SqT K H p xs) (e : atI xs i = some v) (q : Q v H) : rIxT K x y H Q
def rIxS : R2 := fun x y H Q => ∃ z i c, x = .str z ∧ y = .int i ∧ z.length ≤ sizeLine ∧ atI z.cps.toList i = some c ∧ Q (.str ⟨#[c]⟩) H
theorem ix_list : IxR X (rIxL X.K) := by
  intro value slice pins s σ H x y v u Q I rx ry h hs
  obtain ⟨p, xs, i, z, rfl, rfl, hq, he, q⟩ := h
  cases rx
  obtain ⟨t, rfl⟩ := ry
  obtain ⟨its, r, pl, hz⟩ := I.list hq
  obtain ⟨j, h1, h2, h3, h4, h5⟩ := atI_get he
  obtain ⟨w, ew, rw'⟩ := r.get h2
  have hl := r.length
  have hn := line63
  have fin : EP X pins σ Q w s := ⟨z, H, I, rw', q⟩
  by_cases h0 : 0 ≤ i
  · have hj : i.toNat = j := by
      rw [seqIndex_of h0 h5] at h1
      exact Option.some.inj h1
    exact item_listR pl.isList h0 (by omega) (by rw [hj]; simpa using ew) fin hs
  · have hj : (i + (its.toArray.size : Int)).toNat = j := by
      rw [seqIndex_neg (by omega) h4] at h1
      rw [List.size_toArray, ← hl]
      exact Option.some.inj h1
    exact subscriptTail_builtinR (x := w) pl.isList.typeIs slot_list_getitem.lookup
      (wpAny_getItem_list_neg (Q := fun r s' => r = w ∧ EP X pins σ Q r s') pl.isList (by omega) (by rw [List.size_toArray] <;> omega) (by omega) (by rw [hj]; simpa using ew) ⟨rfl, fin⟩) hs
theorem ix_tup : IxR X (rIxT X.K) := by
  intro value slice pins s σ H x y v u Q I rx ry h hs
  obtain ⟨p, xs, i, z, rfl, rfl, hq, he, q⟩ := h
  cases rx
  obtain ⟨t, rfl⟩ := ry
  obtain ⟨its, r, pl, hz⟩ := I.tuple hq
  obtain ⟨j, h1, h2, h3, h4, h5⟩ := atI_get he
  obtain ⟨w, ew, rw'⟩ := r.get h2
  have hl := r.length
  have hn := line63
  have fin : EP X pins σ Q w s := ⟨z, H, I, rw', q⟩
  exact subscriptTail_builtinR (x := w) pl.typeIs slot_tuple_getitem.lookup
    (getItem_tuple (j := j) (Q := fun r s' => r = w ∧ EP X pins σ Q r s') pl (by omega) (by omega) (by rw [List.size_toArray, ← hl]; exact h1) (by simpa using ew) ⟨rfl, fin⟩) hs
theorem ix_str : IxR X rIxS := by
  intro value slice pins s σ H x y v u Q I rx ry h hs
  obtain ⟨z, i, c, rfl, rfl, hz, he, q⟩ := h
  obtain ⟨t, rfl⟩ := rx
  obtain ⟨t', rfl⟩ := ry
  obtain ⟨j, h1, h2, h3, h4, h5⟩ := atI_get he
  have hl : z.cps.toList.length = z.length := by simp [Str.length]
  rw [hl] at h1 h4 h5
  have hn := line63
  exact tail_any (typeIs_str s z t) slot_str_getitem.lookup (getItem_str (c := c) (by
    have e1 : decide (i < -(2 ^ 63 : Int)) = false := decide_eq_false (by omega)
    have e2 : decide (i ≥ 2 ^ 63) = false := decide_eq_false (by omega)
    rw [e1, e2, Bool.or_false]) (by rw [h1]; simpa using h2) ⟨.str ⟨#[c]⟩, H, I.tok _, ⟨_, rfl⟩, q⟩) hs

/-! ### xs[i] = v, any sign -/
/-- the list's object behind a store -/
theorem mapSeq_set (its : List Value) (n j : Nat) (u : Value) : Obj.mapSeq (·.setIfInBounds j u) { cls := .type "list", data := .seq its.toArray n } = { cls := .type "list", data := .seq (its.set j u).toArray n } := by
  simp [Obj.mapSeq]
theorem Inv.lst {pins : List (Addr × Obj)} {σ : St} {H : Hp} {s : Shared} {p : Addr} {xs : List V} (I : Inv X pins σ H s) (h : H p = some (.lst xs)) :
    ∃ (its : List Value) (n : Nat), Vals xs its ∧ s.heap.get? p = some { cls := .type "list", data := .seq its.toArray n } ∧ xs.length ≤ sizeLine := by
  obtain ⟨z, its, n, r, e⟩ := I.hok p _ h
  exact ⟨its, n, r, e, z⟩
/-- the list at p is written by an update of its object -/
theorem Inv.lstUpd {pins : List (Addr × Obj)} {σ : St} {H : Hp} {s : Shared} {p : Addr} {xs ys : List V} {its its' : List Value} {n n' : Nat} {f : Obj → Obj} (I : Inv X pins σ H s) (h : H p = some (.lst xs))
    (ho : s.heap.get? p = some { cls := .type "list", data := .seq its.toArray n }) (hf : f { cls := .type "list", data := .seq its.toArray n } = { cls := .type "list", data := .seq its'.toArray n' }) (r : Vals ys its') (hz : ys.length ≤ sizeLine) (t : Nat) :
    Inv X pins σ (upd H p (.lst ys)) { s with heap := s.heap.update p f, toks := t } := by
  have e : (s.heap.update p f).get? p = some { cls := .type "list", data := .seq its'.toArray n' } := by
    rw [Heap.get?_update_self f ho (by rw [hf] <;> rfl), hf]
  refine I.write (x := p) (e := p) (by rw [h]; trivial) (.inl rfl) (fun b u hb q => (Heap.get?_update_other _ _ (Ne.symm hb)).trans q) ⟨_, e⟩ ?_
  exact ⟨hz, its', n', r, e⟩
def rSetL : V → V → V → Hp → (Hp → Prop) → Prop := fun o i v H Q => ∃ p xs k j, o = .ref p ∧ i = .int k ∧ H p = some (.lst xs) ∧ ixN xs.length k = some j ∧ Q (upd H p (.lst (xs.set j v)))
theorem set_list : PSet X rSetL := by
  intro pins s σ H o i v ov iv u Q I ro ri rv h
  obtain ⟨p, xs, k, j, rfl, rfl, hp, hj, q⟩ := h
  cases ro
  obtain ⟨t, rfl⟩ := ri
  obtain ⟨its, n, r, ho, hz⟩ := I.lst hp
  obtain ⟨h1, h2, h3, h4⟩ := ixN_seq hj
  have hl := r.length
  have hn := line63
  have I' : Inv X pins σ (upd H p (.lst (xs.set j v))) { s with heap := s.heap.update p (Obj.mapSeq (·.setIfInBounds j u)) } :=
    I.lstUpd hp ho (mapSeq_set its n j u) (r.set rv j) (by rw [List.length_set]; exact hz) s.toks
  by_cases h0 : 0 ≤ k
  · have hk : k.toNat = j := by
      rw [seqIndex_of h0 h4] at h1
      exact Option.some.inj h1
    exact PySem.W.ki_setAt ho h0 (by omega) (by rw [List.size_toArray, ← hl]; exact h4) (by rw [hk]; exact ⟨_, I', q⟩)
  · have hk : (k + (its.toArray.size : Int)).toNat = j := by
      rw [seqIndex_neg (by omega) h3] at h1
      rw [List.size_toArray, ← hl]
      exact Option.some.inj h1
    exact PySem.W.ki_setBack ho (by omega) (by rw [List.size_toArray, ← hl]; exact h3) (by omega) (by rw [hk]; exact ⟨_, I', q⟩)

/-! ### slices -/
theorem slice_bounds (lo hi : Option Int) (n : Nat) : (sliceBounds lo hi none n).1 = ((HT.sIx n 0 lo : Nat) : Int) ∧ (sliceBounds lo hi none n).2.1 = ((HT.sIx n n hi : Nat) : Int) ∧ (sliceBounds lo hi none n).2.2 = 1 := by
  refine ⟨?_, ?_, rfl⟩
  · cases lo with
    | none => simp [sliceBounds, HT.sIx]
    | some i =>
      simp only [sliceBounds, HT.sIx, Option.getD_none, show (1 : Int) > 0 by decide, if_true]
      by_cases h : i < 0
      · simp only [h, if_true] <;> omega
      · simp only [h, if_false] <;> omega
  · cases hi with
    | none => simp [sliceBounds, HT.sIx]
    | some i =>
      simp only [sliceBounds, HT.sIx, Option.getD_none, show (1 : Int) > 0 by decide, if_true]
      by_cases h : i < 0
      · simp only [h, if_true] <;> omega
      · simp only [h, if_false] <;> omega
theorem slicePick_cut (its : List Value) (lo hi : Option Int) : slicePick its.toArray lo hi none = ((its.drop (HT.sIx its.length 0 lo)).take (HT.sIx its.length its.length hi - HT.sIx its.length 0 lo)).toArray := by
  obtain ⟨h1, h2, h3⟩ := slice_bounds lo hi its.toArray.size
  unfold slicePick
  rw [h1, h2, h3]
  simp only [sliceRange_one, pick_run, List.size_toArray] <;> rfl
/-- xs[lo:hi] of a list: a new list -/
def rSlL (K : PySem.W.Frag) : V → Option Int → Option Int → Hp → VK → Prop := fun x lo hi H Q => ∃ a xs, x = .ref a ∧ SqL K H a xs ∧ ∀ p, H p = none → Q (.ref p) (upd H p (.lst (cutV xs lo hi)))
theorem sl_list : SlR X (rSlL X.K) := by
  intro pins s σ H x v vl vu lo hi sl Q I rx hs pl pu h
  obtain ⟨a, xs, rfl, hx, q⟩ := h
  cases rx
  obtain ⟨its, r, ht, hz⟩ := I.list hx
  have hlen := r.length
  refine ⟨"list", _, slot_list_getitem.lookup, ht.isList.typeIs, ?_⟩
  refine wpAny_getItem_list_slice ht.isList hs pl pu .none (by simp) ?_ (by rw [List.size_toArray] <;> omega)
  rw [slicePick_cut, ← hlen]
  refine ⟨.ref s.heap.objs.size, _, I.laid (t' := s.toks) (o := .lst (cutV xs lo hi)) (fun b ob q => Heap.get?_push_of_some _ q) (Nat.le_refl _) ?_, rfl, q _ (I.hok.fresh (Nat.le_refl _))⟩
  exact ⟨Nat.le_trans (cutV_length xs lo hi) hz, _, 0, (r.drop (HT.sIx xs.length 0 lo)).take (HT.sIx xs.length xs.length hi - HT.sIx xs.length 0 lo), Heap.get?_push_size _ rfl⟩

/-! ### in, not in: flat items -/
def flatV : V → Bool
  | .non => true
  | .bl _ => true
  | .int _ => true
  | .str _ => true
  | _ => false
/-- == of flat values -/
def eqV : V → V → Bool
  | .non, .non => true
  | .bl a, .bl b => a == b
  | .bl a, .int b => (if a then 1 else 0) == b
  | .int a, .bl b => a == (if b then 1 else 0)
  | .int a, .int b => a == b
  | .str a, .str b => a == b
  | _, _ => false
theorem eqAt_V {A : Around} {s : Shared} {y x : V} {u v : Value} (ry : RelV y u) (rx : RelV x v) (fy : flatV y = true) (fx : flatV x = true) : SeqAt.EqAt A s u v (eqV y x) := by
  cases y with
  | non =>
    cases ry
    cases x with
    | non => cases rx; exact SeqAt.EqAt.same _
    | bl b => cases rx; exact SeqAt.EqAt.none_bool b
    | int b => obtain ⟨t, rfl⟩ := rx; exact SeqAt.EqAt.none_int b t
    | str b => obtain ⟨t, rfl⟩ := rx; exact SeqAt.EqAt.none_str b t
    | _ => exact absurd (show false = true from fx) Bool.false_ne_true
  | bl a =>
    cases ry
    cases x with
    | non => cases rx; exact SeqAt.EqAt.bool_none a
    | bl b => cases rx; exact SeqAt.EqAt.bool_bool a b
    | int b => obtain ⟨t, rfl⟩ := rx; exact SeqAt.EqAt.bool_int a b t
    | str b => obtain ⟨t, rfl⟩ := rx; exact SeqAt.EqAt.bool_str a b t
    | _ => exact absurd (show false = true from fx) Bool.false_ne_true
  | int a =>
    obtain ⟨t', rfl⟩ := ry
    cases x with
    | non => cases rx; exact SeqAt.EqAt.int_none a t'
    | bl b => cases rx; exact SeqAt.EqAt.int_bool a t' b
    | int b => obtain ⟨t, rfl⟩ := rx; exact SeqAt.EqAt.int_int a t' b t
    | str b => obtain ⟨t, rfl⟩ := rx; exact SeqAt.EqAt.int_str a t' b t
    | _ => exact absurd (show false = true from fx) Bool.false_ne_true
  | str a =>
    obtain ⟨t', rfl⟩ := ry
    cases x with
    | non => cases rx; exact SeqAt.EqAt.str_none a t'
    | bl b => cases rx; exact SeqAt.EqAt.str_bool a t' b
    | int b => obtain ⟨t, rfl⟩ := rx; exact SeqAt.EqAt.str_int a t' b t
    | str b => obtain ⟨t, rfl⟩ := rx; exact SeqAt.EqAt.str_str a t' b t
    | _ => exact absurd (show false = true from fx) Bool.false_ne_true
  | _ => exact absurd (show false = true from fy) Bool.false_ne_true
/-- the items' answers, read off the values (a value's own answer does not lean on its token) -/
def eqU (x : V) (u : Value) : Bool := match u with
  | .none => eqV .non x
  | .bool b => eqV (.bl b) x
  | .int i _ => eqV (.int i) x
  | .str z _ => eqV (.str z) x
  | _ => false
theorem eqU_of {x y : V} {u : Value} (r : RelV y u) (f : flatV y = true) : eqU x u = eqV y x := by
  cases y with
  | non => cases r; rfl
  | bl b => cases r; rfl
  | int i => obtain ⟨t, rfl⟩ := r; rfl
  | str z => obtain ⟨t, rfl⟩ := r; rfl
  | _ => exact absurd (show false = true from f) Bool.false_ne_true
theorem any_eqU {x : V} : ∀ {xs : List V} {us : List Value}, Vals xs us → xs.all flatV = true → us.any (eqU x) = xs.any fun y => eqV y x
  | _, _, .nil, _ => rfl
  | y :: xs, u :: us, .cons r t, f => by
    rw [List.all_cons, Bool.and_eq_true] at f
    rw [List.any_cons, List.any_cons, eqU_of r f.1, any_eqU t f.2]
theorem mem_eqAt {A : Around} {s : Shared} {x : V} {v : Value} (rx : RelV x v) (fx : flatV x = true) : ∀ {xs : List V} {us : List Value}, Vals xs us → xs.all flatV = true → ∀ u ∈ us, SeqAt.EqAt A s u v (eqU x u)
  | _, _, .nil, _ => fun u hu => by cases hu
  | y :: xs, u :: us, .cons r t, f => fun u' hu => by
    rw [List.all_cons, Bool.and_eq_true] at f
    rcases List.mem_cons.mp hu with rfl | hu
    · rw [eqU_of r f.1]; exact eqAt_V r rx f.1 fx
    · exact mem_eqAt rx fx t f.2 u' hu
def inV (x : V) (xs : List V) : Bool := xs.any fun y => eqV y x
/-- x in a list or tuple of flat items -/
def rIn (K : PySem.W.Frag) (neg : Bool) : R2 := fun x y H Q => ∃ p xs, y = .ref p ∧ (SqL K H p xs ∨ SqT K H p xs) ∧ flatV x = true ∧ xs.all flatV = true ∧ Q (.bl (if neg then !inV x xs else inV x xs)) H
theorem op_in_seq : OpR X (compareOp .In) (rIn X.K false) := by
  intro pins s σ H x y v u Q I rx ry h
  obtain ⟨p, xs, rfl, hq, fx, fs, q⟩ := h
  cases ry
  rcases hq with hq | hq
  · obtain ⟨its, r, pl, hz⟩ := I.list hq
    refine SeqAt.in_listAt (eqU x) pl.isList (fun w hw => mem_eqAt rx fx r fs w (by simpa using hw)) ⟨.bl _, H, I, rfl, ?_⟩
    rw [show its.toArray.any (eqU x) = its.any (eqU x) by simp, any_eqU r fs]
    exact q
  · obtain ⟨its, r, pl, hz⟩ := I.tuple hq
    refine SeqAt.in_tupleAt (eqU x) pl (fun w hw => mem_eqAt rx fx r fs w (by simpa using hw)) ⟨.bl _, H, I, rfl, ?_⟩
    rw [show its.toArray.any (eqU x) = its.any (eqU x) by simp, any_eqU r fs]
    exact q
theorem op_notIn_seq : OpR X (compareOp .NotIn) (rIn X.K true) := by
  intro pins s σ H x y v u Q I rx ry h
  obtain ⟨p, xs, rfl, hq, fx, fs, q⟩ := h
  cases ry
  rcases hq with hq | hq
  · obtain ⟨its, r, pl, hz⟩ := I.list hq
    refine SeqAt.notIn_listAt (eqU x) pl.isList (fun w hw => mem_eqAt rx fx r fs w (by simpa using hw)) ⟨.bl _, H, I, rfl, ?_⟩
    rw [show its.toArray.any (eqU x) = its.any (eqU x) by simp, any_eqU r fs]
    exact q
  · obtain ⟨its, r, pl, hz⟩ := I.tuple hq
    refine SeqAt.notIn_tupleAt (eqU x) pl (fun w hw => mem_eqAt rx fx r fs w (by simpa using hw)) ⟨.bl _, H, I, rfl, ?_⟩
    rw [show its.toArray.any (eqU x) = its.any (eqU x) by simp, any_eqU r fs]
    exact q

/-! ### len, list(x), tuple(x) of any list or tuple that is read -/
theorem call_len_seq : CallR X (.builtin "len") (fun xs H Q => ∃ p ys, xs = [.ref p] ∧ (SqL X.K H p ys ∨ SqT X.K H p ys) ∧ Q (.int ys.length) H) := by
  intro pins s σ H xs us Q I r h
  obtain ⟨p, ys, rfl, hq, q⟩ := h
  obtain ⟨u, rfl, rx⟩ := vals1 r
  cases rx
  have hn := line63
  rcases hq with hq | hq
  · obtain ⟨its, r', pl, hz⟩ := I.list hq
    have hlen := r'.length
    exact Calls.call_len_list pl.isList (by simp only [List.size_toArray] <;> omega) ⟨.int ys.length, H, I.tok _, ⟨s.toks + 1, by rw [List.size_toArray, hlen]⟩, q⟩
  · obtain ⟨its, r', pl, hz⟩ := I.tuple hq
    have hlen := r'.length
    exact len_tuple pl (by simp only [List.size_toArray] <;> omega) ⟨.int ys.length, H, I.tok _, ⟨s.toks + 1, by rw [List.size_toArray, hlen]⟩, q⟩
theorem call_len_str : CallR X (.builtin "len") (fun xs H Q => ∃ z, xs = [.str z] ∧ z.length ≤ sizeLine ∧ Q (.int z.length) H) := by
  intro pins s σ H xs us Q I r h
  obtain ⟨z, rfl, hz, q⟩ := h
  obtain ⟨u, rfl, t, rfl⟩ := vals1 r
  have hn := line63
  exact len_str (by omega) ⟨.int z.length, H, I.tok _, ⟨_, rfl⟩, q⟩
theorem call_list_of : CallR X (.type "list") (fun xs H Q => ∃ p ys, xs = [.ref p] ∧ (SqL X.K H p ys ∨ SqT X.K H p ys) ∧ ∀ l, H l = none → Q (.ref l) (upd H l (.lst ys))) := by
  intro pins s σ H xs us Q I r h
  obtain ⟨p, ys, rfl, hq, q⟩ := h
  obtain ⟨u, rfl, rx⟩ := vals1 r
  cases rx
  have fin : ∀ (its : List Value), Vals ys its → ys.length ≤ sizeLine → ∀ (h' : Heap) (c' : Nat), (∀ b o', s.heap.get? b = some o' → h'.get? b = some o') →
      h'.get? s.heap.objs.size = some { cls := .type "list", dict := none, data := .seq its.toArray c', slots := #[] } → EP X pins σ Q (.ref s.heap.objs.size) { s with heap := h' } := fun its r' hz h' c' kp e =>
    ⟨.ref s.heap.objs.size, _, I.laid (t' := s.toks) kp (Nat.le_refl _) (show ObjOk X.prog X.w _ h' _ (.lst ys) from ⟨hz, its, c', r', e⟩), rfl, q _ (I.hok.fresh (Nat.le_refl _))⟩
  rcases hq with hq | hq
  · obtain ⟨its, r', pl, hz⟩ := I.list hq
    have hlen := r'.length
    obtain ⟨o, ho, hc, n, hd⟩ := pl.isList
    exact call_list_seq p (.inl rfl) ho hc hd (fun h' c' kp e => fin its r' hz h' c' kp e) (by simp only [List.size_toArray] <;> omega)
  · obtain ⟨its, r', pl, hz⟩ := I.tuple hq
    have hlen := r'.length
    obtain ⟨o, ho, hc, n, hd⟩ := pl
    exact call_list_seq p (.inr rfl) ho hc hd (fun h' c' kp e => fin its r' hz h' c' kp e) (by simp only [List.size_toArray] <;> omega)
theorem call_tuple_of : CallR X (.type "tuple") (fun xs H Q => ∃ p ys, xs = [.ref p] ∧ ((SqL X.K H p ys ∧ ∀ l, H l = none → Q (.ref l) (upd H l (.tup ys))) ∨ (SqT X.K H p ys ∧ Q (.ref p) H))) := by
  intro pins s σ H xs us Q I r h
  obtain ⟨p, ys, rfl, h⟩ := h
  obtain ⟨u, rfl, rx⟩ := vals1 r
  cases rx
  rcases h with ⟨hq, q⟩ | ⟨hq, q⟩
  · obtain ⟨its, r', pl, hz⟩ := I.list hq
    have hlen := r'.length
    refine call_tuple_list pl.isList (fun h' kp => ?_) (by simp only [List.size_toArray] <;> omega)
    have I1 : Inv X pins σ H { s with heap := h' } := I.kept (t' := s.toks) kp
    have I2 : Inv X pins σ (upd H h'.objs.size (.tup ys)) { s with heap := h'.push { cls := .type "tuple", data := .seq its.toArray } } :=
      I1.laid (t' := s.toks) (fun b o e => Heap.get?_push_of_some _ e) (Nat.le_refl _) (show ObjOk X.prog X.w _ _ _ (.tup ys) from ⟨hz, its, r', IsTup.new _ _⟩)
    exact ⟨.ref h'.objs.size, _, I2, rfl, q _ (I1.hok.fresh (Nat.le_refl _))⟩
  · obtain ⟨its, r', pl, hz⟩ := I.tuple hq
    exact call_tuple_same pl ⟨.ref p, H, I, rfl, q⟩

/-! ### the call of a builtin's method: o.m(..) -/
/-- the value is of that builtin type -/
def tyV (K : PySem.W.Frag) (T : String) (x : V) (H : Hp) : Prop := match x with
  | .str _ => T = "str"
  | .int _ => T = "int"
  | .ref p => (T = "list" ∧ ∃ xs, SqL K H p xs) ∨ (T = "tuple" ∧ ∃ o, K.lookup p = some o ∧ o.cls = .type "tuple" ∧ o.dict = none) ∨
      (T = "dict" ∧ ((∃ kvs, H p = some (.dK kvs)) ∨ ∃ kvs, H p = some (.dT kvs))) ∨ (T = "set" ∧ ∃ S n, H p = some (.set S n))
  | _ => False
theorem tyV_is {pins : List (Addr × Obj)} {σ : St} {H : Hp} {s : Shared} {T : String} {x : V} {v : Value} (I : Inv X pins σ H s) (r : RelV x v) (ty : tyV X.K T x H) :
    s.TypeIs v T ∧ ∀ a, v = .ref a → ∃ ob, s.heap.get? a = some ob ∧ ob.dict = none := by
  cases x with
  | str z =>
    obtain ⟨t, rfl⟩ := r
    cases (show T = "str" from ty)
    exact ⟨typeIs_str s z t, fun _ e => nomatch e⟩
  | int i =>
    obtain ⟨t, rfl⟩ := r
    cases (show T = "int" from ty)
    exact ⟨typeIs_int s i t, fun _ e => nomatch e⟩
  | ref p =>
    cases r
    rcases ty with ⟨rfl, xs, hq⟩ | ⟨rfl, o, hk, hc, hd⟩ | ⟨rfl, hk⟩ | ⟨rfl, S, n, hk⟩
    · obtain ⟨its, _, pl, _⟩ := I.list hq
      refine ⟨pl.isList.typeIs, fun a e => ?_⟩
      cases e
      obtain ⟨o, n, e, c, hd, _⟩ := pl
      exact ⟨o, e, hd⟩
    · refine ⟨⟨o, I.kIn p o hk, hc⟩, fun a e => ?_⟩
      cases e
      exact ⟨o, I.kIn _ o hk, hd⟩
    · have z : ∃ o, s.heap.get? p = some o ∧ o.ExactDict := by
        rcases hk with ⟨kvs, hk⟩ | ⟨kvs, hk⟩
        · obtain ⟨_, _, _, _, o, _, _, e, ex, _⟩ := I.hok p _ hk
          exact ⟨o, e, ex⟩
        · obtain ⟨_, _, _, _, o, _, _, e, ex, _⟩ := I.hok p _ hk
          exact ⟨o, e, ex⟩
      obtain ⟨o, e, ex⟩ := z
      refine ⟨⟨o, e, ex.1⟩, fun a e2 => ?_⟩
      cases e2
      exact ⟨o, e, ex.2.1⟩
    · obtain ⟨o, _, _, _, e, ex, _⟩ := I.hok p _ hk
      refine ⟨⟨o, e, ex.1⟩, fun a e2 => ?_⟩
      cases e2
      exact ⟨o, e, ex.2.1⟩
  | _ => exact False.elim ty
def tBM0 (K : PySem.W.Frag) (T : String) (r : V → List V → Hp → VK → Prop) (to : TE) : TE := fun σ H Q => to σ H fun x H1 => tyV K T x H1 ∧ r x [] H1 Q
def tBM (K : PySem.W.Frag) (T : String) (r : V → List V → Hp → VK → Prop) (to : TE) (t : TA) : TE := fun σ H Q => to σ H fun x H1 => tyV K T x H1 ∧ t σ H1 fun xs H2 => r x xs H2 Q
variable {o e : Expr} {es : List Expr} {to : TE} {t : TA} {name : Str} {apos cpos : Pos} {T id : String} {r : V → List V → Hp → VK → Prop}
theorem pe_bm0 (pa : PlainAttrs T) (slot : Slot T name id) (hty : typeOf (.builtin id) = pure (.type "method_descriptor")) (hm : MtR X id r) (ho : PE X o to)
    (hbase : attributeBase o name X.env (eval o X.env) = eval o X.env := by rfl) (hline : (apos.endLine == cpos.line) = true := by rfl) : PE X (.Call (.Attribute o name apos) [] [] cpos) (tBM0 X.K T r to) := by
  refine ⟨?_⟩
  intro pins s σ H Q I h
  refine wpAny_Call_method0_late hbase hline (thn (ho pins s σ H _ I h) fun v s1 ⟨x, H1, I1, r1, ty, q1⟩ => ?_)
  obtain ⟨h1, h2⟩ := tyV_is I1 r1 ty
  exact ⟨T, id, pa, slot, hty, h1, h2, Calls.callWith_builtin rfl (PySem.evalArgs_none (hm pins s1 σ H1 x [] v [] Q I1 r1 .nil q1))⟩
theorem pe_bm (pa : PlainAttrs T) (slot : Slot T name id) (hty : typeOf (.builtin id) = pure (.type "method_descriptor")) (hm : MtR X id r) (ho : PE X o to) (ha : PA X (e :: es) t)
    (hbase : attributeBase o name X.env (eval o X.env) = eval o X.env := by rfl)
    (hfew : ((backTo cpos (starEach (e :: es) X.env)).all (fun x => !x.1) && (backToKw cpos (keywordEach [] X.env)).all (fun x => x.1.isSome)
      && decide ((e :: es).length + ([] : List Keyword).length + (if ([] : List Keyword).isEmpty then 0 else 1) < 30)) = true := by rfl)
    (hline : (apos.endLine == cpos.line) = true := by rfl) (hs : starEach (e :: es) X.env = (false, eval e X.env) :: starEach es X.env := by rfl) (hplain : (backTo cpos (starEach es X.env)).any (·.1) = false := by rfl) :
    PE X (.Call (.Attribute o name apos) (e :: es) [] cpos) (tBM X.K T r to t) := by
  refine ⟨?_⟩
  intro pins s σ H Q I h
  refine wpAny_Call_method_late hbase hfew hline rfl (thn (ho pins s σ H _ I h) fun v s1 ⟨x, H1, I1, r1, ty, q1⟩ => ?_)
  obtain ⟨h1, h2⟩ := tyV_is I1 r1 ty
  refine ⟨T, id, pa, slot, hty, h1, h2, ?_⟩
  have hA := ha cpos pins s1 σ H1 _ I1 q1
  rw [hs] at hA ⊢
  refine Calls.callWith_builtin (by show (false || (backTo cpos (starEach es X.env)).any (·.1)) = false; rw [hplain] <;> rfl) (Calls.evalArgs_plain ?_)
  exact thn hA fun us s2 ⟨vs, H2, I2, r2, q2⟩ => hm pins s2 σ H2 x vs v us Q I2 r1 r2 q2
/- xs.append(e), list.index on a module's tuple .. are MtR facts of 06m -/
end
end L2

namespace L2
open PySem PySem.Spec PyProof.Rows

def MtM (X : Cx) (id : String) (r : V → List V → Hp → VK → Prop) : Prop :=
  ∀ (pins : List (Addr × Obj)) (s : Shared) (σ : St) (H : Hp) (x : V) (xs : List V) (v : Value) (us : List Value) (Q : VK), Inv X pins σ H s → RelV x v → Vals xs us → r x xs H Q →
    wpAny (model X.prog X.w) X.A (call (.builtin id) (v :: us)) (EP X pins σ Q) X.xe s

/-! ### lists of values -/
theorem Vals.one : ∀ {x : V} {us : List Value}, Vals [x] us → ∃ u, us = [u] ∧ RelV x u
  | _, _, .cons r .nil => ⟨_, rfl, r⟩
theorem Vals.two : ∀ {x y : V} {us : List Value}, Vals [x, y] us → ∃ u v, us = [u, v] ∧ RelV x u ∧ RelV y v
  | _, _, _, .cons r (.cons q .nil) => ⟨_, _, rfl, r, q⟩

section
variable {X : Cx} {pins : List (Addr × Obj)} {σ : St} {H : Hp} {s : Shared} {l b : Addr} {xs ys zs : List V}

/-! ### the two steps: a tracked list is rewritten, a new list is laid -/
theorem Inv.lset {its its' : List Value} {n : Nat} {f : Array Value → Array Value} {t' : Nat} (I : Inv X pins σ H s) (hH : H l = some (.lst xs))
    (e : s.heap.get? l = some { cls := .type "list", data := .seq its.toArray n }) (hf : f its.toArray = its'.toArray) (hv : Vals ys its') (hz : ys.length ≤ sizeLine) :
    Inv X pins σ (upd H l (.lst ys)) { s with heap := s.heap.update l (Obj.mapSeq f), toks := t' } := by
  have q := PySem.IsL.update e f
  rw [hf] at q
  refine I.write (x := l) (e := l) (by rw [hH]; exact trivial) (.inl rfl) (fun b' u hb hu => (Heap.get?_update_other s.heap (Obj.mapSeq f) (Ne.symm hb)).trans hu) ⟨_, q⟩ ?_
  exact ⟨hz, its', _, hv, q⟩
theorem Inv.lnew {its : List Value} {t' : Nat} (I : Inv X pins σ H s) (hv : Vals ys its) (hz : ys.length ≤ sizeLine) :
    Inv X pins σ (upd H s.heap.objs.size (.lst ys)) { s with heap := s.heap.push { cls := .type "list", data := .seq its.toArray }, toks := t' } :=
  I.laid (fun _ _ q => Heap.get?_push_of_some _ q) (Nat.le_refl _) ⟨hz, its, 0, hv, Heap.get?_push_size _ rfl⟩
theorem Inv.fresh (I : Inv X pins σ H s) : H s.heap.objs.size = none := I.hok.fresh (Nat.le_refl _)
theorem Inv.lstM (I : Inv X pins σ H s) (hH : H l = some (.lst xs)) : xs.length ≤ sizeLine ∧ ∃ (its : List Value) (n : Nat), Vals xs its ∧ xs.length = its.length ∧ s.heap.get? l = some { cls := .type "list", data := .seq its.toArray n } := by
  obtain ⟨z, its, n, r, e⟩ := I.hok l _ hH
  exact ⟨z, its, n, r, r.length, e⟩

end

section
variable {X : Cx}

/-! ### methods -/
def rAppend : V → List V → Hp → VK → Prop := fun x vs H Q => ∃ l xs y, x = .ref l ∧ vs = [y] ∧ H l = some (.lst xs) ∧ xs.length < sizeLine ∧ Q .non (upd H l (.lst (xs ++ [y])))
theorem mt_append : MtM X "list.append" rAppend := by
  intro pins s σ H x vs v us Q I rx rv h
  obtain ⟨l, xs, y, rfl, rfl, hH, hz, q⟩ := h
  cases rx
  obtain ⟨u, rfl, ru⟩ := rv.one
  obtain ⟨z, its, n, r, hl, e⟩ := I.lstM hH
  refine call_meets F.slot_list_append ⟨_, e, rfl⟩ F.entry_list_append (F.args_list_append_2 _ _) (PySem.list_append l its.toArray n u (by rw [List.size_toArray]; omega)) ⟨e, ?_⟩
  refine ⟨.non, _, I.lset (its' := its ++ [u]) hH e (by simp) (r.append (.cons ru .nil)) ?_, rfl, q⟩
  rw [List.length_append, List.length_singleton]
  omega






/-! ### list + list, list += list, list * int -/
def rCat : R2 := fun x y H Q => ∃ l b xs zs, x = .ref l ∧ y = .ref b ∧ H l = some (.lst xs) ∧ H b = some (.lst zs) ∧ xs.length + zs.length ≤ sizeLine ∧ ∀ p, H p = none → Q (.ref p) (upd H p (.lst (xs ++ zs)))
theorem op_cat : OpR X (binaryOp .Add) rCat := by
  intro pins s σ H x y v u Q I rx ry h
  obtain ⟨l, b, xs, zs, rfl, rfl, hH, hB, hz, q⟩ := h
  cases rx
  cases ry
  obtain ⟨z, its, n, r, hl, e⟩ := I.lstM hH
  obtain ⟨z2, its2, n2, r2, hl2, e2⟩ := I.lstM hB
  refine PySem.P.add_list e e2 ?_ (by rw [List.size_toArray, List.size_toArray]; omega)
  have ea : its.toArray ++ its2.toArray = (its ++ its2).toArray := by simp
  rw [ea]
  exact ⟨.ref _, _, I.lnew (t' := s.toks) (r.append r2) (by rw [List.length_append]; omega), rfl, q _ I.fresh⟩

/-! ### del xs[i] -/
end

/-! ### xs[a:b] = ys -/
section
variable {prog : Program} {w : World} {A : Around} {E : Value → Shared → Prop} {s : Shared}
end

section
variable {X : Cx}
end
end L2

namespace Att
open PySem PySem.W PySem.Calls PyProof.Rows

/-! ### the script -/
theorem ints_of_wellAll {P : Params} {h : Heap} : ∀ (ns : List Int) (vs : List Value), WellAll P h vs (ns.map WData.int) → IntsAre vs ns := by
  intro ns
  induction ns with
  | nil =>
    intro vs w
    rw [List.map_nil] at w
    cases w
    exact .nil
  | cons n ns ih =>
    intro vs w
    rw [List.map_cons] at w
    cases w with
    | cons a b =>
      cases a
      exact .cons _ _ (ih _ b)

theorem script_of {l : OpenLaw} {n : Nat} (hn : l.most = some n) {P : Params} {h : Heap} {args : List WData} {vals : List Value}
    (hpre : l.row.toRowW.claim.pre args = true) (hwl : WellAll P h vals args) :
    ∃ a vs ns, vals = [Value.ref a] ∧ args = [WData.list (ns.map WData.int)] ∧ h.get? a = some { cls := .type "list", data := .seq vs.toArray } ∧ IntsAre vs ns ∧ ns.length ≤ n := by
  have hsh : WShape.hasAll [] args [.list .int] = true := (pre_splitW hpre).1
  have hc : l.pre.holds [] { args := args } = true := (pre_splitW hpre).2
  obtain ⟨d, r, rfl, h1, h2⟩ := hasAllW_cons hsh
  obtain rfl := hasAllW_nil h2
  obtain ⟨xs, rfl, h3⟩ := hasW_list h1
  obtain ⟨ns, rfl⟩ := items_int h3
  have hlen : ns.length ≤ n := by
    unfold OpenLaw.pre at hc
    have h4 : (WTm.not (.lt (.lit (.int (n : Int))) (.len (.arg 0)))).holds [] { args := [.list (ns.map .int)] } = true := by
      have h4 := (holds_andW hc).1
      rw [hn] at h4
      exact h4
    have h5 := condW_of h4 (w_not (w_lt w_lit (w_len_list (w_arg rfl))))
    rw [List.length_map] at h5
    refine Nat.le_of_not_lt fun q => ?_
    have q' : (n : Int) < ((ns.length : Nat) : Int) := by omega
    first
      | (rw [decide_eq_true q'] at h5; exact absurd h5 (by decide))
      | (simp at h5; omega)
  cases hwl with
  | cons w1 w2 =>
    cases w2
    cases w1 with
    | list ho hall => exact ⟨_, _, ns, rfl, rfl, ho, ints_of_wellAll ns _ hall, hlen⟩

theorem post_true (l : OpenLaw) (args : List WData) : l.row.toRowW.claim.post args (.bool true) args = true :=
  postW_of (r := l.row.toRowW) (X := (true == true))
    (show WShape.has [] (.bool true) .bool = true by first | rfl | decide | simp [WShape.has, WShape.arms, WShape.armsAll])
    (show (WTm.eq .res (.lit (.bool true))).value [] { args := args, res := some (.bool true), after := args } = some (.bool (true == true)) from w_eq_bool (w_res rfl) w_lit) rfl

/-! ### the attachment: holds_open's last premise (the goal 'hc' behind k_head) from a wpAny of the law's body -/

/-- the same from a codeAny of the CALL (for a layer whose function contracts speak of calls) -/
theorem attach_call {l : OpenLaw} {n : Nat} {q : Program} {loose : List Str} {XP : (Str → Option Value) → Heap → Prop} {YP : World → Heap → Prop} {d : DefRec}
    (hn : l.most = some n) (hdf : d.params.defaults = [])
    (call : ∀ (w : World) (s₀ s₁ : Shared) (mg mb : Str → Option Value) (fa : Addr) (o : Obj) (pm cd doc : Value) (a : Addr) (vs : List Value) (ns : List Int),
      Ground q loose [] XP w s₀ mg mb s₁.heap → YP w s₁.heap →
      s₁.heap.get? fa = some o → o.data = .func (docDef d.name d.params d.body d.scope pm cd doc) → s₁.heap.CodeRec cd d.name → mg d.name = some (.ref fa) →
      s₁.heap.get? a = some { cls := .type "list", data := .seq vs.toArray } → IntsAre vs ns → ns.length ≤ n → s₁.gens = #[] →
      codeAny (model l.prog w) callerA (.call (.ref fa) ⟨[.ref a], []⟩) (fun r s' => r = .ok (.ret (.bool true)) ∧ OldK s₁.heap s'.heap ∧ s'.os = s₁.os ∧ AllBare s'.gens) s₁) :
    WalkO q loose XP YP l.row.toRowW d [] (fun f vs => PySem.call f vs) := by
  intro w s₀ s₁ mg mb G Y fa o pm cd doc dV kV ho hd hcd hD hmg hg args vals as hpre hlay hrd hwl hlo
  obtain rfl : dV = .none := Dflts.none hD hdf
  obtain rfl : kV = .none := Dflts.noKw hD
  obtain ⟨a, vs, ns, rfl, rfl, hobj, hints, hlen⟩ := script_of hn hpre hwl
  refine enter_call (codeAny_mono (call w s₀ s₁ mg mb fa o pm cd doc a vs ns G Y ho (fd_plain hd) hcd hmg hobj hints hlen hg) fun r s' hq => ?_)
  obtain ⟨rfl, h2, h3, h4⟩ := hq
  exact ⟨.inl ⟨.bool true, .bool true, [], rfl, fun _ => rfl, .bool true, post_true l _, fun _ => ⟨List.Pairwise.nil, fun _ hm => (nomatch hm)⟩⟩, h2, h3, h4⟩


/-! ### rules over ANY heap (no ledger) from facts about the written part K: the library's own take a ledger (News) for what they write -/
section
variable {prog : Program} {w : World} {A : Around} {E : Value → Shared → Prop} {s : Shared} {K : Frag}





/-! the whole heap as the ledger: makes every rule that writes through a ledger a rule over any heap -/

end
end Att

namespace L2
open PySem PySem.Spec PyProof.Rows

theorem vals_ints : ∀ {vs : List Value} {ns : List Int}, IntsAre vs ns → Vals (ns.map V.int) vs
  | _, _, .nil => .nil
  | _, _, .cons n t h => .cons ⟨t, rfl⟩ (vals_ints h)


end L2

namespace L2
open PySem PySem.Spec PyProof.Rows

abbrev KOf {K : PySem.W.Frag} {h : Heap} (_ : K.In h) : PySem.W.Frag := K

end L2

/- THE LAST THEOREM (shape; LID, My.* are yours):
   My.Adr: a structure of the addresses that your layer names (classes, functions); My.Txt K t: a structure (Prop) of the equations over K;
   My.txt_mk : {K} {implicit addresses ..} (e1 : nsIn K mainGlobals "law" = some (some (.ref f))) (e2 : K.lookup f = some ⟨oc, od, .func (fnOf "law" "law" params body scope dV kV doc pm an cdv ct), sl⟩) (e3 : codeIn K cdv "law" = true) .. : ∃ t, My.Txt K t

set_option maxRecDepth 100000 in
set_option maxHeartbeats 0 in
theorem PySem.Challenge.cw_LID_holds : PySem.Challenge.rw_LID.Holds := by
  w_on; o_law; k_head; (case hw => w_witness2)
  k_fill
  refine L2.walk_of (l := PySem.Challenge.rw_LID) (n := 63) (k := 40) (x := "script") (CX := fun w => ..) (sp := fun _ => My.sp_law) rfl (by decide) rfl ⟨rfl, by decide, by decide⟩ (fun w h Y => PySem.W.kIn_of Y) ?F ?S ?C
  case F =>
    intro w mg fa h KX G hmg
    have T : ∃ t, My.Txt (L2.KOf KX) t := by
      dsimp only [L2.KOf]                          -- K must stand as «<heap const> w.params» for k_is
      refine' My.txt_mk ?e1 ?e2 ?e3 ..
      (case e1 => PySem.W.k_is)                    -- in the order: a name -> its address -> its object -> its parts
      (case e2 => PySem.W.k_is)
      ..
    obtain ⟨t, T⟩ := T
    have e0 := hmg.symm.trans (PySem.W.mg_of KX G T.law)
    cases e0                                       -- fa is the law's own address
    exact ⟨_, fun s u => .of_eq rfl, fun base kb nb => My.law_fn T kb nb⟩     -- if «.of_eq rfl» comes too early: refine' ⟨_, ?b, fun base kb nb => My.law_fn T kb nb⟩; exact fun s u => .of_eq rfl
  case S => exact fun w H a ns hl hO hS => ..
  case C => exact ..
(the tactic k_is has no namespace: write k_is) -/

/-! SHORT WORDS over the layer: a def of the text, its body, what a loop and a test want. -/
namespace L2
open PySem PySem.Spec PyProof.Rows

/-! ### the text by places -/
/-- the j-th statement of a class's body -/
def inClass (s : Stmt) (j : Nat) : Stmt := match s with
  | .ClassDef _ _ _ body _ _ _ _ _ _ _ => body.getD j (.Pass ⟨0, 0, 0, 0⟩)
  | _ => .Pass ⟨0, 0, 0, 0⟩
def defArgs (s : Stmt) : Arguments := match s with
  | .FunctionDef _ a _ _ _ _ _ _ _ _ => a
  | _ => { posonlyargs := [], args := [], vararg := none, kwonlyargs := [], kw_defaults := [], kwarg := none, defaults := [] }
def defBody (s : Stmt) : List Stmt := match s with
  | .FunctionDef _ _ b _ _ _ _ _ _ _ => b
  | _ => []
def defScope (s : Stmt) : Scope := match s with
  | .FunctionDef _ _ _ _ _ _ sc _ _ _ => sc
  | _ => { kind := .function, names := [], isGenerator := false, isCoroutine := false }

/-! ### no exception leaves a def -/
abbrev CX0 : CXT := fun _ _ _ _ _ _ => False
abbrev E0 : XK := fun _ _ _ => False
theorem pass0 {X : Cx} : Passes CX0 X E0 := fun _ _ _ _ _ _ _ h => h.elim

/-! ### a def (or method) of the text as it stands behind the top -/
structure Fun (K : PySem.W.Frag) (x qual : Str) (st : Stmt) (f : Addr) (fd : FuncData) : Prop where
  ex : ∃ (oc : Value) (od : Option Addr) (kV doc pm : Value) (an : Option Addr) (cdv ct : Value) (osl : Array (Option Value)),
    fd = PySem.W.fnOf x qual (defArgs st) (defBody st) (defScope st) .none kV doc pm an cdv ct ∧ K.lookup f = some ⟨oc, od, .func fd, osl⟩ ∧ PySem.W.codeIn K cdv qual = true
  kp : PySem.W.keepIn K (.ref f) = true
section
variable {P : Program} {w : World} {K : PySem.W.Frag} {mg : Str → Option Value} {base : Heap}
/-- THE RULE for a def: its body as a term of rules, and the reading of that term -/
theorem Fun.ok {x qual : Str} {st : Stmt} {f : Addr} {fd : FuncData} {N ps : List Str} {k : Nat} {sp : Sp} (F : Fun K x qual st f fd) (S : FnScope N ps (defScope st)) (len : ∀ vs H Q E, sp vs H Q E → vs.length = ps.length)
    (hbody : ∀ (cdv : Value) (A : Around) (outer : List Env) (s : Shared) (H : Hp) (vs : List V) (Q : VK) (E : XK), Room k (A.deeper (envOfC qual (defScope st) s.heap.objs.size f cdv)) → sp vs H Q E →
      ∃ t, PSs (cxOf CX0 P w K mg base N qual (defScope st) f cdv A outer s H E).nox (defBody st) t ∧ t { nx := fun _ H' => Q .non H', rt := Q } (start N vs) H) : FnOk P w K mg base CX0 (k + 1) f fd ps sp := by
  obtain ⟨oc, od, kV, doc, pm, an, cdv, ct, osl, rfl, lk, hcd⟩ := F.ex
  refine fn_of lk hcd S len fun A outer s H vs Q E hr hsp => ?_
  obtain ⟨t, h, q⟩ := hbody cdv A outer s H vs Q E hr hsp
  exact ⟨t, h.nox, q⟩
/-- how its arguments bind (no defaults): h is «fun _ _ _ _ _ _ us hl => match us, hl with | [_, _], _ => rfl», one _ a parameter -/
theorem Fun.binds {x qual : Str} {st : Stmt} {f : Addr} {fd : FuncData} {ps : List Str} (F : Fun K x qual st f fd)
    (h : ∀ (kV doc pm : Value) (an : Option Addr) (cdv ct : Value) (us : List Value), us.length = ps.length → bindArgs (PySem.W.fnOf x qual (defArgs st) (defBody st) (defScope st) .none kV doc pm an cdv ct) ⟨us, []⟩ = pure (ps.zip us)) : Binds K fd ps [] := by
  obtain ⟨oc, od, kV, doc, pm, an, cdv, ct, osl, rfl, lk, hcd⟩ := F.ex
  exact .all (h kV doc pm an cdv ct)
theorem fun_mk {x qual : Str} {st : Stmt} {f : Addr} {oc : Value} {od an : Option Addr} {osl : Array (Option Value)} {kV doc pm cdv ct : Value} (l : K.lookup f = some ⟨oc, od, .func (PySem.W.fnOf x qual (defArgs st) (defBody st) (defScope st) .none kV doc pm an cdv ct), osl⟩)
    (c : PySem.W.codeIn K cdv qual = true) (k : PySem.W.keepIn K (.ref f) = true) : Fun K x qual st f (PySem.W.fnOf x qual (defArgs st) (defBody st) (defScope st) .none kV doc pm an cdv ct) := ⟨⟨oc, od, kV, doc, pm, an, cdv, ct, osl, rfl, l, c⟩, k⟩
end
theorem hu_of {A : Around} {k : Nat} (hr : Room k A) : A.units + 1 < cLine := Nat.lt_of_le_of_lt (Nat.add_le_add_left (by decide : 1 ≤ 64) _) hr.units
theorem small1000 {n : Nat} (h : n ≤ 1000) : n < sizeLine := Nat.lt_of_le_of_lt h (by decide)

/-! ### expressions in short: the name that stands in the i-th slot -/
section
variable {X : Cx}
theorem pv (i : Nat) {x : Str} {pos : Pos} (hN : X.N[i]? = some x := by rfl) (hv : Vis X.env.scope x := by first | exact Or.inl rfl | exact Or.inr (Or.inl rfl) | exact Or.inr (Or.inr rfl)) (hd : (x == ("__debug__" : Str)) = false := by decide)
    (hcd : (x == ("__classdict__" : Str)) = false := by decide) : PE X (.Name x pos) (tVar i) := pe_var hN hv hd hcd
end

/-! ### tests -/
theorem iteF {A B : Prop} (h : B) : if false = true then A else B := by
  rw [if_neg Bool.false_ne_true]
  exact h
theorem iteT {A B : Prop} (h : A) : if true = true then A else B := by
  rw [if_pos rfl]
  exact h
theorem ite2 {c A B : Prop} [Decidable c] (h1 : c → A) (h2 : ¬ c → B) : if c then A else B := by
  by_cases h : c
  · rw [if_pos h]
    exact h1 h
  · rw [if_neg h]
    exact h2 h

/-! ### heaps -/
/-- all that was tracked is as it was -/
def Same (H H' : Hp) : Prop := ∀ b o, H b = some o → H' b = some o
theorem Same.refl (H : Hp) : Same H H := fun _ _ h => h
theorem Same.trans {H H1 H2 : Hp} (a : Same H H1) (b : Same H1 H2) : Same H H2 := fun c o h => b c o (a c o h)
theorem Same.free {H H' : Hp} (e : Same H H') {l : Addr} (h : H' l = Option.none) : H l = Option.none := by
  cases q : H l with
  | none => rfl
  | some o =>
    rw [e l o q] at h
    cases h
theorem Same.seq {K : PySem.W.Frag} {H H' : Hp} {a : Addr} {xs : List V} (e : Same H H') (h : SqL K H a xs) : SqL K H' a xs := by
  rcases h with (h | ⟨o, h⟩) | h
  · exact .inl (.inl (e _ _ h))
  · exact .inl (.inr ⟨o, e _ _ h⟩)
  · exact .inr h

end L2
set_option Elab.async false
set_option linter.all false
set_option maxRecDepth 100000
/-! MORE CALLS over the hand layer: sum, all, divmod, isinstance, o[i] op= e. -/
namespace L2
open PySem PySem.Spec PyProof.Rows

theorem noPylong_big {x y : Int} (h : y.natAbs < 2 ^ 300) : Builtin.divisionGoesByPylong x y = false := by
  refine PyProof.noPylong_of_log2 ?_
  by_cases h0 : y.natAbs = 0
  · rw [h0]; decide +kernel
  · have h30 : y.natAbs.log2 < 300 := (Nat.log2_lt h0).mpr h
    omega
/-- a divisor from 1 on, of at most sixty figures -/
def CDivB (_i j : Int) : Prop := 0 < j ∧ j < 2 ^ 300
section
variable {X : Cx} {a b : Expr} {ta tb : TE} {pos : Pos}
theorem op_fdivB : OpR X (binaryOp .FloorDiv) (rI CDivB fun i j => .int (i / j)) := opI fun i j _ _ _ _ _ hc q => by
  obtain ⟨h1, h2⟩ := hc
  refine floordiv_int (by omega) ?_ (.inl (noPylong_big (by omega)))
  rw [Int.fdiv_eq_ediv_of_nonneg i (by omega)]
  exact q


theorem bools_at {bs : List Bool} {its : List Value} (rv : Vals (bs.map V.bl) its) {i : Nat} {v : Value} (e : its[i]? = some v) : v = .bool (bs.getD i true) := by
  have hl := rv.length
  rw [List.length_map] at hl
  have hi : i < its.length := (List.getElem?_eq_some_iff.mp e).1
  have hn : bs[i]? = some (bs[i]'(by omega)) := List.getElem?_eq_getElem (by omega)
  obtain ⟨u, hu, ru⟩ := rv.get (i := i) (x := V.bl (bs[i]'(by omega))) (by rw [List.getElem?_map, hn]; rfl)
  rw [e] at hu
  cases hu
  rw [List.getD_eq_getElem?_getD, hn]
  exact ru
theorem all_getD (bs : List Bool) : ((List.range bs.length).all fun i => bs.getD i true) = bs.all id := by
  rw [Bool.eq_iff_iff, List.all_eq_true, List.all_eq_true]
  constructor
  · intro h b hb
    obtain ⟨i, hi, e⟩ := List.getElem_of_mem hb
    have := h i (List.mem_range.mpr hi)
    rw [List.getD_eq_getElem?_getD, List.getElem?_eq_getElem hi, e] at this
    exact this
  · intro h i hi
    have hi' := List.mem_range.mp hi
    rw [List.getD_eq_getElem?_getD, List.getElem?_eq_getElem hi']
    exact h _ (List.getElem_mem hi')
theorem call_all_seq (hc : X.calm = true) : CallR X (.builtin "all") (fun xs H Q => ∃ (p : Addr) (bs : List Bool), xs = [.ref p] ∧ SqL X.K H p (bs.map V.bl) ∧ Q (.bl (bs.all id)) H) := by
  intro pins s σ H xs us Q I r h
  obtain ⟨p, bs, rfl, hq, q⟩ := h
  obtain ⟨u, rfl, rx⟩ := vals1 r
  cases rx
  have hh : X.A.in1.handled = none := I.ok.hd hc
  obtain ⟨its, rv, pl, hz⟩ := I.list hq
  have hp : p < s.heap.objs.size := by obtain ⟨o, e, _⟩ := pl.isList; exact Heap.lt_size e
  have hl := rv.length
  rw [List.length_map] at hl
  refine call_all_walk (wpAny_pyIter_list pl.isList ?_)
  refine ⟨s.heap.objs.size, [s.heap.objs.size, p], [s.heap.objs.size], _, _, _, fun i => bs.getD i true, rfl, Walks.list hh _ p (Nat.ne_of_lt hp) its.toArray, ⟨⟨_, Heap.get?_push_size _ rfl, rfl, rfl⟩, pl.isList.at fun o e => Heap.get?_push_of_some _ e⟩, ?_, ?_⟩
  · intro i v s' Q' E' e q'
    have e' : its[i]? = some v := by simpa using e
    rw [bools_at rv e']
    exact wpAny_pure q'
  · intro h' tk k
    have e : ((List.range its.toArray.size).all fun i => bs.getD i true) = bs.all id := by rw [List.size_toArray, ← hl]; exact all_getD bs
    rw [e]
    exact ⟨.bl (bs.all id), H, I.kept fun b ob e => k b ob (by simp; exact Nat.ne_of_lt (Heap.lt_size e)) (Heap.get?_push_of_some _ e), rfl, q⟩

/-! ### isinstance -/
inductive TyS (H : Hp) : V → Value → Prop
  | bl (y : Bool) : TyS H (.bl y) (.type "bool")
  | int (i : Int) : TyS H (.int i) (.type "int")
  | lst {a : Addr} {xs : List V} (ea : H a = some (.lst xs)) : TyS H (.ref a) (.type "list")
  | tup {a : Addr} {xs : List V} (ea : H a = some (.tup xs)) : TyS H (.ref a) (.type "tuple")
theorem ty_kit {pins : List (Addr × Obj)} {σ : St} {H : Hp} {s : Shared} {x : V} {u t : Value} (I : Inv X pins σ H s) (rx : RelV x u) (ty : TyS H x t) : ∃ Hx : Heap → Prop, PySem.W.KitX X.K u t Hx ∧ Hx s.heap ∧ u ≠ .builtin "__main__.__loader__#opaque" := by
  cases ty with
  | bl y => cases (show u = Value.bool y from rx); exact ⟨_, PySem.W.kitx_bool, True.intro, fun z => nomatch z⟩
  | int i => obtain ⟨t, q⟩ := (show ∃ t, u = Value.int i t from rx); cases q; exact ⟨_, PySem.W.kitx_int, True.intro, fun z => nomatch z⟩
  | @lst a xs ea =>
    cases (show u = Value.ref a from rx)
    obtain ⟨_, _, n, _, h1⟩ := (show ObjOk X.prog X.w H s.heap a (.lst xs) from I.hok a _ ea)
    exact ⟨_, PySem.W.kitx_list, ⟨_, h1, rfl⟩, fun z => nomatch z⟩
  | @tup a xs ea =>
    cases (show u = Value.ref a from rx)
    obtain ⟨_, _, _, p⟩ := (show ObjOk X.prog X.w H s.heap a (.tup xs) from I.hok a _ ea)
    obtain ⟨o, h1, h2, _⟩ := p
    exact ⟨_, PySem.W.kitx_tuple, ⟨o, h1, h2⟩, fun z => nomatch z⟩
theorem pe_ty {x : Str} {T : String} (hg : Gl X x) (hm : X.mg x = none) (hv : bootBuiltins x = some (.type T)) (hn : x ≠ "__name__" := by decide) (hd : (x == ("__debug__" : Str)) = false := by decide) : PE X (.Name x pos) (tC (.ty T)) := pe_bltn hg hm hv rfl hn hd

/-! ### o[i] by values -/
end

example (K : PySem.W.Frag) : PySem.W.kitOne K (.type "bool") (.type "int") = some true := by rfl
example (K : PySem.W.Frag) : PySem.W.kitOne K (.type "int") (.type "bool") = some false := by rfl
example (K : PySem.W.Frag) : PySem.W.kitAny K (.type "tuple") [.type "list", .type "tuple"] = some true := by rfl
example (K : PySem.W.Frag) : PySem.W.kitAny K (.type "str") [.type "list", .type "tuple"] = some false := by rfl
end L2
set_option Elab.async false
set_option linter.all false
set_option maxRecDepth 100000
/-! reversed(t) of a tuple, walked by a for. -/
namespace L2
open PySem PySem.Spec PyProof.Rows

namespace RF
end RF



section
variable {prog : Program} {w : World} {A : Around} {E : Value → Shared → Prop} {s : Shared}
end


section
variable {X : Cx} {tg : Expr}
end
end L2
set_option Elab.async false
set_option linter.all false
set_option maxRecDepth 100000
/-! LIST COMPREHENSIONS over the hand layer: one clause, a plain name, none or one test. -/
namespace L2
open PySem PySem.Spec PyProof.Rows

/-! ### the closure -/
def clStep (cells : List (Str × Addr)) (cs : List (Str × Addr)) (p : Str × NameKind) : List (Str × Addr) :=
  if (p.2 == NameKind.free) = true then (match cells.lookup p.1 with | some a => (p.1, a) :: cs | none => cs) else cs
def clOf (sc : Scope) (cells : List (Str × Addr)) : List (Str × Addr) := sc.names.foldl (clStep cells) []

theorem closure_eq {sc : Scope} {env : Env} (h : ∀ p ∈ sc.names, p.2 = .free → ∃ a, env.cells.lookup p.1 = some a) : closureFor sc env = pure (clOf sc env.cells) := by
  have key : ∀ (l : List (Str × NameKind)) (cs : List (Str × Addr)), (∀ p ∈ l, p.2 = .free → ∃ a, env.cells.lookup p.1 = some a) →
      (forIn l cs fun (x : Str × NameKind) (r : List (Str × Addr)) => match x with
        | (name, kind) => if (kind == NameKind.free) = true then (do let a ← cellOf env name; pure (ForInStep.yield ((name, a) :: r))) else (pure (ForInStep.yield r) : Sem (ForInStep (List (Str × Addr))))) = (pure (l.foldl (clStep env.cells) cs) : Sem (List (Str × Addr))) := by
    intro l
    induction l with
    | nil => intro cs _; rfl
    | cons p r ih =>
      intro cs hp
      obtain ⟨n, k⟩ := p
      rw [List.forIn_cons, List.foldl_cons]
      by_cases hk : (k == NameKind.free) = true
      · obtain ⟨a, ea⟩ := hp (n, k) List.mem_cons_self (by simpa using hk)
        have e1 : clStep env.cells cs (n, k) = (n, a) :: cs := by unfold clStep; rw [if_pos hk]; dsimp only; dsimp only at ea; rw [ea]
        rw [e1]
        dsimp only at ea ⊢
        rw [if_pos hk]
        unfold cellOf
        rw [ea]
        simp only [pure_bind]
        exact ih _ fun q hq => hp q (List.mem_cons_of_mem _ hq)
      · have e1 : clStep env.cells cs (n, k) = cs := by unfold clStep; rw [if_neg hk]
        rw [e1]
        dsimp only
        rw [if_neg hk]
        simp only [pure_bind]
        exact ih _ fun q hq => hp q (List.mem_cons_of_mem _ hq)
  unfold closureFor clOf
  rw [← key sc.names [] h]
  simp only [bind_pure]

theorem clOf_sub (sc : Scope) (cells : List (Str × Addr)) {y : Str} {c : Addr} : (clOf sc cells).lookup y = some c → cells.lookup y = some c := by
  have key : ∀ (l : List (Str × NameKind)) (cs : List (Str × Addr)), (∀ y c, cs.lookup y = some c → cells.lookup y = some c) → ∀ y c, (l.foldl (clStep cells) cs).lookup y = some c → cells.lookup y = some c := by
    intro l
    induction l with
    | nil => intro cs h; exact h
    | cons p r ih =>
      intro cs h
      rw [List.foldl_cons]
      refine ih _ ?_
      intro y c e
      unfold clStep at e
      split at e
      · split at e
        · rename_i a ea
          rw [List.lookup_cons] at e
          cases q : y == p.1 with
          | true =>
            rw [q] at e
            cases e
            rw [eq_of_beq q]; exact ea
          | false => rw [q] at e; exact h y c e
        · exact h y c e
      · exact h y c e
  exact key sc.names [] (fun _ _ h => by cases h) y c

theorem clOf_has (sc : Scope) (cells : List (Str × Addr)) (h : ∀ p ∈ sc.names, p.2 = .free → ∃ a, cells.lookup p.1 = some a) {y : Str} (hy : (y, NameKind.free) ∈ sc.names) : ∃ c, (clOf sc cells).lookup y = some c := by
  have mono : ∀ (l : List (Str × NameKind)) (cs : List (Str × Addr)), (∃ c, cs.lookup y = some c) → ∃ c, (l.foldl (clStep cells) cs).lookup y = some c := by
    intro l
    induction l with
    | nil => intro cs h; exact h
    | cons p r ih =>
      intro cs hc
      rw [List.foldl_cons]
      refine ih _ ?_
      unfold clStep
      split
      · split
        · rw [List.lookup_cons]
          cases q : y == p.1 with
          | true => exact ⟨_, rfl⟩
          | false => exact hc
        · exact hc
      · exact hc
  have key : ∀ (l : List (Str × NameKind)) (cs : List (Str × Addr)), (∀ p ∈ l, p.2 = .free → ∃ a, cells.lookup p.1 = some a) → (y, NameKind.free) ∈ l → ∃ c, (l.foldl (clStep cells) cs).lookup y = some c := by
    intro l
    induction l with
    | nil => intro cs _ hm; cases hm
    | cons p r ih =>
      intro cs hp hm
      rw [List.foldl_cons]
      rcases List.mem_cons.mp hm with e | hm
      · subst e
        obtain ⟨a, ea⟩ := hp (y, .free) List.mem_cons_self rfl
        refine mono r _ ⟨a, ?_⟩
        unfold clStep
        rw [if_pos (show (NameKind.free == NameKind.free) = true by decide)]
        dsimp only at ea ⊢
        rw [ea, List.lookup_cons, beq_self_eq_true]
      · exact ih _ (fun q hq => hp q (List.mem_cons_of_mem _ hq)) hm
  exact key sc.names [] h hy

/-! ### the block's context -/
def cxLC (X : Cx) (x : Str) (scope : Scope) (C : Addr) (fp : List Addr) (s : Shared) (H : Hp) : Cx where
  prog := X.prog
  w := X.w
  K := X.K
  mg := X.mg
  base := X.base
  A := X.A
  N := x :: X.N
  s₀ := s
  H₀ := H
  env := compEnvC scope (clOf scope X.env.cells) C X.env
  outer := X.stack
  stack := X.stack
  ex := fp
  fn := fun _ => false
  calm := X.calm
  pn := []
  xe := fun _ _ => False

/-- what a comprehension's scope must be -/
structure LcScope (X : Cx) (x : Str) (sc : Scope) : Prop where
  kind : sc.kind = .function
  nocell : ∀ p ∈ sc.names, p.2 ≠ .cell
  loc : sc.names.lookup x = some .local
  names : ∀ p ∈ sc.names, p.2 = .local → sc.names.lookup p.1 = some .local
  apart : ∀ y ∈ X.N, sc.names.lookup y ≠ some .local
  nd : X.N.Nodup
  free : ∀ p ∈ sc.names, p.2 = .free → X.env.kindOf p.1 = some .cell ∨ X.env.kindOf p.1 = some .free

section
variable {X : Cx} {pins : List (Addr × Obj)} {σ : St} {H : Hp} {s : Shared} {x : Str} {sc : Scope} {C : Addr} {fp : List Addr}

theorem relabel_look {env : Env} : ∀ {names : List (Str × NameKind)} {y : Str} {k : NameKind}, (names.map fun (n, k) => if (k == NameKind.free && env.scope.kind == .function && env.kindOf n == some .cell) then (n, NameKind.cell) else (n, k)).lookup y = some k →
    ∃ k', names.lookup y = some k' ∧ (k = k' ∨ (k' = .free ∧ k = .cell))
  | [], _, _, h => by simp at h
  | (n, k0) :: r, y, k, h => by
    have ih := @relabel_look env r y k
    have h : List.lookup y ((if (k0 == NameKind.free && env.scope.kind == .function && env.kindOf n == some .cell) = true then (n, NameKind.cell) else (n, k0)) :: (r.map _)) = some k := h
    cases hx : y == n with
    | true =>
      refine ⟨k0, by rw [List.lookup_cons, hx], ?_⟩
      by_cases hc : (k0 == NameKind.free && env.scope.kind == .function && env.kindOf n == some .cell) = true
      · rw [if_pos hc, List.lookup_cons, hx] at h
        cases h
        simp only [Bool.and_eq_true, beq_iff_eq] at hc
        exact .inr ⟨hc.1.1, rfl⟩
      · rw [if_neg hc, List.lookup_cons, hx] at h
        cases h
        exact .inl rfl
    | false =>
      by_cases hc : (k0 == NameKind.free && env.scope.kind == .function && env.kindOf n == some .cell) = true
      · rw [if_pos hc, List.lookup_cons, hx] at h
        rw [List.lookup_cons, hx]; exact ih h
      · rw [if_neg hc, List.lookup_cons, hx] at h
        rw [List.lookup_cons, hx]; exact ih h

theorem LcScope.cells (S : LcScope X x sc) (ok : X.Ok) : ∀ p ∈ sc.names, p.2 = .free → ∃ a, X.env.cells.lookup p.1 = some a := fun p hp e => ok.has p.1 (S.free p hp e)

theorem Inv.okLC (I : Inv X pins σ H s) (S : LcScope X x sc) (hC : s.heap.objs.size ≤ C) (hf : ∀ b ∈ fp, FpOk X pins H b) (hlt : ∀ b ∈ fp, b < s.heap.objs.size) : (cxLC X x sc C fp s H).Ok where
  mod := I.ok.mod
  kind := S.kind
  glob := I.ok.glob
  blt := I.ok.blt
  above := hC
  inj := fun y z c e1 e2 => I.ok.inj y z c (clOf_sub sc X.env.cells e1) (clOf_sub sc X.env.cells e2)
  has := fun y hy => by
    have hy' : (relabel sc X.env).names.lookup y = some .cell ∨ (relabel sc X.env).names.lookup y = some .free := hy
    have fr : sc.names.lookup y = some .free := by
      rcases hy' with h | h
      · obtain ⟨k', e, q⟩ := relabel_look h
        rcases q with q | ⟨q, _⟩
        · subst q; exact absurd rfl (S.nocell _ (PySem.mem_of_lookup e))
        · rw [e, q]
      · obtain ⟨k', e, q⟩ := relabel_look h
        rcases q with q | ⟨_, q⟩
        · rw [e, ← q]
        · cases q
    exact clOf_has sc X.env.cells (S.cells I.ok) (PySem.mem_of_lookup fr)
  cab := fun y c e => by cases (show false = true from e)
  hd := I.ok.hd
  frames := I.ok.frames
  stk := .inl rfl
  exf := fun b hb => ⟨Nat.ne_of_lt (Nat.lt_of_lt_of_le (hlt b hb) hC), fun y c e => (hf b hb).2.2.2.2.1 y c (clOf_sub sc X.env.cells e)⟩
  bs := I.bs
  bsz := Nat.le_trans I.ok.bsz I.sz
  noex := fun b o e hb => by
    rcases (hf b hb).2.2.2.1 with q | q
    · exact I.ok.noex b o e q
    · exact absurd (Nat.lt_of_lt_of_le (Heap.lt_size e) (Nat.le_trans I.ok.bsz q)) (Nat.lt_irrefl _)
  exfs := fun b hb z => by
    rcases List.mem_cons.mp (I.stkSub b z) with q | q
    · exact (hf b hb).2.1 q
    · exact (hf b hb).2.2.1 q
  funs := I.stack
  frf := I.stkFree

/-- the block begins: a new list at D, a new frame at C -/
theorem Inv.startLC {D : Addr} {h1 : Heap} {m : Str → Option Value} {tk : Nat} (I : Inv X pins σ H s) (S : LcScope X x sc) (hf : ∀ b ∈ fp, FpOk X pins H b) (hlt : ∀ b ∈ fp, b < s.heap.objs.size)
    (hD : D = s.heap.objs.size) (hC : s.heap.objs.size ≤ C) (hDC : C ≠ D) (hk : ∀ b o, s.heap.get? b = some o → h1.get? b = some o) (hn : h1.Ns C m) (hl : h1.get? D = some { cls := .type "list", data := .seq ([] : List Value).toArray 0 }) :
    Inv (cxLC X x sc C fp s H) [] (none :: σ) (upd H D (.lst [])) { s with heap := h1, toks := tk } := by
  have hDle : s.heap.objs.size ≤ D := by rw [hD]; exact Nat.le_refl _
  have cells : ∀ y c, (clOf sc X.env.cells).lookup y = some c → c < s.heap.objs.size := fun y c e => by
    obtain ⟨v, q⟩ := I.cell y c (clOf_sub sc X.env.cells e)
    exact q.lt
  refine ⟨I.okLC S hC hf hlt, rfl, I.bare, Un.laid hk hDle (I.hok.fresh hDle), ⟨m, hn, fun i y v e1 e2 e3 => ?_⟩, fun y c e => ?_, ?_, fun y c e => ?_, fun p hp => absurd (show p ∈ ([] : List (Addr × Obj)) from hp) (by simp), I.hok.laid hk hDle ⟨Nat.zero_le _, [], 0, .nil, hl⟩, ?_⟩
  · cases i with
    | zero => cases (show some (none : Option V) = some (some v) from e2)
    | succ j =>
      have e1' : X.N[j]? = some y := e1
      have e2' : σ[j]? = some (some v) := e2
      have e3' : Vis (relabel sc X.env) y := e3
      have ny : sc.names.lookup y ≠ some .local := S.apart y (List.mem_of_getElem? e1')
      have fr : sc.names.lookup y = some .free ∧ ((relabel sc X.env).names.lookup y = some .cell ∨ (relabel sc X.env).names.lookup y = some .free) := by
        rcases e3' with h | h | h
        · obtain ⟨k', e, q⟩ := relabel_look h
          rcases q with q | ⟨_, q⟩
          · subst q; exact absurd e ny
          · cases q
        · obtain ⟨k', e, q⟩ := relabel_look h
          rcases q with q | ⟨q, _⟩
          · subst q; exact absurd rfl (S.nocell _ (PySem.mem_of_lookup e))
          · exact ⟨by rw [e, q], .inl h⟩
        · obtain ⟨k', e, q⟩ := relabel_look h
          rcases q with q | ⟨_, q⟩
          · exact ⟨by rw [e, ← q], .inr h⟩
          · cases q
      have ok := S.free (y, .free) (PySem.mem_of_lookup fr.1) rfl
      obtain ⟨m0, hn0, hl0⟩ := I.loc
      obtain ⟨u, r, l⟩ := hl0 j y v e1' e2' (.inr ok)
      refine ⟨u, r, .inr ⟨fr.2, ?_⟩⟩
      rcases l with ⟨k, _⟩ | ⟨_, c, ec, z⟩
      · rcases ok with q | q <;> (rw [show X.env.kindOf y = some .local from k] at q; cases q)
      · obtain ⟨c', ec'⟩ := clOf_has sc X.env.cells (S.cells I.ok) (PySem.mem_of_lookup fr.1)
        have := clOf_sub sc X.env.cells ec'
        rw [ec] at this
        cases this
        obtain ⟨o, ho, hd⟩ := z
        exact ⟨c, ec', o, hk _ _ ho, hd⟩
  · obtain ⟨v, o, ho, hd⟩ := I.cell y c (clOf_sub sc X.env.cells e)
    exact ⟨v, o, hk _ _ ho, hd⟩
  · show upd H D (.lst []) C = none
    rw [upd_ne hDC]
    exact I.hok.fresh hC
  · show upd H D (.lst []) c = none
    rw [upd_ne (Nat.ne_of_lt (Nat.lt_of_lt_of_le (cells y c e) hDle))]
    exact I.freeC y c (clOf_sub sc X.env.cells e)
  · show (none :: σ).length = (x :: X.N).length
    rw [List.length_cons, List.length_cons, I.len]

/-- the frame C of a block let go: nothing of ours stands there -/
theorem Inv.butC {h' : Heap} (I : Inv X pins σ H s) (hs : Heap.SameBut C s.heap h') (hC : X.s₀.heap.objs.size ≤ C) (hn : H C = none) (hL : C ≠ X.env.locals) (hc : ∀ y c, X.env.cells.lookup y = some c → c ≠ C) (hp : ∀ p ∈ X.pn ++ pins, p.1 ≠ C) :
    Inv X pins σ H { s with heap := h' } := I.turned (t' := s.toks) (fun b o hb e => (hs.2 b hb).trans e) hn hL (.inr hC) hc hp

/-- the block is through: back in the context around it -/
theorem Inv.endLC {s2 : Shared} {H2 : Hp} {st : St} {pl : List (Addr × Obj)} (I : Inv X pins σ H s) (J : Inv (cxLC X x sc C fp s H) pl st H2 s2) (hf : ∀ b ∈ fp, FpOk X pins H b) : Inv X pins σ H2 s2 :=
  I.call' (ch := fp) J.os J.base J.hok J.bare fun b hb => ⟨(hf b hb).2.2.2.1, (hf b hb).2.1, (hf b hb).2.2.2.2.1, (hf b hb).2.2.2.2.2⟩
end

/-! ### the tests -/
def PTs (X : Cx) (ifs : List Expr) (t : TT) : Prop :=
  ∀ (pins : List (Addr × Obj)) (s : Shared) (σ : St) (H : Hp) (Q : Bool → Hp → Prop), Inv X pins σ H s → t σ H Q →
    wpAny (model X.prog X.w) X.A (forIn ifs true fun c r => if r = true then do let ok ← isTrue c X.env (eval c X.env); pure (ForInStep.yield ok) else pure (ForInStep.yield r)) (TP X pins σ Q) X.xe s
def tYes : TT := fun _ H Q => Q true H
theorem pts_nil {X : Cx} : PTs X [] tYes := fun _ _ _ H _ I h => wpAny_tests_nil ⟨H, I, h⟩
theorem pts_one {X : Cx} {c : Expr} {t : TT} (h : PT X c t) : PTs X [c] t := fun pins s σ H Q I q => wpAny_tests_one (h pins s σ H Q I q)

/-! ### the loop, the step ahead of the store kept -/
theorem compLoop_own {prog : Program} {w : World} {A : Around} {R : Result → Shared → Prop} {s : Shared} {elt target iter : Expr} {ifs : List Expr} {scope : Scope} {pos : Pos} {it acc : Value} {env : Env} (I : Nat → Shared → Prop)
    (turn : ∀ n s, I n s → wpAny (model prog w) A (pyNext it) (fun r s1 => match r with
      | none => R (.ok .next) s1
      | some v => wpAny (model prog w) A (letOwnedTupleGo target it v) (fun _ s1 => wpAny (model prog w) A (assign target env v) (fun _ s2 =>
          wpAny (model prog w) A (forIn ifs true fun c r => if r = true then do let ok ← isTrue c env (eval c env); pure (ForInStep.yield ok) else pure (ForInStep.yield r)) (fun ok s3 =>
            if ok = true then wpAny (model prog w) A (eval elt env) (fun x s4 =>
              wpAny (model prog w) A (call (.builtin "list.append") [acc, x]) (fun _ s5 => ∃ m, m < n ∧ I m s5) (fun _ _ => False) s4) (fun _ _ => False) s3
            else ∃ m, m < n ∧ I m s3) (fun _ _ => False) s2) (fun _ _ => False) s1) (fun _ _ => False) s1) (fun _ _ => False) s)
    (n : Nat) (h : I n s) :
    codeAny (model prog w) A (.compLoop (.ListComp elt [⟨target, iter, ifs, 0⟩] scope pos) 0 it acc env) R s := by
  refine codeAny_loop rfl I (fun n s hI => ?_) n h
  show wpAny _ A ((compTurn (.ListComp elt [⟨target, iter, ifs, 0⟩] scope pos) 0 it acc env).onRaise (fun x => do noteFrame x env; theTreesLotGoes x)) _ _ s
  refine wpAny_noted ?_
  rw [compTurn_list]
  refine wpAny_bind (wpAny_standAt (wpAny_bind (wpAny_mono (turn n s hI) (fun r s1 h1 => ?_) fun _ _ h' => h'.elim)))
  cases r with
  | none => exact wpAny_pure h1
  | some v =>
    refine wpAny_bind (wpAny_mono h1 (fun _ s1 h1 => ?_) fun _ _ h' => h'.elim)
    refine wpAny_bind (wpAny_mono h1 (fun _ s2 h2 => wpAny_bind (wpAny_mono h2 (fun ok s3 h3 => ?_) fun _ _ h' => h'.elim)) fun _ _ h' => h'.elim)
    cases ok with
    | false => exact wpAny_pure ⟨rfl, h3⟩
    | true =>
      exact wpAny_bind (wpAny_bind (wpAny_mono h3 (fun x s4 h4 => wpAny_bind (wpAny_mono h4 (fun _ s5 h5 => wpAny_pure (wpAny_pure ⟨rfl, h5⟩)) fun _ _ h' => h'.elim)) fun _ _ h' => h'.elim))

/-! ### the reading -/
/-- acc = []; for x in ..: if ..: acc.append(..), the list at D -/
def lcGo (tc : TT) (te : TE) (σ : St) (J : It) (D : Addr) (Fin : Hp → Prop) (H : Hp) : Prop :=
  ∃ W : Nat → Nat → List V → Hp → Prop, (∃ m, W 0 m [] (upd H D (.lst []))) ∧ ∀ i m ys H, W i m ys H → H D = some (.lst ys) ∧
    ((J.stop i H ∧ Fin H) ∨ (J.go i H ∧ ∀ x H', J.yld i H x H' → tc (some x :: σ) H' fun b H2 => if b = true then te (some x :: σ) H2 fun y H3 => H3 D = some (.lst ys) ∧ ys.length < sizeLine ∧ ∃ m', m' < m ∧ W (i + 1) m' (ys ++ [y]) (upd H3 D (.lst (ys ++ [y])))
      else ∃ m', m' < m ∧ W (i + 1) m' ys H2))
def tLC (wi : TI) (tc : TT) (te : TE) : TE := fun σ H Q => wi σ H fun J H1 => ∀ D, H1 D = none → lcGo tc te σ J D (fun H2 => Q (.ref D) H2) H1

section
variable {X : Cx} {x : Str} {sc : Scope} {elt iter : Expr} {ifs : List Expr} {px pos : Pos} {wi : TI} {tc : TT} {te : TE}
/-- from the iterator on -/
theorem lc_block {pins : List (Addr × Obj)} {σ : St} {H : Hp} {s : Shared} {it : Addr} {fp : List Addr} {tn : Nat → Heap → Prop} {J : It} {Fin : Addr → Hp → Prop} {RR : Value → Addr → Result → Shared → Prop} {E : Value → Shared → Prop}
    (hc : X.calm = true) (S : LcScope X x sc) (I : Inv X pins σ H s) (T : Turn X.prog X.w X.K (.Name x px) J fp it tn) (st : tn 0 s.heap) (hf : ∀ b ∈ fp, FpOk X pins H b)
    (ht : ∀ C s0 H0, PTs (cxLC X x sc C fp s0 H0) ifs tc) (he : ∀ C s0 H0, PE (cxLC X x sc C fp s0 H0) elt te) (q : ∀ D, H D = none → lcGo tc te σ J D (Fin D) H)
    (hR : ∀ D C H2 s2 m, s.heap.objs.size ≤ C → Inv X pins σ H2 s2 → H2 C = none → s2.heap.Ns C m → Fin D H2 → RR (.ref D) C (.ok .next) s2) :
    wpAny (model X.prog X.w) X.A (newList []) (fun acc s3 => wpAny (model X.prog X.w) X.A (newFunctionEnv sc X.env.globals (clOf sc X.env.cells) [] X.env.qual none .none (some X.env)) (fun cenv s4 =>
      codeAny (model X.prog X.w) X.A (.compStart (.ListComp elt [⟨.Name x px, iter, ifs, 0⟩] sc pos) 0 (.ref it) acc { cenv with scope := relabel sc X.env }) (RR acc cenv.locals) s4) E s3) E s := by
  have hlt : ∀ b ∈ fp, b < s.heap.objs.size := fun b hb => by
    obtain ⟨o, e, _⟩ := T.obj 0 _ st b hb
    exact Heap.lt_size e
  refine wpAny_newObj_type (wpAny_newFunctionEnv S.nocell (by intro y hy; simp at hy) (fun h1 hns1 hsb1 => ?_) S.kind)
  dsimp only at hns1 hsb1 ⊢
  generalize hH2 : s.heap.push { cls := .type "list", dict := none, data := .seq ([] : List Value).toArray } = G at hns1 hsb1 ⊢
  have hC : G.objs.size = s.heap.objs.size + 1 := by rw [← hH2, Heap.size_push]
  have hCle : s.heap.objs.size ≤ G.objs.size := by rw [hC]; exact Nat.le_succ _
  have hDC : G.objs.size ≠ s.heap.objs.size := by rw [hC]; exact Nat.succ_ne_self _
  have old : ∀ b o, s.heap.get? b = some o → h1.get? b = some o := fun b o e => hsb1.extBut b o (Nat.ne_of_lt (Nat.lt_of_lt_of_le (Heap.lt_size e) hCle)) (Heap.get?_push_of_some _ (hH2 ▸ Heap.get?_push_of_some _ e))
  have hacc : h1.get? s.heap.objs.size = some { cls := .type "list", data := .seq ([] : List Value).toArray 0 } := hsb1.extBut _ _ (Ne.symm hDC) (Heap.get?_push_of_some _ (hH2 ▸ Heap.get?_push_size _ rfl))
  have hDn : H s.heap.objs.size = none := I.hok.fresh (Nat.le_refl _)
  obtain ⟨W, ⟨m0, w0⟩, turn⟩ := q s.heap.objs.size hDn
  have st1 : tn 0 h1 := T.keep _ _ _ st fun b _ o e => old b o e
  have I1 := fun tk => I.startLC (tk := tk) S hf hlt rfl hCle hDC old hns1 hacc
  have fr1 : ∀ b ∈ fp, upd H s.heap.objs.size (.lst []) b = none := fun b hb => by rw [upd_ne (Nat.ne_of_lt (hlt b hb))]; exact (hf b hb).1
  have loop : ∀ s3 : Shared, s3 = { s with heap := h1, toks := s.toks + ([] : List (Str × Value)).length } →
      codeAny (model X.prog X.w) X.A (.compLoop (.ListComp elt [⟨.Name x px, iter, ifs, 0⟩] sc pos) 0 (.ref it) (.ref s.heap.objs.size) (compEnvC sc (clOf sc X.env.cells) G.objs.size X.env))
        (RR (.ref s.heap.objs.size) G.objs.size) s3 := by
    rintro s3 rfl
    have fpk : ∀ {H' : Hp}, (∀ b ∈ fp, H' b = none) → ∀ b ∈ fp, FpOk (cxLC X x sc G.objs.size fp s H) [] H' b := fun hn b hb =>
      ⟨hn b hb, Nat.ne_of_lt (Nat.lt_of_lt_of_le (hlt b hb) hCle), (I.okLC (C := G.objs.size) S hCle hf hlt).exfs b hb, .inl hb, fun y c e => (hf b hb).2.2.2.2.1 y c (clOf_sub sc X.env.cells e), fun p hp => absurd (show p ∈ ([] : List (Addr × Obj)) from hp) (by simp)⟩
    refine compLoop_own (fun n s' => ∃ i w ys H', Inv (cxLC X x sc G.objs.size fp s H) [] (w :: σ) H' s' ∧ tn i s'.heap ∧ (∀ b ∈ fp, H' b = none) ∧ W i n ys H') ?_ m0 ⟨0, none, [], _, I1 _, st1, fr1, w0⟩
    rintro n s3 ⟨i, v0, ys, H3, I3, st3, fr3, w3⟩
    obtain ⟨hD3, turn3⟩ := turn i n ys H3 w3
    rcases turn3 with ⟨stop, fin⟩ | ⟨go, step⟩
    · refine thn (T.done (cxLC X x sc G.objs.size fp s H) rfl rfl rfl hc i [] s3 _ H3 _ I3 (fpk fr3) st3 stop) fun r s4 ⟨hr, I4⟩ => ?_
      subst hr
      obtain ⟨m4, hn4, _⟩ := I4.loc
      exact hR _ _ H3 s4 m4 hCle (I.endLC I4 hf) I4.free hn4 fin
    · refine thn (T.item (cxLC X x sc G.objs.size fp s H) rfl rfl rfl hc i [] s3 _ H3 _ I3 (fpk fr3) st3 go) fun r s4 ⟨u, hr, h4⟩ => ?_
      subst hr
      refine thn h4 fun _ s5 ⟨y, H5, I5, r5, y5, st5, fr5⟩ => ?_
      have I5' := I5.pinned (fpk fr5) (T.obj _ _ st5)
      have hN : (x :: X.N).Nodup := List.nodup_cons.mpr ⟨fun hm => S.apart x hm S.loc, S.nd⟩
      have pg : PG (cxLC X x sc G.objs.size fp s H) (.Name x px) (gName 0) := pg_name hN rfl (.inl (lookup_relabel_local S.loc)) (.inr (lookup_relabel_local S.loc))
      refine thn (pg _ s5 _ H5 y u (fun σ6 H6 => σ6 = some y :: σ ∧ H6 = H5) I5' r5 ⟨rfl, rfl⟩) fun _ s6 ⟨σ6, H6, I6, e6, e6'⟩ => ?_
      subst e6; subst e6'
      refine thn (ht G.objs.size s H _ s6 _ H6 _ I6 (step y H6 y5)) fun ok s7 ⟨H7, I7, q7⟩ => ?_
      have again : ∀ {H8 : Hp} {s8 : Shared} {zs : List V}, Inv (cxLC X x sc G.objs.size fp s H) ([] ++ pinsAt fp s5.heap) (some y :: σ) H8 s8 → (∃ m', m' < n ∧ W (i + 1) m' zs H8) → ∃ m, m < n ∧ ∃ i w ys H', Inv (cxLC X x sc G.objs.size fp s H) [] (w :: σ) H' s8 ∧ tn i s8.heap ∧ (∀ b ∈ fp, H' b = none) ∧ W i m ys H' := fun {H8 s8 zs} I8 ⟨m', hm, w8⟩ => by
        refine ⟨m', hm, i + 1, some y, zs, H8, I8.unpinned, T.keep _ _ _ st5 fun b hb o e => (I8.pin (b, o) (List.mem_append_right _ (List.mem_append_right _ (mem_pinsAt hb e)))).1, fun b hb => ?_, w8⟩
        obtain ⟨o, e, d⟩ := T.obj _ _ st5 b hb
        exact (I8.pin (b, o) (List.mem_append_right _ (List.mem_append_right _ (mem_pinsAt hb e)))).2.1
      cases ok with
      | false =>
        rw [if_neg Bool.false_ne_true] at q7 ⊢
        exact again I7 q7
      | true =>
        rw [if_pos rfl] at q7 ⊢
        refine thn (he G.objs.size s H _ s7 _ H7 _ I7 q7) fun z s8 ⟨zv, H8, I8, r8, hD8, hz8, w8⟩ => ?_
        refine thn (mt_append _ s8 _ H8 (.ref s.heap.objs.size) [zv] (.ref s.heap.objs.size) [z] (fun _ H9 => ∃ m', m' < n ∧ W (i + 1) m' (ys ++ [zv]) H9) I8 rfl (.cons r8 .nil) ⟨_, ys, zv, rfl, rfl, hD8, hz8, w8⟩) fun _ s9 ⟨_, H9, I9, _, w9⟩ => ?_
        exact again I9 w9
  exact codeAny_compStart_list (loop _ rfl) (T.self X.A 0 _ _ _ st1 (loop _ rfl))

theorem pe_lc (hc : X.calm = true) (S : LcScope X x sc) (hi : PI X (.Name x px) iter wi) (ht : ∀ C fp s0 H0, PTs (cxLC X x sc C fp s0 H0) ifs tc) (he : ∀ C fp s0 H0, PE (cxLC X x sc C fp s0 H0) elt te)
    (hs : ∀ v, foldedSetIterable iter X.env v = pure v := by intro _; rfl) : PE X (.ListComp elt [⟨.Name x px, iter, ifs, 0⟩] sc pos) (tLC wi tc te) := by
  refine ⟨?_⟩
  intro pins s σ H Q I h
  rw [eval_ListComp]
  refine wpAny_comprehension_free (use := none) rfl hs (closure_eq (S.cells I.ok)) S.kind S.names (thn (hi pins s σ H _ I h) fun v s1 h1 => thn h1 fun itv s2 h2 => ?_)
  obtain ⟨it, fp, tn, J, H2, e, I2, T, st2, f2, q2⟩ := h2
  subst e
  refine lc_block (RR := fun acc C => compPost (model X.prog X.w) X.A X.xe none (EP X pins σ Q) acc C) (Fin := fun D H3 => Q (.ref D) H3) hc S I2 T st2 f2 (fun C s0 H0 => ht C fp s0 H0) (fun C s0 H0 => he C fp s0 H0) q2 ?_
  intro D C H3 s3 m hC I3 hn hN q3
  refine ⟨m, hN, fun h' hs' => ⟨.ref D, H3, I3.butC hs' (Nat.le_trans I2.sz hC) hn (Nat.ne_of_gt (Nat.lt_of_lt_of_le I2.lt hC)) (fun y c e => ?_) (fun p hp => ?_), rfl, q3⟩⟩
  · obtain ⟨v, z⟩ := I2.cell y c e
    exact Nat.ne_of_lt (Nat.lt_of_lt_of_le z.lt hC)
  · exact Nat.ne_of_lt (Nat.lt_of_lt_of_le (Heap.lt_size (I2.pin p hp).1) hC)

/-- name = [.. for ..]: the name is stored ahead of the block's names' going -/
theorem ps_setLC {i : Nat} {y : Str} {py spos : Pos} (hc : X.calm = true) (hi' : X.N[i]? = some y) (hy : X.env.scope.names.lookup y = some .local) (S : LcScope X x sc) (hi : PI X (.Name x px) iter wi) (ht : ∀ C fp s0 H0, PTs (cxLC X x sc C fp s0 H0) ifs tc) (he : ∀ C fp s0 H0, PE (cxLC X x sc C fp s0 H0) elt te)
    (hsw : swapsWith (.ListComp elt [⟨.Name x px, iter, ifs, 0⟩] sc pos) (some (.Name y py)) spos.line X.env = pure true := by rfl) (hs : ∀ v, foldedSetIterable iter X.env v = pure v := by intro _; rfl) :
    PS X (.Assign [.Name y py] (.ListComp elt [⟨.Name x px, iter, ifs, 0⟩] sc pos) spos) (tAsg (tLC wi tc te) (gName i)) := by
  refine ⟨?_⟩
  intro pins s σ H Dn I h
  rw [exec_Assign_Name_used _ _ _ _ hsw]
  refine wpAny_bind (wpAny_standAt (wpAny_bind ?_))
  show wpAny _ X.A (do let _ ← comprehension (.ListComp elt [⟨.Name x px, iter, ifs, 0⟩] sc pos) sc X.env _ (newList []) false (eval iter X.env) (some (assign (.Name y py) X.env))) _ _ s
  refine wpAny_bind (wpAny_mono (wpAny_comprehension_free (use := some (assign (.Name y py) X.env)) (Q := fun _ s' => SP X pins Dn .next s') rfl hs (closure_eq (S.cells I.ok)) S.kind S.names
    (thn (hi pins s σ H _ I h) fun v s1 h1 => thn h1 fun itv s2 h2 => ?_)) (fun _ s' hq => wpAny_pure (wpAny_pure hq)) fun _ _ e => e)
  obtain ⟨it, fp, tn, J, H2, e, I2, T, st2, f2, q2⟩ := h2
  subst e
  refine lc_block (RR := fun acc C => compPost (model X.prog X.w) X.A X.xe (some (assign (.Name y py) X.env)) (fun _ s' => SP X pins Dn .next s') acc C) (Fin := fun D H3 => gName i (.ref D) σ H3 Dn.nx) hc S I2 T st2 f2 (fun C s0 H0 => ht C fp s0 H0) (fun C s0 H0 => he C fp s0 H0) q2 ?_
  intro D C H3 s3 m hC I3 hn hN q3
  show wpAny _ _ (assign (.Name y py) X.env (.ref D)) _ _ s3
  have cne : ∀ y c, X.env.cells.lookup y = some c → c ≠ C := fun y c e => by
    obtain ⟨v, z⟩ := I2.cell y c e
    exact Nat.ne_of_lt (Nat.lt_of_lt_of_le z.lt hC)
  refine wpAny_assign_Name (store_ok2 I3 S.nd hi' (.inl hy) (show RelV (.ref D) (.ref D) from rfl) (fun s4 I4 ⟨a, hs4, ha⟩ => ?_) (.inr hy))
  have haC : C ≠ a := by
    rcases ha with e | e
    · rw [e]; exact Nat.ne_of_gt (Nat.lt_of_lt_of_le I2.lt hC)
    · exact Ne.symm (cne y a e)
  refine ⟨m, hN.sameBut hs4 haC, fun h' hs' => ⟨_, H3, I4.butC hs' (Nat.le_trans I2.sz hC) hn (Nat.ne_of_gt (Nat.lt_of_lt_of_le I2.lt hC)) cne (fun p hp => ?_), q3⟩⟩
  exact Nat.ne_of_lt (Nat.lt_of_lt_of_le (Heap.lt_size (I2.pin p hp).1) hC)
end

/-! ### the forms one uses -/
end L2
set_option Elab.async false
set_option linter.all false
set_option maxRecDepth 100000
set_option Elab.async false
set_option linter.all false
set_option maxRecDepth 100000
namespace L2
open PySem PySem.Spec PyProof.Rows
/-! ### defs of the text, and what they promise -/
structure Fn (K : PySem.W.Frag) (mg : Str → Option Value) (x : Str) (st : Stmt) (ps : List Str) (f : Addr) (fd : FuncData) : Prop where
  fn : Fun K x x st f fd
  m : mg x = some (.ref f)
  b : Binds K fd ps []
structure Fm (K : PySem.W.Frag) (C : Addr) (x qual : Str) (st : Stmt) (ps : List Str) (f : Addr) (fd : FuncData) : Prop where
  fn : Fun K x qual st f fd
  m : Meth K C x f
  b : Binds K fd ps []
def Can (P : Program) (w : World) (K : PySem.W.Frag) (mg : Str → Option Value) (base : Heap) (k : Nat) (x : Str) (ps : List Str) (sp : Sp) : Prop :=
  ∃ f fd, FnOk P w K mg base CX0 k f fd ps sp ∧ mg x = some (.ref f) ∧ PySem.W.keepIn K (.ref f) = true ∧ Binds K fd ps []
def CanM (P : Program) (w : World) (K : PySem.W.Frag) (mg : Str → Option Value) (base : Heap) (C : Addr) (k : Nat) (x : Str) (ps : List Str) (sp : Sp) : Prop :=
  ∃ f fd, FnOk P w K mg base CX0 k f fd ps sp ∧ Meth K C x f ∧ Binds K fd ps []
section
variable {P : Program} {w : World} {K : PySem.W.Frag} {mg : Str → Option Value} {base : Heap}
theorem fn_can {x : Str} {st : Stmt} {N ps : List Str} {k : Nat} {sp : Sp} (h : ∃ f fd, Fn K mg x st ps f fd) (S : FnScope N ps (defScope st)) (len : ∀ vs H Q E, sp vs H Q E → vs.length = ps.length)
    (hbody : ∀ (f : Addr) (cdv : Value) (A : Around) (outer : List Env) (s : Shared) (H : Hp) (vs : List V) (Q : VK) (E : XK), Room k (A.deeper (envOfC x (defScope st) s.heap.objs.size f cdv)) → sp vs H Q E →
      ∃ t, PSs (cxOf CX0 P w K mg base N x (defScope st) f cdv A outer s H E).nox (defBody st) t ∧ t { nx := fun _ H' => Q .non H', rt := Q } (start N vs) H) : Can P w K mg base (k + 1) x ps sp := by
  obtain ⟨f, fd, F⟩ := h
  exact ⟨f, fd, F.fn.ok S len fun cdv A outer s H vs Q E hr h => hbody f cdv A outer s H vs Q E hr h, F.m, F.fn.kp, F.b⟩
theorem fm_can {C : Addr} {x qual : Str} {st : Stmt} {N ps : List Str} {k : Nat} {sp : Sp} (h : ∃ f fd, Fm K C x qual st ps f fd) (S : FnScope N ps (defScope st)) (len : ∀ vs H Q E, sp vs H Q E → vs.length = ps.length)
    (hbody : ∀ (f : Addr) (cdv : Value) (A : Around) (outer : List Env) (s : Shared) (H : Hp) (vs : List V) (Q : VK) (E : XK), Room k (A.deeper (envOfC qual (defScope st) s.heap.objs.size f cdv)) → sp vs H Q E →
      ∃ t, PSs (cxOf CX0 P w K mg base N qual (defScope st) f cdv A outer s H E).nox (defBody st) t ∧ t { nx := fun _ H' => Q .non H', rt := Q } (start N vs) H) : CanM P w K mg base C (k + 1) x ps sp := by
  obtain ⟨f, fd, F⟩ := h
  exact ⟨f, fd, F.fn.ok S len fun cdv A outer s H vs Q E hr h => hbody f cdv A outer s H vs Q E hr h, F.m, F.b⟩
end
section
variable {X : Cx} {k k' : Nat} {x m : Str} {ps : List Str} {sp : Sp} {p pos apos : Pos} {e o : Expr} {es : List Expr} {ta : TE} {t : TA} {C : Addr}
theorem pe_can (h : Can X.prog X.w X.K X.mg X.base k x ps sp) (hr : Room k' X.A) (ha : PA X (e :: es) t) (hg : Gl X x := by rfl) (hk : k ≤ k' := by decide) (hdb : (x == ("__debug__" : Str)) = false := by decide)
    (hs : starEach (e :: es) X.env = (false, eval e X.env) :: starEach es X.env := by rfl) (hpl : (backTo pos (starEach es X.env)).any (·.1) = false := by rfl) : PE X (.Call (.Name x p) (e :: es) [] pos) (tCall sp [] E0 t) := by
  obtain ⟨f, fd, F, hm, kp, b⟩ := h
  exact pe_call F (hr.mono hk) hg hm kp b .nil pass0 ha hdb hs hpl
theorem pe_canM {pl : Sem Bool} (ho : PE X o ta) (c : Cls X.K C) (h : CanM X.prog X.w X.K X.mg X.base C k m ps sp) (hr : Room k' X.A) (ha : PA X (e :: es) t) (hk : k ≤ k' := by decide)
    (hst : starEach (e :: es) X.env = (false, eval e X.env) :: starEach es X.env := by rfl) (hpl : (backTo pos (starEach es X.env)).any (·.1) = false := by rfl)
    (ht : eval (.Call (.Attribute o m apos) (e :: es) [] pos) X.env = (do
      let ov ← eval o X.env
      standAt apos.atName
      let (f, first) ← holding [ov] (getMethod ov m pl)
      callWith pos f first (backTo pos (starEach (e :: es) X.env)) (backToKw pos (keywordEach [] X.env))) := by rfl) : PE X (.Call (.Attribute o m apos) (e :: es) [] pos) (tMeth C m sp [] E0 ta t) := by
  obtain ⟨f, fd, F, hm, b⟩ := h
  exact pe_meth (pl := pl) ho c hm F (hr.mono hk) b .nil pass0 ha hst hpl ht
theorem pe_canM0 {pl : Sem Bool} (ho : PE X o ta) (c : Cls X.K C) (h : CanM X.prog X.w X.K X.mg X.base C k m ps sp) (hr : Room k' X.A) (hk : k ≤ k' := by decide)
    (ht : eval (.Call (.Attribute o m apos) [] [] pos) X.env = (do
      let ov ← eval o X.env
      standAt apos.atName
      let (f, first) ← holding [ov] (getMethod ov m pl)
      callWith pos f first (backTo pos (starEach [] X.env)) (backToKw pos (keywordEach [] X.env))) := by rfl) : PE X (.Call (.Attribute o m apos) [] [] pos) (tMeth C m sp [] E0 ta tNil) := by
  obtain ⟨f, fd, F, hm, b⟩ := h
  exact pe_meth0 (pl := pl) ho c hm F (hr.mono hk) b .nil pass0 ht
theorem pe_gi {n : Int} (h : ∃ t, X.mg x = some (.int n t)) (hg : Gl X x := by rfl) (hd : (x == ("__debug__" : Str)) = false := by decide) : PE X (.Name x pos) (tC (.int n)) := by
  obtain ⟨t, h⟩ := h
  exact pe_glob hg h ⟨t, rfl⟩ hd
/-- T-names, builtins in short -/
theorem pe_b {id : String} {r : List V → Hp → VK → Prop} (hc : CallR X (.builtin id) r) (hm : X.mg x = none) (hv : bootBuiltins x = some (.builtin id)) (ha : PA X (e :: es) t) (hg : Gl X x := by rfl) (hn : x ≠ "__name__" := by decide) (hdb : (x == ("__debug__" : Str)) = false := by decide)
    (he : starEach (e :: es) X.env = (false, eval e X.env) :: starEach es X.env := by rfl) (hpl : (backTo pos (starEach es X.env)).any (·.1) = false := by rfl) : PE X (.Call (.Name x p) (e :: es) [] pos) (tCB r t) := pe_callB hc hg hm hv ha hn hdb he hpl
theorem pe_t {T : String} {r : List V → Hp → VK → Prop} (hc : CallR X (.type T) r) (hm : X.mg x = none) (hv : bootBuiltins x = some (.type T)) (ha : PA X (e :: es) t) (hg : Gl X x := by rfl) (hn : x ≠ "__name__" := by decide) (hdb : (x == ("__debug__" : Str)) = false := by decide)
    (he : starEach (e :: es) X.env = (false, eval e X.env) :: starEach es X.env := by rfl) (hpl : (backTo pos (starEach es X.env)).any (·.1) = false := by rfl) : PE X (.Call (.Name x p) (e :: es) [] pos) (tCB r t) := pe_callTy hc hg hm hv ha hn hdb he hpl
theorem pa1 {a : Expr} {ta : TE} (ha : PE X a ta) (hs : starEach [a] X.env = (false, eval a X.env) :: starEach [] X.env := by rfl) : PA X [a] (tCons ta tNil) := pa_cons ha pa_nil hs
theorem pa2 {a b : Expr} {ta tb : TE} (ha : PE X a ta) (hb : PE X b tb) (hs : starEach [a, b] X.env = (false, eval a X.env) :: starEach [b] X.env := by rfl) (hs2 : starEach [b] X.env = (false, eval b X.env) :: starEach [] X.env := by rfl) : PA X [a, b] (tCons ta (tCons tb tNil)) := pa_cons ha (pa_cons hb pa_nil hs2) hs
theorem pa3 {a b c : Expr} {ta tb tc : TE} (ha : PE X a ta) (hb : PE X b tb) (hc : PE X c tc) (hs : starEach [a, b, c] X.env = (false, eval a X.env) :: starEach [b, c] X.env := by rfl) (hs1 : starEach [b, c] X.env = (false, eval b X.env) :: starEach [c] X.env := by rfl) (hs2 : starEach [c] X.env = (false, eval c X.env) :: starEach [] X.env := by rfl) : PA X [a, b, c] (tCons ta (tCons tb (tCons tc tNil))) := pa_cons ha (pa_cons hb (pa_cons hc pa_nil hs2) hs1) hs
end
/-- all that was tracked but p is as it was -/
def But (p : Addr) (H H' : Hp) : Prop := ∀ b o, H b = some o → b ≠ p → H' b = some o
theorem But.trans {p : Addr} {H H1 H2 : Hp} (a : But p H H1) (b : But p H1 H2) : But p H H2 := fun c o h n => b c o (a c o h n) n
theorem Same.but {p : Addr} {H H' : Hp} (a : Same H H') : But p H H' := fun b o h _ => a b o h
theorem Same.upd {H : Hp} {p : Addr} {o : HO} (h : H p = none) : Same H (upd H p o) := fun b u e => by rw [upd_ne (ne_of_none e h)]; exact e
end L2
set_option Elab.async false
set_option linter.all false
set_option maxRecDepth 100000
namespace L2
open PySem PySem.Spec PyProof.Rows
theorem ul1 : ∀ {us : List Value}, us.length = 1 → ∃ a, us = [a]
  | [a], _ => ⟨a, rfl⟩
theorem ul2 {us : List Value} (h : us.length = 2) : ∃ a b, us = [a, b] := by
  cases us with
  | nil => cases h
  | cons a r => obtain ⟨b, rfl⟩ := ul1 (Nat.succ.inj h); exact ⟨a, b, rfl⟩
theorem ul3 {us : List Value} (h : us.length = 3) : ∃ a b c, us = [a, b, c] := by
  cases us with
  | nil => cases h
  | cons a r => obtain ⟨b, c, rfl⟩ := ul2 (Nat.succ.inj h); exact ⟨a, b, c, rfl⟩
theorem ul4 {us : List Value} (h : us.length = 4) : ∃ a b c d, us = [a, b, c, d] := by
  cases us with
  | nil => cases h
  | cons a r => obtain ⟨b, c, d, rfl⟩ := ul3 (Nat.succ.inj h); exact ⟨a, b, c, d, rfl⟩
theorem ul5 {us : List Value} (h : us.length = 5) : ∃ a b c d e, us = [a, b, c, d, e] := by
  cases us with
  | nil => cases h
  | cons a r => obtain ⟨b, c, d, e, rfl⟩ := ul4 (Nat.succ.inj h); exact ⟨a, b, c, d, e, rfl⟩
section
variable {K : PySem.W.Frag} {x qual p q r s t u : Str} {st : Stmt} {g : Addr} {fd : FuncData}
abbrev fnQ (x qual : Str) (st : Stmt) (kV doc pm : Value) (an : Option Addr) (cdv ct : Value) : FuncData := PySem.W.fnOf x qual (defArgs st) (defBody st) (defScope st) .none kV doc pm an cdv ct
theorem Fun.b1 (F : Fun K x qual st g fd) (h : ∀ kV doc pm an cdv ct a, bindArgs (fnQ x qual st kV doc pm an cdv ct) ⟨[a], []⟩ = pure [(p, a)]) : Binds K fd [p] [] := F.binds fun kV doc pm an cdv ct us hl => by
  obtain ⟨a, rfl⟩ := ul1 hl
  exact h kV doc pm an cdv ct a
theorem Fun.b2 (F : Fun K x qual st g fd) (h : ∀ kV doc pm an cdv ct a b, bindArgs (fnQ x qual st kV doc pm an cdv ct) ⟨[a, b], []⟩ = pure [(p, a), (q, b)]) : Binds K fd [p, q] [] := F.binds fun kV doc pm an cdv ct us hl => by
  obtain ⟨a, b, rfl⟩ := ul2 hl
  exact h kV doc pm an cdv ct a b
theorem Fun.b3 (F : Fun K x qual st g fd) (h : ∀ kV doc pm an cdv ct a b c, bindArgs (fnQ x qual st kV doc pm an cdv ct) ⟨[a, b, c], []⟩ = pure [(p, a), (q, b), (r, c)]) : Binds K fd [p, q, r] [] := F.binds fun kV doc pm an cdv ct us hl => by
  obtain ⟨a, b, c, rfl⟩ := ul3 hl
  exact h kV doc pm an cdv ct a b c
theorem Fun.b5 (F : Fun K x qual st g fd) (h : ∀ kV doc pm an cdv ct a b c d e, bindArgs (fnQ x qual st kV doc pm an cdv ct) ⟨[a, b, c, d, e], []⟩ = pure [(p, a), (q, b), (r, c), (s, d), (t, e)]) : Binds K fd [p, q, r, s, t] [] := F.binds fun kV doc pm an cdv ct us hl => by
  obtain ⟨a, b, c, d, e, rfl⟩ := ul5 hl
  exact h kV doc pm an cdv ct a b c d e
end
end L2
set_option Elab.async false
set_option linter.all false
set_option maxRecDepth 100000
/-! errors of own classes: raise, and how they pass through defs -/
namespace L2
open PySem PySem.Spec PyProof.Rows
section
variable {P : Program} {w : World} {H H' : Hp} {h h' : Heap} {a : Addr} {o : HO}
theorem ObjOk.there (x : ObjOk P w H h a o) : ∃ ob, h.get? a = some ob := by
  cases o with
  | lst xs => obtain ⟨_, _, _, _, e⟩ := x; exact ⟨_, e⟩
  | tup xs => obtain ⟨_, _, _, ob, e, _⟩ := x; exact ⟨_, e⟩
  | dK kvs => obtain ⟨_, _, _, _, o, _, _, e, _⟩ := x; exact ⟨_, e⟩
  | dT kvs => obtain ⟨_, _, _, _, o, _, _, e, _⟩ := x; exact ⟨_, e⟩
  | set S n => obtain ⟨o, _, _, _, e, _⟩ := x; exact ⟨_, e⟩
  | ins C dx fs => obtain ⟨_, _, _, e, _⟩ := x; exact ⟨_, e⟩
  | own y => exact x
  | xd fs => obtain ⟨_, ⟨_, _, _, e, _⟩, _⟩ := x; exact ⟨_, e⟩
  | rng lo hi => obtain ⟨_, _, _, e⟩ := x; exact ⟨_, e⟩
  | frz ob u => obtain ⟨e, _⟩ := x; exact ⟨_, e⟩
  | tbl ps => exact ⟨_, x⟩
  | met f y => exact ⟨_, x⟩
  | ext φ => obtain ⟨_, ⟨_, e⟩, _⟩ := x; exact ⟨_, e⟩
theorem HOk.none (x : HOk P w H h) (e : h.get? a = .none) : H a = .none := by
  cases q : H a with
  | none => rfl
  | some u => obtain ⟨_, e'⟩ := (x a u q).there; rw [e] at e'; cases e'
theorem funs_un {base : Heap} {fs : List Addr} (u : Un fs [] H H' h h') : ∀ {l : List Env}, (∀ b ∈ frs l, b ∈ fs ∧ H b = .none) → h.FunFrames base l → h'.FunFrames base l
  | [], _, _ => trivial
  | env :: r, hs, hl => by
    obtain ⟨hk, ⟨L, o, hf, hn, ho, hd⟩, hr⟩ := hl
    have hL := hs L (by unfold frs; rw [List.filterMap_cons, hf]; exact List.mem_cons_self)
    obtain ⟨sl, e⟩ := u.slot L o ho hL.2 hL.1 (by simp)
    exact ⟨hk, ⟨L, _, hf, hn, e, hd⟩, funs_un u (fun b hb => hs b (by unfold frs; rw [List.filterMap_cons, hf]; exact List.mem_cons_of_mem _ hb)) hr⟩
end
/-- how an error's record stands: new, or with its traceback; g: the heap ahead of it -/
inductive XRec (g h : Heap) (H' : Hp) (a : Addr) (cls : Value) : Bool → Prop
  | new (oe : Obj) (vs : Array Value) (he : h.get? a = some oe) (hc : oe.cls = cls) (hd : oe.data = .fields vs) (hdi : oe.dict = none) (hn : H' a = none) (hg : g.get? a = none) (h1 : vs[1]? = some .none) : XRec g h H' a cls true
  | old (oe : Obj) (vs : Array Value) (he : h.get? a = some oe) (hc : oe.cls = cls) (hd : oe.data = .fields vs) (hdi : oe.dict = none) (hn : H' a = none) (hg : g.get? a = none) (T : Addr) (oT : Obj) (ts : Array Value) (h1 : vs[1]? = some (.ref T)) (ht : T ≠ a) (hT : h.get? T = some oT)
      (hdT : oT.data = .fields ts) (h3 : ts[3]? = some .none) (hnT : H' T = none) (hgT : g.get? T = none) : XRec g h H' a cls false
  | fl (oe : Obj) (vs : Array Value) (he : h.get? a = some oe) (hc : oe.cls = cls) (hd : oe.data = .fields vs) (hdi : oe.dict = none) (hn : H' a = none) (hg : g.get? a = none) (T : Addr) (oT : Obj) (ts : Array Value) (h1 : vs[1]? = some (.ref T)) (ht : T ≠ a) (hT : h.get? T = some oT)
      (hdT : oT.data = .fields ts) (f : Addr) (h3 : ts[3]? = some (rawInt f)) (hnT : H' T = none) (hgT : g.get? T = none) : XRec g h H' a cls true
theorem XRec.base {g h : Heap} {H' : Hp} {a : Addr} {cls : Value} {b : Bool} (x : XRec g h H' a cls b) : H' a = none ∧ g.get? a = none := by
  cases x with
  | new oe vs he hc hd hdi hn hg => exact ⟨hn, hg⟩
  | old oe vs he hc hd hdi hn hg => exact ⟨hn, hg⟩
  | fl oe vs he hc hd hdi hn hg => exact ⟨hn, hg⟩
structure EX (P : Program) (w : World) (st : List Env) (H : Hp) (s : Shared) (new : Bool) (cls : Value) (a : Addr) (H' : Hp) (s' : Shared) : Prop where
  os : s'.os = s.os
  bare : AllBare s'.gens
  un : Un (frs st) [] H H' s.heap s'.heap
  hok : HOk P w H' s'.heap
  rc : XRec s.heap s'.heap H' a cls new
def CX1 (P : Program) (w : World) : CXT := fun outer H s E e s' => ∃ a cls H', e = .ref a ∧ EX P w outer H s false cls a H' s' ∧ E cls none H'
section
variable {X : Cx} {pins : List (Addr × Obj)} {σ : St} {H H' : Hp} {s s₁ : Shared} {cls : Value} {a : Addr} {new : Bool}
/-- behind an error, in the same def -/
theorem EX.inv (I : Inv X pins σ H s) (x : EX X.prog X.w X.stack H s new cls a H' s₁) : Inv X pins σ H' s₁ := I.call' x.os x.un x.hok x.bare fun b hb => by simp at hb
/-- what a frame's note leaves -/
structure Noted (fs : List Addr) (e : Addr) (oe : Obj) (L : Addr) (h h₃ : Heap) : Prop where
  stay : ∀ b o, b ∉ fs → b ≠ e → h.get? b = some o → h₃.get? b = some o
  slot : ∀ b ∈ fs, ∀ o, h.get? b = some o → ∃ sl, h₃.get? b = some { o with slots := sl }
  tr : ∃ T oT ts, h.objs.size ≤ T ∧ h₃.get? e = some (oe.mapFields fun z => z.setIfInBounds 1 (.ref T)) ∧ h₃.get? T = some oT ∧ oT.data = .fields ts ∧ ts[3]? = some (rawInt L)
theorem x_entry {M : Model} {A : Around} {E : Value → Shared → Prop} {s : Shared} {base : Heap} {env : Env} {outer : List Env} {L e : Addr} {oe : Obj} {vs : Array Value} {head : Value} {hadNext : Bool} {Q : Unit → Shared → Prop}
    (hfr : A.frames = some (env :: outer)) (hl : s.heap.FunFrames base (env :: outer)) (hf : env.frame = some L) (he : s.heap.get? e = some oe) (hd : oe.data = .fields vs) (hsz : 1 < vs.size) (h : ∀ h₃, Noted (frs (env :: outer)) e oe L s.heap h₃ → Q () { s with heap := h₃ }) :
    wpAny M A (do let a ← frameOf env; let pl ← entryPlaceOf L hadNext; let b ← EntryCells.newEntry head a .none (rawInt L) .none pl; setField (.ref e) 1 b) Q E s := by
  have hene : e ∉ frs (env :: outer) := fun hm => by
    obtain ⟨_, o, ho, hnf⟩ := hl.mem hm
    rw [he] at ho; cases ho; exact hnf vs hd
  refine wpAny_bind (wpAny_frameOf_fun hfr hl hf fun h₁ hs₁ => wpAny_bind (wpAny_entryPlaceOf fun pl hpl => ?_))
  unfold EntryCells.newEntry newFields
  refine wpAny_bind (wpAny_newObj_type ?_ (hpl.sizeOk5 _ _ _ _ _))
  generalize htb : ({ cls := .type "traceback", dict := none, data := .fields ([head, .ref L, .none, rawInt L, .none] ++ (if pl.isEmpty then List.replicate 6 Value.none else pl)).toArray } : Obj) = tb
  have he₁ : h₁.get? e = some oe := (hs₁.2.1 e hene).trans he
  have he₂ : (h₁.push tb).get? e = some oe := Heap.get?_push_of_some _ he₁
  have nTe : h₁.objs.size ≠ e := Nat.ne_of_gt (Heap.lt_size he₁)
  have dtb : tb.data = .fields ([head, .ref L, .none, rawInt L, .none] ++ (if pl.isEmpty then List.replicate 6 Value.none else pl)).toArray := by rw [← htb]
  have htbf : tb.isFreed = false := Obj.isFreed_of_fields dtb
  have hd₃ := Obj.data_mapFields hd fun z => z.setIfInBounds 1 (Value.ref h₁.objs.size)
  have he₃ := Heap.get?_update_self (Obj.mapFields fun z => z.setIfInBounds 1 (Value.ref h₁.objs.size)) he₂ (Obj.isFreed_of_fields hd₃)
  have hT₃ := (Heap.get?_update_other (h₁.push tb) (Obj.mapFields fun z => z.setIfInBounds 1 (Value.ref h₁.objs.size)) (Ne.symm nTe)).trans (Heap.get?_push_size h₁ htbf)
  refine wpAny_setField he₂ hd hsz (h _ ⟨fun b o hb hbe hbo => ?_, fun b hb o hbo => ?_, ?_⟩)
  · have hb1 : h₁.get? b = some o := (hs₁.2.1 b hb).trans hbo
    rw [Heap.get?_update_other _ _ (Ne.symm hbe)]
    exact Heap.get?_push_of_some _ hb1
  · obtain ⟨sl, hb1⟩ := hs₁.2.2 b o hbo
    refine ⟨sl, ?_⟩
    rw [Heap.get?_update_other _ _ (fun q => hene (by rw [q]; exact hb))]
    exact Heap.get?_push_of_some _ hb1
  · exact ⟨h₁.objs.size, tb, _, Nat.le_of_eq hs₁.1.symm, he₃, hT₃, dtb, by simp⟩
theorem EX.fin (I : Inv X pins σ H s) (x : EX X.prog X.w X.stack H s new cls a H' s₁) {oe : Obj} {vs : Array Value} (he : s₁.heap.get? a = some oe) (hc : oe.cls = cls) (hd : oe.data = .fields vs) (hdi : oe.dict = none) (hv : 1 < vs.size) {T0 : Option Addr}
    (hT0 : ∀ T, T0 = some T → H' T = none ∧ s.heap.get? T = none) {g h₃ : Heap} (hg : ∀ b o, (∀ T, T0 = some T → b ≠ T) → s₁.heap.get? b = some o → g.get? b = some o) (hgf : ∀ b ∈ frs X.stack, ∀ o, s₁.heap.get? b = some o → g.get? b = some o) (hgs : s₁.heap.objs.size ≤ g.objs.size)
    (hge : g.get? a = some oe) {L : Addr} (nt : Noted (frs X.stack) a oe L g h₃) : EX X.prog X.w X.stack H s true cls a H' { s₁ with heap := h₃ } := by
  obtain ⟨stay, slot, T, oT, ts, hTs, heT, hT, hdT, h3⟩ := nt
  obtain ⟨b1, b2⟩ := x.rc.base
  have frm : ∀ b ∈ frs X.stack, ∀ o, s.heap.get? b = some o → ∃ sl, h₃.get? b = some { o with slots := sl } := fun b hb o e => by
    obtain ⟨sl, e1⟩ := x.un.slot b o e (I.stkFree b hb) hb (by simp)
    obtain ⟨sl', e2⟩ := slot b hb _ (hgf b hb _ e1)
    exact ⟨sl', e2⟩
  have frn : ∀ b ∈ frs X.stack, H' b = none := fun b hb => by
    obtain ⟨_, o, ho, _⟩ := I.stack.mem hb
    exact x.un.free b o ho (I.stkFree b hb) (by simp)
  refine ⟨x.os, x.bare, ⟨fun b o e n hb _ => ?_, fun b o e n hb _ => frm b hb o e, x.un.free, fun b o e _ => ?_, x.un.tups, x.un.frzs, x.un.tbls⟩, fun b ob e => ?_, ?_⟩
  · refine stay b o hb (fun q => by rw [q, b2] at e; cases e) (hg b o (fun T hT q => by rw [q, (hT0 T hT).2] at e; cases e) (x.un.keep b o e n hb (by simp)))
  · by_cases hm : b ∈ frs X.stack
    · obtain ⟨sl, e2⟩ := frm b hm o e
      exact ⟨_, e2⟩
    · obtain ⟨o', e1⟩ := x.un.there b o e (by simp)
      exact ⟨o', stay b o' hm (fun q => by rw [q, b2] at e; cases e) (hg b o' (fun T hT q => by rw [q, (hT0 T hT).2] at e; cases e) e1)⟩
  · refine (x.hok b ob e).stay (fun c u hc q => ?_) (fun _ q => q) fun _ _ q => q
    have tr : ∃ v, H' c = some v := by
      rcases hc with rfl | hc
      · exact ⟨_, e⟩
      · exact ⟨_, hc⟩
    obtain ⟨v, tr⟩ := tr
    refine stay c u (fun hm => ?_) (fun z => ?_) (hg c u (fun T hT z => ?_) q)
    · rw [frn c hm] at tr; cases tr
    · rw [z, b1] at tr; cases tr
    · rw [z, (hT0 T hT).1] at tr; cases tr
  · have hTn : s₁.heap.get? T = none := Heap.get?_none_of_le (Nat.le_trans hgs hTs)
    have hTa : T ≠ a := fun z => by rw [z, he] at hTn; cases hTn
    refine .fl _ _ heT ((Obj.cls_mapFields ..).trans hc) (Obj.data_mapFields hd _) ?_ b1 b2 T oT ts (by simp [hv]) hTa hT hdT L h3 (x.hok.none hTn) ?_
    · obtain ⟨c0, d0, dt, sl⟩ := oe
      dsimp only at hd hdi
      subst hd hdi
      rfl
    · cases q : s.heap.get? T with
      | none => rfl
      | some o => obtain ⟨o', e2⟩ := x.un.there T o q (by simp); rw [hTn] at e2; cases e2
/-- what lies at the traceback alone is changed -/
theorem EX.upT {P : Program} {w : World} {st : List Env} {new' : Bool} (x : EX P w st H s new cls a H' s₁) {T : Addr} {h₃ : Heap} (hk : ∀ b, b ≠ T → h₃.get? b = s₁.heap.get? b) (ho : ∃ o, h₃.get? T = some o) (hnT : H' T = none) (hgT : s.heap.get? T = none) (rc : XRec s.heap h₃ H' a cls new') : EX P w st H s new' cls a H' { s₁ with heap := h₃ } := by
  have nT : ∀ {b o}, s.heap.get? b = some o → b ≠ T := fun {b o} e z => by rw [z, hgT] at e; cases e
  refine ⟨x.os, x.bare, ⟨fun b o e n hb hx => (hk b (nT e)).trans (x.un.keep b o e n hb hx), fun b o e n hb hx => ?_, x.un.free, fun b o e hx => ?_, x.un.tups, x.un.frzs, x.un.tbls⟩, fun b ob e => ?_, rc⟩
  · obtain ⟨sl, e1⟩ := x.un.slot b o e n hb hx
    exact ⟨sl, (hk b (nT e)).trans e1⟩
  · obtain ⟨o', e1⟩ := x.un.there b o e hx
    exact ⟨o', (hk b (nT e)).trans e1⟩
  · refine (x.hok b ob e).stay (fun c u hc q => (hk c fun z => ?_).trans q) (fun _ q => q) fun _ _ q => q
    rcases hc with rfl | hc
    · rw [z, hnT] at e; cases e
    · rw [z, hnT] at hc; cases hc
/-- the frame is noted in the error's traceback -/
theorem note_fl {M : Model} {A : Around} {Q : Unit → Shared → Prop} {E : Value → Shared → Prop} {cenv : Env} (I : Inv X pins σ H s) (hst : X.stack = X.env :: X.outer) (hf : X.env.frame = some X.env.locals) (hA : A.frames = some X.stack) (hcf : cenv.frame = X.env.frame) (x : EX X.prog X.w X.stack H s new cls a H' s₁)
    (h : ∀ h₃, EX X.prog X.w X.stack H s true cls a H' { s₁ with heap := h₃ } → (∃ vs oe T oT ts, ∃ f : Addr, h₃.get? a = some oe ∧ oe.data = .fields vs ∧ vs[1]? = some (.ref T) ∧ T ≠ a ∧ h₃.get? T = some oT ∧ oT.data = .fields ts ∧ ts[3]? = some (rawInt f) ∧ H' T = none ∧ s.heap.get? T = none) → Q () { s₁ with heap := h₃ }) : wpAny M A (noteFrame (.ref a) cenv) Q E s₁ := by
  have hfun : s₁.heap.FunFrames X.base X.stack := funs_un x.un (fun b hb => ⟨hb, I.stkFree b hb⟩) I.stack
  have efr : PySem.frameOf cenv = PySem.frameOf X.env := by unfold PySem.frameOf; rw [hcf]
  have rc := x.rc
  have h' : ∀ h₃, EX X.prog X.w X.stack H s true cls a H' { s₁ with heap := h₃ } → (∀ oe vs, h₃.get? a = some oe → oe.data = .fields vs → vs[1]? ≠ some .none) → Q () { s₁ with heap := h₃ } := fun h₃ x3 hne => by
    refine h h₃ x3 ?_
    cases x3.rc with
    | new oe vs he hc hd hdi hn hg h1 => exact absurd h1 (hne oe vs he hd)
    | fl oe vs he hc hd hdi hn hg T oT ts h1 ht hT hdT f h3 hnT hgT => exact ⟨vs, oe, T, oT, ts, f, he, hd, h1, ht, hT, hdT, h3, hnT, hgT⟩
  have hne : ∀ {h₃ : Heap} {oe : Obj} {T : Addr} {vs : Array Value}, oe.data = .fields vs → h₃.get? a = some (oe.mapFields fun z => z.setIfInBounds 1 (.ref T)) → ∀ oe' vs', h₃.get? a = some oe' → oe'.data = .fields vs' → vs'[1]? ≠ some .none := fun {h₃ oe T vs} hd e oe' vs' e' hd' z => by
    rw [e] at e'; cases e'
    have q := Obj.data_mapFields hd fun z => z.setIfInBounds 1 (Value.ref T)
    rw [hd'] at q
    cases q
    rw [Array.getElem?_setIfInBounds] at z
    split at z
    · split at z <;> cases z
    · rename_i z0; exact z0 rfl
  have over : ∀ {oe : Obj} {vs : Array Value} (_ : s₁.heap.get? a = some oe) (_ : oe.cls = cls) (_ : oe.data = .fields vs) (_ : oe.dict = none) {T : Addr} {oT : Obj} {ts : Array Value} {v3 : Value} (_ : vs[1]? = some (.ref T)) (_ : T ≠ a) (_ : s₁.heap.get? T = some oT) (_ : oT.data = .fields ts) (_ : ts[3]? = some v3) (_ : (v3 == rawInt X.env.locals) = false) (_ : H' T = none) (_ : s.heap.get? T = none), wpAny M A (noteFrame (.ref a) cenv) Q E s₁ := by
    intro oe vs he hc hd hdi T oT ts v3 h1 ht hT hdT h3 hv3 hnT hgT
    unfold noteFrame
    simp only [hcf, hf, efr]
    refine wpAny_bind (wpAny_field he hd h1 ?_)
    rw [if_pos (show (Value.ref T != Value.none) = true by simp)]
    refine wpAny_bind (wpAny_field hT hdT h3 ?_)
    rw [if_neg (show ¬ ((v3 == rawInt X.env.locals) = true) by rw [hv3]; exact Bool.false_ne_true)]
    refine wpAny_bind (wpAny_setField hT hdT (Array.getElem?_eq_some_iff.mp h3).1 ?_)
    have oth : ∀ c, c ≠ T → (s₁.heap.update T (Obj.mapFields fun z => z.setIfInBounds 3 Value.none)).get? c = s₁.heap.get? c := fun c hc => Heap.get?_update_other _ _ (Ne.symm hc)
    have nrec : ∀ c o, s₁.heap.get? c = some o → (∀ z, o.data ≠ .fields z) → c ≠ T := fun c o hc hnf q => by rw [q, hT] at hc; cases hc; exact hnf ts hdT
    have nfr : ∀ c ∈ frs X.stack, c ≠ T := fun c hc q => by
      obtain ⟨_, o, ho, hnf⟩ := hfun.mem hc
      exact nrec c o ho hnf q
    have hfun2 : (s₁.heap.update T (Obj.mapFields fun z => z.setIfInBounds 3 Value.none)).FunFrames X.base X.stack := hfun.of_keeps fun c o hc hnf => ⟨o, (oth c (nrec c o hc hnf)).trans hc, rfl⟩
    rw [hst] at hA hfun2
    have hv := (Array.getElem?_eq_some_iff.mp h1).1
    refine x_entry hA hfun2 hf ((oth a (Ne.symm ht)).trans he) hd hv fun h₃ nt => ?_
    have nt' := nt
    obtain ⟨_, _, T', _, _, _, heT, _⟩ := nt'
    refine h' h₃ (x.fin I he hc hd hdi hv (T0 := some T) (fun T' z => by cases z; exact ⟨hnT, hgT⟩) (g := s₁.heap.update T (Obj.mapFields fun z => z.setIfInBounds 3 Value.none)) (fun c o n e => (oth c (n T rfl)).trans e) (fun c hc o e => (oth c (nfr c hc)).trans e) (Nat.le_of_eq (Heap.size_after_update ..).symm) ((oth a (Ne.symm ht)).trans he) (L := X.env.locals) ?_) (hne hd heT)
    rw [hst]
    exact nt
  cases rc with
  | new oe vs he hc hd hdi hn hg h1 =>
    unfold noteFrame
    simp only [hcf, hf, efr]
    refine wpAny_bind (wpAny_field he hd h1 ?_)
    rw [if_neg (by decide)]
    rw [hst] at hA hfun
    refine x_entry hA hfun hf he hd (Array.getElem?_eq_some_iff.mp h1).1 fun h₃ nt => ?_
    have nt' := nt
    obtain ⟨_, _, T', _, _, _, heT, _⟩ := nt'
    refine h' h₃ (x.fin I he hc hd hdi (Array.getElem?_eq_some_iff.mp h1).1 (T0 := none) (fun _ z => nomatch z) (g := s₁.heap) (fun _ _ _ e => e) (fun _ _ _ e => e) (Nat.le_refl _) he (L := X.env.locals) ?_) (hne hd heT)
    rw [hst]
    exact nt
  | old oe vs he hc hd hdi hn hg T oT ts h1 ht hT hdT h3 hnT hgT => exact over he hc hd hdi h1 ht hT hdT h3 (by simp [rawInt]) hnT hgT
  | fl oe vs he hc hd hdi hn hg T oT ts h1 ht hT hdT f h3 hnT hgT =>
    cases q : (rawInt f == rawInt X.env.locals) with
    | false => exact over he hc hd hdi h1 ht hT hdT h3 q hnT hgT
    | true =>
      unfold noteFrame
      simp only [hcf, hf, efr]
      refine wpAny_bind (wpAny_field he hd h1 ?_)
      rw [if_pos (show (Value.ref T != Value.none) = true by simp)]
      refine wpAny_bind (wpAny_field hT hdT h3 ?_)
      rw [if_pos q]
      exact wpAny_pure (h _ x ⟨vs, oe, T, oT, ts, f, he, hd, h1, ht, hT, hdT, h3, hnT, hgT⟩)
/-- the error's record with another word of its flight -/
theorem EX.flight {fl : Option Addr} (x : EX X.prog X.w X.stack H s true cls a H' s₁) {vs ts : Array Value} {oe oT : Obj} {T f : Addr} (he : s₁.heap.get? a = some oe) (hd : oe.data = .fields vs) (h1 : vs[1]? = some (.ref T)) (ht : T ≠ a) (hT : s₁.heap.get? T = some oT) (hdT : oT.data = .fields ts) (h3 : ts[3]? = some (rawInt f)) (hnT : H' T = none) (hgT : s.heap.get? T = none) :
    EX X.prog X.w X.stack H s fl.isSome cls a H' { s₁ with heap := s₁.heap.update T (Obj.mapFields fun z => z.setIfInBounds 3 (fl.elim .none fun f => rawInt f)) } := by
  have dT := Obj.data_mapFields hdT fun z => z.setIfInBounds 3 (fl.elim .none fun f => rawInt f)
  have oT' := Heap.get?_update_self (Obj.mapFields fun z => z.setIfInBounds 3 (fl.elim .none fun f => rawInt f)) hT (Obj.isFreed_of_fields dT)
  have oth : ∀ b, b ≠ T → (s₁.heap.update T (Obj.mapFields fun z => z.setIfInBounds 3 (fl.elim .none fun f => rawInt f))).get? b = s₁.heap.get? b := fun b hb => Heap.get?_update_other _ _ (Ne.symm hb)
  have h3' : (ts.setIfInBounds 3 (fl.elim .none fun f => rawInt f))[3]? = some (fl.elim .none fun f => rawInt f) := Array.getElem?_setIfInBounds_self_of_lt (Array.getElem?_eq_some_iff.mp h3).1
  refine x.upT oth ⟨_, oT'⟩ hnT hgT ?_
  have base : oe.cls = cls ∧ oe.dict = none ∧ H' a = none ∧ s.heap.get? a = none := by
    cases x.rc with
    | new oe' vs' he' hc hd' hdi hn hg h1' => rw [he] at he'; cases he'; exact ⟨hc, hdi, hn, hg⟩
    | fl oe' vs' he' hc hd' hdi hn hg => rw [he] at he'; cases he'; exact ⟨hc, hdi, hn, hg⟩
  obtain ⟨hc, hdi, hn, hg⟩ := base
  cases fl with
  | none => exact .old oe vs ((oth a (Ne.symm ht)).trans he) hc hd hdi hn hg T _ _ h1 ht oT' dT h3' hnT hgT
  | some f' => exact .fl oe vs ((oth a (Ne.symm ht)).trans he) hc hd hdi hn hg T _ _ h1 ht oT' dT f' h3' hnT hgT
theorem note_ex {M : Model} {A : Around} {Q : Unit → Shared → Prop} {E : Value → Shared → Prop} (I : Inv X pins σ H s) (hst : X.stack = X.env :: X.outer) (hf : X.env.frame = some X.env.locals) (hA : A.frames = some X.stack) (x : EX X.prog X.w X.stack H s new cls a H' s₁)
    (h : ∀ h₃, EX X.prog X.w X.stack H s false cls a H' { s₁ with heap := h₃ } → Q () { s₁ with heap := h₃ }) : wpAny M A (noteFrame (.ref a) X.env) (fun _ s₂ => wpAny M A (setFlight (.ref a) none) Q E s₂) E s₁ := by
  refine note_fl I hst hf hA rfl x fun h₃ x3 ⟨vs, oe, T, oT, ts, f, he, hd, h1, ht, hT, hdT, h3, hnT, hgT⟩ => ?_
  unfold setFlight
  refine wpAny_bind (wpAny_field he hd h1 ?_)
  rw [if_pos (show (Value.ref T != Value.none) = true by simp)]
  exact wpAny_setField hT hdT (Array.getElem?_eq_some_iff.mp h3).1 (h _ (x3.flight (fl := none) he hd h1 ht hT hdT h3 hnT hgT))
/-- an error leaves a def -/
theorem leave_ex {M : Model} {A : Around} {Q : Unit → Shared → Prop} {E : Value → Shared → Prop} (I : Inv X pins σ H s) (hst : X.stack = X.env :: X.outer) (hf : X.env.frame = some X.env.locals) (hA : A.frames = some X.stack) (x : EX X.prog X.w X.stack H s new cls a H' s₁)
    (h : ∀ h₃, EX X.prog X.w X.stack H s false cls a H' { s₁ with heap := h₃ } → Q () { s₁ with heap := h₃ }) : wpAny M A (leaving X.env (.ref a)) Q E s₁ := by
  unfold leaving
  exact wpAny_bind (note_ex I hst hf hA x h)
/-- as the callers see it -/
theorem EX.out (I : Inv X pins σ H s) (hex : X.ex = []) (x : EX X.prog X.w X.stack H s false cls a H' s₁) : EX X.prog X.w X.outer X.H₀ X.s₀ false cls a H' s₁ := by
  have base := I.base
  rw [hex] at base
  have gone : ∀ {b : Addr}, s.heap.get? b = none → X.s₀.heap.get? b = none := fun {b} e => by
    cases q : X.s₀.heap.get? b with
    | none => rfl
    | some o => obtain ⟨o', e2⟩ := base.there b o q (by simp); rw [e] at e2; cases e2
  have nst : ∀ {b : Addr} {o : Obj}, X.s₀.heap.get? b = some o → b ∉ X.fs → b ∉ frs X.stack := fun {b o} e n hm => by
    rcases List.mem_cons.mp (I.stkSub b hm) with z | z
    · exact absurd (Nat.lt_of_lt_of_le (Heap.lt_size e) I.ok.above) (by rw [z]; exact Nat.lt_irrefl _)
    · exact n z
  refine ⟨x.os.trans I.os, x.bare, ⟨fun b o e n hb _ => x.un.keep b o (base.keep b o e n hb (by simp)) (base.free b o e n (by simp)) (nst e hb) (by simp), fun b o e n hb _ => ?_, fun b o e n _ => ?_, fun b o e _ => ?_, fun b xs e => x.un.tups b xs (base.tups b xs e), fun b o u e => x.un.frzs b o u (base.frzs b o u e), fun b ps e => ?_⟩, x.hok, ?_⟩
  · obtain ⟨sl, e1⟩ := base.slot b o e n hb (by simp)
    obtain ⟨sl', e2⟩ := x.un.any e1 (base.free b o e n (by simp)) (by simp)
    exact ⟨sl', e2⟩
  · obtain ⟨sl, e1⟩ := base.any e n (by simp)
    exact x.un.free b _ e1 (base.free b o e n (by simp)) (by simp)
  · obtain ⟨o', e1⟩ := base.there b o e (by simp)
    exact x.un.there b o' e1 (by simp)
  · obtain ⟨m1, e1⟩ := base.tbls b ps e
    obtain ⟨m2, e2⟩ := x.un.tbls b _ e1
    exact ⟨m1 ++ m2, by rw [e2, Array.append_assoc]⟩
  · have rc := x.rc
    cases rc with
    | old oe vs he hc hd hdi hn hg T oT ts h1 ht hT hdT h3 hnT hgT => exact .old oe vs he hc hd hdi hn (gone hg) T oT ts h1 ht hT hdT h3 hnT (gone hgT)
end
/-- what a context wishes of errors -/
structure Wish (X : Cx) (E : XK) : Prop where
  go : ∀ (pins : List (Addr × Obj)) (σ : St) (H : Hp) (s : Shared) (new : Bool) (cls : Value) (a : Addr) (H' : Hp) (s₁ : Shared), Inv X pins σ H s → EX X.prog X.w X.stack H s new cls a H' s₁ → E cls none H' → X.xe (.ref a) s₁
theorem Wish.pass {X : Cx} {E : XK} (W : Wish X E) : Passes (CX1 X.prog X.w) X E := fun pins σ H s e s' I ⟨a, cls, H', e1, x, q⟩ => by
  subst e1
  exact W.go pins σ H s false cls a H' s' I x q
/-- a def's body -/
theorem wish_def {P : Program} {w : World} {K : PySem.W.Frag} {mg : Str → Option Value} {base : Heap} {N : List Str} {qual : Str} {scope : Scope} {f : Addr} {cd : Value} {A : Around} {outer : List Env} {s : Shared} {H : Hp} {E : XK} : Wish (cxOf (CX1 P w) P w K mg base N qual scope f cd A outer s H E) E where
  go := fun pins σ H1 s1 new cls a H' s₁ I x q => by
    show wpAny (model P w) (A.deeper (envOfC qual scope s.heap.objs.size f cd)) (leaving (envOfC qual scope s.heap.objs.size f cd) (.ref a)) _ _ s₁
    refine leave_ex I rfl rfl I.ok.frames x fun h₃ x' => ⟨a, cls, H', rfl, x'.out I rfl, q⟩
end L2
set_option Elab.async false
set_option linter.all false
set_option maxRecDepth 100000
namespace L2
open PySem PySem.Spec PyProof.Rows
/-- an own class of errors, as it lies -/
theorem own_at {K : PySem.W.Frag} {h : Heap} {C : Addr} {bmB : List Value} {newId : String} (X : K.In h) (q : PySem.W.excIn K C bmB newId = true) :
    ∃ bm N nm q bs hdct sn sub ab col dd k0 k1 k2 k3 k5 mN, h.get? C = some (excClassObj nm q C N bs bm hdct sn sub ab col dd k0 k1 k2 k3 k5 newId) ∧ h.Ns N mN ∧ mN "__init__" = none ∧ OwnTail h bmB bm := by
  unfold PySem.W.excIn at q
  split at q
  · rename_i dd cd sl ho
    split at q
    · rename_i C' bm k0 k1 k2 k3 n k5 hm hs
      simp only [Bool.and_eq_true, beq_iff_eq, Bool.not_eq_true'] at q
      obtain ⟨⟨⟨⟨⟨rfl, rfl⟩, hdel⟩, ht⟩, hok⟩, hni⟩ := q
      obtain ⟨nm, bs, mro, ns, qn, hd, sn, sub, ab, col, del⟩ := cd
      dsimp only at hm hdel hok hni
      subst hm hdel
      have hsl : sl = #[k0, k1, k2, k3, some (.builtin n), k5] := by obtain ⟨l⟩ := sl; simp only at hs; rw [hs]
      subst hsl
      exact ⟨bm, ns, nm, qn, bs, hd, sn, sub, ab, col, dd, k0, k1, k2, k3, k5, _, X _ _ ho, .of_isNs (PySem.W.isNs_of_in X hok), PySem.W.nsMap_none_of_in X hok hni, PySem.W.tail_of_in X ht⟩
    · cases q
  · cases q
abbrev bmV : List Value := [.type "ValueError", .type "Exception", .type "BaseException", .type "object"]
/-- an own class of errors over ValueError, by its name -/
structure XCls (K : PySem.W.Frag) (mg : Str → Option Value) (x : Str) (C : Addr) : Prop where
  m : mg x = some (.ref C)
  ok : PySem.W.excIn K C bmV "ValueError.__new__" = true
/-- raise C(..) -/
inductive tRaise (t : TA) (cls : Value) (E : XK) (D : Ends) (σ : St) (H : Hp) : Prop
  | mk (h : t σ H fun vs H1 => vs.length ≤ sizeLine ∧ E cls none H1) : tRaise t cls E D σ H
section
variable {X : Cx} {E : XK} {x : Str} {C : Addr} {e₀ : Expr} {rest : List Expr} {t : TA} {np cpos pos : Pos}
theorem ps_raise (W : Wish X E) (hc : X.calm = true) (hC : XCls X.K X.mg x C) (ha : PA X (e₀ :: rest) t) (hg : Gl X x := by rfl) (he : starEach (e₀ :: rest) X.env = (false, eval e₀ X.env) :: starEach rest X.env := by rfl)
    (hpl : (backTo cpos (starEach rest X.env)).any (·.1) = false := by rfl) (hdb : (x == ("__debug__" : Str)) = false := by decide) : PS X (.Raise (some (.Call (.Name x np) (e₀ :: rest) [] cpos)) none pos) (tRaise t (.ref C) E) := by
  refine ⟨?_⟩
  intro pins s σ H D I h
  obtain ⟨h⟩ := h
  obtain ⟨bm, N, nm, q, bs, hdct, sn, sub, ab, col, dd, k0, k1, k2, k3, k5, mN, hCo, hN, hni, T⟩ := own_at I.mod.kin hC.ok
  refine wpAny_Raise_call_subT (C := C) (nm := nm) (q := q) (N := N) (bs := bs) (bm := bm) (hdct := hdct) (sn := sn) (sub := sub) (ab := ab) (col := col) (dd := dd) (k0 := k0) (k1 := k1) (k2 := k2) (k3 := k3) (k5 := k5) PySem.F.excBase_ValueError (mN := mN)
    (T.hasType PySem.F.excBase_ValueError.hasBase) (I.ok.hd hc) (by rw [he]; show (false || (backTo cpos (starEach rest X.env)).any (·.1)) = false; rw [hpl]; rfl) hni (ld_glob I hg hC.m ⟨rfl, ?_⟩ hdb)
  have hw := ha cpos pins s σ H _ I h
  rw [he] at hw ⊢
  refine Calls.evalArgs_plain (wpAny_mono hw (fun us s₂ h₂ => ?_) fun _ _ y => y)
  obtain ⟨vs, H1, I1, r, hl, qe⟩ := h₂
  refine ⟨rfl, by rw [← r.length]; exact hl, I1.bk _ _ hCo, hN.keeps I1.bk, T.keeps I1.bk, fun h' e hm => ?_⟩
  obtain ⟨tt, he', _, _⟩ := hm.there
  exact W.go pins σ H1 s₂ true (.ref C) e H1 { s₂ with heap := h' } I1 ⟨rfl, I1.bare, Un.kept hm.keeps, I1.hok.kept hm.keeps, .new _ _ he' rfl rfl rfl (I1.hok.none hm.new) hm.new rfl⟩ qe
end
section
variable {P : Program} {w : World} {K : PySem.W.Frag} {mg : Str → Option Value} {base : Heap}
end
section
variable {X : Cx} {k k' : Nat} {x : Str} {ps : List Str} {sp : Sp} {p pos : Pos} {e : Expr} {es : List Expr} {t : TA} {E : XK}
end
/-! ### try -/
abbrev Cx.tryC (X : Cx) (pn : List (Addr × Obj)) (xe : Value → Shared → Prop) : Cx := { X with pn := pn, xe := xe }
abbrev Cx.mark (X : Cx) (a : Addr) : Cx := { X with A := X.A.mark (some (.ref a)), calm := false, xe := fun _ _ => False }
section
variable {X : Cx} {pins pins2 : List (Addr × Obj)} {σ : St} {H : Hp} {s : Shared} {xe : Value → Shared → Prop} {a : Addr}
theorem Cx.Ok.tryC (ok : X.Ok) (pn : List (Addr × Obj)) (xe : Value → Shared → Prop) : (X.tryC pn xe).Ok :=
  ⟨ok.mod, ok.kind, ok.glob, ok.blt, ok.above, ok.inj, ok.has, ok.cab, ok.hd, ok.frames, ok.stk, ok.exf, ok.bs, ok.bsz, ok.noex, ok.exfs, ok.funs, ok.frf⟩
theorem Cx.Ok.untry {pn : List (Addr × Obj)} (ok : (X.tryC pn xe).Ok) : X.Ok :=
  ⟨ok.mod, ok.kind, ok.glob, ok.blt, ok.above, ok.inj, ok.has, ok.cab, ok.hd, ok.frames, ok.stk, ok.exf, ok.bs, ok.bsz, ok.noex, ok.exfs, ok.funs, ok.frf⟩
theorem Inv.tryC (I : Inv X pins σ H s) (xe : Value → Shared → Prop) : Inv (X.tryC (X.pn ++ pins) xe) [] σ H s :=
  ⟨I.ok.tryC _ _, I.os, I.bare, I.base, I.loc, I.cell, I.free, I.freeC, fun p hp => I.pin p (by simpa using hp), I.hok, I.len⟩
theorem Inv.untry (I : Inv (X.tryC (X.pn ++ pins) xe) pins2 σ H s) : Inv X pins σ H s :=
  ⟨I.ok.untry, I.os, I.bare, I.base, I.loc, I.cell, I.free, I.freeC, fun p hp => I.pin p (List.mem_append_left _ hp), I.hok, I.len⟩
theorem SP.untry {D : Ends} {f : Flow} {s' : Shared} (h : SP (X.tryC (X.pn ++ pins) xe) pins2 D f s') : SP X pins D f s' := by
  cases f with
  | next => obtain ⟨σ', H', I, q⟩ := h; exact ⟨σ', H', I.untry, q⟩
  | brk => obtain ⟨σ', H', I, q⟩ := h; exact ⟨σ', H', I.untry, q⟩
  | cont => obtain ⟨σ', H', I, q⟩ := h; exact ⟨σ', H', I.untry, q⟩
  | ret u => obtain ⟨v, σ', H', I, r, q⟩ := h; exact ⟨v, σ', H', I.untry, r, q⟩
theorem Inv.mark (I : Inv X pins σ H s) (a : Addr) : Inv (X.mark a) pins σ H s :=
  ⟨⟨I.ok.mod, I.ok.kind, I.ok.glob, I.ok.blt, I.ok.above, I.ok.inj, I.ok.has, I.ok.cab, (fun z => nomatch z), I.ok.frames, I.ok.stk, I.ok.exf, I.ok.bs, I.ok.bsz, I.ok.noex, I.ok.exfs, I.ok.funs, I.ok.frf⟩, I.os, I.bare, I.base, I.loc, I.cell, I.free, I.freeC, I.pin, I.hok, I.len⟩
theorem Inv.unmark (ok : X.Ok) (I : Inv (X.mark a) pins σ H s) : Inv X pins σ H s := ⟨ok, I.os, I.bare, I.base, I.loc, I.cell, I.free, I.freeC, I.pin, I.hok, I.len⟩
end
/-- the clauses of a try, at an error of that class -/
def PHs (X : Cx) (hs : List ExceptHandler) (th : Value → TS) : Prop :=
  ∀ (pins : List (Addr × Obj)) (s : Shared) (σ : St) (H : Hp) (D : Ends) (a : Addr) (cls : Value) (g : Heap), Inv X pins σ H s → XRec g s.heap H a cls false → X.s₀.heap.get? a = none → (∀ p ∈ X.pn ++ pins, p.1 ≠ a) → th cls D σ H → wpAny (model X.prog X.w) X.A (handleBy (.ref a) X.env hs) (SP X pins D) X.xe s
def tTry (n : Nat) (t : XK → TS) (th : Value → TS) : TS := fun D σ H => t (fun cls _ H' => ∀ σ' : St, σ'.length = n → th cls D σ' H') D σ H
section
variable {X : Cx} {body : List Stmt} {h₀ : ExceptHandler} {hs : List ExceptHandler} {t : XK → TS} {th : Value → TS} {pos : Pos}
theorem ps_try {n : Nat} (hb : ∀ (pn : List (Addr × Obj)) (xe : Value → Shared → Prop) (E : XK), Wish (X.tryC pn xe) E → PSs (X.tryC pn xe) body (t E)) (hh : PHs X (h₀ :: hs) th) (hst : X.stack = X.env :: X.outer := by rfl) (hf : X.env.frame = some X.env.locals := by rfl) (hn : X.N.length = n := by rfl) (hex : X.ex = [] := by rfl) :
    PS X (.Try body (h₀ :: hs) [] [] pos) (tTry n t th) := by
  refine ⟨?_⟩
  intro pins s σ H D I h
  refine wpAny_Try_except (wpAny_mono (hb (X.pn ++ pins) (fun e s₁ => wpAny (model X.prog X.w) X.A (noteFrame e X.env) (fun _ s₂ => wpAny (model X.prog X.w) X.A (setFlight e none) (fun _ s₃ => wpAny (model X.prog X.w) X.A (handleBy e X.env (h₀ :: hs)) (SP X pins D) X.xe s₃) X.xe s₂) X.xe s₁) _ ⟨fun pins2 σ2 H2 s2 new cls a H' s₁ I2 x q => ?_⟩ [] s σ H D (I.tryC _) h) (fun f s₁ q => ?_) fun _ _ z => z)
  · have I2' : Inv X pins σ2 H2 s2 := I2.untry
    refine note_ex I2' hst hf I2'.ok.frames x fun h₃ x3 => ?_
    have I3 := x3.inv I2'
    have fr := x3.rc.base.2
    refine hh pins _ σ2 H' D a cls s2.heap I3 x3.rc ?_ (fun p hp z => ?_) (q σ2 (I3.len.trans hn))
    · cases e : X.s₀.heap.get? a with
      | none => rfl
      | some o => obtain ⟨o', e2⟩ := I2'.base.there a o e (by rw [hex]; simp); rw [fr] at e2; cases e2
    · have e := (I2'.pin p hp).1
      rw [z, fr] at e
      cases e
  · cases f with
    | next =>
      obtain ⟨σ', H', I', q'⟩ := q
      exact pss_nil pins s₁ σ' H' D I'.untry q'
    | ret v => exact q.untry
    | brk => exact q.untry
    | cont => exact q.untry
end
end L2
set_option Elab.async false
set_option linter.all false
set_option maxRecDepth 100000
/-! the clauses of a try -/
namespace L2
open PySem PySem.Spec PyProof.Rows
theorem set3 {ts : Array Value} (h : ts[3]? = some Value.none) : ts.setIfInBounds 3 Value.none = ts := by
  obtain ⟨hl, e⟩ := Array.getElem?_eq_some_iff.mp h
  refine Array.ext (by simp) fun i h1 h2 => ?_
  rw [Array.getElem_setIfInBounds h2]
  by_cases hi : 3 = i
  · subst hi; simp [e]
  · simp [hi]
theorem map3 {o : Obj} {ts : Array Value} (hd : o.data = .fields ts) (h : ts[3]? = some Value.none) : Obj.mapFields (fun z => z.setIfInBounds 3 Value.none) o = o := by
  obtain ⟨c, d, dt, sl⟩ := o
  dsimp only at hd
  subst hd
  unfold Obj.mapFields
  simp [set3 h]
theorem keep3 {h : Heap} {T : Addr} {oT : Obj} {ts : Array Value} (hT : h.get? T = some oT) (hd : oT.data = .fields ts) (h3 : ts[3]? = some Value.none) : ∀ b u, h.get? b = some u → (h.update T (Obj.mapFields fun z => z.setIfInBounds 3 Value.none)).get? b = some u := fun b u e => by
  by_cases hb : b = T
  · subst hb
    rw [hT] at e
    cases e
    rw [Heap.get?_update_self _ hT (by rw [map3 hd h3]; exact Obj.isFreed_of_fields hd), map3 hd h3]
  · rw [Heap.get?_update_other _ _ (Ne.symm hb)]; exact e
section
variable {X : Cx} {x n : Str} {C : Addr} {b₀ : Stmt} {suite : List Stmt} {rest : List ExceptHandler} {pos np : Pos} {th : Value → TS}
theorem ph_nil : PHs X [] (fun _ _ _ _ => False) := fun _ _ _ _ _ _ _ _ _ _ _ _ h => h.elim
/-- the match, and the mark set down -/
theorem h_test {pins : List (Addr × Obj)} {σ : St} {H : Hp} {s : Shared} {a : Addr} {cls : Value} {g : Heap} {b : Bool} {name : Option Str} {Q : Flow → Shared → Prop} (I : Inv X pins σ H s) (xr : XRec g s.heap H a cls false) (hC : X.mg x = some (.ref C)) (hg : Gl X x) (hb : PySem.W.exmOne X.K cls (.ref C) = some b) (hdb : (x == ("__debug__" : Str)) = false)
    (h : if b = true then codeAny (model X.prog X.w) (X.A.mark (some (.ref a))) (.handlers (.ref a) [.ExceptHandler none name (b₀ :: suite) pos] X.env) (fun r s₂ => match r with
          | .ok f => (match name with | none => Q f s₂ | some n => wpAny (model X.prog X.w) X.A (do bindName X.env n .none; unbindBehindTheSuite X.env n pos) (fun _ s₃ => Q f s₃) X.xe s₂)
          | .error e => cameBackBy (model X.prog X.w) X.A X.env X.xe e s₂) s
      else wpAny (model X.prog X.w) X.A (handleBy (.ref a) X.env rest) Q X.xe s) :
    wpAny (model X.prog X.w) X.A (handleBy (.ref a) X.env (.ExceptHandler (some (.Name x np)) name (b₀ :: suite) pos :: rest)) Q X.xe s := by
  refine wpAny_handleBy_cons (codeAny_handlers_test (ld_glob (X := X.mark a) (I.mark a) hg hC ?_ hdb)) (by intro z; cases z)
  have LT : PySem.W.Looks (model X.prog X.w) s.heap (typeOf (.ref a)) cls := by
    cases xr with
    | old oe vs he hc => rw [← hc]; exact (PySem.W.Looks.ld he).andThen .now
  refine (PySem.W.exm_one (M := model X.prog X.w) I.kIn LT hb).here ?_
  cases b with
  | true => exact h
  | false => exact h
/-- an error, as it lies -/
def XO (a : Addr) (oe : Obj) : HO := .ext fun h => h.get? a = some oe
theorem Inv.trackX {pins : List (Addr × Obj)} {σ : St} {H : Hp} {s : Shared} {a : Addr} {oe : Obj} {vs : Array Value} (I : Inv X pins σ H s) (he : s.heap.get? a = some oe) (hd : oe.data = .fields vs) (hn : H a = none) (x0 : X.s₀.heap.get? a = none) (xp : ∀ p ∈ X.pn ++ pins, p.1 ≠ a) : Inv X pins σ (upd H a (XO a oe)) s := by
  have na : ∀ {b u}, H b = some u → b ≠ a := fun {b u} e z => by rw [z, hn] at e; cases e
  have nL : X.env.locals ≠ a := fun z => by
    obtain ⟨m, ⟨o, es, ep, ho, hdd, _⟩, _⟩ := I.loc
    rw [z, he] at ho; cases ho; rw [hd] at hdd; cases hdd
  refine ⟨I.ok, I.os, I.bare, ⟨I.base.keep, I.base.slot, fun b o e n hx => ?_, I.base.there, fun b xs e => ?_, fun b o u e => ?_, fun b ps e => ?_⟩, I.loc, I.cell, ?_, fun y c e => ?_, fun p hp => ?_, fun b ob e => ?_, I.len⟩
  · rw [upd_ne (fun z => by rw [z, x0] at e; cases e)]; exact I.base.free b o e n hx
  · have e1 := I.base.tups b xs e
    rw [upd_ne (na e1)]; exact e1
  · have e1 := I.base.frzs b o u e
    rw [upd_ne (na e1)]; exact e1
  · obtain ⟨m, e1⟩ := I.base.tbls b ps e
    exact ⟨m, by rw [upd_ne (na e1)]; exact e1⟩
  · rw [upd_ne nL]; exact I.free
  · have nc : c ≠ a := fun z => by
      obtain ⟨v, o, ho, hdd⟩ := I.cell y c e
      rw [z, he] at ho; cases ho; rw [hd] at hdd; cases hdd
    rw [upd_ne nc]; exact I.freeC y c e
  · obtain ⟨e1, e2, e3⟩ := I.pin p hp
    exact ⟨e1, by rw [upd_ne (xp p hp)]; exact e2, e3⟩
  · by_cases hb : b = a
    · subst hb
      rw [upd_same] at e
      cases e
      exact ⟨he, ⟨_, he⟩, fun h1 h2 z k => k _ z⟩
    · rw [upd_ne hb] at e
      refine (I.hok b ob e).stay (fun c u _ q => q) (fun c q => ?_) fun c xs q => ?_
      · rw [upd_ne (na q)]; exact q
      · rw [upd_ne (na q)]; exact q
/-- a name of ours is forgotten -/
theorem Inv.forget {pins : List (Addr × Obj)} {σ : St} {H : Hp} {s : Shared} {i : Nat} {m : Str → Option Value} {v : Option Value} {h' : Heap} {tk : Nat} (I : Inv X pins σ H s) (hN : X.N.Nodup) (hi : X.N[i]? = some n) (hm : s.heap.Ns X.env.locals m) (hn' : h'.Ns X.env.locals (fun y => if y = n then v else m y)) (hs : Heap.SameBut X.env.locals s.heap h') :
    Inv X pins (σ.set i none) H { s with heap := h', toks := tk } := by
  obtain ⟨m0, hn, hl⟩ := id I.loc
  have em : m0 = m := by
    funext y
    obtain ⟨o, es, ep, ho, hd, hk, hf⟩ := hn
    obtain ⟨o', es', ep', ho', hd', hk', hf'⟩ := hm
    rw [ho] at ho'; cases ho'
    rw [hd] at hd'; cases hd'
    rw [← hf y, ← hf' y]
  subst em
  have low : ∀ {b : Addr} {o : Obj}, X.s₀.heap.get? b = some o → b ≠ X.env.locals := fun e => Nat.ne_of_lt (Nat.lt_of_lt_of_le (Heap.lt_size e) I.ok.above)
  refine ⟨I.ok, I.os, I.bare, ⟨fun b o e n hb hx => (hs.2 b (low e)).trans (I.base.keep b o e n hb hx), fun b o e n hb hx => ?_, I.base.free, fun b o e hx => ?_, I.base.tups, I.base.frzs, I.base.tbls⟩, ⟨_, hn', fun j y v' e1 e2 e3 => ?_⟩, fun y c e => ?_, I.free, I.freeC, fun p hp => ?_, fun b ob e => ?_, by simpa using I.len⟩
  · obtain ⟨sl, e1⟩ := I.base.slot b o e n hb hx
    exact ⟨sl, (hs.2 b (low e)).trans e1⟩
  · obtain ⟨o', e1⟩ := I.base.there b o e hx
    exact ⟨o', (hs.2 b (low e)).trans e1⟩
  · by_cases hj : j = i
    · subst hj
      have hiσ : j < σ.length := by rw [I.len]; exact (List.getElem?_eq_some_iff.mp hi).1
      rw [List.getElem?_set_self hiσ] at e2
      cases e2
    · rw [List.getElem?_set_ne (Ne.symm hj)] at e2
      obtain ⟨u', r', q⟩ := hl j y v' e1 e2 e3
      have ny : y ≠ n := fun z => hj (nodup_ix hN e1 (z ▸ hi))
      refine ⟨u', r', ?_⟩
      rcases q with ⟨k, e⟩ | ⟨k, c, e, z⟩
      · exact .inl ⟨k, by simp [ny, e]⟩
      · exact .inr ⟨k, c, e, z.sameBut hs (I.cne y c e)⟩
  · obtain ⟨w', z⟩ := I.cell y c e
    exact ⟨w', z.sameBut hs (I.cne y c e)⟩
  · obtain ⟨e, n, ne, nf, d⟩ := I.pin p hp
    exact ⟨(hs.2 _ ne).trans e, n, ne, nf, d⟩
  · refine (I.hok b ob e).stay (fun c w' hc q => (hs.2 c ?_).trans q) (fun _ q => q) fun _ _ q => q
    rintro rfl
    rcases hc with rfl | hc
    · rw [I.free] at e; cases e
    · rw [I.free] at hc; cases hc
/-- except C as n: .. -/
inductive tHN (K : PySem.W.Frag) (C : Addr) (i : Nat) (ts : TS) (th : Value → TS) (cls : Value) (D : Ends) (σ : St) (H : Hp) : Prop
  | mk (b : Bool) (e : PySem.W.exmOne K cls (.ref C) = some b)
      (q : if b = true then ∀ a oe, H a = none → oe.cls = cls → oe.dict = none → (∃ vs, oe.data = .fields vs) → ts { nx := fun σ' H' => D.nx (σ'.set i none) H', rt := D.rt, bk := fun σ' H' => D.bk (σ'.set i none) H', ct := fun σ' H' => D.ct (σ'.set i none) H' } (σ.set i (some (.ref a))) (upd H a (XO a oe)) else th cls D σ H) : tHN K C i ts th cls D σ H
theorem phN {i : Nat} {ts : TS} (hC : X.mg x = some (.ref C)) (hN : X.N.Nodup) (hi : X.N[i]? = some n) (hk : X.env.scope.names.lookup n = some .local) (hs : ∀ a : Addr, PSs (X.mark a) (b₀ :: suite) ts) (hr : PHs X rest th) (hg : Gl X x := by rfl) (hdb : (x == ("__debug__" : Str)) = false := by decide) :
    PHs X (.ExceptHandler (some (.Name x np)) (some n) (b₀ :: suite) pos :: rest) (tHN X.K C i ts th) := by
  intro pins s σ H D a cls g I xr x0 xp h
  obtain ⟨b, e, q⟩ := h
  refine h_test I xr hC hg e hdb ?_
  cases b with
  | false => exact hr pins s σ H D a cls g I xr x0 xp q
  | true =>
    refine codeAny_handlers_suite_as ?_
    cases xr with
    | old oe vs he hc hd hdi hn hgg T oT ts' h1 ht hT hdT h3 hnT hgT =>
      refine wpAny_setFlight_none he hd h1 hT hdT (Array.getElem?_eq_some_iff.mp h3).1 ?_
      have kp := keep3 hT hdT h3
      have I' : Inv X pins σ H { s with heap := s.heap.update T (Obj.mapFields fun z => z.setIfInBounds 3 Value.none) } := I.kept (t' := s.toks) kp
      have IT := (I'.trackX (kp _ _ he) hd hn x0 xp).mark a
      refine store_ok (X := X.mark a) IT hN hi (.inl hk) (v := .ref a) rfl (fun s2 I2 => ?_) (.inr hk)
      refine wpAny_mono (hs a pins s2 _ _ _ I2 (q a oe hn hc hdi ⟨vs, hd⟩)) (fun f s3 z => ?_) fun _ _ z => z.elim
      have go : ∀ {σ' H'}, Inv (X.mark a) pins σ' H' s3 → ∀ {Q : Flow → Shared → Prop}, (∀ s5, Inv X pins (σ'.set i none) H' s5 → Q f s5) → wpAny (model X.prog X.w) X.A (do bindName X.env n .none; unbindBehindTheSuite X.env n pos) (fun _ s5 => Q f s5) X.xe s3 := fun {σ' H'} J {Q} hq => by
        have J' := J.unmark I.ok
        obtain ⟨m, hm, _⟩ := id J'.loc
        refine wpAny_nameGoes_keeps hk hm (by rw [I.ok.kind]; rfl) fun h' v hn' hsb => hq _ (J'.forget hN hi hm hn' hsb)
      cases f with
      | next => obtain ⟨σ', H', J, z⟩ := z; exact go J fun s5 J5 => ⟨_, _, J5, z⟩
      | brk => obtain ⟨σ', H', J, z⟩ := z; exact go J fun s5 J5 => ⟨_, _, J5, z⟩
      | cont => obtain ⟨σ', H', J, z⟩ := z; exact go J fun s5 J5 => ⟨_, _, J5, z⟩
      | ret u => obtain ⟨v, σ', H', J, r, z⟩ := z; exact go J fun s5 J5 => ⟨v, _, _, J5, r, z⟩
end
end L2
set_option Elab.async false
set_option linter.all false
set_option maxRecDepth 100000
/-! isinstance of an error -/
namespace L2
open PySem PySem.Spec PySem.W PyProof.Rows
structure XAttr (K : Frag) (C : Addr) : Prop where
  ga : findIn K (.ref C) "__getattribute__" = some (some (.builtin "BaseException.__getattribute__"))
  gn : findIn K (.ref C) "__getattr__" = some none
  fo : findObj K C none "__class__" = some (.bind (.builtin "getset_descriptor.__get__") (.builtin "object.__class__"))
  mo : mroIn K C (.type "object") = some true
  sb : subIn K (.ref C) (.type "BaseException") = some true
section
variable {prog : Program} {w : World} {A : Around} {E : Value → Shared → Prop} {s : Shared} {K : Frag} {a C : Addr} {oe : Obj}
theorem kx_call {tk : Tok} {R : Result → Shared → Prop} (F1 : XAttr K C) (X : K.In s.heap) (I : PySem.W.InstAt s.heap a oe C none) (h : R (.ok (.ret (.ref C))) s) :
    codeAny (model prog w) A (.call (.builtin "BaseException.__getattribute__") ⟨[.ref a, .str "__class__" tk], []⟩) R s := by
  have hk : builtinKind "BaseException.__getattribute__" = some .slot := by decide +kernel
  have hsplit : splitId "BaseException.__getattribute__" = some ("BaseException", "__getattribute__") := by decide +kernel
  have ha := F.args_bexc_ga (.ref a) (.str "__class__" tk)
  have cg := fun (A : Around) (R : Result → Shared → Prop) (hR : R (.ok (.ret (.ref C))) s) => PySem.W.class_get (prog := prog) (w := w) (A := A) (R := R) (tp := .ref C) X I F1.mo hR
  obtain ⟨hh, g, d, t, os⟩ := s
  have L0 := I.type (M := model prog w)
  have L1 := looks_subIn (M := model prog w) X F1.sb
  have L2 := looks_find (M := model prog w) X I F1.fo
  refine codeAny_call_builtin F.excAttr_ValueError.ga.plain F.entry_bexc_ga ?_
  simp only [checkBuiltinCall, hk, hsplit]
  refine wpAny_bind ?_
  unfold isInstance
  repeat (any_goals (first | assumption | (with_reducible refine wpAny_bind (L0.at ?_)) | (with_reducible refine wpAny_bind (L2.at ?_)) | (with_reducible refine L1.at ?_) | wp_step))
  exact cg _ _ (wpAny_pure h)
theorem kx_class {Q : Option Value → Shared → Prop} (F1 : XAttr K C) (X : K.In s.heap) (I : PySem.W.InstAt s.heap a oe C none) (h : Q (some (.ref C)) { s with toks := s.toks + 1 }) : wpAny (model prog w) A (getAttr? (.ref a) "__class__") Q E s := by
  have kc := fun (A : Around) (tk : Tok) (t : Nat) (R : Result → Shared → Prop) (hR : R (.ok (.ret (.ref C))) { s with toks := t }) => kx_call (prog := prog) (w := w) (A := A) (s := { s with toks := t }) (tk := tk) F1 X I hR
  have f3 := F.excAttr_ValueError.ga.bind (.ref a)
  have hx2 : (Value.builtin "BaseException.__getattribute__" == Value.builtin "object.__getattribute__") = false := by decide +kernel
  have hx1 : (onTheHeap (Value.ref C) && Value.builtin "BaseException.__getattribute__" == Value.builtin "object.__getattribute__") = false := by rw [hx2]; rfl
  have hx0 : (false && onTheHeap (Value.builtin "BaseException.__getattribute__")) = false := rfl
  obtain ⟨hh, g, d, t, os⟩ := s
  have L0 := I.type (M := model prog w)
  have L1 := looks_findIn (M := model prog w) X F1.ga
  have L2 := looks_findIn (M := model prog w) X F1.gn
  unfold getAttr? getAttrBy? getAttrBy
  refine wpAny_bind (wpAny_mkText (wpAny_bind (wpAny_attempt (wpAny_holding (wpAny_bind (L0.at (wpAny_bind (L1.at ?_))))))))
  show wpAny _ _ (if (onTheHeap (Value.ref C) && Value.builtin "BaseException.__getattribute__" == Value.builtin "object.__getattribute__") = true then _ else _) _ _ _
  rw [if_neg (by rw [hx1]; simp)]
  unfold getAttrByItsOwn hookBefore
  rw [if_pos (show onTheHeap (Value.ref C) = true by rfl)]
  refine wpAny_bind (L2.at (wpAny_bind (wpAny_attempt (wpAny_holding ?_))))
  unfold callGetattribute boundAndCalled
  rw [if_neg (by simp)]
  rw [f3]
  refine wpAny_bind (wpAny_pure (wpAny_call (kc _ _ _ _ ?_)))
  exact handed_on rfl (wpAny_pure h)
theorem kitx_err (F1 : XAttr K C) (hc : oe.cls = .ref C) (hdi : oe.dict = none) (hd : ∃ vs, oe.data = .fields vs) (hcl : (clsIn K C).isSome = true) : KitX K (.ref a) (.ref C) (fun h => h.get? a = some oe) := by
  have hI : ∀ h : Heap, h.get? a = some oe → PySem.W.InstAt h a oe C none := fun h e => by
    obtain ⟨vs, hd⟩ := hd
    refine ⟨e, hc, ?_, ?_⟩
    · obtain ⟨c0, d0, dt, sl⟩ := oe
      dsimp only at hd
      subst hd
      rfl
    · rw [hdi]; trivial
  refine ⟨fun M h X e => (hI h e).type, fun M h X e => ?_, fun h tp dd its n sl X htp => ?_, fun {_ _ _ _ _ s} X e k => kx_class F1 X (hI _ e) k⟩
  · obtain ⟨cd, hcD⟩ := Option.isSome_iff_exists.mp hcl
    unfold clsIn at hcD
    split at hcD
    · rename_i c' d' cd' sl' ho
      intro A' Q' E' s' k q
      unfold isType loadHead
      exact wpAny_bind (wpAny_loadPart (k _ _ (X _ _ ho)) (wpAny_pure q))
    · cases hcD
  · obtain ⟨cd, hcD⟩ := Option.isSome_iff_exists.mp hcl
    refine Bool.eq_false_iff.mpr fun q => ?_
    have e : C = tp := Value.ref.inj (beq_iff_eq.mp q)
    subst e
    unfold clsIn at hcD
    split at hcD
    · rename_i c' d' cd' sl' ho
      have z := (X _ _ ho).symm.trans htp
      cases z
    · cases hcD
end
end L2
namespace L2
open PySem PySem.Spec PyProof.Rows
/-- an error of an own class -/
structure XErr (K : PySem.W.Frag) (oe : Obj) (C : Addr) : Prop where
  c : oe.cls = .ref C
  d : oe.dict = none
  f : ∃ vs, oe.data = .fields vs
  at_ : XAttr K C
  cl : (PySem.W.clsIn K C).isSome = true
inductive cIsE (K : PySem.W.Frag) (xs : List V) (H : Hp) (Q : VK) : Prop
  | own (a : Addr) (oe : Obj) (C C' : Addr) (b : Bool) (e : xs = [.ref a, .ref C']) (h : H a = some (XO a oe)) (x : XErr K oe C) (k : PySem.W.kitOne K (.ref C) (.ref C') = some b) (q : Q (.bl b) H) : cIsE K xs H Q
  | ty (a : Addr) (oe : Obj) (C : Addr) (T : String) (b : Bool) (e : xs = [.ref a, .ty T]) (h : H a = some (XO a oe)) (x : XErr K oe C) (k : PySem.W.kitOne K (.ref C) (.type T) = some b) (q : Q (.bl b) H) : cIsE K xs H Q
theorem call_isE {X : Cx} (K : PySem.W.Frag) (ek : X.K = K := by rfl) : CallR X (.builtin "isinstance") (cIsE K) := by
  subst ek
  intro pins s σ H xs us Q I r h
  have go : ∀ {a : Addr} {oe : Obj} {C : Addr} {c : Value} {b : Bool}, H a = some (XO a oe) → XErr X.K oe C → PySem.W.kitOne X.K (.ref C) c = some b → Q (.bl b) H → wpAny (model X.prog X.w) X.A (call (.builtin "isinstance") [.ref a, c]) (EP X pins σ Q) X.xe s := fun {a oe C c b} h x k q => by
    have p : s.heap.get? a = some oe := (I.hok a _ h).1
    exact PySem.W.kia_one (kitx_err x.at_ x.c x.d x.f x.cl) I.kIn p k (by intro z; cases z) fun tk => ⟨.bl b, H, I.tok tk, rfl, q⟩
  cases h with
  | own a oe C C' b e h x k q =>
    subst e
    obtain ⟨u, w', rfl, rx, rt⟩ := vals2 r
    cases rx
    cases rt
    exact go h x k q
  | ty a oe C T b e h x k q =>
    subst e
    obtain ⟨u, w', rfl, rx, rt⟩ := vals2 r
    cases rx
    cases rt
    exact go h x k q
end L2
set_option Elab.async false
set_option linter.all false
set_option maxRecDepth 100000
namespace L2
open PySem PySem.Spec PyProof.Rows
section
variable {X : Cx} {CX : CXT} {k : Nat} {f C : Addr} {fd : FuncData} {ps : List Str} {sp : Sp} {dvs : List V} {ds : List Value} {E : XK} {x m : Str} {p pos apos : Pos} {e o : Expr} {es : List Expr} {ta : TE} {t : TA}
end
section
variable {P : Program} {w : World} {K : PySem.W.Frag} {mg : Str → Option Value} {base : Heap}
end
section
variable {X : Cx} {k k' : Nat} {x : Str} {ps : List Str} {sp : Sp} {p pos : Pos} {e : Expr} {es : List Expr} {t : TA}
end
end L2
set_option Elab.async false
set_option linter.all false
set_option maxRecDepth 100000
/-! the own classes of errors that a text names -/
namespace L2
open PySem PySem.Spec PyProof.Rows
/-- where the class stands that a name of the module means -/
def cOf (mg : Str → Option Value) (x : Str) : Addr := match mg x with
  | some (.ref C) => C
  | _ => 0
theorem cOf_eq {mg : Str → Option Value} {x : Str} {C : Addr} (h : mg x = some (.ref C)) : cOf mg x = C := by unfold cOf; rw [h]
structure XC (K : PySem.W.Frag) (mg : Str → Option Value) (x : Str) : Prop where
  m : mg x = some (.ref (cOf mg x))
  ok : PySem.W.excIn K (cOf mg x) bmV "ValueError.__new__" = true
  at_ : XAttr K (cOf mg x)
  cl : (PySem.W.clsIn K (cOf mg x)).isSome = true
theorem XC.cls {K : PySem.W.Frag} {mg : Str → Option Value} {x : Str} (h : XC K mg x) : XCls K mg x (cOf mg x) := ⟨h.m, h.ok⟩
theorem XC.err {K : PySem.W.Frag} {mg : Str → Option Value} {x : Str} (h : XC K mg x) {oe : Obj} (c : oe.cls = .ref (cOf mg x)) (d : oe.dict = none) (f : ∃ vs, oe.data = .fields vs) : XErr K oe (cOf mg x) := ⟨c, d, f, h.at_, h.cl⟩
theorem xc_mk {K : PySem.W.Frag} {mg : Str → Option Value} {x : Str} {C : Addr} (m : mg x = some (.ref C)) (ok : PySem.W.excIn K C bmV "ValueError.__new__" = true)
    (ga : PySem.W.findIn K (.ref C) "__getattribute__" = some (some (.builtin "BaseException.__getattribute__"))) (gn : PySem.W.findIn K (.ref C) "__getattr__" = some none)
    (fo : PySem.W.findIn K (.ref C) "__class__" = some (some (.builtin "object.__class__"))) (sp : PySem.W.specialIn K (.builtin "object.__class__") "__get__" = some (some (.builtin "getset_descriptor.__get__"))) (tk : PySem.W.takesIn K (.builtin "object.__class__") = some true) (mo : PySem.W.mroIn K C (.type "object") = some true) (sb : PySem.W.subIn K (.ref C) (.type "BaseException") = some true) {cd : ClassData} (cl : PySem.W.clsIn K C = some cd) : XC K mg x := by
  refine ⟨?_, ?_, ?_, ?_⟩ <;> rw [cOf_eq m]
  · exact m
  · exact ok
  · refine ⟨ga, gn, ?_, mo, sb⟩
    unfold PySem.W.findObj
    rw [cl, Option.bind_some, fo, Option.bind_some]
    simp [sp, tk]
  · rw [cl]; rfl
end L2
set_option Elab.async false
set_option linter.all false
set_option maxRecDepth 100000
namespace Pr
open PySem L2
def top (i : Nat) : Stmt := PySem.Challenge.pw_peakroll_k33_sources_refused.main.body.getD i (.Pass ⟨0, 0, 0, 0⟩)
abbrev s_in_order : Stmt := top 2
abbrev s_place_of : Stmt := top 3
abbrev s_is_list : Stmt := top 11
abbrev s_is_list_from : Stmt := top 12
abbrev s_is_word : Stmt := top 13
abbrev s_is_source : Stmt := top 14
abbrev s_are_sources : Stmt := top 17
abbrev s_law_pot : Stmt := top 20
abbrev s_law_digit : Stmt := top 21
abbrev s_law_sources : Stmt := top 22
abbrev s_law_odd_names : Stmt := top 23
abbrev s_law_spoilt : Stmt := top 24
abbrev s_law_unfit : Stmt := top 25
abbrev s_law_other_order : Stmt := top 26
abbrev s_law_why : Stmt := top 27
abbrev s_law_state : Stmt := top 28
abbrev s_law : Stmt := top 29
abbrev sm_init : Stmt := inClass (top 18) 0
abbrev sm_order : Stmt := inClass (top 18) 1
abbrev sm_put : Stmt := inClass (top 18) 2
abbrev sm_take : Stmt := inClass (top 18) 3
abbrev sm_rank : Stmt := inClass (top 18) 4
abbrev sm_tells : Stmt := inClass (top 18) 5
abbrev sm_counted : Stmt := inClass (top 18) 6
abbrev sm_entries : Stmt := inClass (top 18) 7
structure Txt (K : PySem.W.Frag) (mg : Str → Option Value) (C : Addr) : Prop where
  f_in_order : ∃ f fd, Fn K mg "in_order" s_in_order ["entries"] f fd
  f_place_of : ∃ f fd, Fn K mg "place_of" s_place_of ["entry"] f fd
  f_is_list : ∃ f fd, Fn K mg "is_list" s_is_list ["value"] f fd
  f_is_list_from : ∃ f fd, Fn K mg "is_list_from" s_is_list_from ["value", "fewest", "most"] f fd
  f_is_word : ∃ f fd, Fn K mg "is_word" s_is_word ["value", "signs", "most"] f fd
  f_is_source : ∃ f fd, Fn K mg "is_source" s_is_source ["value"] f fd
  f_are_sources : ∃ f fd, Fn K mg "are_sources" s_are_sources ["value"] f fd
  f_law_pot : ∃ f fd, Fn K mg "_law_pot" s_law_pot ["_law_script", "_law_k"] f fd
  f_law_digit : ∃ f fd, Fn K mg "_law_digit" s_law_digit ["_law_pot_here", "_law_many"] f fd
  f_law_sources : ∃ f fd, Fn K mg "_law_sources" s_law_sources ["_law_pot_here"] f fd
  f_law_odd_names : ∃ f fd, Fn K mg "_law_odd_names" s_law_odd_names ["_law_pot_here", "_law_name"] f fd
  f_law_spoilt : ∃ f fd, Fn K mg "_law_spoilt" s_law_spoilt ["_law_pot_here", "_law_sources_here"] f fd
  f_law_unfit : ∃ f fd, Fn K mg "_law_unfit" s_law_unfit ["_law_pot_here", "_law_sources_here"] f fd
  f_law_other_order : ∃ f fd, Fn K mg "_law_other_order" s_law_other_order ["_law_pot_here", "_law_sources_here"] f fd
  f_law_why : ∃ f fd, Fn K mg "_law_why" s_law_why ["_law_deed"] f fd
  f_law_state : ∃ f fd, Fn K mg "_law_state" s_law_state ["_law_book", "_law_key"] f fd
  f_law : ∃ f fd, Fn K mg "law" s_law ["_law_script"] f fd
  c_LETTERS : ∃ t, mg "LETTERS" = some (.str "abcdefghijklmnopqrstuvwxyz" t)
  c_MOST_SOURCE_SIGNS : ∃ t, mg "MOST_SOURCE_SIGNS" = some (.int 6 t)
  c_MOST_SOURCES : ∃ t, mg "MOST_SOURCES" = some (.int 6 t)
  b_ValueError : mg "ValueError" = none
  b_all : mg "all" = none
  b_int : mg "int" = none
  b_isinstance : mg "isinstance" = none
  b_len : mg "len" = none
  b_list : mg "list" = none
  b_max : mg "max" = none
  b_min : mg "min" = none
  b_range : mg "range" = none
  b_set : mg "set" = none
  b_sorted : mg "sorted" = none
  b_str : mg "str" = none
  b_tuple : mg "tuple" = none
  cl : Cls K C
  mgC : mg "Book" = some (.ref C)
  n_best_first : NoAttr K C "best_first"
  n_told : NoAttr K C "told"
  m_init : ∃ f fd, Fun K "__init__" "Book.__init__" sm_init f fd ∧ Mk K C f ∧ Binds K fd ["self", "sources"] []
  m_order : ∃ f fd, Fm K C "order" "Book.order" sm_order ["self"] f fd
  m_put : ∃ f fd, Fm K C "put" "Book.put" sm_put ["self", "source", "key", "moment", "value"] f fd
  m_take : ∃ f fd, Fm K C "take" "Book.take" sm_take ["self", "source", "key"] f fd
  m_rank : ∃ f fd, Fm K C "rank" "Book.rank" sm_rank ["self", "order"] f fd
  m_tells : ∃ f fd, Fm K C "tells" "Book.tells" sm_tells ["self", "key"] f fd
  m_counted : ∃ f fd, Fm K C "counted" "Book.counted" sm_counted ["self", "key"] f fd
  m_entries : ∃ f fd, Fm K C "entries" "Book.entries" sm_entries ["self"] f fd
  x_PeakError : XC K mg "PeakError"
  x_NoSources : XC K mg "NoSources"
  x_NoTell : XC K mg "NoTell"
  e_NoSources_PeakError : PySem.W.exmOne K (.ref (cOf mg "NoSources")) (.ref (cOf mg "PeakError")) = some true
  k_NoSources_NoSources : PySem.W.kitOne K (.ref (cOf mg "NoSources")) (.ref (cOf mg "NoSources")) = some true
  k_NoSources_NoTell : PySem.W.kitOne K (.ref (cOf mg "NoSources")) (.ref (cOf mg "NoTell")) = some false
  e_NoTell_PeakError : PySem.W.exmOne K (.ref (cOf mg "NoTell")) (.ref (cOf mg "PeakError")) = some true
  k_NoTell_NoSources : PySem.W.kitOne K (.ref (cOf mg "NoTell")) (.ref (cOf mg "NoSources")) = some false
  k_NoTell_NoTell : PySem.W.kitOne K (.ref (cOf mg "NoTell")) (.ref (cOf mg "NoTell")) = some true
end Pr
set_option Elab.async false
set_option linter.all false
set_option maxRecDepth 100000
namespace HT
open PySem PyProof.Rows
section
variable {prog : Program} {w : World} {A : Around} {E : Value → Shared → Prop} {s : Shared}
end
end HT
namespace L2
open PySem PySem.Spec PyProof.Rows
section
variable {X : Cx} {e : Expr} {te : TE} {pos p2 : Pos}
end
end L2
set_option Elab.async false
set_option linter.all false
set_option maxRecDepth 100000
namespace L2
open PySem PySem.Spec PyProof.Rows
/-! ### the forms of a comprehension that one uses -/
/-- an element has come: y goes onto the list at D -/
def LcNx (n i : Nat) (D : Addr) (ys : List V) (Pv : Nat → List V → Hp → Prop) (y : V) (H3 : Hp) : Prop :=
  H3 D = some (.lst ys) ∧ ys.length < sizeLine ∧ ∃ m', m' < n - i ∧ (m' = n - (i + 1) ∧ i + 1 ≤ n ∧ Pv (i + 1) (ys ++ [y]) (upd H3 D (.lst (ys ++ [y]))))
/-- none has come -/
def LcNo (n i : Nat) (ys : List V) (Pv : Nat → List V → Hp → Prop) (H3 : Hp) : Prop := ∃ m', m' < n - i ∧ (m' = n - (i + 1) ∧ i + 1 ≤ n ∧ Pv (i + 1) ys H3)
theorem LcNx.mk {n i : Nat} {D : Addr} {ys : List V} {Pv : Nat → List V → Hp → Prop} {y : V} {H3 : Hp} (hi : i < n) (hn : n ≤ 1000) (hl : ys.length ≤ i) (h : H3 D = some (.lst ys)) (p : Pv (i + 1) (ys ++ [y]) (upd H3 D (.lst (ys ++ [y])))) : LcNx n i D ys Pv y H3 :=
  ⟨h, small1000 (by omega), n - (i + 1), by omega, rfl, hi, p⟩
theorem LcNo.mk {n i : Nat} {ys : List V} {Pv : Nat → List V → Hp → Prop} {H3 : Hp} (hi : i < n) (p : Pv (i + 1) ys H3) : LcNo n i ys Pv H3 := ⟨n - (i + 1), by omega, rfl, hi, p⟩
theorem lc_go {tc : TT} {te : TE} {σ : St} {J : It} {D : Addr} {Fin : Hp → Prop} {H : Hp} {n : Nat} (Pv : Nat → List V → Hp → Prop) (h0 : Pv 0 [] (upd H D (.lst [])))
    (hD : ∀ i ys H, Pv i ys H → H D = some (.lst ys)) (hend : ∀ ys H, Pv n ys H → J.stop n H ∧ Fin H)
    (hgo : ∀ i ys H, i < n → Pv i ys H → J.go i H ∧ ∀ x H', J.yld i H x H' → tc (some x :: σ) H' fun b H2 => if b = true then te (some x :: σ) H2 (LcNx n i D ys Pv) else LcNo n i ys Pv H2) : lcGo tc te σ J D Fin H := by
  refine ⟨fun i m ys H => m = n - i ∧ i ≤ n ∧ Pv i ys H, ⟨n, rfl, Nat.zero_le _, h0⟩, ?_⟩
  rintro i m ys H ⟨rfl, hi, p⟩
  refine ⟨hD i ys H p, ?_⟩
  by_cases hlt : i < n
  · exact .inr (hgo i ys H hlt p)
  · have e : i = n := by omega
    subst e
    exact .inl (hend ys H p)
theorem lc_list {K : PySem.W.Frag} {a : Addr} {xs : List V} {tc : TT} {te : TE} {σ : St} {D : Addr} {Fin : Hp → Prop} {H : Hp} (Pv : Nat → List V → Hp → Prop) (h0 : Pv 0 [] (upd H D (.lst [])))
    (hD : ∀ i ys H, Pv i ys H → H D = some (.lst ys) ∧ SqL K H a xs) (hend : ∀ ys H, Pv xs.length ys H → Fin H)
    (hgo : ∀ i x ys H, i < xs.length → xs[i]? = some x → Pv i ys H → tc (some x :: σ) H fun b H2 => if b = true then te (some x :: σ) H2 (LcNx xs.length i D ys Pv) else LcNo xs.length i ys Pv H2) : lcGo tc te σ (Itl K a) D Fin H := by
  refine lc_go Pv h0 (fun i ys H p => (hD i ys H p).1) (fun ys H p => ⟨⟨xs, (hD _ _ _ p).2, Nat.le_refl _⟩, hend ys H p⟩) fun i ys H hi p => ?_
  refine ⟨⟨xs, xs[i], (hD _ _ _ p).2, List.getElem?_eq_getElem hi⟩, fun x H' y => ?_⟩
  obtain ⟨e, y⟩ := y
  subst e
  exact hgo i x ys _ hi (y xs (hD _ _ _ p).2) p
theorem lc_range {lo : Int} {n : Nat} {tc : TT} {te : TE} {σ : St} {D : Addr} {Fin : Hp → Prop} {H : Hp} (Pv : Nat → List V → Hp → Prop) (h0 : Pv 0 [] (upd H D (.lst [])))
    (hD : ∀ i ys H, Pv i ys H → H D = some (.lst ys)) (hend : ∀ ys H, Pv n ys H → Fin H)
    (hgo : ∀ i ys H, i < n → Pv i ys H → tc (some (.int (lo + i)) :: σ) H fun b H2 => if b = true then te (some (.int (lo + i)) :: σ) H2 (LcNx n i D ys Pv) else LcNo n i ys Pv H2) : lcGo tc te σ (Itr lo n) D Fin H := by
  refine lc_go Pv h0 hD (fun ys H p => ⟨Nat.le_refl _, hend ys H p⟩) fun i ys H hi p => ?_
  refine ⟨hi, fun x H' y => ?_⟩
  obtain ⟨e, y⟩ := y
  subst e y
  exact hgo i ys _ hi p
/-! within a comprehension's block the readings must not name the block's context -/
section
variable {X : Cx}
theorem ix_tupK (K : PySem.W.Frag) (e : X.K = K := by rfl) : IxR X (rIxT K) := by rw [← e]; exact ix_tup
theorem ix_listK (K : PySem.W.Frag) (e : X.K = K := by rfl) : IxR X (rIxL K) := by rw [← e]; exact ix_list
end
theorem yesI {σ : St} {H : Hp} {A B : Hp → Prop} (h : A H) : tYes σ H (fun b H2 => if b = true then A H2 else B H2) := by
  show if true = true then A H else B H
  rw [if_pos rfl]
  exact h
theorem lcS {X : Cx} {x : Str} {sc scp : Scope} {N ps : List Str} (S : FnScope N ps scp) (hN : X.N = N := by rfl) (hs : X.env.scope = scp := by rfl) (h1 : sc.kind = .function := by rfl) (h2 : ∀ p ∈ sc.names, p.2 ≠ .cell := by decide +kernel) (h3 : sc.names.lookup x = some .local := by rfl)
    (h4 : ∀ p ∈ sc.names, p.2 = .local → sc.names.lookup p.1 = some .local := by decide +kernel) (h5 : ∀ y ∈ N, sc.names.lookup y ≠ some .local := by decide +kernel)
    (h7 : ∀ p ∈ sc.names, p.2 = .free → scp.names.lookup p.1 = some .cell ∨ scp.names.lookup p.1 = some .free := by decide +kernel) : LcScope X x sc :=
  ⟨h1, h2, h3, h4, by rw [hN]; exact h5, by rw [hN]; exact S.nd, fun p hp e => by
    show X.env.scope.names.lookup p.1 = _ ∨ X.env.scope.names.lookup p.1 = _
    rw [hs]
    exact h7 p hp e⟩
theorem Paired.get {α β : Type} {F : α → β → Prop} : ∀ {xs : List α} {ys : List β} {i : Nat} {x : α}, Paired F xs ys → xs[i]? = some x → ∃ y, ys[i]? = some y ∧ F x y
  | _, _, _, _, .nil, e => by simp at e
  | _, _, 0, _, .cons r _, e => by simp at e; subst e; exact ⟨_, rfl, r⟩
  | _, _, i + 1, x, .cons _ t, e => by
    obtain ⟨u, h1, h2⟩ := Paired.get (i := i) (x := x) t (by simpa using e)
    exact ⟨u, by simpa using h1, h2⟩
end L2
set_option Elab.async false
set_option linter.all false
set_option maxRecDepth 100000
/-! The rules once more, with K named: a reading then does not bear the whole context. -/
namespace L2
open PySem PySem.Spec PyProof.Rows
section
variable {X : Cx} {tg : Expr}
theorem pi_listK (K : PySem.W.Frag) {l : Expr} {tl : TE} (hl : PE X l tl) (e : X.K = K := by rfl) : PI X tg l (iList K tl) := by subst e; exact pi_list hl
inductive cLen (K : PySem.W.Frag) (xs : List V) (H : Hp) (Q : VK) : Prop
  | mk (p : Addr) (ys : List V) (e : xs = [.ref p]) (h : SqL K H p ys ∨ SqT K H p ys) (q : Q (.int ys.length) H) : cLen K xs H Q
theorem call_lenK (K : PySem.W.Frag) (e : X.K = K := by rfl) : CallR X (.builtin "len") (cLen K) := by
  subst e
  intro pins s σ H xs us Q I r h
  obtain ⟨p, ys, e, h, q⟩ := h
  exact call_len_seq pins s σ H xs us Q I r ⟨p, ys, e, h, q⟩
theorem call_all_seqK (K : PySem.W.Frag) (hc : X.calm = true) (e : X.K = K := by rfl) : CallR X (.builtin "all") (fun xs H Q => ∃ (p : Addr) (bs : List Bool), xs = [.ref p] ∧ SqL K H p (bs.map V.bl) ∧ Q (.bl (bs.all id)) H) := by subst e; exact call_all_seq hc
theorem sl_listK (K : PySem.W.Frag) (e : X.K = K := by rfl) : SlR X (rSlL K) := by subst e; exact sl_list
theorem call_list_ofK (K : PySem.W.Frag) (e : X.K = K := by rfl) : CallR X (.type "list") (fun xs H Q => ∃ p ys, xs = [.ref p] ∧ (SqL K H p ys ∨ SqT K H p ys) ∧ ∀ l, H l = none → Q (.ref l) (upd H l (.lst ys))) := by subst e; exact call_list_of
theorem pe_fldK (K : PySem.W.Frag) {e : Expr} {f : Str} {ta : TE} {pos : Pos} (he : PE X e ta) (hb : attributeBase e f X.env (eval e X.env) = eval e X.env) (ek : X.K = K := by rfl) : PE X (.Attribute e f pos) (tFld K ta f) := by subst ek; exact pe_fld he hb
theorem pg_tupK (K : PySem.W.Frag) {es : List Expr} {k : Nat} {t : TGs} {n : Nat} {pos : Pos} (hc : X.calm = true) (h : PGs X es t) (hn : (assignEach es X.env).length = n := by rfl) (hst : (assignEach es X.env).findIdx? (·.1) = none := by rfl) (ek : X.K = K := by rfl) : PG X (.Tuple es k pos) (gTup K n t) := by subst ek; exact pg_tup hc h hn hst
theorem pe_bmK (K : PySem.W.Frag) {o e : Expr} {es : List Expr} {to : TE} {t : TA} {name : Str} {apos cpos : Pos} {T id : String} {r : V → List V → Hp → VK → Prop} (pa : PlainAttrs T) (slot : Slot T name id) (hty : typeOf (.builtin id) = pure (.type "method_descriptor")) (hm : MtR X id r) (ho : PE X o to) (ha : PA X (e :: es) t)
    (hbase : attributeBase o name X.env (eval o X.env) = eval o X.env := by rfl)
    (hfew : ((backTo cpos (starEach (e :: es) X.env)).all (fun x => !x.1) && (backToKw cpos (keywordEach [] X.env)).all (fun x => x.1.isSome) && decide ((e :: es).length + ([] : List Keyword).length + (if ([] : List Keyword).isEmpty then 0 else 1) < 30)) = true := by rfl)
    (hline : (apos.endLine == cpos.line) = true := by rfl) (hs : starEach (e :: es) X.env = (false, eval e X.env) :: starEach es X.env := by rfl) (hplain : (backTo cpos (starEach es X.env)).any (·.1) = false := by rfl) (ek : X.K = K := by rfl) :
    PE X (.Call (.Attribute o name apos) (e :: es) [] cpos) (tBM K T r to t) := by subst ek; exact pe_bm pa slot hty hm ho ha hbase hfew hline hs hplain
end
end L2
set_option Elab.async false
set_option linter.all false
set_option maxRecDepth 100000
/-! repr, ==, != of data (numbers, texts, None, lists and tuples of these), min and max of a list of ints, over the hand layer. -/
namespace L2
open PySem PySem.Spec PyProof.Rows
/-! a thing that is read as that data -/
mutual
def Dat (H : Hp) : PyData → V → Prop
  | .none, v => v = .non
  | .bool b, v => v = .bl b
  | .int i, v => v = .int i
  | .str x, v => v = .str x
  | .list ds, v => ∃ a xs, v = .ref a ∧ H a = some (.lst xs) ∧ DatAll H ds xs
  | .tuple ds, v => ∃ a xs, v = .ref a ∧ H a = some (.tup xs) ∧ DatAll H ds xs
  | .dict _, _ => False
def DatAll (H : Hp) : List PyData → List V → Prop
  | [], xs => xs = []
  | d :: ds, xs => ∃ x r, xs = x :: r ∧ Dat H d x ∧ DatAll H ds r
end
mutual
theorem Dat.same {H H' : Hp} (s : ∀ b o, H b = some o → H' b = some o) : ∀ (d : PyData) (v : V), Dat H d v → Dat H' d v
  | .none, v, h => by unfold Dat at h ⊢; exact h
  | .bool _, v, h => by unfold Dat at h ⊢; exact h
  | .int _, v, h => by unfold Dat at h ⊢; exact h
  | .str _, v, h => by unfold Dat at h ⊢; exact h
  | .list ds, v, h => by
    unfold Dat at h ⊢
    obtain ⟨a, xs, e, h1, h2⟩ := h
    exact ⟨a, xs, e, s _ _ h1, DatAll.same s ds xs h2⟩
  | .tuple ds, v, h => by
    unfold Dat at h ⊢
    obtain ⟨a, xs, e, h1, h2⟩ := h
    exact ⟨a, xs, e, s _ _ h1, DatAll.same s ds xs h2⟩
  | .dict _, v, h => by unfold Dat at h; exact h.elim
theorem DatAll.same {H H' : Hp} (s : ∀ b o, H b = some o → H' b = some o) : ∀ (ds : List PyData) (xs : List V), DatAll H ds xs → DatAll H' ds xs
  | [], xs, h => by unfold DatAll at h ⊢; exact h
  | d :: ds, xs, h => by
    unfold DatAll at h ⊢
    obtain ⟨x, r, e, h1, h2⟩ := h
    exact ⟨x, r, e, Dat.same s d x h1, DatAll.same s ds r h2⟩
end
section
variable {X : Cx} {pins : List (Addr × Obj)} {σ : St} {H : Hp} {s : Shared}
mutual
theorem Dat.reads (I : Inv X pins σ H s) : ∀ (d : PyData) (v : V) (u : Value), RelV v u → Dat H d v → ∃ as, Reads s.heap u d as
  | .none, v, u, r, h => by unfold Dat at h; subst h; cases r; exact ⟨_, .none⟩
  | .bool b, v, u, r, h => by unfold Dat at h; subst h; cases r; exact ⟨_, .bool b⟩
  | .int i, v, u, r, h => by unfold Dat at h; subst h; obtain ⟨t, rfl⟩ := r; exact ⟨_, .int i t⟩
  | .str x, v, u, r, h => by unfold Dat at h; subst h; obtain ⟨t, rfl⟩ := r; exact ⟨_, .str x t⟩
  | .list ds, v, u, r, h => by
    unfold Dat at h
    obtain ⟨a, xs, rfl, h1, h2⟩ := h
    cases r
    obtain ⟨_, its, n, rv, e⟩ := I.hok a _ h1
    obtain ⟨as, hr⟩ := DatAll.reads I ds xs its rv h2
    exact ⟨_, .list e rfl rfl (by simpa using hr)⟩
  | .tuple ds, v, u, r, h => by
    unfold Dat at h
    obtain ⟨a, xs, rfl, h1, h2⟩ := h
    cases r
    obtain ⟨_, its, rv, o, ho, hc, n, hd⟩ := I.hok a _ h1
    obtain ⟨as, hr⟩ := DatAll.reads I ds xs its rv h2
    exact ⟨_, .tuple ho hc hd (by simpa using hr)⟩
  | .dict _, v, u, r, h => by unfold Dat at h; exact h.elim
theorem DatAll.reads (I : Inv X pins σ H s) : ∀ (ds : List PyData) (xs : List V) (us : List Value), Vals xs us → DatAll H ds xs → ∃ as, ReadsAll s.heap us ds as
  | [], xs, us, r, h => by unfold DatAll at h; subst h; cases r; exact ⟨_, .nil⟩
  | d :: ds, xs, us, r, h => by
    unfold DatAll at h
    obtain ⟨x, rr, rfl, h1, h2⟩ := h
    cases r with
    | cons rx rt =>
      obtain ⟨as, q1⟩ := Dat.reads I d x _ rx h1
      obtain ⟨bs, q2⟩ := DatAll.reads I ds rr _ rt h2
      exact ⟨_, .cons q1 q2⟩
end
end
section
variable {X : Cx}
inductive rEqD (neg : Bool) (x y : V) (H : Hp) (Q : VK) : Prop
  | mk (d d' : PyData) (h : Dat H d x) (h' : Dat H d' y) (f : d.canLay0 = true) (f' : d'.canLay0 = true) (p : d.depth ≤ 8) (q : Q (.bl (if neg then !PyData.eqv d d' else PyData.eqv d d')) H) : rEqD neg x y H Q
theorem op_neD {k : Nat} (hr : Room k X.A) : OpR X (compareOp .NotEq) (rEqD true) := by
  intro pins s σ H x y v u Q I rx ry h
  obtain ⟨d, d', h1, h2, f, f', p, q⟩ := h
  obtain ⟨as, r1⟩ := Dat.reads I d _ _ rx h1
  obtain ⟨bs, r2⟩ := Dat.reads I d' _ _ ry h2
  exact SeqAt.compareNe_reads r1 r2 f f' (by have := hr.un; omega) (fin_bl I q rfl)
end
section
variable {X : Cx}
end
end L2
set_option Elab.async false
set_option linter.all false
set_option maxRecDepth 100000
/-! repr of a list whose things are data or flat dicts, over the hand layer. -/
namespace L2
open PySem PySem.Spec PyProof.Rows
/-- a thing that is no object, as data -/
inductive Flat : Value → PyData → Prop
  | none : Flat .none .none
  | bool (b : Bool) : Flat (.bool b) (.bool b)
  | int (i : Int) (t : Tok) : Flat (.int i t) (.int i)
  | str (x : Str) (t : Tok) : Flat (.str x t) (.str x)
/-- a dict at a whose keys and values are no objects -/
def LitP (a : Addr) (kvs : List (PyData × PyData)) (h : Heap) : Prop :=
  (a == sysModules) = false ∧ ∃ o es n, h.get? a = some o ∧ o.cls = .type "dict" ∧ o.data = .dict es n ∧ Paired Flat (es.toList.map (·.key)) (kvs.map (·.1)) ∧ Paired Flat (es.toList.map (·.val)) (kvs.map (·.2))
def LitO (a : Addr) (kvs : List (PyData × PyData)) : HO := .ext (LitP a kvs)
theorem litO_ok {P : Program} {w : World} {H : Hp} {h : Heap} {a : Addr} {kvs : List (PyData × PyData)} (x : LitP a kvs h) : ObjOk P w H h a (LitO a kvs) := by
  refine ⟨x, ?_, fun h1 h2 y k => ?_⟩
  · obtain ⟨_, o, _, _, e, _⟩ := x; exact ⟨o, e⟩
  · obtain ⟨s, o, es, n, e, r⟩ := y; exact ⟨s, o, es, n, k o e, r⟩
/-- a key's and a flat value's data -/
def keyD : Key → PyData
  | .inl i => .int i
  | .inr x => .str x
def flatD : V → Option PyData
  | .non => some .none
  | .bl b => some (.bool b)
  | .int i => some (.int i)
  | .str x => some (.str x)
  | _ => none
theorem flat_key {P : Program} {w : World} {k : Key} {v : Value} (h : (mixKind P w).is k v = true) : Flat v (keyD k) := by
  rcases keyIs_shape h with ⟨i, t, rfl, rfl⟩ | ⟨x, t, rfl, rfl⟩
  · exact .int i t
  · exact .str x t
theorem flat_val {x : V} {u : Value} {d : PyData} (e : flatD x = some d) (r : RelV x u) : Flat u d := by
  cases x with
  | non => cases e; cases r; exact .none
  | bl b => cases e; cases r; exact .bool b
  | int i => cases e; obtain ⟨t, rfl⟩ := r; exact .int i t
  | str y => cases e; obtain ⟨t, rfl⟩ := r; exact .str y t
  | _ => cases e
section
variable {X : Cx} {pins : List (Addr × Obj)} {σ : St} {H : Hp} {s : Shared}
end
section
variable {X : Cx}
end
end L2
set_option Elab.async false
set_option linter.all false
set_option maxRecDepth 100000
/-! isinstance of None, texts and dicts, too, over the hand layer. -/
namespace L2
open PySem PySem.Spec PyProof.Rows
inductive TyW (H : Hp) : V → Value → Prop
  | s {x : V} {t : Value} (h : TyS H x t) : TyW H x t
  | non : TyW H .non (.type "NoneType")
  | str (x : Str) : TyW H (.str x) (.type "str")
  | dK {a : Addr} {kvs : List (Key × V)} (h : H a = some (.dK kvs)) : TyW H (.ref a) (.type "dict")
  | lit {a : Addr} {kvs : List (PyData × PyData)} (h : H a = some (LitO a kvs)) : TyW H (.ref a) (.type "dict")
section
variable {X : Cx}
theorem tyw_kit {pins : List (Addr × Obj)} {σ : St} {H : Hp} {s : Shared} {x : V} {u t : Value} (I : Inv X pins σ H s) (rx : RelV x u) (ty : TyW H x t) : ∃ Hx : Heap → Prop, PySem.W.KitX X.K u t Hx ∧ Hx s.heap ∧ u ≠ .builtin "__main__.__loader__#opaque" := by
  cases ty with
  | s h => exact ty_kit I rx h
  | non => cases (show u = Value.none from rx); exact ⟨_, PySem.W.kitx_none, True.intro, fun z => nomatch z⟩
  | str y => obtain ⟨t, q⟩ := (show ∃ t, u = Value.str y t from rx); cases q; exact ⟨_, PySem.W.kitx_str, True.intro, fun z => nomatch z⟩
  | @dK a kvs h =>
    cases (show u = Value.ref a from rx)
    obtain ⟨_, _, _, _, o, _, _, e, c, _⟩ := (show ObjOk X.prog X.w H s.heap a (.dK kvs) from I.hok a _ h)
    exact ⟨_, PySem.W.kitx_dict, ⟨o, e, c.1⟩, fun z => nomatch z⟩
  | @lit a kvs h =>
    cases (show u = Value.ref a from rx)
    obtain ⟨⟨_, o, _, _, e, c, _⟩, _⟩ := (show ObjOk X.prog X.w H s.heap a (LitO a kvs) from I.hok a _ h)
    exact ⟨_, PySem.W.kitx_dict, ⟨o, e, c⟩, fun z => nomatch z⟩
inductive cIsW (K : PySem.W.Frag) (xs : List V) (H : Hp) (Q : VK) : Prop
  | mk (x : V) (t : Value) (T : String) (b : Bool) (e : xs = [x, .ty T]) (h : TyW H x t) (k : PySem.W.kitOne K t (.type T) = some b) (q : Q (.bl b) H) : cIsW K xs H Q
theorem call_isiW (K : PySem.W.Frag) (ek : X.K = K := by rfl) : CallR X (.builtin "isinstance") (cIsW K) := by
  subst ek
  intro pins s σ H xs us Q I r h
  obtain ⟨x, t, T, b, rfl, ty, e, q⟩ := h
  obtain ⟨u, w', rfl, rx, rt⟩ := vals2 r
  cases rt
  obtain ⟨Hx, Z, p, hx⟩ := tyw_kit I rx ty
  exact PySem.W.kia_one Z I.kIn p e hx fun tk => ⟨.bl b, H, I.tok tk, rfl, q⟩
inductive cIsW2 (K : PySem.W.Frag) (xs : List V) (H : Hp) (Q : VK) : Prop
  | mk (x : V) (t : Value) (p : Addr) (T U : String) (b : Bool) (e : xs = [x, .ref p]) (hq : SqT K H p [.ty T, .ty U]) (h : TyW H x t) (k : PySem.W.kitAny K t [.type T, .type U] = some b) (q : Q (.bl b) H) : cIsW2 K xs H Q
theorem call_isiW2 (K : PySem.W.Frag) (ek : X.K = K := by rfl) : CallR X (.builtin "isinstance") (cIsW2 K) := by
  subst ek
  intro pins s σ H xs us Q I r h
  obtain ⟨x, t, tp, T, U, b, rfl, hq, ty, e, q⟩ := h
  obtain ⟨u, w', rfl, rx, rt⟩ := vals2 r
  cases rt
  obtain ⟨Hx, Z, p, hx⟩ := tyw_kit I rx ty
  obtain ⟨its, rv, pl, hz⟩ := I.tuple hq
  obtain ⟨u1, u2, rfl, r1, r2⟩ := rv.two
  cases r1
  cases r2
  obtain ⟨o, ho, hc, n, hd⟩ := pl
  obtain ⟨oc, odd, odt, osl⟩ := o
  dsimp only at hc hd
  subst hc hd
  exact PySem.W.kia_tup Z I.kIn p ho e hx fun tk => ⟨.bl b, H, I.tok tk, rfl, q⟩
end
end L2
set_option Elab.async false
set_option linter.all false
set_option maxRecDepth 100000
namespace L2
open PySem PySem.Spec PyProof.Rows

/-! ### lists of pairs as tables -/
section
variable {κ : Type} [DecidableEq κ]
def valV (kvs : List (κ × V)) (k : κ) : Option V := (kvs.find? fun kv => decide (kv.1 = k)).map (·.2)
/-- in its place, or at the end -/
def putK (kvs : List (κ × V)) (k : κ) (v : V) : List (κ × V) :=
  if (kvs.any fun kv => decide (kv.1 = k)) = true then kvs.map (fun kv => if kv.1 = k then (kv.1, v) else kv) else kvs ++ [(k, v)]
def dropK (kvs : List (κ × V)) (k : κ) : List (κ × V) := kvs.filter fun kv => decide (kv.1 ≠ k)

theorem valV_pos {p : κ × V} {r : List (κ × V)} {k : κ} (e : p.1 = k) : valV (p :: r) k = some p.2 := by simp [valV, List.find?_cons, e]
theorem valV_neg {p : κ × V} {r : List (κ × V)} {k : κ} (e : ¬ p.1 = k) : valV (p :: r) k = valV r k := by simp [valV, List.find?_cons, e]
theorem valV_any (k : κ) : ∀ kvs : List (κ × V), (kvs.any fun kv => decide (kv.1 = k)) = (valV kvs k).isSome
  | [] => rfl
  | p :: r => by
    rw [List.any_cons]
    by_cases e : p.1 = k
    · simp only [valV_pos e, decide_eq_true e, Bool.true_or, Option.isSome_some]
    · rw [valV_neg e, decide_eq_false e, Bool.false_or]; exact valV_any k r
theorem length_putK (kvs : List (κ × V)) (k : κ) (v : V) : (putK kvs k v).length ≤ kvs.length + 1 := by
  unfold putK
  split
  · rw [List.length_map]; omega
  · rw [List.length_append, List.length_cons, List.length_nil]; omega

theorem RelO.isSome_eq {o : Option V} {u : Option Value} (r : RelO o u) : o.isSome = u.isSome := by
  cases o with
  | none => cases u with
    | none => rfl
    | some _ => exact (show False from r).elim
  | some _ => cases u with
    | none => exact (show False from r).elim
    | some _ => rfl

/-- raw tables of the same keys -/
theorem KV.val {kvs : List (κ × V)} {vs : List (κ × Value)} (r : KV kvs vs) (k : κ) : RelO (valV kvs k) (valueAt vs k) := by
  unfold KV at r
  induction r with
  | nil => exact True.intro
  | @cons p q ps qs h t ih =>
    obtain ⟨h1, h2⟩ := h
    by_cases e : p.1 = k
    · have e' : q.1 = k := h1.symm.trans e
      have b : valueAt (q :: qs) k = some q.2 := by simp [valueAt, List.find?_cons, e']
      rw [valV_pos e, b]; exact h2
    · have e' : ¬ q.1 = k := fun z => e (h1.trans z)
      have b : valueAt (q :: qs) k = valueAt qs k := by simp [valueAt, List.find?_cons, e']
      rw [valV_neg e, b]; exact ih
theorem KV.any {kvs : List (κ × V)} {vs : List (κ × Value)} (r : KV kvs vs) (k : κ) : (kvs.any fun kv => decide (kv.1 = k)) = vs.any fun kv => decide (kv.1 = k) := by
  unfold KV at r
  induction r with
  | nil => rfl
  | cons h t ih => rw [List.any_cons, List.any_cons, ih, h.1]
theorem KV.repl {kvs : List (κ × V)} {vs : List (κ × Value)} (r : KV kvs vs) (k : κ) {y : V} {u : Value} (ry : RelV y u) :
    KV (kvs.map fun kv => if kv.1 = k then (kv.1, y) else kv) (vs.map fun kv => if kv.1 = k then (kv.1, u) else kv) := by
  unfold KV at r ⊢
  induction r with
  | nil => exact .nil
  | @cons p q ps qs h t ih =>
    rw [List.map_cons, List.map_cons]
    refine .cons ?_ ih
    obtain ⟨h1, h2⟩ := h
    by_cases e : p.1 = k
    · rw [if_pos e, if_pos (h1.symm.trans e)]; exact ⟨h1, ry⟩
    · rw [if_neg e, if_neg (fun z => e (h1.trans z))]; exact ⟨h1, h2⟩
theorem KV.put {kvs : List (κ × V)} {vs : List (κ × Value)} (r : KV kvs vs) (k : κ) {y : V} {u : Value} (ry : RelV y u) : KV (putK kvs k y) (stored vs k u) := by
  unfold putK stored
  rw [r.any k]
  by_cases e : (vs.any fun kv => decide (kv.1 = k)) = true
  · rw [if_pos e, if_pos e]; exact r.repl k ry
  · rw [if_neg e, if_neg e]; exact PySem.Paired.snoc r ⟨rfl, ry⟩
theorem KV.length {kvs : List (κ × V)} {vs : List (κ × Value)} (r : KV kvs vs) : kvs.length = vs.length := Paired.length r
theorem dropK_le (kvs : List (κ × V)) (k : κ) : (dropK kvs k).length ≤ kvs.length := List.length_filter_le _ _
end


/-! ### a tracked dict, its keys ints and texts or tuples of these -/
theorem kV_is {P : Program} {w : World} {k : Key} {u : Value} (r : RelV (kV k) u) : (mixKind P w).is k u = true := by
  cases k with
  | inl i => obtain ⟨t, e⟩ := (show ∃ t, u = Value.int i t from r); subst e; exact mixKind_int P w i t
  | inr x => obtain ⟨t, e⟩ := (show ∃ t, u = Value.str x t from r); subst e; exact mixKind_str P w x t
theorem items_are {P : Program} {w : World} : ∀ {ks : List Key} {us : List Value}, Vals (ks.map kV) us → ItemsAre (mixKind P w) ks us
  | [], _, r => by rw [List.map_nil] at r; cases r; exact .nil
  | k :: ks, _, r => by
    rw [List.map_cons] at r
    cases r with
    | cons h t => exact .cons (kV_is h) (items_are t)

/-- raw entries of a dict with tuple keys -/
abbrev KT (H : Hp) : List (List Key × V) → List (List Key × Addr × Value) → Prop := Paired fun p q => p.1 = q.1 ∧ H q.2.1 = some (.tup (p.1.map kV)) ∧ RelV p.2 q.2.2
theorem KT.val {H : Hp} {kvs : List (List Key × V)} {xs : List (List Key × Addr × Value)} (r : KT H kvs xs) (k : List Key) : RelO (valV kvs k) ((atKey xs k).map (·.2)) := by
  induction r with
  | nil => exact True.intro
  | @cons p q ps qs h t ih =>
    obtain ⟨h1, _, h2⟩ := h
    by_cases e : p.1 = k
    · have e' : q.1 = k := h1.symm.trans e
      have b : atKey (q :: qs) k = some q.2 := by simp [atKey, List.find?_cons, e']
      rw [valV_pos e, b]; exact h2
    · have e' : ¬ q.1 = k := fun z => e (h1.trans z)
      have b : atKey (q :: qs) k = atKey qs k := by simp [atKey, List.find?_cons, e']
      rw [valV_neg e, b]; exact ih
theorem KT.repl {H : Hp} {kvs : List (List Key × V)} {xs : List (List Key × Addr × Value)} (r : KT H kvs xs) (k : List Key) {y : V} {u : Value} (ry : RelV y u) :
    KT H (kvs.map fun kv => if kv.1 = k then (kv.1, y) else kv) (xs.map (putAt k u)) := by
  induction r with
  | nil => exact .nil
  | @cons p q ps qs h t ih =>
    rw [List.map_cons, List.map_cons]
    refine .cons ?_ ih
    obtain ⟨h1, h2, h3⟩ := h
    unfold putAt
    by_cases e : p.1 = k
    · rw [if_pos e, if_pos (h1.symm.trans e)]; exact ⟨h1, h2, ry⟩
    · rw [if_neg e, if_neg (fun z => e (h1.trans z))]; exact ⟨h1, h2, h3⟩
theorem KT.put {H : Hp} {kvs : List (List Key × V)} {xs : List (List Key × Addr × Value)} (r : KT H kvs xs) (k : List Key) {b : Addr} {y : V} {u : Value} (hb : H b = some (.tup (k.map kV))) (ry : RelV y u) :
    KT H (putK kvs k y) (storedH xs k b u) := by
  have e : (kvs.any fun kv => decide (kv.1 = k)) = (atKey xs k).isSome := by
    rw [valV_any, (r.val k).isSome_eq, Option.isSome_map]
  unfold putK storedH
  rw [e]
  by_cases q : (atKey xs k).isSome = true
  · rw [if_pos q, if_pos q]; exact r.repl k ry
  · rw [if_neg q, if_neg q]; exact PySem.Paired.snoc r ⟨rfl, hb, ry⟩
theorem KT.keeps {H H' : Hp} {kvs : List (List Key × V)} {xs : List (List Key × Addr × Value)} (r : KT H kvs xs) (ht : ∀ b ys, H b = some (.tup ys) → H' b = some (.tup ys)) : KT H' kvs xs :=
  Paired.mapP r fun _ _ z => ⟨z.1, ht _ _ z.2.1, z.2.2⟩

section
variable {P : Program} {w : World} {H : Hp} {h : Heap} {a : Addr}
theorem rd_of {u : HO} (ok : HOk P w H h) (e : Rd H a u) : ObjOk P w H h a u := e.ok ok
theorem dk_rd {kvs : List (Key × V)} (ok : HOk P w H h) (e : Rd H a (.dK kvs)) : kvs.length ≤ sizeLine ∧ (a == sysModules) = false ∧ ∃ vs, KV kvs vs ∧ h.DictOf (mixKind P w) a vs :=
  show ObjOk P w H h a (.dK kvs) from rd_of ok e
theorem dk_of {kvs : List (Key × V)} (ok : HOk P w H h) (e : H a = some (.dK kvs)) : kvs.length ≤ sizeLine ∧ (a == sysModules) = false ∧ ∃ vs, KV kvs vs ∧ h.DictOf (mixKind P w) a vs := dk_rd ok (.inl e)
/-- a tracked tuple of ints and texts is a key -/
theorem key_of {ks : List Key} (ok : HOk P w H h) (e : H a = some (.tup (ks.map kV))) : (tupleKind (mixKind P w)).is h ks a := by
  obtain ⟨_, its, r, o, h1, h2, n, h3⟩ := (show ObjOk P w H h a (.tup (ks.map kV)) from ok a _ e)
  exact ⟨o, its.toArray, n, h1, h2, h3, by simpa using items_are r⟩
theorem dt_rd {kvs : List (List Key × V)} (ok : HOk P w H h) (e : Rd H a (.dT kvs)) : kvs.length ≤ sizeLine ∧ (a == sysModules) = false ∧
    ∃ xs, KT H kvs xs ∧ h.DictOfH (tupleKind (mixKind P w)) a xs := by
  obtain ⟨z, y, xs, r, o, es, ep, h1, h2, h3, h4, h5⟩ := (show ObjOk P w H h a (.dT kvs) from rd_of ok e)
  refine ⟨z, y, xs, r, o, es, ep, h1, h2, h3, h4, fun x hx => ?_, h5⟩
  have all : ∀ {l : List (List Key × V)} {m : List (List Key × Addr × Value)}, KT H l m → ∀ x ∈ m, (tupleKind (mixKind P w)).is h x.1 x.2.1 := by
    intro l m q
    induction q with
    | nil => intro x hx; exact nomatch hx
    | @cons p q ps qs hq t ih =>
      intro x hx
      rcases List.mem_cons.mp hx with e | hx
      · subst e
        exact key_of ok (by rw [← hq.1]; exact hq.2.1)
      · exact ih x hx
  exact all r x hx
theorem dt_of {kvs : List (List Key × V)} (ok : HOk P w H h) (e : H a = some (.dT kvs)) : kvs.length ≤ sizeLine ∧ (a == sysModules) = false ∧
    ∃ xs, KT H kvs xs ∧ h.DictOfH (tupleKind (mixKind P w)) a xs := dt_rd ok (.inl e)
end

/-- what the dict at a holds at the key y -/
def DGet (H : Hp) (a : Addr) (y : V) (r : Option V) : Prop :=
  (∃ kvs k, Rd H a (.dK kvs) ∧ y = kV k ∧ r = valV kvs k) ∨ ∃ kvs k b, Rd H a (.dT kvs) ∧ y = .ref b ∧ H b = some (.tup (k.map kV)) ∧ r = valV kvs k
/-- the heap behind a[y] = v -/
def DPut (H : Hp) (a : Addr) (y v : V) (H' : Hp) : Prop :=
  (∃ kvs k, H a = some (.dK kvs) ∧ y = kV k ∧ kvs.length < sizeLine ∧ H' = upd H a (.dK (putK kvs k v))) ∨
  ∃ kvs k b, H a = some (.dT kvs) ∧ y = .ref b ∧ H b = some (.tup (k.map kV)) ∧ kvs.length < sizeLine ∧ H' = upd H a (.dT (putK kvs k v))
theorem DGet.t {H : Hp} {a b : Addr} {kvs : List (List Key × V)} {k : List Key} (e : H a = some (.dT kvs)) (eb : H b = some (.tup (k.map kV))) : DGet H a (.ref b) (valV kvs k) := .inr ⟨kvs, k, b, .inl e, rfl, eb, rfl⟩
theorem DPut.t {H : Hp} {a b : Addr} {kvs : List (List Key × V)} {k : List Key} {v : V} (e : H a = some (.dT kvs)) (eb : H b = some (.tup (k.map kV))) (hl : kvs.length < sizeLine) :
    DPut H a (.ref b) v (upd H a (.dT (putK kvs k v))) := .inr ⟨kvs, k, b, e, rfl, eb, hl, rfl⟩


section
variable {X : Cx} {pins : List (Addr × Obj)} {σ : St} {H : Hp} {s : Shared} {a : Addr} {y v : V} {u r : Value} {o : Option V} {A : Around} {E : Value → Shared → Prop}

theorem Inv.big (I : Inv X pins σ H s) : sysModules < s.heap.objs.size := by
  have h : mainGlobals < s.heap.objs.size := (I.mod.glob.keeps I.bk).lt
  exact Nat.lt_trans (by decide) h

/-- d[y], there -/
theorem d_getItem {Q : Value → Shared → Prop} (hu : A.units + 1 < cLine) (I : Inv X pins σ H s) (g : DGet H a y (some v)) (ry : RelV y u) (h : ∀ w' s', Inv X pins σ H s' → RelV v w' → Q w' s') :
    wpAny (model X.prog X.w) A (getItem (.ref a) u) Q E s := by
  rcases g with ⟨kvs, k, e, ey, l⟩ | ⟨kvs, k, b, e, ey, eb, l⟩
  · subst ey
    obtain ⟨z, hd, vs, rel, dd⟩ := dk_rd I.hok e
    obtain ⟨w', hw, rw'⟩ := RelO.some_of (v := v) (o := valueAt vs k) (by rw [l]; exact rel.val k)
    exact wpAny_getItem_of (kV_is ry) dd.mapOf hw (h w' _ (I.tok _) rw')
  · subst ey
    cases (show u = Value.ref b from ry)
    obtain ⟨z, hd, xs, rel, dd⟩ := dt_rd I.hok e
    obtain ⟨w', hw, rw'⟩ := RelO.some_of (v := v) (o := (atKey xs k).map (·.2)) (by rw [l]; exact rel.val k)
    obtain ⟨p, hp, hp2⟩ := Option.map_eq_some_iff.mp hw
    refine wpAny_getItem_heap (tupleKind_room_in1 hu) (key_of I.hok eb) dd hp ?_
    rw [hp2]
    exact h w' _ (I.tok _) rw'
/-- y in d -/
theorem d_in {Q : Value → Shared → Prop} (hu : A.units + 1 < cLine) (I : Inv X pins σ H s) (g : DGet H a y o) (ry : RelV y u) (h : ∀ s', Inv X pins σ H s' → Q (.bool o.isSome) s') :
    wpAny (model X.prog X.w) A (compareOp .In u (.ref a)) Q E s := by
  rcases g with ⟨kvs, k, e, ey, l⟩ | ⟨kvs, k, b, e, ey, eb, l⟩
  · subst ey
    obtain ⟨z, hd, vs, rel, dd⟩ := dk_rd I.hok e
    refine wpAny_in_of (kV_is ry) hd dd.mapOf ?_
    rw [← (rel.val k).isSome_eq, ← l]
    exact h _ (I.tok _)
  · subst ey
    cases (show u = Value.ref b from ry)
    obtain ⟨z, hd, xs, rel, dd⟩ := dt_rd I.hok e
    refine wpAny_in_heap (tupleKind_room_in1 hu) (key_of I.hok eb) hd dd ?_
    have q := (rel.val k).isSome_eq
    rw [Option.isSome_map] at q
    rw [← q, ← l]
    exact h _ (I.tok _)
theorem d_notIn {Q : Value → Shared → Prop} (hu : A.units + 1 < cLine) (I : Inv X pins σ H s) (g : DGet H a y o) (ry : RelV y u) (h : ∀ s', Inv X pins σ H s' → Q (.bool (!o.isSome)) s') :
    wpAny (model X.prog X.w) A (compareOp .NotIn u (.ref a)) Q E s := by
  rcases g with ⟨kvs, k, e, ey, l⟩ | ⟨kvs, k, b, e, ey, eb, l⟩
  · subst ey
    obtain ⟨z, hd, vs, rel, dd⟩ := dk_rd I.hok e
    refine wpAny_notIn_of (kV_is ry) hd dd.mapOf ?_
    rw [← (rel.val k).isSome_eq, ← l]
    exact h _ (I.tok _)
  · subst ey
    cases (show u = Value.ref b from ry)
    obtain ⟨z, hd, xs, rel, dd⟩ := dt_rd I.hok e
    refine wpAny_notIn_heap (tupleKind_room_in1 hu) (key_of I.hok eb) hd dd ?_
    have q := (rel.val k).isSome_eq
    rw [Option.isSome_map] at q
    rw [← q, ← l]
    exact h _ (I.tok _)
/-- a dict's object is replaced -/
theorem d_write {h' : Heap} {t' : Nat} {ob : HO} (I : Inv X pins σ H s) (mu : Mut (H a)) (hs : Heap.SameBut a s.heap h') (he : ∃ q, h'.get? a = some q) (new : ObjOk X.prog X.w (upd H a ob) h' a ob) :
    Inv X pins σ (upd H a ob) { s with heap := h', toks := t' } :=
  I.write (x := a) (e := a) mu (.inl rfl) (fun b q hb z => (hs.2 b hb).trans z) he new
theorem dk_new {P : Program} {w : World} {H' : Hp} {h' : Heap} {kvs : List (Key × V)} {vs : List (Key × Value)} (z : kvs.length ≤ sizeLine) (hd : (a == sysModules) = false) (rel : KV kvs vs) (dd : h'.DictOf (mixKind P w) a vs) :
    ObjOk P w H' h' a (.dK kvs) := ⟨z, hd, vs, rel, dd⟩
/-- d[y] = v -/
theorem d_setItem {H' : Hp} {Q : Unit → Shared → Prop} (hu : A.units + 1 < cLine) (I : Inv X pins σ H s) (g : DPut H a y v H') (ry : RelV y u) (rv : RelV v r) (h : ∀ s', Inv X pins σ H' s' → Q () s') :
    wpAny (model X.prog X.w) A (setItem (.ref a) u r) Q E s := by
  rcases g with ⟨kvs, k, e, ey, l, eH⟩ | ⟨kvs, k, b, e, ey, eb, l, eH⟩
  · subst ey eH
    obtain ⟨z, hd, vs, rel, dd⟩ := dk_of I.hok e
    have hz : vs.length ≤ sizeLine := by rw [← rel.length]; exact z
    have hl : (putK kvs k v).length ≤ sizeLine := by have := length_putK kvs k v; omega
    refine wpAny_setItem_pairs (hsz := hz) (kV_is ry) dd fun h' dd' hs => h _ ?_
    have he : ∃ q, h'.get? a = some q := let ⟨q, _, _, hq, _⟩ := dd'; ⟨q, hq⟩
    exact d_write I (by rw [e]; exact True.intro) hs he (dk_new hl hd (rel.put k rv) dd')
  · subst ey eH
    cases (show u = Value.ref b from ry)
    obtain ⟨z, hd, xs, rel, dd⟩ := dt_of I.hok e
    have hz : xs.length ≤ sizeLine := by rw [← Paired.length rel]; exact z
    have hl : (putK kvs k v).length ≤ sizeLine := by have := length_putK kvs k v; omega
    refine wpAny_setItem_heap (hsz := hz) (tupleKind_room_in1 hu) (key_of I.hok eb) dd fun h' dd' hs => h _ ?_
    obtain ⟨q, es, ep, hq, h2, h3, h4, _, h5⟩ := dd'
    refine d_write I (by rw [e]; exact True.intro) hs ⟨q, hq⟩ ⟨hl, hd, _, (rel.put k eb rv).keeps fun c ys ec => ?_, q, es, ep, hq, h2, h3, h4, h5⟩
    rw [upd_ne (ne_of ec e (fun z => nomatch z))]
    exact ec
end

section
variable {X : Cx} {pins : List (Addr × Obj)} {σ : St} {H : Hp} {s : Shared} {a : Addr} {kvs : List (Key × V)} {k : Key} {u : Value} {A : Around} {E : Value → Shared → Prop}
end


/-! ### readings and rules -/
/-- the element of a subscription, not a slice -/
def NoSl (i : Expr) : Prop := ∀ ov iv, subscripted i false ov iv = operate [ov, iv] (getItem ov iv)
theorem subD_of {prog : Program} {w : World} {A : Around} {E : Value → Shared → Prop} {s : Shared} {env : Env} {value slice : Expr} {pos : Pos} {T id : String} {Q : Value → Shared → Prop}
    (hl : typeLookup (.type T) "__getitem__" = pure (some (.builtin id))) (hs : NoSl slice)
    (h : wpAny (model prog w) A (eval value env) (fun o s₁ => wpAny (model prog w) A (eval slice env) (fun i s₂ => s₂.TypeIs o T ∧ wpAny (model prog w) A (getItem o i) Q E s₂) E s₁) E s) :
    wpAny (model prog w) A (eval (.Subscript value slice pos) env) Q E s := by
  refine Subscript_ (wpAny_mono h (fun o s₁ h₁ => wpAny_mono h₁ (fun i s₂ h₂ => ?_) fun _ _ x => x) fun _ _ x => x)
  obtain ⟨hT, h₂⟩ := h₂
  unfold subscriptTail
  refine wpAny_bind ?_
  rw [getitemInPython_of_ne hT.not_modules]
  refine wpAny_bind (wpAny_specialOf hT hl ?_)
  have fin : wpAny (model prog w) A (subscripted slice false o i) (fun r s₃ => wpAny (model prog w) A (letTemporaryGo value o r >>= fun _ => pure r) Q E s₃) E s₂ := by
    rw [hs o i]
    exact wpAny_operating (wpAny_mono h₂ (fun r s₃ h₃ => wpAny_bind (wpAny_letTemporaryGo (wpAny_pure h₃))) fun _ _ x => x)
  first
    | exact wpAny_pure (wpAny_bind fin)
    | exact wpAny_bind (wpAny_pure (wpAny_bind fin))
    | exact wpAny_bind fin

theorem dict_typeIs {X : Cx} {pins : List (Addr × Obj)} {σ : St} {H : Hp} {s : Shared} {a : Addr} {y : V} {o : Option V} (I : Inv X pins σ H s) (g : DGet H a y o) : s.TypeIs (.ref a) "dict" := by
  rcases g with ⟨kvs, k, e, _, _⟩ | ⟨kvs, k, b, e, _, _, _⟩
  · obtain ⟨_, _, vs, _, dd⟩ := dk_rd I.hok e
    exact dd.typeIs
  · obtain ⟨_, _, xs, _, dd⟩ := dt_rd I.hok e
    exact dd.typeIs

/-- d[y] -/
def tDGet (td ty : TE) : TE := fun σ H Q => td σ H fun x H1 => ty σ H1 fun y H2 => ∃ a v, x = .ref a ∧ DGet H2 a y (some v) ∧ Q v H2
/-- y in d, y not in d -/
def tDIn (ty td : TE) : TE := fun σ H Q => ty σ H fun y H1 => td σ H1 fun x H2 => ∃ a o, x = .ref a ∧ DGet H2 a y o ∧ Q (.bl o.isSome) H2
def tDNotIn (ty td : TE) : TE := fun σ H Q => ty σ H fun y H1 => td σ H1 fun x H2 => ∃ a o, x = .ref a ∧ DGet H2 a y o ∧ Q (.bl (!o.isSome)) H2
/-- d[y] = v -/
def sDPut (td ty tv : TE) : TS := fun D σ H => tv σ H fun v H1 => td σ H1 fun x H2 => ty σ H2 fun y H3 => ∃ a H4, x = .ref a ∧ DPut H3 a y v H4 ∧ D.nx σ H4

section
variable {X : Cx} {o i e value : Expr} {pos pos' tpos : Pos} {td ty tv : TE}
theorem pe_dget (hu : X.A.units + 1 < cLine) (ho : PE X o td) (hi : PE X i ty) (hs : NoSl i) : PE X (.Subscript o i pos) (tDGet td ty) := by
  refine ⟨?_⟩
  intro pins s σ H Q I h
  refine subD_of PySem.F.slot_dict_getitem.lookup hs (thn (ho pins s σ H _ I h) fun u s1 ⟨x, H1, I1, rx, q1⟩ => thn (hi pins s1 σ H1 _ I1 q1) fun iv s2 ⟨y, H2, I2, ry, a, v, ex, g, q2⟩ => ?_)
  subst ex
  obtain rfl : u = Value.ref a := rx
  exact ⟨dict_typeIs I2 g, d_getItem hu I2 g ry fun w' s3 I3 rw' => ⟨v, H2, I3, rw', q2⟩⟩
theorem pc_din (hu : X.A.units + 1 < cLine) (hi : PE X i ty) (ho : PE X o td) : PC X .In i o (tDIn ty td) := by
  intro pins s σ H Q I h
  refine thn (hi pins s σ H _ I h) fun iv s1 ⟨y, H1, I1, ry, q1⟩ => thn (ho pins s1 σ H1 _ I1 q1) fun u s2 ⟨x, H2, I2, rx, a, ov, ex, g, q2⟩ => ?_
  subst ex
  obtain rfl : u = Value.ref a := rx
  exact d_in hu I2 g ry fun s3 I3 => ⟨.bl ov.isSome, H2, I3, rfl, q2⟩
theorem pc_dnotin (hu : X.A.units + 1 < cLine) (hi : PE X i ty) (ho : PE X o td) : PC X .NotIn i o (tDNotIn ty td) := by
  intro pins s σ H Q I h
  refine thn (hi pins s σ H _ I h) fun iv s1 ⟨y, H1, I1, ry, q1⟩ => thn (ho pins s1 σ H1 _ I1 q1) fun u s2 ⟨x, H2, I2, rx, a, ov, ex, g, q2⟩ => ?_
  subst ex
  obtain rfl : u = Value.ref a := rx
  exact d_notIn hu I2 g ry fun s3 I3 => ⟨.bl (!ov.isSome), H2, I3, rfl, q2⟩
theorem ps_dput (hu : X.A.units + 1 < cLine) (ho : PE X o td) (hi : PE X i ty) (hv : PE X value tv) (hs : swapsWith value (some (.Subscript o i pos')) pos.line X.env = pure false) :
    PS X (.Assign [.Subscript o i pos'] value pos) (sDPut td ty tv) := by
  refine ⟨?_⟩
  intro pins s σ H D I h
  refine wpAny_Assign_Subscript (thn (hv pins s σ H _ I h) fun r s1 ⟨v, H1, I1, rv, q1⟩ => thn (ho pins s1 σ H1 _ I1 q1) fun u s2 ⟨x, H2, I2, rx, q2⟩ => thn (hi pins s2 σ H2 _ I2 q2) fun iv s3 ⟨y, H3, I3, ry, a, H4, ex, g, q3⟩ => ?_) hs
  subst ex
  obtain rfl : u = Value.ref a := rx
  exact d_setItem hu I3 g ry rv fun s4 I4 => ⟨σ, H4, I4, q3⟩
end


/-! ### displays -/
theorem dk_empty {P : Program} {w : World} {H : Hp} (h : Heap) (hb : sysModules < h.objs.size) : ObjOk P w H (h.push { cls := .type "dict", data := .dict #[] }) h.objs.size (.dK []) :=
  ⟨Nat.zero_le _, beq_eq_false_iff_ne.mpr (Ne.symm (Nat.ne_of_lt hb)), [], .nil, Heap.DictOf.new h⟩
theorem dt_empty {P : Program} {w : World} {H : Hp} (h : Heap) (hb : sysModules < h.objs.size) : ObjOk P w H (h.push { cls := .type "dict", data := .dict #[] }) h.objs.size (.dT []) :=
  ⟨Nat.zero_le _, beq_eq_false_iff_ne.mpr (Ne.symm (Nat.ne_of_lt hb)), [], .nil, _, #[], 0, Heap.get?_push_size _ rfl, ⟨rfl, rfl, rfl⟩, rfl, rfl, List.nodup_nil⟩
/-- {}, to be a dict of the kind that is wanted -/
def tDNewK : TE := fun _ H Q => ∀ p, H p = none → Q (.ref p) (upd H p (.dK []))
def tDNewT : TE := fun _ H Q => ∀ p, H p = none → Q (.ref p) (upd H p (.dT []))
section
variable {X : Cx} {pos : Pos}
theorem pe_dnewK : PE X (.Dict [] [] pos) tDNewK := .mk fun pins s σ H Q I h =>
  wpAny_Dict_empty ⟨.ref s.heap.objs.size, _, I.laid (a := s.heap.objs.size) (o := .dK []) (t' := s.toks) (fun _ _ q => Heap.get?_push_of_some _ q) (Nat.le_refl _) (dk_empty s.heap I.big), rfl, h _ (I.hok.fresh (Nat.le_refl _))⟩
theorem pe_dnewT : PE X (.Dict [] [] pos) tDNewT := .mk fun pins s σ H Q I h =>
  wpAny_Dict_empty ⟨.ref s.heap.objs.size, _, I.laid (a := s.heap.objs.size) (o := .dT []) (t' := s.toks) (fun _ _ q => Heap.get?_push_of_some _ q) (Nat.le_refl _) (dt_empty s.heap I.big), rfl, h _ (I.hok.fresh (Nat.le_refl _))⟩
end

/-- the pairs of a display, from the left -/
def tPairs : List (TE × TE) → St → Hp → (List (V × V) → Hp → Prop) → Prop
  | [], _, H, Q => Q [] H
  | (tk, tv) :: r, σ, H, Q => tk σ H fun x H1 => tv σ H1 fun y H2 => tPairs r σ H2 fun ps H3 => Q ((x, y) :: ps) H3
abbrev VV : List (V × V) → List (Value × Value) → Prop := Paired fun p q => RelV p.1 q.1 ∧ RelV p.2 q.2
def PPs (X : Cx) (pos : Pos) (keys : List (Option Expr)) (values : List Expr) (trs : List (TE × TE)) : Prop :=
  ∀ (pins : List (Addr × Obj)) (s : Shared) (σ : St) (H : Hp) (Q : List (V × V) → Hp → Prop), Inv X pins σ H s → tPairs trs σ H Q →
    wpAny (model X.prog X.w) X.A (evalPairs (pairTrees keys values X.env pos)) (fun vs s' => ∃ ps H', Inv X pins σ H' s' ∧ VV ps vs ∧ Q ps H') X.xe s
theorem pps_nil {X : Cx} {pos : Pos} : PPs X pos [] [] [] := fun pins s σ H Q I h => pairTrees_nil_walk ⟨[], H, I, .nil, h⟩
theorem pps_cons {X : Cx} {pos : Pos} {k v : Expr} {ks : List (Option Expr)} {vs : List Expr} {tk tv : TE} {trs : List (TE × TE)} (hk : PE X k tk) (hv : PE X v tv) (hr : PPs X pos ks vs trs) :
    PPs X pos (some k :: ks) (v :: vs) ((tk, tv) :: trs) := fun pins s σ H Q I h =>
  pairTrees_cons_walk (thn (hk pins s σ H _ I h) fun u s1 ⟨x, H1, I1, rx, q1⟩ => thn (hv pins s1 σ H1 _ I1 q1) fun w2 s2 ⟨y, H2, I2, ry, q2⟩ =>
    thn (hr pins s2 σ H2 _ I2 q2) fun ws s3 ⟨ps, H3, I3, rel, q3⟩ => ⟨(x, y) :: ps, H3, I3, .cons ⟨rx, ry⟩ rel, q3⟩)



/-! ### methods -/


section
variable {X : Cx} {pins : List (Addr × Obj)} {σ : St} {H : Hp} {s : Shared} {a : Addr} {y d : V} {u r : Value} {o : Option V} {A : Around} {E : Value → Shared → Prop}
end

section
variable {X : Cx} {o e f : Expr} {apos cpos : Pos} {td ty tx : TE}
end

/-! ### dict(d): a copy -/
section
variable {X : Cx} {pins : List (Addr × Obj)} {σ : St} {H : Hp} {s : Shared} {a : Addr} {kvs : List (Key × V)} {A : Around} {E : Value → Shared → Prop}
end


section
variable {X : Cx} {pins : List (Addr × Obj)} {σ : St} {H : Hp} {s : Shared} {a : Addr} {y : V} {u : Value} {A : Around} {E : Value → Shared → Prop}
end
end L2
set_option Elab.async false
set_option linter.all false
set_option maxRecDepth 100000
/-! displays of dicts whose keys are ints, texts and None, over the hand layer: flat dicts that are never written. -/
namespace L2
open PySem PySem.Spec PyProof.Rows
abbrev KeyN := Option Key
def keyNIs : KeyN → Value → Bool
  | none, .none => true
  | none, _ => false
  | some k, v => keyIs k v
theorem keyNIs_shape : ∀ {k : KeyN} {v : Value}, keyNIs k v = true → (k = none ∧ v = .none) ∨ ∃ j, k = some j ∧ keyIs j v = true
  | none, v, h => by cases v <;> first | exact .inl ⟨rfl, rfl⟩ | cases h
  | some j, v, h => .inr ⟨j, rfl, h⟩
theorem keyIs_none {j : Key} (h : keyIs j .none = true) : False := by
  rcases keyIs_shape h with ⟨_, _, _, e⟩ | ⟨_, _, _, e⟩ <;> cases e
theorem hash_none {prog : Program} {w : World} {A : Around} {E : Value → Shared → Prop} {s : Shared} {Q : Int → Shared → Prop} (h : Q 0xFCA86420 { s with toks := s.toks + 1 }) : wpAny (model prog w) A (pyHash .none) Q E s := by
  have hT : s.TypeIs .none "NoneType" := rfl
  unfold pyHash
  have hv : [Value.none].any Value.onHeap = false := rfl
  refine wpAny_bind ?_
  rw [cRoomFor, if_neg (by rw [hv]; exact Bool.false_ne_true)]; refine wpAny_pure ?_
  refine wpAny_bind (wpAny_specialOf hT F.slot_NoneType_hash.lookup ?_)
  show wpAny _ _ (if (some (Value.builtin "NoneType.__hash__") == some Value.none) = true then _ else _) Q E s
  rw [if_neg (by rw [beq_builtin_none]; exact Bool.false_ne_true)]
  refine wpAny_bind (wpAny_specialOf hT F.slot_NoneType_hash.lookup ?_)
  show wpAny _ _ (callSpecialIfBoundUnlessNone? .none "__hash__" _ >>= _) Q E s
  refine wpAny_bind (wpAny_callSpecialIfBoundUnlessNone?_slot hT F.slot_NoneType_hash
    (wpAny_call_entry F.slot_NoneType_hash hT F.entry_NoneType_hash
      (show wpAny _ _ (do ret (← mkInt 0xFCA86420)) _ _ s from wpAny_ret_mkInt ?_) (F.args_NoneType_hash_1 _)))
  show wpAny _ _ (if (decide (-(2 : Int) ^ 63 ≤ 0xFCA86420) && decide ((0xFCA86420 : Int) < 2 ^ 63)) = true then _ else _) Q E _
  rw [if_pos (by decide)]
  exact wpAny_pure h
def litKind (prog : Program) (w : World) : PySem.KeyKind prog w KeyN where
  is := keyNIs
  hash := fun k => match k with | none => 0xFCA86420 | some j => keyH w j
  inj := fun v a b ha hb => by
    rcases keyNIs_shape ha with ⟨rfl, rfl⟩ | ⟨i, rfl, ha'⟩
    · rcases keyNIs_shape hb with ⟨rfl, _⟩ | ⟨j, rfl, hb'⟩
      · rfl
      · exact (keyIs_none hb').elim
    · rcases keyNIs_shape hb with ⟨rfl, rfl⟩ | ⟨j, rfl, hb'⟩
      · exact (keyIs_none ha').elim
      · rw [(mixKind prog w).inj v i j ha' hb']
  byValue := fun k v h => by
    rcases keyNIs_shape h with ⟨rfl, rfl⟩ | ⟨i, rfl, h'⟩
    · rfl
    · exact (mixKind prog w).byValue i v h'
  pyHash := fun hv h => by
    rcases keyNIs_shape hv with ⟨rfl, rfl⟩ | ⟨i, rfl, h'⟩
    · exact hash_none h
    · exact (mixKind prog w).pyHash h' h
  eqBool := fun hu hv h => by
    rcases keyNIs_shape hu with ⟨rfl, rfl⟩ | ⟨i, rfl, hu'⟩
    · rcases keyNIs_shape hv with ⟨rfl, rfl⟩ | ⟨j, rfl, hv'⟩
      · exact SeqAt.EqAt.same _ _ _ _ _ h
      · rcases keyIs_shape hv' with ⟨k, t, rfl, rfl⟩ | ⟨x, t, rfl, rfl⟩
        · exact SeqAt.EqAt.none_int k t _ _ _ _ h
        · exact SeqAt.EqAt.none_str x t _ _ _ _ h
    · rcases keyNIs_shape hv with ⟨rfl, rfl⟩ | ⟨j, rfl, hv'⟩
      · rcases keyIs_shape hu' with ⟨k, t, rfl, rfl⟩ | ⟨x, t, rfl, rfl⟩
        · exact SeqAt.EqAt.int_none k t _ _ _ _ h
        · exact SeqAt.EqAt.str_none x t _ _ _ _ h
      · refine (mixKind prog w).eqBool hu' hv' ?_
        have e : decide ((some i : KeyN) = some j) = decide (i = j) := by by_cases z : i = j <;> simp [z]
        rw [e] at h
        exact h
  «strs» := fun k x t v h => by
    rcases keyNIs_shape h with ⟨rfl, e⟩ | ⟨i, rfl, h'⟩
    · cases e
    · exact (mixKind prog w).strs i x t v h'
def kVN : KeyN → V
  | none => .non
  | some k => kV k
def keyDN : KeyN → PyData
  | none => .none
  | some k => keyD k
theorem flat_keyN {P : Program} {w : World} {k : KeyN} {v : Value} (h : (litKind P w).is k v = true) : Flat v (keyDN k) := by
  rcases keyNIs_shape h with ⟨rfl, rfl⟩ | ⟨i, rfl, h'⟩
  · exact .none
  · exact flat_key (P := P) (w := w) h'
theorem kVN_is {P : Program} {w : World} {k : KeyN} {u : Value} (r : RelV (kVN k) u) : (litKind P w).is k u = true := by
  cases k with
  | none => cases (show u = Value.none from r); rfl
  | some j => exact kV_is (P := P) (w := w) r
def FlatN : List (KeyN × V) → List (PyData × PyData) → Prop := Paired fun e p => keyDN e.1 = p.1 ∧ flatD e.2 = some p.2
theorem flat_keysN {P : Program} {w : World} : ∀ {kvs : List (KeyN × V)} {ds : List (PyData × PyData)} {vs : List (KeyN × Value)} {es : List DictEntry}, FlatN kvs ds → KV kvs vs → Pairs (litKind P w) es vs →
    Paired Flat (es.map (·.key)) (ds.map (·.1)) ∧ Paired Flat (es.map (·.val)) (ds.map (·.2))
  | _, _, _, _, .nil, .nil, .nil => ⟨.nil, .nil⟩
  | _, _, _, _, .cons f fs, .cons r rs, .cons k v ps => by
    obtain ⟨a, b⟩ := flat_keysN fs rs ps
    refine ⟨.cons ?_ a, .cons ?_ b⟩
    · exact Eq.mp (congrArg (Flat _) ((congrArg keyDN r.1).symm.trans f.1)) (flat_keyN k)
    · exact Eq.mp (congrArg (fun z => Flat z _) v.symm) (flat_val f.2 r.2)
theorem carriesN {P : Program} {w : World} : ∀ {kvs : List (KeyN × V)} {ws : List (Value × Value)}, VV (kvs.map fun kv => (kVN kv.1, kv.2)) ws → ∃ rs, Carries (litKind P w) ws rs ∧ KV kvs rs
  | [], _, r => by rw [List.map_nil] at r; cases r; exact ⟨[], True.intro, .nil⟩
  | p :: kvs, _, r => by
    rw [List.map_cons] at r
    cases r with
    | @cons a b as bs h t =>
      obtain ⟨rs, c, q⟩ := carriesN (P := P) (w := w) t
      obtain ⟨b1, b2⟩ := b
      exact ⟨(p.1, b2) :: rs, ⟨kVN_is h.1, rfl, c⟩, .cons ⟨rfl, h.2⟩ q⟩
theorem KV.keysR {κ : Type} : ∀ {kvs : List (κ × V)} {rs : List (κ × Value)}, KV kvs rs → rs.map (·.1) = kvs.map (·.1)
  | _, _, .nil => rfl
  | _, _, .cons h t => by rw [List.map_cons, List.map_cons, KV.keysR t, h.1]
theorem merged_new {κ : Type} [DecidableEq κ] : ∀ (more kvs : List (κ × Value)), ((kvs ++ more).map (·.1)).Nodup → merged kvs more = kvs ++ more
  | [], kvs, _ => (List.append_nil kvs).symm
  | p :: r, kvs, h => by
    have e : stored kvs p.1 p.2 = kvs ++ [p] := by
      unfold stored
      rw [if_neg]
      intro z
      obtain ⟨q, hq, e⟩ := List.any_eq_true.mp z
      have e' : q.1 = p.1 := of_decide_eq_true e
      rw [List.map_append, List.map_cons] at h
      exact (List.nodup_append.mp h).2.2 _ (List.mem_map_of_mem (f := fun x : κ × Value => x.1) hq) _ List.mem_cons_self e'
    have h2 : ((kvs ++ [p] ++ r).map (·.1)).Nodup := by rw [List.append_assoc]; exact h
    have := merged_new r (kvs ++ [p]) h2
    show merged (stored kvs p.1 p.2) r = _
    rw [e, this, List.append_assoc]; rfl
/-- {k: v, ..} with keys ints, texts and None, no two alike, and values that are no objects -/
def tLit (trs : List (TE × TE)) : TE := fun σ H Q => ∀ p, H p = none → tPairs trs σ (upd H p (.dK [])) fun ps H2 => H2 p = some (.dK []) ∧ ∃ (kvs : List (KeyN × V)) (ds : List (PyData × PyData)), ps = kvs.map (fun kv => (kVN kv.1, kv.2)) ∧ (kvs.map (·.1)).Nodup ∧ FlatN kvs ds ∧ Q (.ref p) (upd H2 p (LitO p ds))
theorem pe_lit {X : Cx} {pos : Pos} {keys : List (Option Expr)} {values : List Expr} {trs : List (TE × TE)} (h : PPs X pos keys values trs) (hall : keys.all (·.isSome) = true) (hl : keys.length = values.length) (h0 : keys ≠ [])
    (h15 : keys.length ≤ 15) : PE X (.Dict keys values pos) (tLit trs) := by
  refine ⟨?_⟩
  intro pins s σ H Q I q
  have hn := I.hok.fresh (Nat.le_refl s.heap.objs.size)
  have I1 := I.laid (a := s.heap.objs.size) (o := .dK []) (h' := s.heap.push { cls := .type "dict", data := .dict #[] }) (t' := s.toks) (fun _ _ q => Heap.get?_push_of_some _ q) (Nat.le_refl _) (dk_empty s.heap I.big)
  refine wpAny_Dict_walk (knd := litKind X.prog X.w) hall hl h0 h15 (thn (h pins _ σ _ _ I1 (q _ hn)) fun ws s2 ⟨ps, H2, I2, rel, e, kvs, ds, ep, nd, fl, q2⟩ => ?_)
  subst ep
  obtain ⟨rs, c, rk⟩ := carriesN (P := X.prog) (w := X.w) rel
  obtain ⟨z, hd, vs0, r0, dd⟩ := dk_of I2.hok e
  cases r0
  have dd0 : s2.heap.DictOf (litKind X.prog X.w) s.heap.objs.size [] := by
    obtain ⟨o, es, ep, e1, e2, e3, _, e5, _⟩ := dd
    have ee : es.toList = [] := by cases hh : es.toList with
      | nil => rfl
      | cons y ys => rw [hh] at e5; cases e5
    refine ⟨o, es, ep, e1, e2, e3, fun y hy => ?_, by rw [ee]; exact .nil, List.nodup_nil⟩
    rw [← Array.mem_toList_iff, ee] at hy
    cases hy
  refine ⟨rs, c, dd0, fun h' dd' hs => ⟨.ref s.heap.objs.size, _, ?_, rfl, q2⟩⟩
  have em : merged [] rs = rs := merged_new rs [] (by rw [List.nil_append, KV.keysR rk]; exact nd)
  rw [em] at dd'
  have he : ∃ q, h'.get? s.heap.objs.size = some q := let ⟨q, _, _, hq, _⟩ := dd'; ⟨q, hq⟩
  obtain ⟨o, es, ep, e1, e2, e3, _, e5, _⟩ := dd'
  obtain ⟨k1, k2⟩ := flat_keysN fl rk e5
  exact d_write I2 (by rw [e]; exact True.intro) hs he (litO_ok ⟨hd, o, es, ep, e1, e2.1, e3, k1, k2⟩)
end L2
set_option Elab.async false
set_option linter.all false
set_option maxRecDepth 100000
/-! LIST COMPREHENSIONS whose target is several names (a, b = each pair). -/
namespace L2
open PySem PySem.Spec PyProof.Rows
def cxLN (X : Cx) (xs Ns : List Str) (scope : Scope) (C : Addr) (fp : List Addr) (s : Shared) (H : Hp) : Cx where
  prog := X.prog
  w := X.w
  K := X.K
  mg := X.mg
  base := X.base
  A := X.A
  N := xs ++ Ns
  s₀ := s
  H₀ := H
  env := compEnvC scope (clOf scope X.env.cells) C X.env
  outer := X.stack
  stack := X.stack
  ex := fp
  fn := fun _ => false
  calm := X.calm
  pn := []
  xe := fun _ _ => False
/-- xs: the block's names; Ns: the names around it, those that the block's names hide put otherwise -/
structure LnScope (X : Cx) (xs Ns : List Str) (sc : Scope) : Prop where
  kind : sc.kind = .function
  nocell : ∀ p ∈ sc.names, p.2 ≠ .cell
  loc : ∀ x ∈ xs, sc.names.lookup x = some .local
  names : ∀ p ∈ sc.names, p.2 = .local → sc.names.lookup p.1 = some .local
  apart : ∀ y ∈ Ns, sc.names.lookup y ≠ some .local
  sub : ∀ (i : Nat) (y : Str), Ns[i]? = some y → sc.names.lookup y = some .free → X.N[i]? = some y
  len : Ns.length = X.N.length
  all : (xs ++ Ns).Nodup
  free : ∀ p ∈ sc.names, p.2 = .free → X.env.kindOf p.1 = some .cell ∨ X.env.kindOf p.1 = some .free
section
variable {X : Cx} {pins : List (Addr × Obj)} {σ : St} {H : Hp} {s : Shared} {xs Ns : List Str} {sc : Scope} {C : Addr} {fp : List Addr}
theorem LnScope.cells (S : LnScope X xs Ns sc) (ok : X.Ok) : ∀ p ∈ sc.names, p.2 = .free → ∃ a, X.env.cells.lookup p.1 = some a := fun p hp e => ok.has p.1 (S.free p hp e)
theorem Inv.okLN (I : Inv X pins σ H s) (S : LnScope X xs Ns sc) (hC : s.heap.objs.size ≤ C) (hf : ∀ b ∈ fp, FpOk X pins H b) (hlt : ∀ b ∈ fp, b < s.heap.objs.size) : (cxLN X xs Ns sc C fp s H).Ok where
  mod := I.ok.mod
  kind := S.kind
  glob := I.ok.glob
  blt := I.ok.blt
  above := hC
  inj := fun y z c e1 e2 => I.ok.inj y z c (clOf_sub sc X.env.cells e1) (clOf_sub sc X.env.cells e2)
  has := fun y hy => by
    have hy' : (relabel sc X.env).names.lookup y = some .cell ∨ (relabel sc X.env).names.lookup y = some .free := hy
    have fr : sc.names.lookup y = some .free := by
      rcases hy' with h | h
      · obtain ⟨k', e, q⟩ := relabel_look h
        rcases q with q | ⟨q, _⟩
        · subst q; exact absurd rfl (S.nocell _ (PySem.mem_of_lookup e))
        · rw [e, q]
      · obtain ⟨k', e, q⟩ := relabel_look h
        rcases q with q | ⟨_, q⟩
        · rw [e, ← q]
        · cases q
    exact clOf_has sc X.env.cells (S.cells I.ok) (PySem.mem_of_lookup fr)
  cab := fun y c e => by cases (show false = true from e)
  hd := I.ok.hd
  frames := I.ok.frames
  stk := .inl rfl
  exf := fun b hb => ⟨Nat.ne_of_lt (Nat.lt_of_lt_of_le (hlt b hb) hC), fun y c e => (hf b hb).2.2.2.2.1 y c (clOf_sub sc X.env.cells e)⟩
  bs := I.bs
  bsz := Nat.le_trans I.ok.bsz I.sz
  noex := fun b o e hb => by
    rcases (hf b hb).2.2.2.1 with q | q
    · exact I.ok.noex b o e q
    · exact absurd (Nat.lt_of_lt_of_le (Heap.lt_size e) (Nat.le_trans I.ok.bsz q)) (Nat.lt_irrefl _)
  exfs := fun b hb z => by
    rcases List.mem_cons.mp (I.stkSub b z) with q | q
    · exact (hf b hb).2.1 q
    · exact (hf b hb).2.2.1 q
  funs := I.stack
  frf := I.stkFree
theorem Inv.endLN {s2 : Shared} {H2 : Hp} {st : St} {pl : List (Addr × Obj)} (I : Inv X pins σ H s) (J : Inv (cxLN X xs Ns sc C fp s H) pl st H2 s2) (hf : ∀ b ∈ fp, FpOk X pins H b) : Inv X pins σ H2 s2 :=
  I.call' (ch := fp) J.os J.base J.hok J.bare fun b hb => ⟨(hf b hb).2.2.2.1, (hf b hb).2.1, (hf b hb).2.2.2.2.1, (hf b hb).2.2.2.2.2⟩
end
section
variable {X : Cx} {xs Ns : List Str} {sc : Scope} {elt iter tg : Expr} {ifs : List Expr} {pos : Pos} {wi : TI} {g : TG} {tc : TT} {te : TE}
/-- the target a, b -/
theorem pg_pair {x y : Str} {p1 p2 p3 : Pos} {k : Nat} (hc : X.calm = true) (S : LnScope X [x, y] Ns sc) : ∀ C fp s0 H0, PG (cxLN X [x, y] Ns sc C fp s0 H0) (.Tuple [.Name x p1, .Name y p2] k p3) (gTup X.K 2 (gCons (gName 0) (gCons (gName 1) gNil))) := fun C fp s0 H0 => by
  have lx : (relabel sc X.env).names.lookup x = some .local := lookup_relabel_local (S.loc x (by simp))
  have ly : (relabel sc X.env).names.lookup y = some .local := lookup_relabel_local (S.loc y (by simp))
  exact pg_tup (X := cxLN X [x, y] Ns sc C fp s0 H0) hc (pgs_cons (pg_name (i := 0) S.all rfl (.inl lx) (.inr lx)) (pgs_cons (pg_name (i := 1) S.all rfl (.inl ly) (.inr ly)) pgs_nil))
end
theorem sub_of {N Ns : List Str} {sc : Scope} (h : (Ns.zip N).all (fun p => decide (p.1 = p.2) || !(sc.names.lookup p.1 == some NameKind.free)) = true) (hl : Ns.length = N.length) : ∀ (i : Nat) (y : Str), Ns[i]? = some y → sc.names.lookup y = some .free → N[i]? = some y := fun i y e f => by
  have hi : i < Ns.length := (List.getElem?_eq_some_iff.mp e).1
  have hN : N[i]? = some (N[i]'(by omega)) := List.getElem?_eq_getElem (by omega)
  have hm : (y, N[i]'(by omega)) ∈ Ns.zip N := by
    refine List.mem_of_getElem? (i := i) ?_
    rw [List.getElem?_zip_eq_some]
    exact ⟨e, hN⟩
  have := List.all_eq_true.mp h _ hm
  dsimp only at this
  rw [f] at this
  have z : y = N[i]'(by omega) := by simpa using this
  rw [hN, ← z]
theorem lnS {X : Cx} {xs : List Str} (Ns : List Str) {sc scp : Scope} {N ps : List Str} (S : FnScope N ps scp) (hN : X.N = N := by rfl) (hs : X.env.scope = scp := by rfl) (h1 : sc.kind = .function := by rfl) (h2 : ∀ p ∈ sc.names, p.2 ≠ .cell := by decide +kernel) (h3 : ∀ x ∈ xs, sc.names.lookup x = some .local := by decide +kernel)
    (h4 : ∀ p ∈ sc.names, p.2 = .local → sc.names.lookup p.1 = some .local := by decide +kernel) (h5 : ∀ y ∈ Ns, sc.names.lookup y ≠ some .local := by decide +kernel) (h6 : (Ns.zip N).all (fun p => decide (p.1 = p.2) || !(sc.names.lookup p.1 == some NameKind.free)) = true := by decide +kernel) (hl : Ns.length = N.length := by rfl) (hall : (xs ++ Ns).Nodup := by decide +kernel)
    (h7 : ∀ p ∈ sc.names, p.2 = .free → scp.names.lookup p.1 = some .cell ∨ scp.names.lookup p.1 = some .free := by decide +kernel) : LnScope X xs Ns sc :=
  ⟨h1, h2, h3, h4, h5, by rw [hN]; exact sub_of h6 hl, by rw [hN]; exact hl, hall, fun p hp e => by
    show X.env.scope.names.lookup p.1 = _ ∨ X.env.scope.names.lookup p.1 = _
    rw [hs]
    exact h7 p hp e⟩
end L2
set_option Elab.async false
set_option linter.all false
set_option maxRecDepth 100000
/-! the table of a set: its places rise -/
namespace Ss
open PySem
def Rise (xs : Array Nat) : Prop := xs.toList.Pairwise (· < ·)
theorem Rise.lt {xs : Array Nat} (R : Rise xs) {i k : Nat} (h : i < k) (hk : k < xs.size) : xs.getD i 0 < xs.getD k 0 := by
  have hl : k < xs.toList.length := by rw [Array.length_toList]; exact hk
  have := List.pairwise_iff_getElem.mp R i k (by omega) hl h
  simpa [Array.getD, hk, Nat.lt_trans h hk] using this
theorem go_ok {xs : Array Nat} (R : Rise xs) (j : Nat) : ∀ (f lo hi : Nat), hi - lo ≤ f → lo ≤ hi → hi ≤ xs.size → (∀ i, i < lo → xs.getD i 0 < j) → (∀ i, hi ≤ i → i < xs.size → j ≤ xs.getD i 0) →
    SetTable.below.go xs j f lo hi ≤ xs.size ∧ (∀ i, i < SetTable.below.go xs j f lo hi → xs.getD i 0 < j) ∧ (∀ i, SetTable.below.go xs j f lo hi ≤ i → i < xs.size → j ≤ xs.getD i 0)
  | 0, lo, hi, h1, h2, h3, h4, h5 => by
    have e : lo = hi := by omega
    subst e
    exact ⟨h3, h4, h5⟩
  | f + 1, lo, hi, h1, h2, h3, h4, h5 => by
    unfold SetTable.below.go
    split
    · rename_i hlt
      dsimp only
      have hm : (lo + hi) / 2 < xs.size := by omega
      have e : xs.getD ((lo + hi) / 2) j = xs.getD ((lo + hi) / 2) 0 := by simp [Array.getD, hm]
      rw [e]
      by_cases hl : xs.getD ((lo + hi) / 2) 0 < j
      · rw [if_pos hl]
        refine go_ok R j f ((lo + hi) / 2 + 1) hi (by omega) (by omega) h3 (fun i hi' => ?_) h5
        rcases Nat.lt_or_ge i ((lo + hi) / 2) with z | z
        · exact Nat.lt_trans (R.lt z hm) hl
        · rw [show i = (lo + hi) / 2 by omega]; exact hl
      · rw [if_neg hl]
        refine go_ok R j f lo ((lo + hi) / 2) (by omega) (by omega) (by omega) h4 (fun i h6 h7 => ?_)
        rcases Nat.lt_or_ge ((lo + hi) / 2) i with z | z
        · have := R.lt z h7; omega
        · rw [show i = (lo + hi) / 2 by omega]; omega
    · have e : lo = hi := by omega
      subst e
      exact ⟨h3, h4, h5⟩
theorem below_ok {xs : Array Nat} (R : Rise xs) (j : Nat) : SetTable.below xs j ≤ xs.size ∧ (∀ i, i < SetTable.below xs j → xs.getD i 0 < j) ∧ (∀ i, SetTable.below xs j ≤ i → i < xs.size → j ≤ xs.getD i 0) :=
  go_ok R j xs.size 0 xs.size (by omega) (by omega) (Nat.le_refl _) (fun i h => by omega) (fun i h1 h2 => by omega)
theorem getD_at {xs : Array Nat} {i : Nat} (h : i < xs.size) : xs[i]? = some (xs.getD i 0) := by simp [Array.getD, h]
theorem rise_insert {xs : Array Nat} (R : Rise xs) {j : Nat} (hn : xs[SetTable.below xs j]? ≠ some j) : Rise (SetTable.insertAt xs (SetTable.below xs j) j) := by
  obtain ⟨b1, b2, b3⟩ := below_ok R j
  generalize SetTable.below xs j = p at *
  unfold Rise
  rw [SetTable.toList_insertAt]
  have gl : ∀ i (h : i < xs.toList.length), xs.toList[i] = xs.getD i 0 := fun i h => by
    have h' : i < xs.size := by rw [Array.length_toList] at h; exact h
    simp [Array.getD, h']
  have hd : ∀ b ∈ xs.toList.drop p, j < b := fun b hb => by
    obtain ⟨i, hi, rfl⟩ := List.getElem_of_mem hb
    rw [List.length_drop, Array.length_toList] at hi
    rw [List.getElem_drop, gl]
    have h1 := b3 (p + i) (by omega) (by omega)
    rcases Nat.lt_or_ge j (xs.getD (p + i) 0) with z | z
    · exact z
    · exfalso
      have e : xs.getD (p + i) 0 = j := by omega
      rcases Nat.eq_zero_or_pos i with z0 | z0
      · subst z0
        exact hn (by rw [getD_at (by omega)]; exact congrArg some e)
      · have := R.lt (i := p) (k := p + i) (by omega) (by omega)
        have := b3 p (Nat.le_refl _) (by omega)
        omega
  rw [List.pairwise_append]
  refine ⟨R.sublist (List.take_sublist _ _), List.pairwise_cons.mpr ⟨hd, R.sublist (List.drop_sublist _ _)⟩, fun a ha b hb => ?_⟩
  obtain ⟨i, hi, rfl⟩ := List.getElem_of_mem ha
  rw [List.length_take, Array.length_toList] at hi
  rw [List.getElem_take, gl]
  have h1 := b2 i (by omega)
  rcases List.mem_cons.mp hb with e | e
  · rw [e]; exact h1
  · exact Nat.lt_trans h1 (hd b e)
structure G (t : SetTable) : Prop where
  r : Rise t.place
  d : t.dummies = #[]
theorem G.slot {t : SetTable} (g : G t) (j : Nat) : t.slot j ≠ .dummy := by
  unfold SetTable.slot
  dsimp only
  rw [g.d]
  have e : SetTable.has #[] j = false := rfl
  rw [e]
  split
  · intro z; cases z
  · simp
theorem slot_empty {t : SetTable} {j : Nat} (h : t.slot j = .empty) : t.place[SetTable.below t.place j]? ≠ some j := by
  unfold SetTable.slot at h
  dsimp only at h
  intro z
  rw [z] at h
  simp at h
theorem probe_ok {t : SetTable} (g : G t) (ha : Nat → Int) (h : Int) : ∀ (f : Nat) (p : SetTable.Probe) (j : Nat) (d : Option Nat), SetTable.probe.go t ha h f p = some (.empty j d) → t.slot j = .empty ∧ d = p.dummy
  | 0, p, j, d, e => by simp [SetTable.probe.go] at e
  | f + 1, p, j, d, e => by
    unfold SetTable.probe.go at e
    cases hs : t.slot p.j with
    | empty =>
      rw [hs] at e
      simp at e
      obtain ⟨rfl, rfl⟩ := e
      exact ⟨hs, rfl⟩
    | dummy => exact absurd hs (g.slot _)
    | live i =>
      rw [hs] at e
      dsimp only at e
      split at e
      · cases e
      · have ih := probe_ok g ha h f _ j d e
        refine ⟨ih.1, ih.2.trans ?_⟩
        unfold SetTable.advance
        split <;> rfl
theorem freeSlot_ok {t : SetTable} (g : G t) {h : Int} {sl : Nat} {wd : Bool} (e : t.freeSlot h = some (sl, wd)) : t.slot sl = .empty := by
  unfold SetTable.freeSlot at e
  split at e
  · rename_i j dummy hp
    have := probe_ok g _ h _ _ j dummy hp
    have hd : dummy = none := this.2
    subst hd
    simp at e
    rw [← e.1]
    exact this.1
  · cases e
theorem standIn_G (t : SetTable) (n : Nat) : G (t.standIn n) := ⟨by
  show (Array.range n).toList.Pairwise (· < ·)
  rw [Array.toList_range]
  exact List.pairwise_lt_range, rfl⟩
theorem put_G {t : SetTable} (g : G t) {j : Nat} (h : t.slot j = .empty) : G (t.put j).1 := ⟨rise_insert g.r (slot_empty h), by
  show (if SetTable.has t.dummies j then SetTable.eraseAt t.dummies (SetTable.below t.dummies j) else t.dummies) = #[]
  rw [g.d]
  have e : SetTable.has #[] j = false := rfl
  rw [e]
  rfl⟩
theorem layNew_G {t : SetTable} (g : G t) (es : Array (Int × Value)) (h : Int) (x : Value) : G (layNew t es h x).2.1 ∧ (layNew t es h x).2.1.led = t.led := by
  unfold layNew
  split
  · rename_i sl wd e
    have g' := put_G g (freeSlot_ok g e)
    dsimp only
    unfold SetTable.orStandIn
    split
    · exact ⟨g', rfl⟩
    · exact ⟨standIn_G _ _, rfl⟩
  · exact ⟨standIn_G _ _, rfl⟩
theorem live_sub (f : Nat → Option Nat) : ∀ l : List Nat, ((l.filterMap fun j => (f j).map fun k => (j, k)).map (·.1)).Sublist l
  | [] => List.Sublist.slnil
  | a :: l => by
    rw [List.filterMap_cons]
    cases e : f a with
    | none => exact (live_sub f l).cons _
    | some k => exact (live_sub f l).cons_cons _
theorem relayAll_G {t : SetTable} (es : Array (Int × Value)) (n : Nat) : G (relayAll t es n).2.1 ∧ (relayAll t es n).2.1.led = t.led := by
  unfold relayAll
  split
  · rename_i t' order e
    dsimp only
    split
    · unfold SetTable.relaid SetTable.laid at e
      cases ho : SetTable.layClean (SetTable.sizeAbove n - 1) (es.map (·.1)) with
      | none => rw [ho] at e; cases e
      | some owner =>
        rw [ho] at e
        simp only [Option.bind_eq_bind, Option.bind_some, Option.pure_def, Option.some.injEq, Prod.mk.injEq] at e
        obtain ⟨rfl, _⟩ := e
        refine ⟨⟨?_, rfl⟩, rfl⟩
        show (List.toArray _).toList.Pairwise (· < ·)
        exact List.pairwise_lt_range.sublist (live_sub (fun j => owner.getD j none) _)
    · exact ⟨standIn_G _ _, rfl⟩
  · exact ⟨standIn_G _ _, rfl⟩
end Ss
set_option Elab.async false
set_option linter.all false
set_option maxRecDepth 100000
/-! a set: made, added to -/
namespace Ss
open PySem
abbrev byText (w : World) : Bool := w.params.followText "set-order"
/-- the set at a holds es, in the order of its table -/
def SetG (w : World) (h : Heap) (a : Addr) (es : Array (Int × Value)) : Prop :=
  ∃ ep t, h.get? a = some { cls := .type "set", dict := none, data := .set es ep t } ∧ t.fits es.size = true ∧ G t ∧ (byText w = true ∨ t.led = true)
theorem SetG.at {w : World} {h h' : Heap} {a : Addr} {es : Array (Int × Value)} (x : SetG w h a es) (k : ∀ o, h.get? a = some o → h'.get? a = some o) : SetG w h' a es := by
  obtain ⟨ep, t, ho, r⟩ := x
  exact ⟨ep, t, k _ ho, r⟩
theorem SetG.lt {w : World} {h : Heap} {a : Addr} {es : Array (Int × Value)} (x : SetG w h a es) : a < h.objs.size := by
  obtain ⟨ep, t, ho, r⟩ := x
  exact Heap.lt_size ho
section
variable {prog : Program} {w : World} {K : Type} [DecidableEq K] {knd : KeyKind prog w K} {A : Around} {E : Value → Shared → Prop} {s : Shared} {a : Addr} {es : Array (Int × Value)}
theorem SetG.type (x : SetG w s.heap a es) : s.TypeIs (.ref a) "set" := by
  obtain ⟨ep, t, ho, r⟩ := x
  exact ⟨_, ho, rfl⟩
theorem gave {b : Bool} {Q : Unit → Shared → Prop} (h : Q () s) : wpAny (model prog w) A (match b with | true => rule "set.scan.the-table-gave-way" | false => pure ()) Q E s := by
  cases b
  · exact wpAny_pure h
  · exact wpAny_rule h
/-- es with the key k, if it isn't there -/
def Added (knd : KeyKind prog w K) (k : K) (key : Value) (es es' : Array (Int × Value)) : Prop :=
  ((∃ e ∈ es.toList, knd.is k e.2 = true) ∧ es' = es) ∨ ((∀ e ∈ es.toList, knd.is k e.2 = false) ∧ es'.toList.Perm (es.toList ++ [(knd.hash k, key)]))
theorem store {ep : Nat} {t : SetTable} {es' : Array (Int × Value)} {t' : SetTable} {Q : Unit → Shared → Prop} (ho : s.heap.get? a = some { cls := .type "set", dict := none, data := .set es ep t }) (hz : es'.size ≤ sizeLine)
    (h : ∀ h', Heap.SameBut a s.heap h' → h'.get? a = some { cls := .type "set", dict := none, data := .set es' (ep + 1) t' } → Q () { s with heap := h' }) : wpAny (model prog w) A (storeSet a es' t') Q E s := by
  refine wpAny_storeSet_of ho rfl (h _ (Heap.SameBut.update _ _ _) ?_) hz
  have := Heap.get?_update_self (Obj.putSet es' t') ho (by rw [putSet_of es' t' rfl]; rfl)
  rwa [putSet_of es' t' rfl] at this
theorem addH {k : K} {x : Value} {Q : Bool → Shared → Prop} (hk : knd.is k x = true) (hx : x.scannable = true) (hS : SetG w s.heap a es) (hel : ElemsOf knd es.toList) (hb : es.size + 1 < scanBound)
    (h : ∀ b h' es', Heap.SameBut a s.heap h' → SetG w h' a es' → Added knd k x es es' → Q b { s with heap := h' }) : wpAny (model prog w) A (setAddHashed a x (knd.hash k)) Q E s := by
  obtain ⟨ep, t, ho, hf, g, hl⟩ := hS
  unfold setAddHashed setAddHashedIn
  refine wpAny_holding (wpAny_bind (wpAny_setState_of ho rfl hf ?_))
  dsimp only
  rw [byScan_of hx (by omega) hel, if_pos rfl]
  unfold setAddByScan
  refine wpAny_bind (wpAny_bind (wpAny_rule (wpAny_bind (wpAny_setScan_of hk ho rfl hf hel ?_))))
  cases hr : List.findIdx? (fun e => knd.is k e.2) es.toList with
  | some j =>
    obtain ⟨hj, hpj, _⟩ := List.findIdx?_eq_some_iff_getElem.mp hr
    exact wpAny_pure (wpAny_pure (h false s.heap es (Heap.SameBut.refl _ _) ⟨ep, t, ho, hf, g, hl⟩ (.inl ⟨⟨_, List.getElem_mem hj, hpj⟩, rfl⟩)))
  | none =>
    have hno : ∀ e ∈ es.toList, knd.is k e.2 = false := List.findIdx?_eq_none_iff.mp hr
    dsimp only
    have p1 := layNew_perm t es (knd.hash k) x
    have f1 := layNew_fits t es (knd.hash k) x
    have g1 := layNew_G g es (knd.hash k) x
    generalize layNew t es (knd.hash k) x = L at p1 f1 g1 ⊢
    obtain ⟨es1, t1, wd, gv⟩ := L
    dsimp only at p1 f1 g1 ⊢
    rw [Array.toList_push] at p1
    have z1 : es1.size = es.size + 1 := by have := p1.length_eq; simpa using this
    refine wpAny_bind (gave ?_)
    have tail : ∀ t2 : SetTable, t2.fits es1.size = true → G t2 → t2.led = t.led → wpAny (model prog w) A (do
        storeSet a es1 t2
        if (!wd && t2.tooFull) = true then do
            (match (relayAll t2 es1 (SetTable.grown es1.size)).2.2 with | true => rule "set.scan.the-table-gave-way" | false => pure ())
            storeSet a (relayAll t2 es1 (SetTable.grown es1.size)).1 (relayAll t2 es1 (SetTable.grown es1.size)).2.1
            pure (some true)
          else pure (some true)) (fun r s' => r = some true ∧ ∃ h' es', s' = { s with heap := h' } ∧ Heap.SameBut a s.heap h' ∧ SetG w h' a es' ∧ Added knd k x es es') E s := by
      intro t2 f2 g2 l2
      refine wpAny_bind (store ho (fits_of_scanBound (by omega)) fun h1 b1 o1 => ?_)
      split
      · have p2 := relayAll_perm t2 es1 (SetTable.grown es1.size)
        have f3 := relayAll_fits t2 es1 (SetTable.grown es1.size)
        have g3 := relayAll_G (t := t2) es1 (SetTable.grown es1.size)
        generalize relayAll t2 es1 (SetTable.grown es1.size) = M at p2 f3 g3 ⊢
        obtain ⟨es2, t3, gv2⟩ := M
        dsimp only at p2 f3 g3 ⊢
        have z2 : es2.size = es1.size := by have := p2.length_eq; simpa using this
        refine wpAny_bind (gave (wpAny_bind (store (s := { s with heap := h1 }) o1 (fits_of_scanBound (by omega)) fun h2 b2 o2 => ?_)))
        exact wpAny_pure ⟨rfl, h2, es2, rfl, b1.trans b2, ⟨_, t3, o2, f3, g3.1, by rw [g3.2, l2]; exact hl⟩, .inr ⟨hno, p2.trans p1⟩⟩
      · exact wpAny_pure ⟨rfl, h1, es1, rfl, b1, ⟨_, t2, o1, f2, g2, by rw [l2]; exact hl⟩, .inr ⟨hno, p1⟩⟩
    have fin : ∀ (r : Option Bool) (s' : Shared), (r = some true ∧ ∃ h' es', s' = { s with heap := h' } ∧ Heap.SameBut a s.heap h' ∧ SetG w h' a es' ∧ Added knd k x es es') →
        wpAny (model prog w) A (match r with | some added => pure added | none => setAddHashedIn a x (knd.hash k) 99999) Q E s' := by
      rintro r s' ⟨rfl, h', es', rfl, b, S, ad⟩
      exact wpAny_pure (h true h' es' b S ad)
    split
    · refine wpAny_bind ?_
      rw [hashByValue_scannable 8 hx]
      refine wpAny_pure (wpAny_mono (tail _ ?_ ?_ ?_) (fun r s' z => fin r s' z) fun _ _ e => e)
      · split
        · exact f1
        · exact SetTable.fits_plain_off f1
      · split
        · exact g1.1
        · exact ⟨g1.1.r, g1.1.d⟩
      · split <;> exact g1.2
    · refine wpAny_bind (wpAny_pure ?_)
      rw [if_pos rfl]
      exact wpAny_mono (tail _ f1 g1.1 g1.2) (fun r s' z => fin r s' z) fun _ _ e => e
theorem add {k : K} {x : Value} {Q : Value → Shared → Prop} (hk : knd.is k x = true) (hx : x.scannable = true) (hS : SetG w s.heap a es) (hel : ElemsOf knd es.toList) (hb : es.size + 1 < scanBound)
    (h : ∀ h' es', Heap.SameBut a s.heap h' → SetG w h' a es' → Added knd k x es es' → Q .none { s with heap := h', toks := s.toks + 1 }) : wpAny (model prog w) A (call (.builtin "set.add") [.ref a, x]) Q E s := by
  refine wpAny_call_entry F.slot_set_add hS.type F.entry_set_add ?_ (F.args_set_add_2 _ _)
  unfold Builtin.«set.add» Builtin.Frozenset.oneOther
  simp only [List.isEmpty_nil, bind_assoc]
  unfold Builtin.Frozenset.addrOf setAdd
  refine wpAny_bind (wpAny_pure (wpAny_bind (wpAny_pure (wpAny_bind (wpAny_holding (wpAny_bind (knd.pyHash hk ?_)))))))
  exact addH (s := { s with toks := s.toks + 1 }) hk hx hS hel hb fun b h' es' sb S' ad => wpAny_pure ⟨_, rfl, h h' es' sb S' ad⟩
theorem new {Q : Value → Shared → Prop} (h : ∀ o : Obj, SetG w (s.heap.push o) s.heap.objs.size #[] → Q (.ref s.heap.objs.size) { s with heap := s.heap.push o }) : wpAny (model prog w) A (newSet (.type "set")) Q E s := by
  unfold newSet setsByText
  refine wpAny_bind (wpAny_bind (wpAny_askSetting (wpAny_pure ?_)))
  dsimp only
  simp only [newObj]
  refine wpAny_bind (wpAny_alloc (wpAny_pure (h _ ⟨0, _, Heap.get?_push_size _ rfl, rfl, ⟨List.Pairwise.nil, rfl⟩, ?_⟩)))
  show byText w = true ∨ (!(byText w)) = true
  cases byText w
  · exact .inr rfl
  · exact .inl rfl
end
end Ss
set_option Elab.async false
set_option linter.all false
set_option maxRecDepth 100000
/-! a set walked through: in some order -/
namespace Ss
open PySem
theorem nx_ex : ∃ (dr : Array (Int × Value) → SetTable → Bool) (ml : Array (Int × Value) → SetTable → Sem Unit), (∀ es t, ml es t = (do if !t.led && !es.isEmpty then unsupported "set:maker-not-led")) ∧ (∀ a, setDrawn a = (do
    let (es, _, t) ← setState a
    let b ← setsByText
    return !b && dr es t)) ∧ (∀ a sl gv e0, setNext a sl gv e0 = (do
    let (es, ep, t) ← setState a
    if ← setsByText then
      if ep != e0 then unsupported "set_iterator.__next__:elements-changed"
      return ((← setWalk a)[gv]?).map fun e => (e.2, sl)
    if dr es t then unsupported "set_iterator.__next__:the-table-is-plain-no-more"
    ml es t
    let i := SetTable.below t.place sl
    return match es[i]?, t.place[i]? with
      | some (_, x), some j => some (x, j + 1)
      | _, _ => none)) := ⟨_, _, fun _ _ => rfl, fun _ => rfl, fun _ _ _ _ => rfl⟩
theorem erase_perm {α : Type} : ∀ {l : List α} {i : Nat} (h : i < l.length), (l[i] :: l.eraseIdx i).Perm l
  | a :: l, 0, h => List.Perm.refl _
  | a :: l, i + 1, h => by
    have ih := erase_perm (l := l) (i := i) (by simpa using h)
    simp only [List.getElem_cons_succ, List.eraseIdx_cons_succ]
    exact (List.Perm.swap _ _ _).trans (ih.cons _)
theorem pick_go {α : Type} (nx : Nat → Nat) : ∀ (f k : Nat) (l : List α) (out : Array α), f = l.length → (pickOrder.go nx f k l out).toList.Perm (out.toList ++ l)
  | 0, k, l, out, h => by
    have e : l = [] := List.eq_nil_of_length_eq_zero h.symm
    subst e
    simp [pickOrder.go]
  | f + 1, k, l, out, h => by
    have hl : nx k % l.length < l.length := Nat.mod_lt _ (by omega)
    unfold pickOrder.go
    rw [List.getElem?_eq_getElem hl]
    dsimp only
    have ih := pick_go nx f (k + 1) (l.eraseIdx (nx k % l.length)) (out.push l[nx k % l.length]) (by rw [List.length_eraseIdx]; rw [if_pos hl]; omega)
    refine ih.trans ?_
    rw [Array.toList_push, List.append_assoc]
    exact (erase_perm hl).append_left _
theorem pick_perm {α : Type} (nx : Nat → Nat) (xs : Array α) : (pickOrder nx xs).toList.Perm xs.toList := by
  have := pick_go nx xs.size 0 xs.toList #[] (by simp)
  unfold pickOrder
  simpa using this
section
variable {prog : Program} {w : World} {A : Around} {E : Value → Shared → Prop} {s : Shared}
theorem choose_ok {src : Source} {n : Nat} {Q : Nat → Shared → Prop} (hn : n ≠ 0) (h : ∀ k d, k < n → Q k { s with drawn := d }) : wpAny (model prog w) A (choose src n) Q E s := fun Γ p hΓ => by
  show Sem.wp _ _ (.choose src n .pure) _ _ _ _
  rw [Sem.wp_choose]
  exact ⟨hn, h _ _ (Nat.mod_lt _ (Nat.pos_of_ne_zero hn))⟩
theorem draw_ok {α : Type} : ∀ (n : Nat) (xs : List α) (s : Shared) (Q : List α → Shared → Prop), n = xs.length → (∀ ys d, ys.Perm xs → Q ys { s with drawn := d }) → wpAny (model prog w) A (drawOrder n xs) Q E s
  | 0, xs, s, Q, hn, h => by
    have e : xs = [] := List.eq_nil_of_length_eq_zero hn.symm
    subst e
    exact wpAny_pure (h [] s.drawn (List.Perm.refl _))
  | n + 1, [], s, Q, hn, h => by cases hn
  | n + 1, x :: xs, s, Q, hn, h => by
    unfold drawOrder
    refine wpAny_bind (choose_ok (by simp) fun i d hi => ?_)
    rw [List.getElem?_eq_getElem hi]
    dsimp only
    refine wpAny_bind (draw_ok n _ _ _ (by rw [List.length_eraseIdx, if_pos hi]; simp at hn ⊢; omega) fun ys d' hp => wpAny_pure (h _ d' ?_))
    exact (hp.cons _).trans (erase_perm hi)
end
end Ss
set_option Elab.async false
set_option linter.all false
set_option maxRecDepth 100000
namespace Ss
open PySem PyProof.Rows
namespace SF
theorem owner : Manifest.owners.lookup (String.ofList ['r', 'o', 't', 'a', 'r', 'e', 't', 'i', '_', 't', 'e', 's'].reverse) = some Manifest.sig_set_iterator := by kernel_rfl
theorem next : Slot "set_iterator" "__next__" "set_iterator.__next__" :=
  .of (owner := "set_iterator") (n := "__next__") (by rw [typeLookup_type, builtinLookup_eq_fast]; kernel_rfl) (by decide +kernel) (by decide +kernel) (by decide +kernel)
    (by first | exact .inl (by decide +kernel) | exact .inr (by decide +kernel)) (by rw [isSubtype_type]; kernel_rfl)
theorem entry_next : entryFor table "set_iterator.__next__" = some Builtin.«set_iterator.__next__» := entryFor_of_tree (by kernel_rfl)
theorem args_next (a : Value) : argsOk "set_iterator.__next__" ⟨[a], []⟩ := by
  unfold argsOk; rw [signature?_of (id := "set_iterator.__next__") (n := ['_', '_', 't', 'x', 'e', 'n', '_', '_']) (o := ['r', 'o', 't', 'a', 'r', 'e', 't', 'i', '_', 't', 'e', 's']) (by kernel_rfl) owner]; kernel_rfl
theorem iter : Slot "set_iterator" "__iter__" "set_iterator.__iter__" :=
  .of (owner := "set_iterator") (n := "__iter__") (by rw [typeLookup_type, builtinLookup_eq_fast]; kernel_rfl) (by decide +kernel) (by decide +kernel) (by decide +kernel)
    (by first | exact .inl (by decide +kernel) | exact .inr (by decide +kernel)) (by rw [isSubtype_type]; kernel_rfl)
theorem args_iter (a : Value) : argsOk "set_iterator.__iter__" ⟨[a], []⟩ := by
  unfold argsOk; rw [signature?_of (id := "set_iterator.__iter__") (n := ['_', '_', 'r', 'e', 't', 'i', '_', '_']) (o := ['r', 'o', 't', 'a', 'r', 'e', 't', 'i', '_', 't', 'e', 's']) (by kernel_rfl) owner]; kernel_rfl
theorem entry_iter : entryFor table "set_iterator.__iter__" = some Builtin.«dict_keyiterator.__iter__» :=
  entryFor_alias (id' := "dict_keyiterator.__iter__") (by kernel_rfl) (by first | rfl | decide +kernel | (unfold String.splitOn; simp +decide [String.splitOnAux])) (by decide +kernel) (by kernel_rfl)
theorem entry_set : entryFor table "set.__iter__" = some Builtin.«frozenset.__iter__» :=
  entryFor_alias (id' := "frozenset.__iter__") (by kernel_rfl) rfl (by decide +kernel) (by kernel_rfl)
end SF
end Ss
set_option Elab.async false
set_option linter.all false
set_option maxRecDepth 100000
namespace Ss
open PySem PyProof.Rows
/-- the iterator's record -/
abbrev Rc (fst : Value) (i : Nat) (a : Addr) (n ep : Nat) : Obj := { cls := .type "set_iterator", dict := none, data := .fields #[fst, rawInt i, .ref a, rawInt n, rawInt ep] }
abbrev So (es : Array (Int × Value)) (ep : Nat) (t : SetTable) : Obj := { cls := .type "set", dict := none, data := .set es ep t }
section
variable {prog : Program} {w : World} {A : Around} {E : Value → Shared → Prop} {s : Shared} {it a : Addr} {es : Array (Int × Value)} {ep : Nat} {t : SetTable}
theorem self_ok {fst : Value} {i n : Nat} {Q : Value → Shared → Prop} (hit : s.heap.get? it = some (Rc fst i a n ep)) (h : Q (.ref it) s) : wpAny (model prog w) A (pyIter (.ref it)) Q E s := by
  have hT : s.TypeIs (.ref it) "set_iterator" := ⟨_, hit, rfl⟩
  refine wpAny_pyIter_slot hT SF.iter (wpAny_call_entry SF.iter hT SF.entry_iter ?_ (SF.args_iter _))
  show wpAny _ _ (ret (.ref it)) _ _ s
  exact wpAny_pure ⟨_, rfl, "set_iterator", _, hT, SF.next.lookup, h⟩
theorem next_item {sl i nx : Nat} {x : Value} {Q : Option Value → Shared → Prop} (hit : s.heap.get? it = some (Rc (rawInt sl) i a es.size ep)) (hs : s.heap.get? a = some (So es ep t)) (hf : t.fits es.size = true)
    (hsn : ∀ (A' : Around) (E' : Value → Shared → Prop) (Q' : Option (Value × Nat) → Shared → Prop), Q' (some (x, nx)) s → wpAny (model prog w) A' (setNext a sl i ep) Q' E' s)
    (hQ : ∀ h', h'.get? it = some (Rc (rawInt nx) (i + 1) a es.size ep) → Heap.SameBut it s.heap h' → Q (some x) { s with heap := h' }) : wpAny (model prog w) A (pyNext (.ref it)) Q E s := by
  have hT : s.TypeIs (.ref it) "set_iterator" := ⟨_, hit, rfl⟩
  unfold pyNext
  refine wpAny_bind (wpAny_attempt (wpAny_callSpecial?_slot (name := Str.ofString "__next__") hT SF.next (wpAny_call_entry SF.next hT SF.entry_next ?_ (SF.args_next _))))
  unfold Builtin.«set_iterator.__next__»
  refine wpAny_bind (wpAny_of_eq (a := (Value.ref it, [])) rfl ?_)
  refine wpAny_bind (wpAny_fieldsOf hit rfl ?_)
  dsimp only [rawInt]
  refine wpAny_bind (wpAny_setEntries_of hs rfl hf ?_)
  rw [if_neg (by simp)]
  refine wpAny_bind ?_
  simp only [Int.toNat_natCast]
  refine hsn _ _ _ ?_
  dsimp only
  refine wpAny_bind (wpAny_setField_rec hit (by simp) fun h1 o1 b1 => ?_)
  refine wpAny_bind (wpAny_setField_rec (s := { s with heap := h1 }) o1 (by simp) fun h2 o2 b2 => ?_)
  exact wpAny_pure ⟨x, rfl, wpAny_pure (hQ h2 (by simpa [Rc, rawInt] using o2) (b1.trans b2))⟩
theorem next_end {sl i : Nat} {Q : Option Value → Shared → Prop} (hh : A.handled = none) (hit : s.heap.get? it = some (Rc (rawInt sl) i a es.size ep)) (hs : s.heap.get? a = some (So es ep t)) (hf : t.fits es.size = true)
    (hsn : ∀ (A' : Around) (E' : Value → Shared → Prop) (Q' : Option (Value × Nat) → Shared → Prop), Q' none s → wpAny (model prog w) A' (setNext a sl i ep) Q' E' s)
    (hQ : ∀ h', Heap.ExtBut it s.heap h' → Q none { s with heap := h' }) : wpAny (model prog w) A (pyNext (.ref it)) Q E s := by
  have hT : s.TypeIs (.ref it) "set_iterator" := ⟨_, hit, rfl⟩
  unfold pyNext
  refine wpAny_bind (wpAny_attempt (wpAny_callSpecial?_slot (name := Str.ofString "__next__") hT SF.next (wpAny_call_entry SF.next hT SF.entry_next ?_ (SF.args_next _))))
  unfold Builtin.«set_iterator.__next__»
  refine wpAny_bind (wpAny_of_eq (a := (Value.ref it, [])) rfl ?_)
  refine wpAny_bind (wpAny_fieldsOf hit rfl ?_)
  dsimp only [rawInt]
  refine wpAny_bind (wpAny_setEntries_of hs rfl hf ?_)
  rw [if_neg (by simp)]
  refine wpAny_bind ?_
  simp only [Int.toNat_natCast]
  refine hsn _ _ _ ?_
  dsimp only
  refine wpAny_bind (wpAny_setField_rec hit (by simp) fun h1 o1 b1 => ?_)
  refine wpAny_bind ?_
  simp only [newExc, newTuple]
  refine wpAny_bind (wpAny_newObj_type ?_ (by size_fits))
  refine wpAny_bind (m := firstArgMember _ _) (wpAny_of_eq (a := Value.none) (by first | rfl | (simp only [firstArgMember]; rfl)) ?_)
  refine wpAny_newObj_type ?_ (by size_fits)
  simp only [raiseNew]
  refine wpAny_bind (wpAny_handled ?_)
  first | rw [show A.in1.handled = none from hh] | rw [hh]
  refine wpAny_bind (wpAny_pure (wpAny_throw ?_))
  refine wpAny_bind (wpAny_isInstance (T := "StopIteration") (b := true) ⟨_, Heap.get?_push_size _ rfl, rfl⟩ isSubtype_stop ?_)
  refine wpAny_pure (hQ _ ?_)
  exact Heap.ExtBut.push (Heap.ExtBut.push (fun b o hb e => (b1.2 b hb).trans e) _) _
end
end Ss
set_option Elab.async false
set_option linter.all false
set_option maxRecDepth 100000
namespace Ss
open PySem PyProof.Rows
noncomputable def dr : Array (Int × Value) → SetTable → Bool := nx_ex.choose
theorem dr_ex : ∃ (ml : Array (Int × Value) → SetTable → Sem Unit), (∀ es t, ml es t = (do if !t.led && !es.isEmpty then unsupported "set:maker-not-led")) ∧ (∀ a, setDrawn a = (do
    let (es, _, t) ← setState a
    let b ← setsByText
    return !b && dr es t)) ∧ (∀ a sl gv e0, setNext a sl gv e0 = (do
    let (es, ep, t) ← setState a
    if ← setsByText then
      if ep != e0 then unsupported "set_iterator.__next__:elements-changed"
      return ((← setWalk a)[gv]?).map fun e => (e.2, sl)
    if dr es t then unsupported "set_iterator.__next__:the-table-is-plain-no-more"
    ml es t
    let i := SetTable.below t.place sl
    return match es[i]?, t.place[i]? with
      | some (_, x), some j => some (x, j + 1)
      | _, _ => none)) := nx_ex.choose_spec
/-- where the table is entered behind i of its things -/
def slotAt (t : SetTable) (i : Nat) : Nat := if i = 0 then 0 else t.place.getD (i - 1) 0 + 1
theorem below_slot {t : SetTable} (R : Rise t.place) {i : Nat} (hi : i ≤ t.place.size) : SetTable.below t.place (slotAt t i) = i := by
  obtain ⟨b1, b2, b3⟩ := below_ok R (slotAt t i)
  generalize SetTable.below t.place (slotAt t i) = p at *
  unfold slotAt at b2 b3
  by_cases h0 : i = 0
  · subst h0
    rcases Nat.eq_zero_or_pos p with z | z
    · exact z
    · have := b2 0 z; simp at this
  · simp only [h0, if_false] at b2 b3
    rcases Nat.lt_trichotomy p i with z | z | z
    · have h1 := b3 p (Nat.le_refl _) (by omega)
      rcases Nat.lt_or_ge p (i - 1) with y | y
      · have := R.lt y (by omega); omega
      · rw [show p = i - 1 by omega] at h1; omega
    · exact z
    · have h1 := b2 i z
      have := R.lt (i := i - 1) (k := i) (by omega) (by omega)
      omega
section
variable {prog : Program} {w : World} {A : Around} {E : Value → Shared → Prop} {s : Shared} {it a : Addr} {es : Array (Int × Value)} {ep : Nat} {t : SetTable}
theorem byText_ok {Q : Bool → Shared → Prop} (h : Q (byText w) s) : wpAny (model prog w) A setsByText Q E s := wpAny_bind (wpAny_askSetting (wpAny_pure h))
/-- the table's own order -/
theorem nextC {i : Nat} {gv : Nat} (hb : byText w = false) (hd : dr es t = false) (hs : s.heap.get? a = some (So es ep t)) (hf : t.fits es.size = true) (g : G t) (hl : t.led = true) (hi : i ≤ es.size) {Q : Option (Value × Nat) → Shared → Prop}
    (h : Q ((es[i]?).map fun e => (e.2, slotAt t (i + 1))) s) : wpAny (model prog w) A (setNext a (slotAt t i) gv ep) Q E s := by
  have hz : t.place.size = es.size := by simp [SetTable.fits] at hf; exact hf.1
  obtain ⟨ml, h1, h2, h3⟩ := dr_ex
  rw [h3]
  refine wpAny_bind (wpAny_setState_of hs rfl hf (wpAny_bind (byText_ok ?_)))
  rw [hb, hd, h1, hl]
  simp only [Bool.false_eq_true, if_false, Bool.not_true, Bool.false_and]
  refine wpAny_bind (wpAny_pure ?_)
  rw [below_slot g.r (by omega)]
  refine wpAny_pure ?_
  have e : (match es[i]?, t.place[i]? with | some (_, x), some j => some (x, j + 1) | _, _ => none) = (es[i]?).map fun e => (e.2, slotAt t (i + 1)) := by
    rcases Nat.lt_or_ge i es.size with z | z
    · rw [getElem?_pos es i z, getD_at (by omega)]
      simp [slotAt]
    · rw [Array.getElem?_eq_none z]
      rfl
  rw [e]
  exact h
/-- another order, that the world has -/
theorem nextA {i : Nat} (hb : byText w = true) (hs : s.heap.get? a = some (So es ep t)) (hf : t.fits es.size = true) {Q : Option (Value × Nat) → Shared → Prop}
    (h : Q (((pickOrder (w.params.setOrder a ep) es)[i]?).map fun e => (e.2, 0)) s) : wpAny (model prog w) A (setNext a 0 i ep) Q E s := by
  obtain ⟨ml, h1, h2, h3⟩ := dr_ex
  rw [h3]
  refine wpAny_bind (wpAny_setState_of hs rfl hf (wpAny_bind (byText_ok ?_)))
  rw [hb]
  simp only [bne_self_eq_false, Bool.false_eq_true, if_false, if_true]
  unfold setWalk
  refine wpAny_bind (wpAny_bind (wpAny_setState_of hs rfl hf (wpAny_bind (byText_ok ?_))))
  rw [hb]
  simp only [if_true]
  exact wpAny_bind (wpAny_askSetting (wpAny_pure (wpAny_pure h)))
theorem walkI {us : List Value} {fst : Nat → Nat} (hne : a ≠ it) (hl : us.length = es.size) (hf : t.fits es.size = true)
    (hn : ∀ (i : Nat) (s : Shared) (A' : Around) (E' : Value → Shared → Prop) (Q' : Option (Value × Nat) → Shared → Prop), i ≤ es.size → s.heap.get? a = some (So es ep t) → Q' ((us[i]?).map fun x => (x, fst (i + 1))) s → wpAny (model prog w) A' (setNext a (fst i) i ep) Q' E' s) (hh : A.handled = none) :
    Walks prog w A it [it, a] [it] us.length (fun i v => us[i]? = some v) (fun i h => h.get? it = some (Rc (rawInt (fst i)) i a es.size ep) ∧ h.get? a = some (So es ep t)) where
  sub := fun b hb => by simp at hb; simp [hb]
  frame := fun i h h' st k => ⟨k it (by simp) _ st.1, k a (by simp) _ st.2⟩
  item := fun i s Q E hi st hQ => by
    refine next_item (x := us[i]) (nx := fst (i + 1)) st.1 st.2 hf (fun A' E' Q' q => hn i s A' E' Q' (by omega) st.2 (by rw [List.getElem?_eq_getElem hi]; exact q)) fun h' o b => ?_
    exact hQ _ h' s.toks (List.getElem?_eq_getElem hi) ⟨o, (b.2 a hne).trans st.2⟩ fun c o' hc e => (b.2 c (by simpa using hc)).trans e
  done := fun s Q E st hQ => by
    refine next_end hh st.1 st.2 hf (fun A' E' Q' q => hn _ s A' E' Q' (by omega) st.2 (by rw [List.getElem?_eq_none (Nat.le_refl _)]; exact q)) fun h' b => ?_
    exact hQ h' s.toks fun c o' hc e => b c o' (by simpa using hc) e
  self := fun i s Q E st h => self_ok st.1 h
/-- a drawn order -/
theorem nextB {tp : Addr} {pl : List Nat} {i p : Nat} {x : Int × Value} {Q : Option Value → Shared → Prop} (hit : s.heap.get? it = some (Rc (.ref tp) i a es.size ep)) (hs : s.heap.get? a = some (So es ep t)) (hf : t.fits es.size = true)
    (ht : s.heap.get? tp = some (seqObj "tuple" (pl.map fun i : Nat => rawInt i).toArray 0)) (hp : pl[i]? = some p) (hx : es[p]? = some x)
    (hQ : ∀ h', h'.get? it = some (Rc (.ref tp) (i + 1) a es.size ep) → Heap.SameBut it s.heap h' → Q (some x.2) { s with heap := h' }) : wpAny (model prog w) A (pyNext (.ref it)) Q E s := by
  have hT : s.TypeIs (.ref it) "set_iterator" := ⟨_, hit, rfl⟩
  unfold pyNext
  refine wpAny_bind (wpAny_attempt (wpAny_callSpecial?_slot (name := Str.ofString "__next__") hT SF.next (wpAny_call_entry SF.next hT SF.entry_next ?_ (SF.args_next _))))
  unfold Builtin.«set_iterator.__next__»
  refine wpAny_bind (wpAny_of_eq (a := (Value.ref it, [])) rfl (wpAny_bind (wpAny_fieldsOf hit rfl ?_)))
  dsimp only [rawInt]
  refine wpAny_bind (wpAny_setEntries_of hs rfl hf ?_)
  rw [if_neg (by simp)]
  refine wpAny_bind (wpAny_seqItems ht rfl ?_)
  simp only [Int.toNat_natCast]
  have e : (pl.map fun i : Nat => rawInt i).toArray[i]? = some (.int (p : Int) 0) := by rw [List.getElem?_toArray, List.getElem?_map, hp]; rfl
  rw [e]
  dsimp only
  unfold setNextDrawn
  refine wpAny_bind (wpAny_bind (wpAny_setState_of hs rfl hf ?_))
  simp only [Int.toNat_natCast, bne_self_eq_false, Bool.false_eq_true, if_false]
  rw [hx]
  refine wpAny_pure (wpAny_bind (wpAny_setField_rec hit (by simp) fun h1 o1 b1 => ?_))
  exact wpAny_pure ⟨x.2, rfl, wpAny_pure (hQ h1 (by simpa [Rc, rawInt] using o1) b1)⟩
theorem endB {tp : Addr} {pl : List Nat} {i : Nat} {Q : Option Value → Shared → Prop} (hh : A.handled = none) (hit : s.heap.get? it = some (Rc (.ref tp) i a es.size ep)) (hs : s.heap.get? a = some (So es ep t)) (hf : t.fits es.size = true)
    (ht : s.heap.get? tp = some (seqObj "tuple" (pl.map fun i : Nat => rawInt i).toArray 0)) (hp : pl.length ≤ i) (hQ : ∀ h', Heap.ExtBut it s.heap h' → Q none { s with heap := h' }) : wpAny (model prog w) A (pyNext (.ref it)) Q E s := by
  have hT : s.TypeIs (.ref it) "set_iterator" := ⟨_, hit, rfl⟩
  unfold pyNext
  refine wpAny_bind (wpAny_attempt (wpAny_callSpecial?_slot (name := Str.ofString "__next__") hT SF.next (wpAny_call_entry SF.next hT SF.entry_next ?_ (SF.args_next _))))
  unfold Builtin.«set_iterator.__next__»
  refine wpAny_bind (wpAny_of_eq (a := (Value.ref it, [])) rfl (wpAny_bind (wpAny_fieldsOf hit rfl ?_)))
  dsimp only [rawInt]
  refine wpAny_bind (wpAny_setEntries_of hs rfl hf ?_)
  rw [if_neg (by simp)]
  refine wpAny_bind (wpAny_seqItems ht rfl ?_)
  simp only [Int.toNat_natCast]
  have e : (pl.map fun i : Nat => rawInt i).toArray[i]? = none := by rw [List.getElem?_toArray, List.getElem?_map, List.getElem?_eq_none hp]; rfl
  rw [e]
  dsimp only
  refine wpAny_bind (wpAny_setField_rec hit (by simp) fun h1 o1 b1 => ?_)
  refine wpAny_bind (wpAny_setField_rec (s := { s with heap := h1 }) o1 (by simp) fun h2 o2 b2 => ?_)
  refine wpAny_bind ?_
  simp only [newExc, newTuple]
  refine wpAny_bind (wpAny_newObj_type ?_ (by size_fits))
  refine wpAny_bind (m := firstArgMember _ _) (wpAny_of_eq (a := Value.none) (by first | rfl | (simp only [firstArgMember]; rfl)) ?_)
  refine wpAny_newObj_type ?_ (by size_fits)
  simp only [raiseNew]
  refine wpAny_bind (wpAny_handled ?_)
  first | rw [show A.in1.handled = none from hh] | rw [hh]
  refine wpAny_bind (wpAny_pure (wpAny_throw ?_))
  refine wpAny_bind (wpAny_isInstance (T := "StopIteration") (b := true) ⟨_, Heap.get?_push_size _ rfl, rfl⟩ isSubtype_stop ?_)
  refine wpAny_pure (hQ _ ?_)
  exact Heap.ExtBut.push (Heap.ExtBut.push (fun b o hb e => ((b1.trans b2).2 b hb).trans e) _) _
theorem walkB {tp : Addr} {pl : List Nat} (hne : a ≠ it) (hnt : tp ≠ it) (hp : pl.Perm (List.range es.size)) (hf : t.fits es.size = true) (hh : A.handled = none) :
    Walks prog w A it [it, a, tp] [it] pl.length (fun i v => (pl.map fun p => (es.getD p (0, .none)).2)[i]? = some v) (fun i h => h.get? it = some (Rc (.ref tp) i a es.size ep) ∧ h.get? a = some (So es ep t) ∧ h.get? tp = some (seqObj "tuple" (pl.map fun i : Nat => rawInt i).toArray 0)) where
  sub := fun b hb => by simp at hb; simp [hb]
  frame := fun i h h' st k => ⟨k it (by simp) _ st.1, k a (by simp) _ st.2.1, k tp (by simp) _ st.2.2⟩
  item := fun i s Q E hi st hQ => by
    have hm : pl[i] < es.size := List.mem_range.mp (hp.mem_iff.mp (List.getElem_mem hi))
    refine nextB (x := es[pl[i]]) st.1 st.2.1 hf st.2.2 (List.getElem?_eq_getElem hi) (getElem?_pos es _ hm) fun h' o b => ?_
    refine hQ _ h' s.toks ?_ ⟨o, (b.2 a hne).trans st.2.1, (b.2 tp hnt).trans st.2.2⟩ fun c o' hc e => (b.2 c (by simpa using hc)).trans e
    rw [List.getElem?_map, List.getElem?_eq_getElem hi]
    simp [Array.getD, hm]
  done := fun s Q E st hQ => endB hh st.1 st.2.1 hf st.2.2 (Nat.le_refl _) fun h' b => hQ h' s.toks fun c o' hc e => b c o' (by simpa using hc) e
  self := fun i s Q E st h => self_ok st.1 h
end
end Ss
set_option Elab.async false
set_option linter.all false
set_option maxRecDepth 100000
namespace Ss
open PySem PyProof.Rows
section
variable {prog : Program} {w : World} {A : Around} {E : Value → Shared → Prop} {s : Shared} {a : Addr} {es : Array (Int × Value)}
/-- iter(a set): some order of its things -/
theorem iter_set {Q : Value → Shared → Prop} (hS : SetG w s.heap a es) (hz : es.size ≤ 4096)
    (h : ∀ (it : Addr) (h1 : Heap) d (us : List Value) (fp : List Addr) (St : Nat → Heap → Prop), s.heap.objs.size ≤ it → (∀ b o, s.heap.get? b = some o → h1.get? b = some o) → us.Perm (es.toList.map (·.2)) → (∀ b ∈ fp, b = a ∨ s.heap.objs.size ≤ b) →
      (∀ A' : Around, A'.handled = none → Walks prog w A' it fp [it] us.length (fun i v => us[i]? = some v) St) → St 0 h1 → Q (.ref it) { s with heap := h1, drawn := d }) : wpAny (model prog w) A (pyIter (.ref a)) Q E s := by
  have hT := hS.type
  have hlt := hS.lt
  obtain ⟨ep, t, ho, hf, g, hl⟩ := hS
  obtain ⟨ml, h1, h2, h3⟩ := dr_ex
  refine wpAny_pyIter_slot hT F.slot_set_iter (wpAny_call_entry F.slot_set_iter hT SF.entry_set ?_ (F.args_set_iter_1 _))
  unfold Builtin.«frozenset.__iter__» Builtin.Frozenset.slot0
  refine wpAny_bind (wpAny_bind (wpAny_of_eq (a := (Value.ref a, [])) rfl ?_))
  unfold Builtin.Frozenset.addrOf Builtin.Frozenset.sizeOf
  refine wpAny_pure (wpAny_bind (wpAny_bind (wpAny_setEntries_of ho rfl hf (wpAny_pure ?_))))
  rw [h2]
  refine wpAny_bind (wpAny_bind (wpAny_setState_of ho rfl hf (wpAny_bind (byText_ok (wpAny_pure ?_)))))
  have last : ∀ (us : List Value) (fst : Nat → Nat), fst 0 = 0 → us.Perm (es.toList.map (·.2)) →
      (∀ (i : Nat) (s : Shared) (A' : Around) (E' : Value → Shared → Prop) (Q' : Option (Value × Nat) → Shared → Prop), i ≤ es.size → s.heap.get? a = some (So es ep t) → Q' ((us[i]?).map fun x => (x, fst (i + 1))) s → wpAny (model prog w) A' (setNext a (fst i) i ep) Q' E' s) →
      Q (.ref s.heap.objs.size) { s with heap := s.heap.push (Rc (rawInt 0) 0 a es.size ep) } := fun us fst h0 hp hn => by
    have hul : us.length = es.size := by have := hp.length_eq; simpa using this
    refine h s.heap.objs.size _ s.drawn us [s.heap.objs.size, a] _ (Nat.le_refl _) (fun b o e => Heap.get?_push_of_some _ e) hp (fun b hb => ?_) (fun A' hh' => walkI (t := t) (ep := ep) (fst := fst) (Nat.ne_of_lt hlt) hul hf hn hh') ⟨?_, Heap.get?_push_of_some _ ho⟩
    · simp at hb
      rcases hb with e | e
      · exact .inr (by rw [e]; exact Nat.le_refl _)
      · exact .inl e
    · rw [h0]; exact Heap.get?_push_size _ rfl
  by_cases hb : byText w = true
  · rw [hb]
    simp only [Bool.not_true, Bool.false_and, Bool.false_eq_true, if_false]
    refine wpAny_bind (wpAny_pure (wpAny_bind (wpAny_setEpoch_of ho rfl hf (wpAny_bind ?_))))
    unfold newFields
    refine wpAny_newObj_type (wpAny_pure ⟨_, rfl, "set_iterator", _, ⟨_, Heap.get?_push_size _ rfl, rfl⟩, SF.next.lookup, ?_⟩)
    refine last ((pickOrder (w.params.setOrder a ep) es).toList.map (·.2)) (fun _ => 0) rfl ((pick_perm _ _).map _) fun i s' A' E' Q' hi hs q => nextA hb hs hf ?_
    have e : (((pickOrder (w.params.setOrder a ep) es).toList.map (·.2))[i]?).map (fun x => (x, 0)) = ((pickOrder (w.params.setOrder a ep) es)[i]?).map fun e => (e.2, 0) := by
      rw [List.getElem?_map, Array.getElem?_toList]
      cases (pickOrder (w.params.setOrder a ep) es)[i]? <;> rfl
    rw [← e]
    exact q
  · have hb' : byText w = false := by simpa using hb
    have hled : t.led = true := hl.resolve_left hb
    rw [hb']
    by_cases hd : dr es t = true
    · rw [hd]
      simp only [Bool.not_false, Bool.true_and, if_true]
      refine wpAny_bind (draw_ok es.size (List.range es.size) s _ (by simp) fun pl d hp => ?_)
      have hpl : pl.length = es.size := by have := hp.length_eq; simpa using this
      refine wpAny_bind (wpAny_newTuple ?_ (by rw [List.length_map, hpl, sizeLine_eq]; omega))
      have ho2 : (s.heap.push (seqObj "tuple" (pl.map fun i : Nat => rawInt i).toArray 0)).get? a = some (So es ep t) := Heap.get?_push_of_some _ ho
      refine wpAny_bind (wpAny_setEpoch_of (s := { s with heap := s.heap.push (seqObj "tuple" (pl.map fun i : Nat => rawInt i).toArray 0), drawn := d }) ho2 rfl hf (wpAny_bind ?_))
      unfold newFields
      refine wpAny_newObj_type (wpAny_pure ⟨_, rfl, "set_iterator", _, ⟨_, Heap.get?_push_size _ rfl, rfl⟩, SF.next.lookup, ?_⟩)
      have z1 : (s.heap.push (seqObj "tuple" (pl.map fun i : Nat => rawInt i).toArray 0)).objs.size = s.heap.objs.size + 1 := size_push' _ _
      have up : (pl.map fun p => (es.getD p (0, .none)).2).Perm (es.toList.map (·.2)) := by
        have e : es.toList.map (·.2) = (List.range es.size).map fun p => (es.getD p (0, .none)).2 := by
          refine List.ext_getElem (by simp) fun i h1 h2 => ?_
          have hi : i < es.size := by simpa using h1
          simp [Array.getD, hi]
        rw [e]
        exact hp.map _
      refine h _ _ d (pl.map fun p => (es.getD p (0, .none)).2) [s.heap.objs.size + 1, a, s.heap.objs.size] (fun i h => h.get? (s.heap.objs.size + 1) = some (Rc (.ref s.heap.objs.size) i a es.size ep) ∧ h.get? a = some (So es ep t) ∧ h.get? s.heap.objs.size = some (seqObj "tuple" (pl.map fun i : Nat => rawInt i).toArray 0)) (by rw [z1]; exact Nat.le_succ _) (fun b o e => Heap.get?_push_of_some _ (Heap.get?_push_of_some _ e)) up (fun b hb => ?_) (fun A' hh' => ?_) ?_
      · simp at hb
        rcases hb with e | e | e
        · exact .inr (by rw [e]; exact Nat.le_succ _)
        · exact .inl e
        · exact .inr (by rw [e]; exact Nat.le_refl _)
      · have W := walkB (prog := prog) (w := w) (it := s.heap.objs.size + 1) (t := t) (ep := ep) (tp := s.heap.objs.size) (Nat.ne_of_lt (Nat.lt_succ_of_lt hlt)) (Nat.ne_of_lt (Nat.lt_succ_self _)) hp hf hh'
        rw [List.length_map, z1]
        exact W
      · refine ⟨?_, Heap.get?_push_of_some _ ho2, Heap.get?_push_of_some _ (Heap.get?_push_size _ rfl)⟩
        rw [← z1]
        exact Heap.get?_push_size _ rfl
    · have hd' : dr es t = false := by simpa using hd
      rw [hd']
      simp only [Bool.and_false, Bool.false_eq_true, if_false]
      refine wpAny_bind (wpAny_pure (wpAny_bind (wpAny_setEpoch_of ho rfl hf (wpAny_bind ?_))))
      unfold newFields
      refine wpAny_newObj_type (wpAny_pure ⟨_, rfl, "set_iterator", _, ⟨_, Heap.get?_push_size _ rfl, rfl⟩, SF.next.lookup, ?_⟩)
      refine last (es.toList.map (·.2)) (slotAt t) rfl (List.Perm.refl _) fun i s' A' E' Q' hi hs q => nextC hb' hd' hs hf g hled hi ?_
      have e : ((es.toList.map (·.2))[i]?).map (fun x => (x, slotAt t (i + 1))) = (es[i]?).map fun e => (e.2, slotAt t (i + 1)) := by
        rw [List.getElem?_map, Array.getElem?_toList]
        cases es[i]? <;> rfl
      rw [← e]
      exact q
theorem hint_set {Q : Bool → Shared → Prop} (hT : s.TypeIs (.ref a) "set") (h : Q false s) : wpAny (model prog w) A (Builtin.List.listLengthHint (.ref a)) Q E s := by
  unfold Builtin.List.listLengthHint
  refine wpAny_bind (wpAny_specialOf hT PySem.F.slot_set_len.lookup ?_)
  generalize hid : ("set.__len__" : String) = id0
  wp_delta
  rw [show splitId id0 = some ("set", "__len__") from by subst hid; decide +kernel]
  subst hid
  refine wpAny_bind (wpAny_isInstance (T := "set") (b := true) hT (by rw [isSubtype_type]; kernel_rfl) ?_)
  refine wpAny_ite_split (fun hab => absurd hab (by decide)) (fun _ => ?_)
  refine wpAny_ite_split (fun _ => ?_) (fun hab => absurd (by decide +kernel) hab)
  exact wpAny_bind (wpAny_typeOf hT (wpAny_pure h))
/-- the list of a set's things -/
theorem collect_set {R : List Value → Shared → Prop} (hh : A.handled = none) (hS : SetG w s.heap a es) (hz : es.size ≤ 4096)
    (h : ∀ (h' : Heap) tk d (vs : List Value), (∀ b o, s.heap.get? b = some o → h'.get? b = some o) → vs.Perm (es.toList.map (·.2)) → R vs { s with heap := h', toks := tk, drawn := d }) : wpAny (model prog w) A (collect (.ref a)) R E s := by
  have hlt := hS.lt
  unfold collect
  refine wpAny_bind (wpAny_runValue (codeAny_builtin entry_proto_collect' ?_))
  rw [Around.under_plainId PySem.F.plain_proto_collect _]
  show wpAny _ A.in1 (newList [] >>= fun l => again (.builtin "list.__iadd__" ⟨[l, .ref a], []⟩)) _ _ s
  refine wpAny_bind (wpAny_newObj_type (wpAny_pure ⟨plainId_quiet PySem.F.plain_list_iadd _, codeAny_builtin entry_list_iadd' ?_⟩))
  rw [Around.under_plainId PySem.F.plain_list_iadd _]
  show wpAny _ A.in1 (Builtin.List.listExtendWith (.ref s.heap.objs.size) (.ref a) (.ref s.heap.objs.size)) _ _ _
  have oL : (s.heap.push { cls := .type "list", data := .seq ([] : List Value).toArray }).get? s.heap.objs.size = some { cls := .type "list", data := .seq #[] } := Heap.get?_push_size _ rfl
  have hS1 : SetG w (s.heap.push { cls := .type "list", data := .seq ([] : List Value).toArray }) a es := hS.at fun o e => Heap.get?_push_of_some _ e
  have z1 : (s.heap.push { cls := .type "list", data := .seq ([] : List Value).toArray }).objs.size = s.heap.objs.size + 1 := size_push' _ _
  generalize hg : s.heap.push { cls := .type "list", data := .seq ([] : List Value).toArray } = G1 at *
  have keep1 : ∀ b o, s.heap.get? b = some o → G1.get? b = some o := fun b o e => by rw [← hg]; exact Heap.get?_push_of_some _ e
  unfold Builtin.List.listExtendWith
  have hT1 := SetG.type (s := { s with heap := G1 }) hS1
  refine wpAny_bind (wpAny_typeOf (T := "set") hT1 ?_)
  have e1 : Builtin.List.listSameRef (.ref s.heap.objs.size) (.ref a) = false := by simp [Builtin.List.listSameRef]; exact Nat.ne_of_gt hlt
  have e2 : (Value.type "set" == Value.type "list") = false := by decide
  have e3 : (Value.type "set" == Value.type "tuple") = false := by decide
  simp only [e1, e2, e3, Bool.or_false, Bool.false_eq_true, if_false]
  refine wpAny_bind (iter_set (s := { s with heap := G1 }) hS1 hz fun it h1 d us fp St hit hk hp hfp hW hst => ?_)
  have hS2 : SetG w h1 a es := hS1.at fun o e => hk a o e
  have oL1 := hk _ _ oL
  have hul : us.length ≤ 4096 := by have := hp.length_eq; simp at this; omega
  have hSf : s.heap.objs.size ∉ fp := fun hm => by
    rcases hfp _ hm with z | z
    · exact absurd z (Nat.ne_of_gt hlt)
    · have : G1.objs.size ≤ s.heap.objs.size := z
      omega
  have loop : ∀ (h2 : Heap) (c tk : Nat), St 0 h2 → (∀ b o, b ≠ s.heap.objs.size → G1.get? b = some o → h2.get? b = some o) → h2.get? s.heap.objs.size = some { cls := .type "list", data := .seq #[] c } →
      codeAny (model prog w) A (.builtin "list.extend.loop" ⟨[.ref s.heap.objs.size, .ref it, .ref s.heap.objs.size], []⟩) (fun r s' => ∃ (h' : Heap) (tk : Nat) (acc : Array Value) (c' : Nat), r = .ok (.ret (.ref s.heap.objs.size)) ∧ s' = { s with heap := h', toks := tk, drawn := d } ∧
        (∀ b o, s.heap.get? b = some o → h'.get? b = some o) ∧ h'.get? s.heap.objs.size = some { cls := .type "list", dict := none, data := .seq acc c', slots := #[] } ∧ acc.toList.Perm (es.toList.map (·.2))) { s with heap := h2, toks := tk, drawn := d } := by
    intro h2 c tk st2 k2 o2
    refine codeAny_extend_loopS (hW A.in1 hh).toS (by rw [sizeLine_eq]; omega) s.heap.objs.size hSf (.ref s.heap.objs.size) us.length 0 _ #[] c rfl (Nat.zero_le _) st2 o2 (ItemsOf.nil _) fun s' acc c' hm oS hacc => ?_
    have eq : s' = { s with heap := s'.heap, toks := s'.toks, drawn := d } := Moved.eq_with hm
    refine ⟨s'.heap, s'.toks, acc, c', rfl, eq, fun b o e => hm.heap b o (fun hmem => ?_) (k2 b o (Nat.ne_of_lt (Heap.lt_size e)) (keep1 b o e)), oS, ?_⟩
    · have hb := Heap.lt_size e
      rcases List.mem_cons.mp hmem with z | z
      · exact absurd z (Nat.ne_of_lt hb)
      · have z' : b = it := by simpa using z
        have h2 : s.heap.objs.size ≤ it := Nat.le_trans (by show s.heap.objs.size ≤ G1.objs.size; rw [z1]; exact Nat.le_succ _) hit
        exact absurd hb (by rw [z']; exact Nat.not_lt.mpr h2)
    · have ea : acc.toList = us := by
        refine List.ext_getElem? fun j => ?_
        rcases Nat.lt_or_ge j acc.size with y | y
        · have q := hacc.2 j acc[j] (getElem?_pos acc j y)
          rw [q, Array.getElem?_toList, getElem?_pos acc j y]
        · rw [List.getElem?_eq_none (by simpa using y), List.getElem?_eq_none (by have := hacc.1; omega)]
      rw [ea]
      exact hp
  have fin : ∀ (r : Result) (s' : Shared), (∃ (h' : Heap) (tk : Nat) (acc : Array Value) (c' : Nat), r = .ok (.ret (.ref s.heap.objs.size)) ∧ s' = { s with heap := h', toks := tk, drawn := d } ∧
        (∀ b o, s.heap.get? b = some o → h'.get? b = some o) ∧ h'.get? s.heap.objs.size = some { cls := .type "list", dict := none, data := .seq acc c', slots := #[] } ∧ acc.toList.Perm (es.toList.map (·.2))) → ∃ v, r = .ok (.ret v) ∧ wpAny (model prog w) A (match v with
      | .ref b => (do let o ← load b; match o.data with | .seq xs _ => pure xs.toList | _ => unsupported "internal:collect")
      | _ => unsupported "internal:collect") R E s' := by
    rintro r s' ⟨h', tk, acc, c', rfl, rfl, k, o, p⟩
    exact ⟨_, rfl, wpAny_bind (wpAny_load o (wpAny_pure (h h' tk d acc.toList k p)))⟩
  refine wpAny_bind (wpAny_holding (hint_set (s := { s with heap := h1, drawn := d }) (SetG.type (s := { s with heap := h1, drawn := d }) hS2) ?_))
  refine wpAny_ite_split (fun _ => ?_) (fun _ => wpAny_pure ⟨plainId_quiet PySem.F.plain_extend_loop _, codeAny_mono (loop h1 _ _ hst (fun b o _ e => hk b o e) oL1) fun r s' z => ?_⟩)
  · refine wpAny_bind (wpAny_rule (wpAny_bind ?_))
    show wpAny _ _ (updateSeq s.heap.objs.size (·.push .none) >>= fun _ => updateSeq s.heap.objs.size (·.pop)) _ _ _
    refine wpAny_bind (wpAny_updateSeq oL1 rfl ?_)
    have oL2 := Heap.get?_update_self (Obj.mapSeq (·.push Value.none)) oL1 rfl
    refine wpAny_updateSeq (hz := by seq_fits) oL2 rfl ?_
    have oL3 := Heap.get?_update_self (Obj.mapSeq (·.pop)) oL2 rfl
    have oth : ∀ b o, b ≠ s.heap.objs.size → h1.get? b = some o → ((h1.update s.heap.objs.size (Obj.mapSeq (·.push Value.none))).update s.heap.objs.size (Obj.mapSeq (·.pop))).get? b = some o := fun b o hb e =>
      (Heap.get?_update_other _ _ (Ne.symm hb)).trans ((Heap.get?_update_other _ _ (Ne.symm hb)).trans e)
    refine wpAny_pure ⟨plainId_quiet PySem.F.plain_extend_loop _, codeAny_mono (loop _ _ _ ((hW A.in1 hh).frame 0 _ _ hst fun b hb o e => oth b o (fun z => hSf (z ▸ hb)) e) (fun b o hb e => oth b o hb (hk b o e)) oL3) fun r s' z => ?_⟩
    obtain ⟨v, rfl, q⟩ := fin r s' z
    exact q
  · obtain ⟨v, rfl, q⟩ := fin r s' z
    exact q
end
end Ss
set_option Elab.async false
set_option linter.all false
set_option maxRecDepth 100000
/-! SETS of ints and texts: comprehensions, sorted. -/
namespace L2
open PySem PySem.Spec PyProof.Rows
/-- the set at a: the keys ks, each once -/
def SetP (P : Program) (w : World) (a : Addr) (ks : List Key) (h : Heap) : Prop :=
  ∃ es : Array (Int × Value), Ss.SetG w h a es ∧ ks.Nodup ∧ ∃ el : List (Int × Value), el.Perm es.toList ∧ Paired (fun (k : Key) (e : Int × Value) => (mixKind P w).is k e.2 = true ∧ e.1 = (mixKind P w).hash k) ks el
abbrev SetH (P : Program) (w : World) (a : Addr) (ks : List Key) : HO := .ext (SetP P w a ks)
def addK (ks : List Key) (k : Key) : List Key := if ks.any (fun j => decide (j = k)) = true then ks else ks ++ [k]
theorem addK_in {ks : List Key} {k : Key} (h : k ∈ ks) : addK ks k = ks := if_pos (List.any_eq_true.mpr ⟨k, h, decide_eq_true rfl⟩)
theorem addK_new {ks : List Key} {k : Key} (h : k ∉ ks) : addK ks k = ks ++ [k] := if_neg fun z => by
  obtain ⟨j, hj, e⟩ := List.any_eq_true.mp z
  exact h (of_decide_eq_true e ▸ hj)
theorem setH_ok {P : Program} {w : World} {H : Hp} {h : Heap} {a : Addr} {ks : List Key} (x : SetP P w a ks h) : ObjOk P w H h a (SetH P w a ks) := by
  refine ⟨x, ?_, fun h1 h2 p k => ?_⟩
  · obtain ⟨es, ⟨ep, t, ho, _⟩, _⟩ := x
    exact ⟨_, ho⟩
  · obtain ⟨es, g, r⟩ := p
    exact ⟨es, g.at k, r⟩
theorem scan_of {P : Program} {w : World} {k : Key} {v : Value} (h : (mixKind P w).is k v = true) : v.scannable = true := by
  rcases keyIs_shape h with ⟨i, t, rfl, rfl⟩ | ⟨x, t, rfl, rfl⟩ <;> rfl
theorem Paired.mem_right {α β : Type} {F : α → β → Prop} : ∀ {xs : List α} {ys : List β}, Paired F xs ys → ∀ y ∈ ys, ∃ x ∈ xs, F x y
  | _, _, .nil, y, h => by cases h
  | _, _, .cons r t, y, h => by
    rcases List.mem_cons.mp h with e | h
    · subst e; exact ⟨_, List.mem_cons_self, r⟩
    · obtain ⟨x, hx, z⟩ := Paired.mem_right t y h
      exact ⟨x, List.mem_cons_of_mem _ hx, z⟩
theorem Paired.mem_left {α β : Type} {F : α → β → Prop} : ∀ {xs : List α} {ys : List β}, Paired F xs ys → ∀ x ∈ xs, ∃ y ∈ ys, F x y
  | _, _, .nil, y, h => by cases h
  | _, _, .cons r t, y, h => by
    rcases List.mem_cons.mp h with e | h
    · subst e; exact ⟨_, List.mem_cons_self, r⟩
    · obtain ⟨x, hx, z⟩ := Paired.mem_left t y h
      exact ⟨x, List.mem_cons_of_mem _ hx, z⟩
theorem Paired.app {α β : Type} {F : α → β → Prop} : ∀ {xs xs' : List α} {ys ys' : List β}, Paired F xs ys → Paired F xs' ys' → Paired F (xs ++ xs') (ys ++ ys')
  | _, _, _, _, .nil, s => s
  | _, _, _, _, .cons r t, s => .cons r (Paired.app t s)
theorem setP_elems {P : Program} {w : World} {ks : List Key} {es : Array (Int × Value)} {el : List (Int × Value)} (p : el.Perm es.toList) (q : Paired (fun (k : Key) (e : Int × Value) => (mixKind P w).is k e.2 = true ∧ e.1 = (mixKind P w).hash k) ks el) : ElemsOf (mixKind P w) es.toList := fun e he => by
  obtain ⟨k, _, h⟩ := Paired.mem_right q e (p.mem_iff.mpr he)
  exact ⟨⟨k, h.1, h.2⟩, scan_of h.1⟩
section
variable {X : Cx} {pins : List (Addr × Obj)} {σ : St} {H : Hp} {s : Shared}
/-- acc.add(v) -/
theorem set_add {D : Addr} {ks : List Key} {k : Key} {u : Value} {Q : Shared → Prop} {E : Value → Shared → Prop} (I : Inv X pins σ H s) (hD : H D = some (SetH X.prog X.w D ks)) (r : RelV (kV k) u) (hz : ks.length < 1000)
    (h : ∀ s', Inv X pins σ (upd H D (SetH X.prog X.w D (addK ks k))) s' → Q s') : wpAny (model X.prog X.w) X.A (call (.builtin "set.add") [.ref D, u]) (fun _ s' => Q s') E s := by
  have hx := I.hok D _ hD
  obtain ⟨⟨es, g, nd, el, p, q⟩, _, _⟩ := hx
  have hl : ks.length = es.size := by have := Paired.length q; have := p.length_eq; simp at this; omega
  have hk : (mixKind X.prog X.w).is k u = true := by
    cases k with
    | inl i => obtain ⟨t, rfl⟩ := r; exact keyIs_int i t
    | inr x => obtain ⟨t, rfl⟩ := r; exact keyIs_str x t
  refine Ss.add hk (scan_of hk) g (setP_elems p q) (by have : scanBound = 4096 := rfl; omega) fun h' es' sb g' ad => ?_
  refine h _ (I.write (x := D) (e := D) (by rw [hD]; trivial) (.inl rfl) (fun b o hb e => (sb.2 b hb).trans e) (by obtain ⟨ep, t, ho, _⟩ := g'; exact ⟨_, ho⟩) (setH_ok ⟨es', g', ?_⟩))
  rcases ad with ⟨⟨e, he, hek⟩, rfl⟩ | ⟨hno, hp⟩
  · have hm : k ∈ ks := by
      obtain ⟨k', hk', z⟩ := Paired.mem_right q e (p.mem_iff.mpr he)
      rw [(mixKind X.prog X.w).inj _ _ _ hek z.1]
      exact hk'
    rw [addK_in hm]
    exact ⟨nd, el, p, q⟩
  · have hm : k ∉ ks := fun hm => by
      obtain ⟨e, he, z⟩ := Paired.mem_left q k hm
      have := hno e (p.mem_iff.mp he)
      rw [z.1] at this
      cases this
    rw [addK_new hm]
    refine ⟨List.nodup_append.mpr ⟨nd, List.pairwise_singleton _ _, fun a ha b hb => ?_⟩, el ++ [((mixKind X.prog X.w).hash k, u)], (p.append_right _).trans hp.symm, Paired.app q (.cons ⟨hk, rfl⟩ .nil)⟩
    rw [List.mem_singleton.mp hb]
    exact fun z => hm (z ▸ ha)
end
theorem compTurn_set (elt target iter : Expr) (ifs : List Expr) (scope : Scope) (pos : Pos) (it acc : Value) (env : Env) : compTurn (.SetComp elt [⟨target, iter, ifs, 0⟩] scope pos) 0 it acc env = (do
      standAt iter.pos
      match ← pyNext it with
      | none => pure (.done .next)
      | some v =>
        letOwnedTupleGo target it v
        assign target env v
        let mut yes := true
        for c in ifs do
          if yes then yes ← isTrue c env (eval c env)
        if yes then
          (do let y ← eval elt env; standAt elt.pos; let _ ← call (.builtin "set.add") [acc, y])
        again (.compLoop (.SetComp elt [⟨target, iter, ifs, 0⟩] scope pos) 0 it acc env)) := by rfl
theorem eval_SetComp {env : Env} (elt gens scope pos) : eval (.SetComp elt gens scope pos) env = comprehension (.SetComp elt gens scope pos) scope env (firstIterPos gens pos) (newSet (.type "set")) (firstAsync gens) (firstIter gens env) := rfl
theorem compStart_set {prog : Program} {w : World} {A : Around} {R : Result → Shared → Prop} {s : Shared} {elt target iter ifs rest scope pos it acc env} (h0 : codeAny (model prog w) A (.compLoop (.SetComp elt (⟨target, iter, ifs, 0⟩ :: rest) scope pos) 0 it acc env) R s)
    (h : wpAny (model prog w) A (pyIter it) (fun it' s' => codeAny (model prog w) A (.compLoop (.SetComp elt (⟨target, iter, ifs, 0⟩ :: rest) scope pos) 0 it' acc env) R s') (notedBy (model prog w) A env fun x s' => R (.error x) s') s) : codeAny (model prog w) A (.compStart (.SetComp elt (⟨target, iter, ifs, 0⟩ :: rest) scope pos) 0 it acc env) R s := by
  refine codeAny_of_tree ?_
  show wpAny _ _ ((compStart (.SetComp elt (⟨target, iter, ifs, 0⟩ :: rest) scope pos) 0 it acc env).onRaise (fun x => do noteFrame x env; standAt theWindowsPlace)) _ _ s
  refine wpAny_notedAt (m := compStart (.SetComp elt (⟨target, iter, ifs, 0⟩ :: rest) scope pos) 0 it acc env) ?_
  unfold compStart
  show wpAny _ A (ask >>= _) _ _ s
  have fin : wpAny (model prog w) A (do standAt iter.pos; again (.compLoop (.SetComp elt (⟨target, iter, ifs, 0⟩ :: rest) scope pos) 0 (← pyIter it) acc env)) (fun r s' => match r with | .done f => R (.ok f) s' | .again c' => c'.quiet = true ∧ codeAny (model prog w) A c' R s') (notedBy (model prog w) A env fun x s' => R (.error x) s') s :=
    wpAny_bind (wpAny_standAt (wpAny_bind (wpAny_mono h (fun _ _ z => wpAny_pure ⟨rfl, z⟩) fun _ _ z => z)))
  refine wpAny_bind (wpAny_askSetting (wpAny_ite ?_))
  split
  · first | exact wpAny_pure ⟨rfl, h0⟩ | exact wpAny_bind (wpAny_pure (wpAny_pure ⟨rfl, h0⟩))
  · first | exact wpAny_bind (wpAny_rule fin) | (refine wpAny_bind (wpAny_rule ?_); exact fin)
theorem compLoop_set {prog : Program} {w : World} {A : Around} {R : Result → Shared → Prop} {s : Shared} {elt target iter : Expr} {ifs : List Expr} {scope : Scope} {pos : Pos} {it acc : Value} {env : Env} (I : Nat → Shared → Prop)
    (turn : ∀ n s, I n s → wpAny (model prog w) A (pyNext it) (fun r s1 => match r with
      | none => R (.ok .next) s1
      | some v => wpAny (model prog w) A (letOwnedTupleGo target it v) (fun _ s1 => wpAny (model prog w) A (assign target env v) (fun _ s2 =>
          wpAny (model prog w) A (forIn ifs true fun c r => if r = true then do let ok ← isTrue c env (eval c env); pure (ForInStep.yield ok) else pure (ForInStep.yield r)) (fun ok s3 =>
            if ok = true then wpAny (model prog w) A (eval elt env) (fun x s4 =>
              wpAny (model prog w) A (call (.builtin "set.add") [acc, x]) (fun _ s5 => ∃ m, m < n ∧ I m s5) (fun _ _ => False) s4) (fun _ _ => False) s3
            else ∃ m, m < n ∧ I m s3) (fun _ _ => False) s2) (fun _ _ => False) s1) (fun _ _ => False) s1) (fun _ _ => False) s)
    (n : Nat) (h : I n s) :
    codeAny (model prog w) A (.compLoop (.SetComp elt [⟨target, iter, ifs, 0⟩] scope pos) 0 it acc env) R s := by
  refine codeAny_loop rfl I (fun n s hI => ?_) n h
  show wpAny _ A ((compTurn (.SetComp elt [⟨target, iter, ifs, 0⟩] scope pos) 0 it acc env).onRaise (fun x => do noteFrame x env; theTreesLotGoes x)) _ _ s
  refine wpAny_noted ?_
  rw [compTurn_set]
  refine wpAny_bind (wpAny_standAt (wpAny_bind (wpAny_mono (turn n s hI) (fun r s1 h1 => ?_) fun _ _ h' => h'.elim)))
  cases r with
  | none => exact wpAny_pure h1
  | some v =>
    refine wpAny_bind (wpAny_mono h1 (fun _ s1 h1 => ?_) fun _ _ h' => h'.elim)
    refine wpAny_bind (wpAny_mono h1 (fun _ s2 h2 => wpAny_bind (wpAny_mono h2 (fun ok s3 h3 => ?_) fun _ _ h' => h'.elim)) fun _ _ h' => h'.elim)
    cases ok with
    | false => exact wpAny_pure ⟨rfl, h3⟩
    | true =>
      exact wpAny_bind (wpAny_bind (wpAny_mono h3 (fun x s4 h4 => wpAny_bind (wpAny_standAt (wpAny_bind (wpAny_mono h4 (fun _ s5 h5 => wpAny_pure (wpAny_pure ⟨rfl, h5⟩)) fun _ _ h' => h'.elim)))) fun _ _ h' => h'.elim))

section
variable {X : Cx} {pins : List (Addr × Obj)} {σ : St} {H : Hp} {s : Shared} {xs Ns : List Str} {sc : Scope} {C : Addr} {fp : List Addr}
theorem Inv.startSN {ho : HO} {D : Addr} {h1 : Heap} {m : Str → Option Value} {tk : Nat} {w : St} (I : Inv X pins σ H s) (S : LnScope X xs Ns sc) (hf : ∀ b ∈ fp, FpOk X pins H b) (hlt : ∀ b ∈ fp, b < s.heap.objs.size) (hw : w = xs.map fun _ => none)
    (hD : D = s.heap.objs.size) (hC : s.heap.objs.size ≤ C) (hDC : C ≠ D) (hk : ∀ b o, s.heap.get? b = some o → h1.get? b = some o) (hn : h1.Ns C m) (hl : ObjOk X.prog X.w (upd H D ho) h1 D ho) :
    Inv (cxLN X xs Ns sc C fp s H) [] (w ++ σ) (upd H D ho) { s with heap := h1, toks := tk } := by
  have hwl : w.length = xs.length := by rw [hw, List.length_map]
  have hDle : s.heap.objs.size ≤ D := by rw [hD]; exact Nat.le_refl _
  have cells : ∀ y c, (clOf sc X.env.cells).lookup y = some c → c < s.heap.objs.size := fun y c e => by
    obtain ⟨v, q⟩ := I.cell y c (clOf_sub sc X.env.cells e)
    exact q.lt
  refine ⟨I.okLN S hC hf hlt, rfl, I.bare, Un.laid hk hDle (I.hok.fresh hDle), ⟨m, hn, fun i y v e1 e2 e3 => ?_⟩, fun y c e => ?_, ?_, fun y c e => ?_, fun p hp => absurd (show p ∈ ([] : List (Addr × Obj)) from hp) (by simp), I.hok.laid hk hDle hl, ?_⟩
  · have e1 : (xs ++ Ns)[i]? = some y := e1
    have e2 : (w ++ σ)[i]? = some (some v) := e2
    rcases Nat.lt_or_ge i xs.length with hi | hi
    · rw [List.getElem?_append_left (by omega), hw, List.getElem?_map, List.getElem?_eq_getElem hi] at e2
      cases e2
    · have e1' : Ns[i - xs.length]? = some y := by rw [List.getElem?_append_right hi] at e1; exact e1
      have e2' : σ[i - xs.length]? = some (some v) := by rw [List.getElem?_append_right (by omega), hwl] at e2; exact e2
      have e3' : Vis (relabel sc X.env) y := e3
      have ny : sc.names.lookup y ≠ some .local := S.apart y (List.mem_of_getElem? e1')
      have fr : sc.names.lookup y = some .free ∧ ((relabel sc X.env).names.lookup y = some .cell ∨ (relabel sc X.env).names.lookup y = some .free) := by
        rcases e3' with h | h | h
        · obtain ⟨k', e, q⟩ := relabel_look h
          rcases q with q | ⟨_, q⟩
          · subst q; exact absurd e ny
          · cases q
        · obtain ⟨k', e, q⟩ := relabel_look h
          rcases q with q | ⟨q, _⟩
          · subst q; exact absurd rfl (S.nocell _ (PySem.mem_of_lookup e))
          · exact ⟨by rw [e, q], .inl h⟩
        · obtain ⟨k', e, q⟩ := relabel_look h
          rcases q with q | ⟨_, q⟩
          · exact ⟨by rw [e, ← q], .inr h⟩
          · cases q
      have ok := S.free (y, .free) (PySem.mem_of_lookup fr.1) rfl
      obtain ⟨m0, hn0, hl0⟩ := I.loc
      obtain ⟨u, r, l⟩ := hl0 _ y v (S.sub _ y e1' fr.1) e2' (.inr ok)
      refine ⟨u, r, .inr ⟨fr.2, ?_⟩⟩
      rcases l with ⟨k, _⟩ | ⟨_, c, ec, z⟩
      · rcases ok with q | q <;> (rw [show X.env.kindOf y = some .local from k] at q; cases q)
      · obtain ⟨c', ec'⟩ := clOf_has sc X.env.cells (S.cells I.ok) (PySem.mem_of_lookup fr.1)
        have := clOf_sub sc X.env.cells ec'
        rw [ec] at this
        cases this
        obtain ⟨o, ho, hd⟩ := z
        exact ⟨c, ec', o, hk _ _ ho, hd⟩
  · obtain ⟨v, o, ho, hd⟩ := I.cell y c (clOf_sub sc X.env.cells e)
    exact ⟨v, o, hk _ _ ho, hd⟩
  · show upd H D ho C = none
    rw [upd_ne hDC]
    exact I.hok.fresh hC
  · show upd H D ho c = none
    rw [upd_ne (Nat.ne_of_lt (Nat.lt_of_lt_of_le (cells y c e) hDle))]
    exact I.freeC y c (clOf_sub sc X.env.cells e)
  · show (w ++ σ).length = (xs ++ Ns).length
    rw [List.length_append, List.length_append, I.len, hwl, S.len]
end
/-- acc = set(); for target in ..: if ..: acc.add(..), the set at D; n: how many names the target has -/
def scGo (P : Program) (w : World) (n : Nat) (g : TG) (tc : TT) (te : TE) (σ : St) (J : It) (D : Addr) (Fin : Hp → Prop) (H : Hp) : Prop :=
  ∃ W : Nat → Nat → List Key → Hp → Prop, (∃ m, W 0 m [] (upd H D (SetH P w D []))) ∧ ∀ i m ks H, W i m ks H → H D = some (SetH P w D ks) ∧
    ((J.stop i H ∧ Fin H) ∨ (J.go i H ∧ ∀ x H' (u : St), u.length = n → J.yld i H x H' → g x (u ++ σ) H' fun σ2 H2 => (∃ u2 : St, u2.length = n ∧ σ2 = u2 ++ σ) ∧ tc σ2 H2 fun b H3 => if b = true then te σ2 H3 fun y H4 => H4 D = some (SetH P w D ks) ∧ ks.length < 1000 ∧ ∃ k, y = kV k ∧ ∃ m', m' < m ∧ W (i + 1) m' (addK ks k) (upd H4 D (SetH P w D (addK ks k)))
      else ∃ m', m' < m ∧ W (i + 1) m' ks H3))
def tSN (P : Program) (w : World) (n : Nat) (wi : TI) (g : TG) (tc : TT) (te : TE) : TE := fun σ H Q => wi σ H fun J H1 => ∀ D, H1 D = none → scGo P w n g tc te σ J D (fun H2 => Q (.ref D) H2) H1
section
variable {X : Cx} {xs Ns : List Str} {sc : Scope} {elt iter tg : Expr} {ifs : List Expr} {pos : Pos} {wi : TI} {g : TG} {tc : TT} {te : TE}
theorem sn_block {pins : List (Addr × Obj)} {σ : St} {H : Hp} {s : Shared} {it : Addr} {fp : List Addr} {tn : Nat → Heap → Prop} {J : It} {Fin : Addr → Hp → Prop} {RR : Value → Addr → Result → Shared → Prop} {E : Value → Shared → Prop}
    (hc : X.calm = true) (S : LnScope X xs Ns sc) (I : Inv X pins σ H s) (T : Turn X.prog X.w X.K tg J fp it tn) (st : tn 0 s.heap) (hf : ∀ b ∈ fp, FpOk X pins H b) (hg : ∀ C s0 H0, PG (cxLN X xs Ns sc C fp s0 H0) tg g)
    (ht : ∀ C s0 H0, PTs (cxLN X xs Ns sc C fp s0 H0) ifs tc) (he : ∀ C s0 H0, PE (cxLN X xs Ns sc C fp s0 H0) elt te) (q : ∀ D, H D = none → scGo X.prog X.w xs.length g tc te σ J D (Fin D) H)
    (hR : ∀ D C H2 s2 m, s.heap.objs.size ≤ C → Inv X pins σ H2 s2 → H2 C = none → s2.heap.Ns C m → Fin D H2 → RR (.ref D) C (.ok .next) s2) :
    wpAny (model X.prog X.w) X.A (newSet (.type "set")) (fun acc s3 => wpAny (model X.prog X.w) X.A (newFunctionEnv sc X.env.globals (clOf sc X.env.cells) [] X.env.qual none .none (some X.env)) (fun cenv s4 =>
      codeAny (model X.prog X.w) X.A (.compStart (.SetComp elt [⟨tg, iter, ifs, 0⟩] sc pos) 0 (.ref it) acc { cenv with scope := relabel sc X.env }) (RR acc cenv.locals) s4) E s3) E s := by
  have hlt : ∀ b ∈ fp, b < s.heap.objs.size := fun b hb => by
    obtain ⟨o, e, _⟩ := T.obj 0 _ st b hb
    exact Heap.lt_size e
  refine Ss.new fun oS hS => wpAny_newFunctionEnv S.nocell (by intro y hy; simp at hy) (fun h1 hns1 hsb1 => ?_) S.kind
  dsimp only at hns1 hsb1 ⊢
  generalize hH2 : s.heap.push oS = G at hns1 hsb1 hS ⊢
  have hC : G.objs.size = s.heap.objs.size + 1 := by rw [← hH2, Heap.size_push]
  have hCle : s.heap.objs.size ≤ G.objs.size := by rw [hC]; exact Nat.le_succ _
  have hDC : G.objs.size ≠ s.heap.objs.size := by rw [hC]; exact Nat.succ_ne_self _
  have old : ∀ b o, s.heap.get? b = some o → h1.get? b = some o := fun b o e => hsb1.extBut b o (Nat.ne_of_lt (Nat.lt_of_lt_of_le (Heap.lt_size e) hCle)) (Heap.get?_push_of_some _ (hH2 ▸ Heap.get?_push_of_some _ e))
  have hacc : ObjOk X.prog X.w (upd H s.heap.objs.size (SetH X.prog X.w s.heap.objs.size [])) h1 s.heap.objs.size (SetH X.prog X.w s.heap.objs.size []) := setH_ok ⟨#[], hS.at fun o e => hsb1.extBut _ _ (Ne.symm hDC) (Heap.get?_push_of_some _ e), List.nodup_nil, [], List.Perm.refl _, .nil⟩
  have hDn : H s.heap.objs.size = none := I.hok.fresh (Nat.le_refl _)
  obtain ⟨W, ⟨m0, w0⟩, turn⟩ := q s.heap.objs.size hDn
  have st1 : tn 0 h1 := T.keep _ _ _ st fun b _ o e => old b o e
  have I1 := fun tk => I.startSN (tk := tk) (w := xs.map fun _ => none) S hf hlt rfl rfl hCle hDC old hns1 hacc
  have fr1 : ∀ b ∈ fp, upd H s.heap.objs.size (SetH X.prog X.w s.heap.objs.size []) b = none := fun b hb => by rw [upd_ne (Nat.ne_of_lt (hlt b hb))]; exact (hf b hb).1
  have loop : ∀ s3 : Shared, s3 = { s with heap := h1, toks := s.toks + ([] : List (Str × Value)).length } →
      codeAny (model X.prog X.w) X.A (.compLoop (.SetComp elt [⟨tg, iter, ifs, 0⟩] sc pos) 0 (.ref it) (.ref s.heap.objs.size) (compEnvC sc (clOf sc X.env.cells) G.objs.size X.env))
        (RR (.ref s.heap.objs.size) G.objs.size) s3 := by
    rintro s3 rfl
    have fpk : ∀ {H' : Hp}, (∀ b ∈ fp, H' b = none) → ∀ b ∈ fp, FpOk (cxLN X xs Ns sc G.objs.size fp s H) [] H' b := fun hn b hb =>
      ⟨hn b hb, Nat.ne_of_lt (Nat.lt_of_lt_of_le (hlt b hb) hCle), (I.okLN (C := G.objs.size) S hCle hf hlt).exfs b hb, .inl hb, fun y c e => (hf b hb).2.2.2.2.1 y c (clOf_sub sc X.env.cells e), fun p hp => absurd (show p ∈ ([] : List (Addr × Obj)) from hp) (by simp)⟩
    refine compLoop_set (fun n s' => ∃ i w ys H', w.length = xs.length ∧ Inv (cxLN X xs Ns sc G.objs.size fp s H) [] (w ++ σ) H' s' ∧ tn i s'.heap ∧ (∀ b ∈ fp, H' b = none) ∧ W i n ys H') ?_ m0 ⟨0, _, [], _, List.length_map _, I1 _, st1, fr1, w0⟩
    rintro n s3 ⟨i, v0, ys, H3, hv0, I3, st3, fr3, w3⟩
    obtain ⟨hD3, turn3⟩ := turn i n ys H3 w3
    rcases turn3 with ⟨stop, fin⟩ | ⟨go, step⟩
    · refine thn (T.done (cxLN X xs Ns sc G.objs.size fp s H) rfl rfl rfl hc i [] s3 _ H3 _ I3 (fpk fr3) st3 stop) fun r s4 ⟨hr, I4⟩ => ?_
      subst hr
      obtain ⟨m4, hn4, _⟩ := I4.loc
      exact hR _ _ H3 s4 m4 hCle (I.endLN I4 hf) I4.free hn4 fin
    · refine thn (T.item (cxLN X xs Ns sc G.objs.size fp s H) rfl rfl rfl hc i [] s3 _ H3 _ I3 (fpk fr3) st3 go) fun r s4 ⟨u, hr, h4⟩ => ?_
      subst hr
      refine thn h4 fun _ s5 ⟨y, H5, I5, r5, y5, st5, fr5⟩ => ?_
      have I5' := I5.pinned (fpk fr5) (T.obj _ _ st5)
      refine thn (hg G.objs.size s H _ s5 _ H5 y u _ I5' r5 (step y H5 v0 hv0 y5)) fun _ s6 ⟨σ6, H6, I6, ⟨w6, hw6, e6⟩, q6⟩ => ?_
      subst e6
      refine thn (ht G.objs.size s H _ s6 _ H6 _ I6 q6) fun ok s7 ⟨H7, I7, q7⟩ => ?_
      have again : ∀ {H8 : Hp} {s8 : Shared} {zs : List Key}, Inv (cxLN X xs Ns sc G.objs.size fp s H) ([] ++ pinsAt fp s5.heap) (w6 ++ σ) H8 s8 → (∃ m', m' < n ∧ W (i + 1) m' zs H8) → ∃ m, m < n ∧ ∃ i w ys H', w.length = xs.length ∧ Inv (cxLN X xs Ns sc G.objs.size fp s H) [] (w ++ σ) H' s8 ∧ tn i s8.heap ∧ (∀ b ∈ fp, H' b = none) ∧ W i m ys H' := fun {H8 s8 zs} I8 ⟨m', hm, w8⟩ => by
        refine ⟨m', hm, i + 1, w6, zs, H8, hw6, I8.unpinned, T.keep _ _ _ st5 fun b hb o e => (I8.pin (b, o) (List.mem_append_right _ (List.mem_append_right _ (mem_pinsAt hb e)))).1, fun b hb => ?_, w8⟩
        obtain ⟨o, e, d⟩ := T.obj _ _ st5 b hb
        exact (I8.pin (b, o) (List.mem_append_right _ (List.mem_append_right _ (mem_pinsAt hb e)))).2.1
      cases ok with
      | false =>
        rw [if_neg Bool.false_ne_true] at q7 ⊢
        exact again I7 q7
      | true =>
        rw [if_pos rfl] at q7 ⊢
        refine thn (he G.objs.size s H _ s7 _ H7 _ I7 q7) fun z s8 ⟨zv, H8, I8, r8, hD8, hz8, k8, e8, w8⟩ => ?_
        subst e8
        exact set_add (X := cxLN X xs Ns sc G.objs.size fp s H) I8 hD8 r8 hz8 fun s9 I9 => again I9 w8
  exact compStart_set (loop _ rfl) (T.self X.A 0 _ _ _ st1 (loop _ rfl))
theorem pe_sn (hc : X.calm = true) (S : LnScope X xs Ns sc) (hi : PI X tg iter wi) (hg : ∀ C fp s0 H0, PG (cxLN X xs Ns sc C fp s0 H0) tg g) (ht : ∀ C fp s0 H0, PTs (cxLN X xs Ns sc C fp s0 H0) ifs tc) (he : ∀ C fp s0 H0, PE (cxLN X xs Ns sc C fp s0 H0) elt te)
    (hs : ∀ v, foldedSetIterable iter X.env v = pure v := by intro _; rfl) : PE X (.SetComp elt [⟨tg, iter, ifs, 0⟩] sc pos) (tSN X.prog X.w xs.length wi g tc te) := by
  refine ⟨?_⟩
  intro pins s σ H Q I h
  rw [eval_SetComp]
  refine wpAny_comprehension_free (use := none) rfl hs (closure_eq (S.cells I.ok)) S.kind S.names (thn (hi pins s σ H _ I h) fun v s1 h1 => thn h1 fun itv s2 h2 => ?_)
  obtain ⟨it, fp, tn, J, H2, e, I2, T, st2, f2, q2⟩ := h2
  subst e
  refine sn_block (RR := fun acc C => compPost (model X.prog X.w) X.A X.xe none (EP X pins σ Q) acc C) (Fin := fun D H3 => Q (.ref D) H3) hc S I2 T st2 f2 (fun C s0 H0 => hg C fp s0 H0) (fun C s0 H0 => ht C fp s0 H0) (fun C s0 H0 => he C fp s0 H0) q2 ?_
  intro D C H3 s3 m hC I3 hn hN q3
  refine ⟨m, hN, fun h' hs' => ⟨.ref D, H3, I3.butC hs' (Nat.le_trans I2.sz hC) hn (Nat.ne_of_gt (Nat.lt_of_lt_of_le I2.lt hC)) (fun y c e => ?_) (fun p hp => ?_), rfl, q3⟩⟩
  · obtain ⟨v, z⟩ := I2.cell y c e
    exact Nat.ne_of_lt (Nat.lt_of_lt_of_le z.lt hC)
  · exact Nat.ne_of_lt (Nat.lt_of_lt_of_le (Heap.lt_size (I2.pin p hp).1) hC)
end
end L2
set_option Elab.async false
set_option linter.all false
set_option maxRecDepth 100000
/-! the first run of a sort of ints of any number: what stands behind the run stays as it was -/
namespace Sg
open PySem PyProof.Rows
section
variable {prog : Program} {w : World} {A : Around} {E : Value → Shared → Prop} {s : Shared} {a₀ : Array Keyed}
end
end Sg
set_option Elab.async false
set_option linter.all false
set_option maxRecDepth 100000
/-! galloping, and the one merge that is needed -/
namespace Sg
open PySem PyProof.Rows
end Sg
set_option Elab.async false
set_option linter.all false
set_option maxRecDepth 100000
namespace Sg
open PySem PyProof.Rows
section
variable {prog : Program} {w : World} {A : Around} {E : Value → Shared → Prop} {s : Shared} {a₀ : Array Keyed}
end
end Sg
set_option Elab.async false
set_option linter.all false
set_option maxRecDepth 100000
namespace Sg
open PySem PyProof.Rows
section
variable {prog : Program} {w : World} {A : Around} {E : Value → Shared → Prop} {s : Shared} {a₀ : Array Keyed}
end
end Sg
set_option Elab.async false
set_option linter.all false
set_option maxRecDepth 100000
namespace Sg
open PySem PyProof.Rows
section
variable {prog : Program} {w : World} {A : Around} {E : Value → Shared → Prop} {s : Shared} {a₀ : Array Keyed}
end
end Sg
set_option Elab.async false
set_option linter.all false
set_option maxRecDepth 100000
/-! sorted(xs) of ints, of any number up to a thousand, where but for one of the first two all stand in order -/
namespace Sg
open PySem PyProof.Rows
section
variable {prog : Program} {w : World} {A : Around} {E : Value → Shared → Prop} {s : Shared}
end
end Sg
set_option Elab.async false
set_option linter.all false
set_option maxRecDepth 100000
/-! sorted(xs) of ints, sorted(a set of ints) -/
namespace L2
open PySem PySem.Spec PyProof.Rows
theorem Inv.drawn {X : Cx} {pins : List (Addr × Obj)} {σ : St} {H : Hp} {s : Shared} (d : Drawn) (I : Inv X pins σ H s) : Inv X pins σ H { s with drawn := d } := ⟨I.ok, I.os, I.bare, I.base, I.loc, I.cell, I.free, I.freeC, I.pin, I.hok, I.len⟩
section
variable {X : Cx}
end
end L2
set_option Elab.async false
set_option linter.all false
set_option maxRecDepth 100000
/-! WHAT A SORT OF FEWER THAN 64 THINGS COMES TO, over the library's tree of asks: a permutation, in order, those alike as they stood. -/
namespace Srt
open PySem PySem.W PyProof.Rows
def Good (n : Nat) (lt : Nat → Nat → Bool) {α : Type} : KasT α → (α → Prop) → Prop
  | .ret a, Q => Q a
  | .ask i j k, Q => i < n ∧ j < n ∧ Good n lt (k (lt i j)) Q
section
variable {n : Nat} {lt : Nat → Nat → Bool} {α β : Type}
theorem good_mono {Q Q' : α → Prop} (h : ∀ a, Q a → Q' a) : ∀ t : KasT α, Good n lt t Q → Good n lt t Q'
  | .ret a, q => h a q
  | .ask i j k, q => ⟨q.1, q.2.1, good_mono h (k (lt i j)) q.2.2⟩
theorem good_bind {f : α → KasT β} {Q : β → Prop} : ∀ t : KasT α, Good n lt t (fun a => Good n lt (f a) Q) → Good n lt (t.bind f) Q
  | .ret a, q => q
  | .ask i j k, q => ⟨q.1, q.2.1, good_bind (k (lt i j)) q.2.2⟩
theorem good_wp {cmp : Nat → Nat → (Bool → Shared → Prop) → Shared → Prop} {s : Shared} {Q : α → Shared → Prop} (hc : ∀ i j (C : Bool → Shared → Prop), i < n → j < n → C (lt i j) s → cmp i j C s) : ∀ t : KasT α, Good n lt t (fun a => Q a s) → t.kasWp cmp Q s
  | .ret a, q => q
  | .ask i j k, q => hc i j _ q.1 q.2.1 (good_wp hc (k (lt i j)) q.2.2)
end
structure Ord (lt : Nat → Nat → Bool) : Prop where
  asym : ∀ {a b}, lt a b = true → lt b a = false
  tr : ∀ {a b c}, lt b a = false → lt c b = false → lt c a = false
section
variable {lt : Nat → Nat → Bool} {N : Nat}
theorem Ord.ltle (O : Ord lt) {a b c : Nat} (h : lt a b = true) (h' : lt c b = false) : lt a c = true := by
  cases e : lt a c with
  | true => rfl
  | false => rw [O.tr h' e] at h; cases h
theorem Ord.lelt (O : Ord lt) {a b c : Nat} (h : lt b a = false) (h' : lt b c = true) : lt a c = true := by
  cases e : lt a c with
  | true => rfl
  | false => rw [O.tr e h] at h'; cases h'
def R (lt : Nat → Nat → Bool) (a b : Nat) : Prop := lt a b = true ∨ (lt b a = false ∧ a < b)
theorem R.le (O : Ord lt) {a b : Nat} (h : R lt a b) : lt b a = false := h.elim O.asym (·.1)
abbrev g (p : Array Nat) (i : Nat) : Nat := p.getD i 0
theorem g_eq {p : Array Nat} {i : Nat} : g p i = (p[i]?).getD 0 := by simp [g]
theorem g_rev {p : Array Nat} {i j : Nat} (hj : j ≤ p.size) (k : Nat) : g (kas_rev p i j) k = if i ≤ k ∧ k < j then g p (i + j - 1 - k) else g p k := by
  unfold kas_rev
  rw [g_eq, getElem?_mirror_all hj, g_eq, g_eq]
  split <;> rfl
theorem g_bub {p : Array Nat} {k d : Nat} (hs : k < p.size) (hd : d ≤ k) (i : Nat) : g (bubble p k d) i = if i = k - d then g p k else if k - d < i ∧ i ≤ k then g p (i - 1) else g p i := by
  rw [g_eq, getElem?_bubble hs d hd, g_eq, g_eq, g_eq]
  split
  · rfl
  · split <;> rfl
structure Pm (N : Nat) (p : Array Nat) (n : Nat) : Prop where
  sz : p.size = N
  pm : p.Perm (List.toArray (List.range N))
  lo : ∀ i, i < n → g p i < n
  hi : ∀ i, n ≤ i → i < N → g p i = i
theorem Pm.rev {p : Array Nat} {n i j : Nat} (h : Pm N p n) (hj : j ≤ n) (hn : n ≤ N) : Pm N (kas_rev p i j) n where
  sz := by rw [kas_rev_size]; exact h.sz
  pm := (mirror_perm _ _ _ _).trans h.pm
  lo := fun k hk => by
    rw [g_rev (by rw [h.sz]; omega)]
    split
    · exact h.lo _ (by omega)
    · exact h.lo _ hk
  hi := fun k hk hk2 => by
    rw [g_rev (by rw [h.sz]; omega), if_neg (by omega)]
    exact h.hi k hk hk2
theorem Pm.succ {p : Array Nat} {n : Nat} (h : Pm N p n) (hn : n < N) : Pm N p (n + 1) where
  sz := h.sz
  pm := h.pm
  lo := fun i hi => by
    rcases Nat.lt_or_ge i n with h1 | h1
    · exact Nat.lt_succ_of_lt (h.lo i h1)
    · rw [h.hi i h1 (by omega)]; exact hi
  hi := fun i h1 h2 => h.hi i (by omega) h2
def Asc (lt : Nat → Nat → Bool) (p : Array Nat) (n : Nat) : Prop := ∀ i j, i < j → j < n → R lt (g p i) (g p j)
theorem asc_ok (O : Ord lt) (p : Array Nat) : ∀ (f n : Nat), 1 ≤ n → n + f = N → Pm N p n → Asc lt p n →
    Good N lt (kas_asc p f n) (fun m => n ≤ m ∧ m ≤ N ∧ Pm N p m ∧ Asc lt p m ∧ (m < N → lt (g p m) (g p (m - 1)) = true))
  | 0, n, h1, hn, hp, ha => ⟨Nat.le_refl _, by omega, hp, ha, fun h => by omega⟩
  | f + 1, n, h1, hn, hp, ha => by
    have hnN : n < N := by omega
    have en := hp.hi n (Nat.le_refl _) hnN
    have e1 := hp.lo (n - 1) (by omega)
    show Good N lt (.ask (g p n) (g p (n - 1)) fun c => if c = true then .ret n else kas_asc p f (n + 1)) _
    refine ⟨by omega, by omega, ?_⟩
    cases hc : lt (g p n) (g p (n - 1)) with
    | true =>
      try dsimp only
      rw [if_pos rfl]
      exact ⟨Nat.le_refl _, by omega, hp, ha, fun _ => hc⟩
    | false =>
      try dsimp only
      rw [if_neg (by simp)]
      refine good_mono (fun m h => ⟨by omega, h.2⟩) _ (asc_ok O p f (n + 1) (by omega) (by omega) (hp.succ hnN) fun i j hij hj => ?_)
      rcases Nat.lt_or_ge j n with h2 | h2
      · exact ha i j hij h2
      · obtain rfl : j = n := by omega
        have hlo := hp.lo i hij
        refine .inr ⟨?_, by omega⟩
        rcases Nat.lt_or_ge i (j - 1) with h3 | h3
        · exact O.tr ((ha i (j - 1) h3 (by omega)).le O) hc
        · obtain rfl : i = j - 1 := by omega
          exact hc
structure Dsc (lt : Nat → Nat → Bool) (p : Array Nat) (n q : Nat) : Prop where
  a : ∀ i j, i < j → j < n - (q + 1) → R lt (g p j) (g p i)
  b : ∀ i j, i < n - (q + 1) → n - (q + 1) ≤ j → j < n → lt (g p j) (g p i) = true
  c : ∀ i j, n - (q + 1) ≤ i → i < j → j < n → lt (g p i) (g p j) = false ∧ lt (g p j) (g p i) = false ∧ g p i < g p j
def Rv (lt : Nat → Nat → Bool) (p : Array Nat) (n : Nat) : Prop := ∀ i j, i < j → j < n → R lt (g p j) (g p i)
theorem Dsc.rv0 {p : Array Nat} {n : Nat} (h : Dsc lt p n 0) (h1 : 1 ≤ n) : Rv lt p n := fun i j hij hj => by
  rcases Nat.lt_or_ge j (n - 1) with h2 | h2
  · exact h.a i j hij h2
  · exact .inl (h.b i j (by omega) h2 hj)
theorem Dsc.rv {p : Array Nat} {n q : Nat} (h : Dsc lt p n q) (hq : q + 1 ≤ n) (hn : n ≤ p.size) : Rv lt (kas_rev p (n - (q + 1)) n) n := fun i j hij hj => by
  rw [g_rev hn, g_rev hn]
  by_cases hi : n - (q + 1) ≤ i
  · rw [if_pos ⟨by omega, hj⟩, if_pos ⟨hi, by omega⟩]
    obtain ⟨c1, c2, c3⟩ := h.c (n - (q + 1) + n - 1 - j) (n - (q + 1) + n - 1 - i) (by omega) (by omega) (by omega)
    exact .inr ⟨c2, c3⟩
  · rw [if_neg (show ¬ (n - (q + 1) ≤ i ∧ i < n) by omega)]
    by_cases hj2 : n - (q + 1) ≤ j
    · rw [if_pos ⟨hj2, hj⟩]
      exact .inl (h.b i _ (by omega) (by omega) (by omega))
    · rw [if_neg (by omega)]
      exact h.a i j hij (by omega)
theorem desc_ok (O : Ord lt) : ∀ (f : Nat) (p : Array Nat) (n q : Nat), q + 1 ≤ n → n + f = N → Pm N p n → Dsc lt p n q →
    Good N lt (kas_desc f p n q) (fun r => r.2.2 + 1 ≤ r.2.1 ∧ r.2.1 ≤ N ∧ Pm N r.1 r.2.1 ∧ Dsc lt r.1 r.2.1 r.2.2)
  | 0, p, n, q, hq, hn, hp, hd => ⟨hq, by show n ≤ N; omega, hp, hd⟩
  | f + 1, p, n, q, hq, hn, hp, hd => by
    have hnN : n < N := by omega
    have en := hp.hi n (Nat.le_refl _) hnN
    have e1 := hp.lo (n - 1) (by omega)
    have hsz := hp.sz
    refine ⟨by show g p n < N; omega, by show g p (n - 1) < N; omega, ?_⟩
    cases hc : lt (p.getD n 0) (p.getD (n - 1) 0) with
    | true =>
      try dsimp only
      rw [if_pos rfl]
      have hx : ∀ i, i < n → lt (g p n) (g p i) = true := fun i hi => by
        rcases Nat.lt_or_ge i (n - (q + 1)) with h2 | h2
        · have := hd.b i (n - 1) h2 (by omega) (by omega)
          exact O.ltle hc (O.asym this)
        · rcases Nat.lt_or_ge i (n - 1) with h3 | h3
          · exact O.ltle hc (hd.c i (n - 1) h2 h3 (by omega)).1
          · obtain rfl : i = n - 1 := by omega
            exact hc
      have go : ∀ p' : Array Nat, Pm N p' n → Rv lt p' n → (∀ i, i < n → ∃ i', i' < n ∧ g p' i = g p i') → g p' n = g p n →
          Good N lt (kas_desc f p' (n + 1) 0) (fun r => r.2.2 + 1 ≤ r.2.1 ∧ r.2.1 ≤ N ∧ Pm N r.1 r.2.1 ∧ Dsc lt r.1 r.2.1 r.2.2) := fun p' hp' hv hs he => by
        refine desc_ok O f p' (n + 1) 0 (by omega) (by omega) (hp'.succ hnN) ⟨fun i j hij hj => hv i j hij (by omega), fun i j hi hj hj2 => ?_, fun i j hi hij hj => by omega⟩
        obtain rfl : j = n := by omega
        obtain ⟨i', hi', e⟩ := hs i (by omega)
        rw [he, e]
        exact hx i' hi'
      by_cases hq0 : q > 0
      · rw [if_pos hq0]
        refine go _ (hp.rev (Nat.le_refl _) (by omega)) (hd.rv hq (by omega)) (fun i hi => ?_) ?_
        · rw [g_rev (by omega)]
          split
          · exact ⟨_, by omega, rfl⟩
          · exact ⟨i, hi, rfl⟩
        · rw [g_rev (by omega), if_neg (by omega)]
      · rw [if_neg hq0]
        obtain rfl : q = 0 := by omega
        exact go p hp (hd.rv0 hq) (fun i hi => ⟨i, hi, rfl⟩) rfl
    | false =>
      try dsimp only
      rw [if_neg (by simp)]
      refine ⟨by show g p (n - 1) < N; omega, by show g p n < N; omega, ?_⟩
      cases hdd : lt (p.getD (n - 1) 0) (p.getD n 0) with
      | true =>
        try dsimp only
        rw [if_pos rfl]
        exact ⟨hq, by show n ≤ N; omega, hp, hd⟩
      | false =>
        try dsimp only
        rw [if_neg (by simp)]
        have eb : n + 1 - (q + 1 + 1) = n - (q + 1) := by omega
        refine desc_ok O f p (n + 1) (q + 1) (by omega) (by omega) (hp.succ hnN) ⟨fun i j hij hj => hd.a i j hij (by omega), fun i j hi hj hj2 => ?_, fun i j hi hij hj => ?_⟩
        · rw [eb] at hi hj
          rcases Nat.lt_or_ge j n with h2 | h2
          · exact hd.b i j hi hj h2
          · obtain rfl : j = n := by omega
            exact O.lelt (c := g p i) hdd (hd.b i (j - 1) hi (by omega) (by omega))
        · rw [eb] at hi
          rcases Nat.lt_or_ge j n with h2 | h2
          · exact hd.c i j hi hij h2
          · obtain rfl : j = n := by omega
            have hlo := hp.lo i hij
            rcases Nat.lt_or_ge i (j - 1) with h3 | h3
            · obtain ⟨c1, c2, c3⟩ := hd.c i (j - 1) hi h3 (by omega)
              exact ⟨O.tr hdd c1, O.tr c2 hc, by omega⟩
            · obtain rfl : i = j - 1 := by omega
              exact ⟨hdd, hc, by omega⟩
abbrev Cnt (N : Nat) (lt : Nat → Nat → Bool) (r : Nat × Array Nat) : Prop := 1 ≤ r.1 ∧ r.1 ≤ N ∧ Pm N r.2 r.1 ∧ Asc lt r.2 r.1
theorem tail3_ok (O : Ord lt) {p : Array Nat} {n : Nat} (h1 : 1 ≤ n) (hn : n ≤ N) (hp : Pm N p n) (hv : Rv lt p n) : Good N lt (kas_tail3 n N p) (Cnt N lt) := by
  have hsz := hp.sz
  refine good_bind _ (good_mono (fun m h => ?_) _ (asc_ok O (kas_rev p 0 n) (N - n) n h1 (by omega) (hp.rev (Nat.le_refl _) hn) fun i j hij hj => ?_))
  · exact ⟨by show 1 ≤ m; omega, h.2.1, h.2.2.1, h.2.2.2.1⟩
  · rw [g_rev (by omega), g_rev (by omega), if_pos (by omega), if_pos (by omega)]
    exact hv _ _ (by omega) (by omega)
theorem descPart_ok (O : Ord lt) {p : Array Nat} {n : Nat} (hn : n < N) (hp : Pm N p n) (hv : Rv lt p n) (hx : ∀ i, i < n → lt (g p n) (g p i) = true) : Good N lt (kas_descPart n N p) (Cnt N lt) := by
  refine good_bind _ (good_mono (fun r h => ?_) _ (desc_ok O (N - (n + 1)) p (n + 1) 0 (by omega) (by omega) (hp.succ hn) ⟨fun i j hij hj => hv i j hij (by omega), fun i j hi hj hj2 => ?_, fun i j hi hij hj => by omega⟩))
  · obtain ⟨q1, q2, q3, q4⟩ := h
    have hsz := q3.sz
    by_cases hq : r.2.2 > 0
    · rw [if_pos hq]
      exact tail3_ok O (by omega) q2 (q3.rev (Nat.le_refl _) q2) (q4.rv q1 (by omega))
    · rw [if_neg hq]
      have e0 : r.2.2 = 0 := by omega
      rw [e0] at q4
      exact tail3_ok O (by omega) q2 q3 (q4.rv0 (by omega))
  · obtain rfl : j = n := by omega
    exact hx i (by omega)
theorem count_ok (O : Ord lt) {p : Array Nat} (h1 : 1 ≤ N) (hp : Pm N p 1) : Good N lt (kas_count N p) (Cnt N lt) := by
  have hsz := hp.sz
  refine good_bind _ (good_mono (fun m h => ?_) _ (asc_ok O p (N - 1) 1 (Nat.le_refl _) (by omega) hp fun i j hij hj => by omega))
  obtain ⟨m1, m2, m3, m4, m5⟩ := h
  by_cases hm : m = N
  · rw [if_pos (by rw [hm]; exact beq_self_eq_true _)]
    exact ⟨m1, m2, m3, m4⟩
  · rw [if_neg (by intro e; exact hm (by simpa using e))]
    have hlt := m5 (by omega)
    by_cases hm1 : m > 1
    · rw [if_pos hm1]
      have l0 := m3.lo 0 (by omega)
      have l1 := m3.lo (m - 1) (by omega)
      refine ⟨by show g p 0 < N; omega, by show g p (m - 1) < N; omega, ?_⟩
      cases hc : lt (p.getD 0 0) (p.getD (m - 1) 0) with
      | true =>
        try dsimp only
        rw [if_pos rfl]
        exact ⟨m1, m2, m3, m4⟩
      | false =>
        try dsimp only
        rw [if_neg (by simp)]
        have le1 : ∀ i, i < m → lt (g p i) (g p (m - 1)) = false := fun i hi => by
          rcases Nat.eq_zero_or_pos i with h0 | h0
          · subst h0; exact hc
          · exact O.tr hc ((m4 0 i h0 hi).le O)
        have le2 : ∀ i, i < m → lt (g p (m - 1)) (g p i) = false := fun i hi => by
          rcases Nat.lt_or_ge i (m - 1) with h0 | h0
          · exact (m4 i (m - 1) h0 (by omega)).le O
          · obtain rfl : i = m - 1 := by omega
            exact le1 _ hi
        have all : ∀ i j, i < m → j < m → lt (g p i) (g p j) = false := fun i j hi hj => O.tr (le2 j hj) (le1 i hi)
        have idx : ∀ i j, i < j → j < m → g p i < g p j := fun i j hij hj => by
          rcases m4 i j hij hj with h | h
          · rw [all i j (by omega) hj] at h; cases h
          · exact h.2
        refine descPart_ok O (by omega) (m3.rev (Nat.le_refl _) m2) (fun i j hij hj => ?_) fun i hi => ?_
        · rw [g_rev (by omega), g_rev (by omega), if_pos (by omega), if_pos (by omega)]
          exact .inr ⟨all _ _ (by omega) (by omega), idx _ _ (by omega) (by omega)⟩
        · rw [g_rev (by omega), g_rev (by omega), if_neg (by omega), if_pos (by omega)]
          exact O.ltle hlt (le1 _ (by omega))
    · rw [if_neg hm1]
      obtain rfl : m = 1 := by omega
      refine descPart_ok O (by omega) m3 (fun i j hij hj => by omega) fun i hi => ?_
      obtain rfl : i = 0 := by omega
      exact hlt
theorem place_ok (O : Ord lt) {p : Array Nat} {k : Nat} (hk : k < N) (hp : Pm N p k) (ha : Asc lt p k) : ∀ (f l r : Nat), l ≤ r → r ≤ k → r - l ≤ f → (∀ i, i < l → lt (g p k) (g p i) = false) → (∀ i, r ≤ i → i < k → lt (g p k) (g p i) = true) →
    Good N lt (kas_place p k f l r) (fun l' => l' ≤ k ∧ (∀ i, i < l' → lt (g p k) (g p i) = false) ∧ ∀ i, l' ≤ i → i < k → lt (g p k) (g p i) = true)
  | 0, l, r, h1, h2, h3, hl, hr => ⟨by omega, hl, fun i h4 h5 => hr i (by omega) h5⟩
  | f + 1, l, r, h1, h2, h3, hl, hr => by
    show Good N lt (if l ≥ r then .ret l else .ask (p.getD k 0) (p.getD ((l + r) / 2) 0) fun c => if c = true then kas_place p k f l ((l + r) / 2) else kas_place p k f ((l + r) / 2 + 1) r) _
    by_cases hlr : l ≥ r
    · rw [if_pos hlr]
      exact ⟨by omega, hl, fun i h4 h5 => hr i (by omega) h5⟩
    · rw [if_neg hlr]
      have ek := hp.hi k (Nat.le_refl _) hk
      have em := hp.lo ((l + r) / 2) (by omega)
      refine ⟨by show g p k < N; omega, by show g p _ < N; omega, ?_⟩
      cases hc : lt (p.getD k 0) (p.getD ((l + r) / 2) 0) with
      | true =>
        try dsimp only
        rw [if_pos rfl]
        refine place_ok O hk hp ha f l ((l + r) / 2) (by omega) (by omega) (by omega) hl fun i h4 h5 => ?_
        rcases Nat.lt_or_ge ((l + r) / 2) i with h6 | h6
        · exact O.ltle hc ((ha _ i h6 h5).le O)
        · obtain rfl : i = (l + r) / 2 := by omega
          exact hc
      | false =>
        try dsimp only
        rw [if_neg (by simp)]
        refine place_ok O hk hp ha f ((l + r) / 2 + 1) r (by omega) h2 (by omega) (fun i h4 => ?_) hr
        rcases Nat.lt_or_ge i ((l + r) / 2) with h6 | h6
        · exact O.tr ((ha i _ h6 (by omega)).le O) hc
        · obtain rfl : i = (l + r) / 2 := by omega
          exact hc
theorem bin_ok (O : Ord lt) : ∀ (f : Nat) (p : Array Nat) (k : Nat), k + f = N → Pm N p k → Asc lt p k → Good N lt (kas_bin f p k) (fun p' => Pm N p' N ∧ Asc lt p' N)
  | 0, p, k, hk, hp, ha => by
    obtain rfl : k = N := by omega
    exact ⟨hp, ha⟩
  | f + 1, p, k, hk, hp, ha => by
    refine good_bind _ (good_mono (fun l h => ?_) _ (place_ok O (by omega) hp ha k 0 k (Nat.zero_le _) (Nat.le_refl _) (by omega) (fun i h => by omega) fun i h1 h2 => by omega))
    obtain ⟨hl, h1, h2⟩ := h
    have hsz := hp.sz
    have ek := hp.hi k (Nat.le_refl _) (by omega)
    have gb := fun i => g_bub (p := p) (k := k) (d := k - l) (by omega) (by omega) i
    have el : k - (k - l) = l := by omega
    rw [el] at gb
    refine bin_ok O f _ (k + 1) (by omega) ⟨by rw [bubble_size]; exact hsz, (bubble_perm _ _ _).trans hp.pm, fun i hi => ?_, fun i hi hi2 => ?_⟩ fun i j hij hj => ?_
    · rw [gb]
      split
      · omega
      · split
        · have := hp.lo (i - 1) (by omega); omega
        · have := hp.lo i (by omega); omega
    · rw [gb, if_neg (by omega), if_neg (by omega)]
      exact hp.hi i (by omega) hi2
    · rw [gb, gb]
      by_cases j1 : j = l
      · rw [if_pos j1, if_neg (by omega), if_neg (by omega)]
        have := hp.lo i (by omega)
        exact .inr ⟨h1 i (by omega), by omega⟩
      · rw [if_neg j1]
        by_cases i1 : i = l
        · rw [if_pos i1, if_pos (by omega)]
          exact .inl (h2 (j - 1) (by omega) (by omega))
        · rw [if_neg i1]
          by_cases j2 : l < j ∧ j ≤ k
          · rw [if_pos j2]
            split
            · exact ha _ _ (by omega) (by omega)
            · exact ha _ _ (by omega) (by omega)
          · rw [if_neg j2, if_neg (by omega)]
            exact ha i j hij (by omega)
theorem start_pm (N : Nat) : Pm N (List.toArray (List.range N)) 1 where
  sz := by simp
  pm := Array.Perm.refl _
  lo := fun i hi => by
    obtain rfl : i = 0 := by omega
    rw [g_eq]
    cases N with
    | zero => simp
    | succ m => simp
  hi := fun i _ hi => by rw [g_eq]; simp [hi]
theorem sort_ok (O : Ord lt) (h1 : 1 ≤ N) : Good N lt (kas_sort N) (fun p => Pm N p N ∧ Asc lt p N) := by
  refine good_bind _ (good_mono (fun r h => ?_) _ (count_ok O h1 (start_pm N)))
  obtain ⟨r1, r2, r3, r4⟩ := h
  by_cases hr : r.1 < N
  · rw [if_pos hr]
    have em : max r.1 1 = r.1 := by omega
    rw [em]
    exact bin_ok O _ _ _ (by omega) r3 r4
  · rw [if_neg hr]
    have e : r.1 = N := by omega
    rw [e] at r3 r4
    exact ⟨r3, r4⟩
theorem out_ok {p : Array Nat} (hp : Pm N p N) (ha : Asc lt p N) : p.toList.Perm (List.range N) ∧ p.toList.Pairwise (R lt) := by
  refine ⟨by simpa using Array.perm_iff_toList_perm.mp hp.pm, List.pairwise_iff_getElem.mpr fun i j hi hj hij => ?_⟩
  have hsz := hp.sz
  rw [Array.length_toList] at hi hj
  have := ha i j hij (by omega)
  simpa [g, Array.getD, hi, hj] using this
end
end Srt
set_option Elab.async false
set_option linter.all false
set_option maxRecDepth 100000
/-! sorted of a list of texts -/
namespace Srt
open PySem
def ltT (zs : List Str) (i j : Nat) : Bool := decide ((zs.getD i "").cps.toList < (zs.getD j "").cps.toList)
theorem ltT_ord (zs : List Str) : Ord (ltT zs) := by
  constructor
  · intro a b h
    have h := of_decide_eq_true h
    exact decide_eq_false fun h' => absurd (List.lt_trans h h') (List.lt_irrefl _)
  · intro a b c h1 h2
    have h1 := of_decide_eq_false h1
    have h2 := of_decide_eq_false h2
    exact decide_eq_false fun h => List.not_lt.mpr (List.le_trans (List.not_lt.mp h1) (List.not_lt.mp h2)) h
end Srt
namespace L2
open PySem PySem.Spec PySem.W PyProof.Rows
open Classical in
noncomputable def newsOf (base h : Heap) (L : Addr) : List (Addr × Obj) := (List.range h.objs.size).filterMap fun b => if b = L ∨ base.get? b ≠ none then none else (h.get? b).map fun o => (b, o)
theorem newsOf_news (base h : Heap) (L : Addr) : News base L h (newsOf base h L) := by
  intro p hp
  unfold newsOf at hp
  obtain ⟨b, _, e⟩ := List.mem_filterMap.mp hp
  split at e
  · cases e
  · rename_i hn
    obtain ⟨o, ho, rfl⟩ := Option.map_eq_some_iff.mp e
    exact ⟨ho, fun z => hn (.inl z), Classical.byContradiction fun z => hn (.inr z)⟩
theorem newsOf_mem {base h : Heap} {L b : Addr} {o : Obj} (e : h.get? b = some o) (hL : b ≠ L) (hb : base.get? b = none) : (b, o) ∈ newsOf base h L := by
  unfold newsOf
  refine List.mem_filterMap.mpr ⟨b, List.mem_range.mpr (Heap.lt_size e), ?_⟩
  rw [if_neg (by rintro (z | z); exact hL z; exact z hb), e]
  rfl
section
variable {X : Cx} {pins : List (Addr × Obj)} {σ : St} {H : Hp} {s : Shared}
/-- all objects but the frame's own stay, and its names stay -/
theorem Inv.ofFr {h' : Heap} {t' : Nat} {m : Str → Option Value} {more : List (Addr × Obj)} (I : Inv X pins σ H s) (hm : s.heap.Ns X.env.locals m) (F : Fr X.base X.env.locals h' m) (N : News X.base X.env.locals h' (more ++ newsOf X.base s.heap X.env.locals)) :
    (∀ b o, b ≠ X.env.locals → s.heap.get? b = some o → h'.get? b = some o) ∧ Inv X pins σ H { s with heap := h', toks := t' } := by
  have keep : ∀ b o, b ≠ X.env.locals → s.heap.get? b = some o → h'.get? b = some o := fun b o hb e => by
    cases q : X.base.get? b with
    | some o' =>
      have e1 := I.bk b o' q
      rw [e] at e1
      cases e1
      exact F.keep b o q
    | none => exact (N (b, o) (List.mem_append_right _ (newsOf_mem e hb q))).1
  have hL : ∃ o, s.heap.get? X.env.locals = some o := let ⟨o, _, _, e, _⟩ := hm; ⟨o, e⟩
  refine ⟨keep, I.step (g' := s.gens) (d' := s.drawn) (ch := []) (fun b hb => by simp at hb) (fun b o hb _ _ e _ => keep b o hb e) (fun b o hb _ _ e _ => ⟨o.slots, keep b o hb e⟩) (fun _ _ _ _ n => n) (fun b o _ e => ?_) (fun _ _ e => e) (fun _ _ _ e => e) (fun b ps e => ⟨#[], by rw [e]; simp⟩) (fun m' hm' => ?_) (fun b u e => ?_) I.bare⟩
  · by_cases hb : b = X.env.locals
    · obtain ⟨o', _, _, e', _⟩ := F.ns
      exact ⟨o', by rw [hb]; exact e'⟩
    · exact ⟨o, keep b o hb e⟩
  · have em : m' = m := by
      funext y
      obtain ⟨o, es, ep, ho, hd, hk, hf⟩ := hm
      obtain ⟨o', es', ep', ho', hd', hk', hf'⟩ := hm'
      rw [ho] at ho'; cases ho'
      rw [hd] at hd'; cases hd'
      rw [← hf y, ← hf' y]
    rw [em]; exact F.ns
  · refine (I.hok b u e).stay (fun c v hc q => keep c v ?_ q) (fun _ q => q) fun _ _ q => q
    rintro rfl
    rcases hc with rfl | hc
    · rw [I.free] at e; cases e
    · rw [I.free] at hc; cases hc
theorem Inv.trackG {a : Addr} {o : HO} {ob : Obj} (I : Inv X pins σ H s) (he : s.heap.get? a = some ob) (nL : X.env.locals ≠ a) (nd : ∀ v, ob.data ≠ .cell v) (hn : H a = none) (x0 : X.s₀.heap.get? a = none) (xp : ∀ p ∈ X.pn ++ pins, p.1 ≠ a) (new : ObjOk X.prog X.w (upd H a o) s.heap a o) : Inv X pins σ (upd H a o) s := by
  have na : ∀ {b u}, H b = some u → b ≠ a := fun {b u} e z => by rw [z, hn] at e; cases e
  refine ⟨I.ok, I.os, I.bare, ⟨I.base.keep, I.base.slot, fun b o e n hx => ?_, I.base.there, fun b xs e => ?_, fun b o u e => ?_, fun b ps e => ?_⟩, I.loc, I.cell, ?_, fun y c e => ?_, fun p hp => ?_, fun b ob' e => ?_, I.len⟩
  · rw [upd_ne (fun z => by rw [z, x0] at e; cases e)]; exact I.base.free b o e n hx
  · have e1 := I.base.tups b xs e
    rw [upd_ne (na e1)]; exact e1
  · have e1 := I.base.frzs b o u e
    rw [upd_ne (na e1)]; exact e1
  · obtain ⟨m, e1⟩ := I.base.tbls b ps e
    exact ⟨m, by rw [upd_ne (na e1)]; exact e1⟩
  · rw [upd_ne nL]; exact I.free
  · have nc : c ≠ a := fun z => by
      obtain ⟨v, o, ho, hdd⟩ := I.cell y c e
      rw [z, he] at ho; cases ho; exact nd _ hdd
    rw [upd_ne nc]; exact I.freeC y c e
  · obtain ⟨e1, e2, e3⟩ := I.pin p hp
    exact ⟨e1, by rw [upd_ne (xp p hp)]; exact e2, e3⟩
  · by_cases hb : b = a
    · subst hb
      rw [upd_same] at e
      cases e
      exact new
    · rw [upd_ne hb] at e
      refine (I.hok b ob' e).stay (fun c u _ q => q) (fun c q => ?_) fun c xs q => ?_
      · rw [upd_ne (na q)]; exact q
      · rw [upd_ne (na q)]; exact q
theorem str_at {zs : List Str} {us : List Value} (h : Vals (zs.map V.str) us) {i : Nat} (hi : i < zs.length) : ∃ t, us.getD i Value.none = .str (zs.getD i "") t := by
  obtain ⟨u, hu, r⟩ := h.get (i := i) (x := .str zs[i]) (by rw [List.getElem?_map, List.getElem?_eq_getElem hi]; rfl)
  obtain ⟨t, e⟩ := (show ∃ t, u = Value.str zs[i] t from r)
  refine ⟨t, ?_⟩
  rw [List.getD_eq_getElem?_getD, hu, List.getD_eq_getElem?_getD, List.getElem?_eq_getElem hi]
  exact e
end
end L2
set_option Elab.async false
set_option linter.all false
set_option maxRecDepth 100000
/-! sorted of a set of texts -/
namespace L2
open PySem PySem.Spec PySem.W PyProof.Rows
theorem keys_strs {P : Program} {w : World} : ∀ {zs : List Str} {el : List (Int × Value)}, Paired (fun (k : Key) (e : Int × Value) => (mixKind P w).is k e.2 = true ∧ e.1 = (mixKind P w).hash k) (zs.map Sum.inr) el → Vals (zs.map V.str) (el.map (·.2))
  | [], _, .nil => .nil
  | z :: zs, _, .cons r t => by
    obtain ⟨r, _⟩ := r
    rcases keyIs_shape (show keyIs (Sum.inr z) _ = true from r) with ⟨i, tk, e1, e2⟩ | ⟨x, tk, e1, e2⟩
    · cases e1
    · cases e1
      rw [List.map_cons, List.map_cons, e2]
      exact .cons ⟨tk, rfl⟩ (keys_strs t)
def txOf : Value → Str
  | .str z _ => z
  | _ => ""
theorem vals_tx : ∀ {zs : List Str} {us : List Value}, Vals (zs.map V.str) us → us.map txOf = zs ∧ ∀ u ∈ us, ∃ t, u = .str (txOf u) t
  | [], us, h => by cases h; exact ⟨rfl, fun _ z => nomatch z⟩
  | z :: r, us, h => by
    cases h with
    | cons a b =>
      obtain ⟨t, rfl⟩ := a
      obtain ⟨e1, e2⟩ := vals_tx b
      refine ⟨by rw [List.map_cons, e1]; rfl, fun u hu => ?_⟩
      rcases List.mem_cons.mp hu with e | hu
      · rw [e]; exact ⟨t, rfl⟩
      · exact e2 u hu
theorem tx_vals : ∀ {us : List Value}, (∀ u ∈ us, ∃ t, u = .str (txOf u) t) → Vals ((us.map txOf).map V.str) us
  | [], _ => .nil
  | u :: r, h => by
    obtain ⟨t, e⟩ := h u List.mem_cons_self
    exact .cons ⟨t, e⟩ (tx_vals fun v hv => h v (List.mem_cons_of_mem _ hv))
theorem strs_perm {us vs : List Value} (p : us.Perm vs) {zs : List Str} (h : Vals (zs.map V.str) vs) : ∃ ys : List Str, Vals (ys.map V.str) us ∧ ys.Perm zs := by
  obtain ⟨e1, e2⟩ := vals_tx h
  exact ⟨us.map txOf, tx_vals fun u hu => e2 u (p.mem_iff.mp hu), by rw [← e1]; exact p.map _⟩
section
variable {X : Cx}
end
end L2
set_option Elab.async false
set_option linter.all false
set_option maxRecDepth 100000
/-! sorted of a list of one thing, or none -/
namespace L2
open PySem PySem.Spec PyProof.Rows
section
variable {prog : Program} {w : World} {A : Around} {E : Value → Shared → Prop} {s : Shared}
theorem sort_small {a : Addr} {vs : List Value} {n : Nat} {P : PySem.Fin → Shared → Prop} (ho : s.heap.get? a = some (seqObj "list" vs.toArray n)) (h2 : vs.length < 2) (h : P (.done (.ret .none)) { s with heap := sortedHeap s.heap a vs vs.toArray }) : wpAny (model prog w) A (Builtin.«list.sort» ⟨[.ref a], []⟩) P E s := by
  rw [list_sort_plain]
  have ha := Heap.lt_size ho
  have hz : vs.length ≤ sizeLine := by rw [sizeLine_eq]; omega
  refine wpAny_bind (listItems_at ho rfl (wpAny_bind (listUpdate_at ho rfl ?_ (by rw [List.size_toArray]; exact hz) (Nat.zero_le _))))
  obtain ⟨e1, ho1⟩ : ∃ e1, (s.heap.update a (Obj.mapSeq fun _ => (#[] : Array Value))).get? a = some (seqObj "list" #[] e1) := ⟨_, get?_update_seq ho fun _ => #[]⟩
  refine wpAny_bind (seqEpoch_at ho1 rfl (wpAny_bind (wpAny_newTuple (wpAny_bind (wpAny_newList (wpAny_holding ?_) (Nat.zero_le _))) hz)))
  have ho6 : (((s.heap.update a (Obj.mapSeq fun _ => (#[] : Array Value))).push (seqObj "tuple" vs.toArray 0)).push (seqObj "list" #[] 0)).get? a = some (seqObj "list" #[] e1) := Heap.get?_push_of_some _ (Heap.get?_push_of_some _ ho1)
  show wpAny (model prog w) A _ P E { s with heap := ((s.heap.update a (Obj.mapSeq fun _ => (#[] : Array Value))).push (seqObj "tuple" vs.toArray 0)).push (seqObj "list" #[] 0) }
  dsimp only
  have hs2 : vs.toArray.size < 2 := by rw [List.size_toArray]; exact h2
  rw [if_pos hs2, if_pos hs2]
  refine wpAny_bind (wpAny_pure ?_)
  rw [StateT.run_pure]
  refine wpAny_bind (wpAny_pure ?_)
  dsimp only
  have eo : (arrOf (SortSt.mk' general' (vs.toArray.zip vs.toArray) #[] 7 none)).map (·.2) = vs.toArray := by
    show (vs.toArray.zip vs.toArray).map (·.2) = vs.toArray
    refine Array.ext (by simp) fun i h1 h2 => by simp
  refine wpAny_bind (seqEpoch_at ho6 rfl (wpAny_bind (listUpdate_at ho6 rfl ?_ (Nat.zero_le _) (by rw [eo, List.size_toArray]; omega))))
  rw [eo]
  simp only [bne_self_eq_false, Bool.false_eq_true, if_false]
  exact wpAny_pure h
end
section
variable {X : Cx}
end
end L2
set_option Elab.async false
set_option linter.all false
set_option maxRecDepth 100000
/-! sorted(list, key = a def of the text) over the hand layer. -/
namespace L2
open PySem PySem.Spec PyProof.Rows
/-- within a builtin that a builtin calls, where nothing may be raised -/
def inn (X : Cx) : Cx := { X with A := X.A.in1.in1, xe := fun _ _ => False }
section
variable {X : Cx} {pins : List (Addr × Obj)} {σ : St} {H : Hp} {s : Shared}
theorem Inv.inn (I : Inv X pins σ H s) : Inv (inn X) pins σ H s :=
  ⟨⟨I.ok.mod, I.ok.kind, I.ok.glob, I.ok.blt, I.ok.above, I.ok.inj, I.ok.has, I.ok.cab, I.ok.hd, I.ok.frames, I.ok.stk, I.ok.exf, I.ok.bs, I.ok.bsz, I.ok.noex, I.ok.exfs, I.ok.funs, I.ok.frf⟩, I.os, I.bare, I.base, I.loc, I.cell, I.free, I.freeC, I.pin, I.hok, I.len⟩
theorem Inv.out (ok : X.Ok) (I : Inv (L2.inn X) pins σ H s) : Inv X pins σ H s :=
  ⟨ok, I.os, I.bare, I.base, I.loc, I.cell, I.free, I.freeC, I.pin, I.hok, I.len⟩
/-- an untracked list of ours is tracked from now on -/
theorem Inv.track {D : Addr} {ys : List V} {its : List Value} {n : Nat} (I : Inv X pins σ H s) (f : FpOk X pins H D) (hg : s.heap.get? D = some { cls := .type "list", data := .seq its.toArray n }) (hv : Vals ys its) (hz : ys.length ≤ sizeLine) : Inv X pins σ (upd H D (.lst ys)) s := by
  obtain ⟨f1, f2, f3, f4, f5, f6⟩ := f
  have nD : ∀ b u, H b = some u → b ≠ D := fun b u e z => by rw [z, f1] at e; cases e
  have J := I.step (h' := s.heap) (g' := s.gens) (t' := s.toks) (d' := s.drawn) (ch := [D]) (H' := upd H D (.lst ys)) (fun b hb => by
      have e : b = D := by simpa using hb
      subst e
      exact ⟨f4, f2, f5, f6⟩)
    (fun b o _ _ _ e _ => e) (fun b o _ _ _ e _ => ⟨o.slots, e⟩) (fun b o hc e n => by rw [upd_ne (by simpa using hc)]; exact n) (fun b o _ e => ⟨o, e⟩)
    (fun b xs e => by rw [upd_ne (nD _ _ e)]; exact e) (fun b o u e => by rw [upd_ne (nD _ _ e)]; exact e) (fun b ps e => ⟨#[], by rw [upd_ne (nD _ _ e), e]; simp⟩) (fun m hm => hm) (fun b u e => by
      by_cases hb : b = D
      · subst hb
        rw [upd_same] at e
        cases e
        exact ⟨hz, its, n, hv, hg⟩
      · rw [upd_ne hb] at e
        exact (I.hok b u e).stay (fun _ _ _ q => q) (fun c q => by rw [upd_ne (nD _ _ q)]; exact q) fun c xs q => by rw [upd_ne (nD _ _ q)]; exact q) I.bare
  exact J
theorem FpOk.pinned {b : Addr} {pl : List (Addr × Obj)} (f : FpOk X pins H b) (h : ∀ p ∈ pl, p.1 ≠ b) : FpOk X (pins ++ pl) H b := by
  obtain ⟨f1, f2, f3, f4, f5, f6⟩ := f
  refine ⟨f1, f2, f3, f4, f5, fun p hp => ?_⟩
  rcases List.mem_append.mp hp with hp | hp
  · exact f6 p (List.mem_append_left _ hp)
  · rcases List.mem_append.mp hp with hp | hp
    · exact f6 p (List.mem_append_right _ hp)
    · exact h p hp
theorem FpOk.on {b : Addr} {H' : Hp} (f : FpOk X pins H b) (h : H' b = none) : FpOk X pins H' b := ⟨h, f.2⟩
/-- a list of ours, untracked, is written -/
theorem Inv.wr {b : Addr} {h' : Heap} {t' : Nat} (I : Inv X pins σ H s) (f : FpOk X pins H b) (k : ∀ c o, c ≠ b → s.heap.get? c = some o → h'.get? c = some o) : Inv X pins σ H { s with heap := h', toks := t' } :=
  I.turned k f.1 f.2.1 f.2.2.2.1 f.2.2.2.2.1 f.2.2.2.2.2
theorem upd_keeps {h : Heap} {b : Addr} {f : Obj → Obj} : ∀ c o, c ≠ b → h.get? c = some o → (h.update b f).get? c = some o := fun c o hc e => by
  rw [Heap.get?_update_ne _ _ _ _ hc]
  exact e
end
/-- what two lists of ours, the keys and the sorted ones, are: pinned behind the rest -/
abbrev kd (pins : List (Addr × Obj)) (kS D : Addr) (ks : List Value) (e e1 : Nat) : List (Addr × Obj) := pins ++ [(kS, seqObj "list" ks.toArray e), (D, seqObj "list" #[] e1)]
section
variable {X : Cx} {pins : List (Addr × Obj)} {σ : St} {H : Hp} {s : Shared} {kS D : Addr} {its : List Value} {xs : List V} {f : Value} {Q : VK}
/-- how the keys are asked -/
structure Asks (X : Cx) (n : Nat) (ks : List Value) (s : Shared) (κ : SortKind) (lt : Nat → Nat → Bool) : Prop where
  ord : Srt.Ord lt
  kind : 2 ≤ n → ∀ Q : SortKind → Shared → Prop, Q κ s → wpAny (model X.prog X.w) X.A.in1.in1 (keyKind' ks.toArray) Q (fun _ _ => False) s
  ask : ∀ i j (C : Bool → Shared → Prop), i < n → j < n → C (lt i j) s → PySem.W.kas_ask X.prog X.w X.A.in1.in1 κ ks i j C s
/-- what is wanted behind the keys -/
def SEnd (X : Cx) (xs : List V) (Q : VK) (J : Nat → Hp → List Value → Prop) : Prop := ∀ (pins : List (Addr × Obj)) (σ : St) (H : Hp) (s : Shared) (ks : List Value), J xs.length H ks → ks.length = xs.length → Inv (inn X) pins σ H s → ∃ κ lt, Asks X xs.length ks s κ lt ∧
  ∀ p : List Nat, p.Perm (List.range xs.length) → p.Pairwise (Srt.R lt) → ∀ D, H D = none → Q (.ref D) (upd H D (.lst (p.map fun i => xs.getD i .non)))
theorem vals_pick {xs : List V} {its : List Value} (r : Vals xs its) : ∀ (p : List Nat), (∀ i ∈ p, i < xs.length) → Vals (p.map fun i => xs.getD i .non) (p.map fun i => its.getD i Value.none)
  | [], _ => .nil
  | i :: p, h => by
    have hi := h i List.mem_cons_self
    refine .cons ?_ (vals_pick r p fun j hj => h j (List.mem_cons_of_mem _ hj))
    obtain ⟨u, e, ru⟩ := r.get (List.getElem?_eq_getElem hi)
    show RelV (xs.getD i .non) (its.getD i Value.none)
    rw [List.getD_eq_getElem?_getD, List.getD_eq_getElem?_getD, e, List.getElem?_eq_getElem hi]
    exact ru
theorem sort_tail {out : List Value} {ys : List V} {ks : List Value} {e e1 : Nat} {st : SortSt} {E : Value → Shared → Prop} (ok : X.Ok) (I : Inv (inn X) (kd pins kS D ks e e1) σ H s) (fk : FpOk (inn X) pins H kS) (fD : FpOk (inn X) pins H D) (hne : kS ≠ D) (hz : out.length < 64) (hkz : ks.length < 64)
    (hout : (arrOf st).map (·.2) = List.toArray out) (hf : failedOf st = none) (hv : Vals ys out) (q : Q (.ref D) (upd H D (.lst ys))) :
    wpAny (model X.prog X.w) X.A.in1.in1 (ksk_tail D false e1 (.ref kS) st) (fun fin s' => fin = .done (.ret .none) ∧ EP X pins σ Q (.ref D) s') E s := by
  have pk := I.pin (kS, seqObj "list" ks.toArray e) (by simp)
  have pD := I.pin (D, seqObj "list" #[] e1) (by simp)
  have I0 : Inv (inn X) pins σ H s := I.pins_of fun p hp => I.pin p (List.mem_append_right _ (List.mem_append_left _ hp))
  unfold ksk_tail
  try dsimp only
  rw [hout]
  refine wpAny_bind (listUpdate_at pk.1 rfl ?_ (by rw [List.size_toArray, sizeLine_eq]; omega) (Nat.zero_le _))
  refine wpAny_bind (wpAny_letGo ?_)
  have gD : (s.heap.update kS (Obj.mapSeq fun _ => (#[] : Array Value))).get? D = some (seqObj "list" #[] e1) := upd_keeps D _ (Ne.symm hne) pD.1
  refine wpAny_bind (seqEpoch_at gD rfl ?_)
  refine wpAny_bind (listUpdate_at gD rfl ?_ (Nat.zero_le _) (by simp only [Bool.false_eq_true, if_false]; rw [List.size_toArray, sizeLine_eq]; omega))
  rw [hf]
  simp only [bne_self_eq_false, Bool.false_eq_true, if_false]
  have I1 := I0.wr (t' := s.toks) fk (h' := s.heap.update kS (Obj.mapSeq fun _ => (#[] : Array Value))) upd_keeps
  have I2 := I1.wr (t' := s.toks) fD (h' := (s.heap.update kS (Obj.mapSeq fun _ => (#[] : Array Value))).update D (Obj.mapSeq fun _ => List.toArray out)) upd_keeps
  obtain ⟨c2, hc2⟩ : ∃ c2, ((s.heap.update kS (Obj.mapSeq fun _ => (#[] : Array Value))).update D (Obj.mapSeq fun _ => List.toArray out)).get? D = some (seqObj "list" (List.toArray out) c2) := ⟨_, get?_update_seq gD fun _ => List.toArray out⟩
  have I3 := I2.track (ys := ys) (its := out) (n := c2) fD hc2 hv (by rw [hv.length, sizeLine_eq]; omega)
  exact wpAny_pure ⟨rfl, .ref D, _, Inv.out ok I3, rfl, q⟩
theorem sort_end {J : Nat → Hp → List Value → Prop} {ks : List Value} {e e1 : Nat} {E : Value → Shared → Prop} (ok : X.Ok) (I : Inv (inn X) (kd pins kS D ks e e1) σ H s) (fk : FpOk (inn X) pins H kS) (fD : FpOk (inn X) pins H D) (hne : kS ≠ D) (h64 : its.length < 64)
    (rv : Vals xs its) (hk : ks.length = xs.length) (hJ : J xs.length H ks) (h : SEnd X xs Q J) :
    wpAny (model X.prog X.w) X.A.in1.in1 (ksk_end D false its.toArray e1 (.ref kS) ks.toArray) (fun fin s' => fin = .done (.ret .none) ∧ EP X pins σ Q (.ref D) s') E s := by
  have hl := rv.length
  obtain ⟨κ, lt, ha, q⟩ := h _ _ _ _ ks hJ hk I
  unfold ksk_end
  try dsimp only
  simp only [Bool.false_eq_true, if_false]
  by_cases h2 : its.toArray.size < 2
  · rw [if_pos h2, if_pos h2]
    refine wpAny_bind (wpAny_pure ?_)
    rw [StateT.run_pure]
    refine wpAny_bind (wpAny_pure ?_)
    try dsimp only
    rw [List.size_toArray] at h2
    have ep : (List.range xs.length).map (fun i => xs.getD i .non) = xs := by
      refine List.ext_getElem (by simp) fun i h1 h2 => ?_
      simp at h1
      simp [h1]
    have q0 := q (List.range xs.length) (List.Perm.refl _) (by
      rcases Nat.lt_or_ge xs.length 1 with z | z
      · rw [show xs.length = 0 by omega]; exact List.Pairwise.nil
      · rw [show xs.length = 1 by omega]; exact List.pairwise_singleton _ _) D fD.1
    rw [ep] at q0
    refine sort_tail (st := SortSt.mk' general' (ks.toArray.zip its.toArray) #[] 7 none) ok I fk fD hne h64 (by omega) ?_ rfl rv q0
    show (ks.toArray.zip its.toArray).map (·.2) = its.toArray
    apply Array.toList_inj.mp
    rw [Array.toList_map, ksk_zip]
    simp only [List.toList_toArray]
    exact List.map_snd_zip (by omega)
  · rw [if_neg h2, if_neg h2]
    rw [List.size_toArray] at h2
    refine wpAny_bind (wpAny_mono (ha.kind (by omega) (fun κ' s' => κ' = κ ∧ s' = s) ⟨rfl, rfl⟩) (fun κ' s' hκ => ?_) fun _ _ x => x.elim)
    obtain ⟨rfl, rfl⟩ := hκ
    have so := Srt.good_wp (Q := fun p s'' => s'' = s' ∧ Srt.Pm its.length p its.length ∧ Srt.Asc lt p its.length) (s := s') (cmp := PySem.W.kas_ask X.prog X.w X.A.in1.in1 κ' ks) (fun i j C hi hj hC => ha.ask i j C (by omega) (by omega) hC)
      (PySem.W.kas_sort its.length) (Srt.good_mono (fun p hp => ⟨rfl, hp⟩) _ (Srt.sort_ok ha.ord (by omega)))
    refine wpAny_bind (wpAny_mono (PySem.W.kat_run (Q := fun st' s'' => ∃ p : Array Nat, arrOf st' = p.map (PySem.W.kas_item (ks.toArray.zip its.toArray)) ∧ failedOf st' = none ∧ s'' = s' ∧ Srt.Pm its.length p its.length ∧ Srt.Asc lt p its.length)
      (by omega) (by omega) h64 (fun p' st' s'' a1 a2 a3 a4 => ⟨p', a2, a3, a4⟩) so) ?_ fun _ _ x => x)
    rintro ⟨⟨⟩, st'⟩ s'' ⟨p, har, hf, rfl, hp, hasc⟩
    try dsimp only
    obtain ⟨o1, o2⟩ := Srt.out_ok hp hasc
    rw [← hl] at o1
    have hlt : ∀ i ∈ p.toList, i < xs.length := fun i hi => List.mem_range.mp (o1.mem_iff.mp hi)
    refine sort_tail (out := p.toList.map fun i => its.getD i Value.none) (ys := p.toList.map fun i => xs.getD i .non) ok I fk fD hne ?_ (by omega) (PySem.W.kat_snds (by omega) har) hf (vals_pick rv _ hlt) (q _ o1 o2 D fD.1)
    rw [List.length_map, Array.length_toList, hp.sz]
    exact h64
/-- the keys, one by one -/
theorem sort_rest {J : Nat → Hp → List Value → Prop} {e1 : Nat} {E : Value → Shared → Prop} (ok : X.Ok) (I : Inv (inn X) (kd pins kS D [] 0 e1) σ H s) (fk : FpOk (inn X) pins H kS) (fD : FpOk (inn X) pins H D) (hne : kS ≠ D) (h64 : its.length < 64)
    (rv : Vals xs its) (hJ : J 0 H []) (turn : ∀ (i : Nat) (x : V) (v : Value) (pins : List (Addr × Obj)) (σ : St) (H : Hp) (s : Shared) (ks : List Value), xs[i]? = some x → RelV x v → J i H ks → ks.length = i → Inv (inn X) pins σ H s →
      wpAny (model X.prog X.w) X.A.in1.in1 (call f [v]) (fun u s2 => ∃ H2, Inv (inn X) pins σ H2 s2 ∧ J (i + 1) H2 (ks ++ [u])) (fun _ _ => False) s) (h : SEnd X xs Q J) :
    wpAny (model X.prog X.w) X.A.in1.in1 (ksk_rest D f false its.toArray e1 (.ref kS)) (fun fin s' => fin = .done (.ret .none) ∧ EP X pins σ Q (.ref D) s') E s := by
  have hl := rv.length
  unfold ksk_rest
  refine wpAny_bind (wpAny_rule ?_)
  rw [List.forIn_toArray]
  refine wpAny_bind (ksk_fold (fun i s' => ∃ H' ks e, J i H' ks ∧ ks.length = i ∧ Inv (inn X) (kd pins kS D ks e e1) σ H' s') its 0 s ⟨H, [], 0, hJ, rfl, I⟩ ?step ?done)
  case step =>
    rintro j v s' hv ⟨H', ks, e, hJ', hk, I'⟩
    simp only [Nat.zero_add] at hJ' hk ⊢
    have hj : j < its.length := (List.getElem?_eq_some_iff.mp hv).1
    have hx : xs[j]? = some (xs[j]'(by omega)) := List.getElem?_eq_getElem _
    obtain ⟨u, eu, ru⟩ := rv.get hx
    rw [hv] at eu
    cases eu
    refine wpAny_bind (wpAny_attempt (wpAny_mono (turn j _ v _ _ _ _ ks hx ru hJ' hk I') (fun u s2 hu => ?_) fun _ _ hF => hF.elim))
    obtain ⟨H2, I2, J2⟩ := hu
    try dsimp only
    have pk := I2.pin (kS, seqObj "list" ks.toArray e) (by simp)
    have pD := I2.pin (D, seqObj "list" #[] e1) (by simp)
    have I3 : Inv (inn X) (pins ++ [(D, seqObj "list" #[] e1)]) σ H2 s2 := I2.pins_of fun p hp => I2.pin p (by
      refine List.mem_append_right _ ?_
      rcases List.mem_append.mp hp with z | z
      · exact List.mem_append_left _ z
      · exact List.mem_append_right _ (.tail _ z))
    refine wpAny_bind (listUpdate_at pk.1 rfl ?_ (by rw [List.size_toArray, sizeLine_eq]; omega) (Nat.le_trans (Nat.le_of_eq (Array.size_push ..)) (by rw [List.size_toArray, sizeLine_eq]; omega)))
    have ea : (List.toArray ks).push u = List.toArray (ks ++ [u]) := by simp
    obtain ⟨c2, hc2⟩ : ∃ c2, (s2.heap.update kS (Obj.mapSeq (·.push u))).get? kS = some (seqObj "list" (List.toArray (ks ++ [u])) c2) := ⟨_, by rw [← ea]; exact get?_update_seq pk.1 (·.push u)⟩
    have I4 := I3.wr (t' := s2.toks) ((fk.on pk.2.1).pinned fun p hp => by rw [List.mem_singleton.mp hp]; exact Ne.symm hne) (h' := s2.heap.update kS (Obj.mapSeq (·.push u))) upd_keeps
    refine wpAny_pure ⟨rfl, H2, ks ++ [u], c2, J2, by rw [List.length_append, List.length_singleton, hk], I4.pins_of fun p hp => ?_⟩
    rcases List.mem_append.mp hp with z | z
    · exact I4.pin p (List.mem_append_right _ (List.mem_append_left _ z))
    · rcases List.mem_cons.mp z with rfl | z
      · exact ⟨hc2, pk.2.1, pk.2.2.1, pk.2.2.2.1, fun v e => nomatch e⟩
      · exact I4.pin p (List.mem_append_right _ (List.mem_append_right _ z))
  case done =>
    rintro s' ⟨H', ks, e, hJ', hk, I'⟩
    rw [Nat.zero_add, ← hl] at hJ' hk
    have pk := I'.pin (kS, seqObj "list" ks.toArray e) (by simp)
    have pD := I'.pin (D, seqObj "list" #[] e1) (by simp)
    try dsimp only
    refine wpAny_bind (listItems_at pk.1 rfl ?_)
    exact sort_end ok I' (fk.on pk.2.1) (fD.on pD.2.1) hne h64 rv hk hJ' h
/-- sorted(l, key = f) -/
theorem sort_call {J : Nat → Hp → List Value → Prop} {l q : Addr} (I : Inv X pins σ H s) (hl : SqL X.K H l xs) (h64 : xs.length < 64)
    (hJ : J 0 H []) (turn : ∀ (i : Nat) (x : V) (v : Value) (pins : List (Addr × Obj)) (σ : St) (H : Hp) (s : Shared) (ks : List Value), xs[i]? = some x → RelV x v → J i H ks → ks.length = i → Inv (inn X) pins σ H s →
      wpAny (model X.prog X.w) X.A.in1.in1 (call (.ref q) [v]) (fun u s2 => ∃ H2, Inv (inn X) pins σ H2 s2 ∧ J (i + 1) H2 (ks ++ [u])) (fun _ _ => False) s) (h : SEnd X xs Q J) :
    wpAny (model X.prog X.w) X.A (call (.builtin "sorted") [.ref l] [(Str.ofString "key", .ref q)]) (EP X pins σ Q) X.xe s := by
  obtain ⟨its, rv, hIl, hzl⟩ := I.list hl
  have hlen := rv.length
  have h64' : its.length < 64 := by omega
  refine call_function_entry_kw kind_sorted plain_sorted entry_sorted (ksk_s1 _ _) ?_
  unfold Builtin.«sorted»
  refine wpAny_bind (m := checkCount "sorted" 1 1 _) (wpAny_pure ?_)
  refine wpAny_bind (collect_list hIl.isList ?_ (by rw [sizeLine_eq]; omega))
  refine wpAny_bind (wpAny_newList ?_ (by rw [sizeLine_eq]; omega))
  have hsz : ((s.heap.push (seqObj "list" #[] 0)).update s.heap.objs.size (Obj.mapSeq (· ++ its.toArray))).objs.size = s.heap.objs.size + 1 := by
    rw [Heap.size_update, size_push']
  have hoL : (((s.heap.push (seqObj "list" #[] 0)).update s.heap.objs.size (Obj.mapSeq (· ++ its.toArray))).push (seqObj "list" its.toArray 0)).get? (s.heap.objs.size + 1) = some (seqObj "list" its.toArray 0) := by
    rw [← hsz]; exact Heap.get?_push_size _ rfl
  have keep : ∀ b o, s.heap.get? b = some o → (((s.heap.push (seqObj "list" #[] 0)).update s.heap.objs.size (Obj.mapSeq (· ++ its.toArray))).push (seqObj "list" its.toArray 0)).get? b = some o := fun b o q => by
    have hlt : b < s.heap.objs.size := Heap.lt_size q
    rw [Heap.get?_push_ne _ _ _ (by rw [hsz]; exact Nat.ne_of_lt (Nat.lt_succ_of_lt hlt)), Heap.get?_update_ne _ _ _ _ (Nat.ne_of_lt hlt), Heap.get?_push_ne _ _ _ (Nat.ne_of_lt hlt)]
    exact q
  show wpAny _ _ _ _ _ { s with heap := ((s.heap.push (seqObj "list" #[] 0)).update s.heap.objs.size (Obj.mapSeq (· ++ its.toArray))).push (seqObj "list" its.toArray 0) }
  rw [hsz]
  have fD : FpOk (inn X) pins H (s.heap.objs.size + 1) := I.inn.fpOk (Nat.le_succ _) (I.hok.fresh (Nat.le_succ _))
  have I1 := I.inn.kept (t' := s.toks) keep
  refine wpAny_bind (wpAny_holding (wpAny_call_entry_kw slot_list_sort ⟨_, hoL, rfl⟩ entry_list_sort ?body (ksk_l1 _ _)))
  case body =>
    show wpAny (model X.prog X.w) X.A.in1.in1 (Builtin.«list.sort» ⟨[.ref (s.heap.objs.size + 1)], _⟩) _ _ _
    rw [ksk_t1]
    unfold ksk_tree
    refine wpAny_bind (listItems_at hoL rfl ?_)
    refine wpAny_bind (listUpdate_at hoL rfl ?_ (by rw [List.size_toArray, sizeLine_eq]; omega) (Nat.zero_le _))
    obtain ⟨e1, ho1⟩ : ∃ e1, ((((s.heap.push (seqObj "list" #[] 0)).update s.heap.objs.size (Obj.mapSeq (· ++ its.toArray))).push (seqObj "list" its.toArray 0)).update (s.heap.objs.size + 1) (Obj.mapSeq fun _ => (#[] : Array Value))).get? (s.heap.objs.size + 1) = some (seqObj "list" #[] e1) := ⟨_, get?_update_seq hoL fun _ => #[]⟩
    have I2 := I1.wr (t' := s.toks) fD (h' := (((s.heap.push (seqObj "list" #[] 0)).update s.heap.objs.size (Obj.mapSeq (· ++ its.toArray))).push (seqObj "list" its.toArray 0)).update (s.heap.objs.size + 1) (Obj.mapSeq fun _ => (#[] : Array Value))) upd_keeps
    generalize hh : (((s.heap.push (seqObj "list" #[] 0)).update s.heap.objs.size (Obj.mapSeq (· ++ its.toArray))).push (seqObj "list" its.toArray 0)).update (s.heap.objs.size + 1) (Obj.mapSeq fun _ => (#[] : Array Value)) = h2 at *
    refine wpAny_bind (seqEpoch_at ho1 rfl ?_)
    refine wpAny_bind (wpAny_newTuple ?_ (by show its.length ≤ _; rw [sizeLine_eq]; omega))
    refine wpAny_bind (wpAny_newList ?_ (Nat.zero_le _))
    refine wpAny_holding ?_
    have hlt : s.heap.objs.size + 1 < h2.objs.size := Heap.lt_size ho1
    have k3 : ∀ b o, h2.get? b = some o → ((h2.push (seqObj "tuple" its.toArray 0)).push (seqObj "list" #[] 0)).get? b = some o := fun b o q => Heap.get?_push_of_some _ (Heap.get?_push_of_some _ q)
    have I3 := I2.kept (t' := s.toks) (h' := (h2.push (seqObj "tuple" its.toArray 0)).push (seqObj "list" #[] 0)) k3
    have hkS : (h2.push (seqObj "tuple" its.toArray 0)).objs.size = h2.objs.size + 1 := size_push' _ _
    have fk : FpOk (inn X) pins H (h2.push (seqObj "tuple" its.toArray 0)).objs.size := I2.fpOk (by show h2.objs.size ≤ _; rw [hkS]; exact Nat.le_succ _) (I2.hok.fresh (by show h2.objs.size ≤ _; rw [hkS]; exact Nat.le_succ _))
    refine wpAny_mono (sort_rest (s := { s with heap := (h2.push (seqObj "tuple" its.toArray 0)).push (seqObj "list" #[] 0) }) (kS := (h2.push (seqObj "tuple" its.toArray 0)).objs.size) (D := s.heap.objs.size + 1) (σ := σ) (e1 := e1) (f := .ref q) I.ok ?_ fk fD (Nat.ne_of_gt (by rw [hkS]; omega)) h64' rv hJ turn h) (fun fin s' hq => ?_) fun _ _ x => x
    · refine I3.pins_of fun p hp => ?_
      rcases List.mem_append.mp hp with z | z
      · exact I3.pin p (List.mem_append_right _ z)
      · rcases List.mem_cons.mp z with rfl | z
        · exact ⟨Heap.get?_push_size _ rfl, fk.1, fk.2.1, fk.2.2.1, fun v e => nomatch e⟩
        · rw [List.mem_singleton.mp z]
          exact ⟨k3 _ _ ho1, fD.1, fD.2.1, fD.2.2.1, fun v e => nomatch e⟩
    · obtain ⟨rfl, hq⟩ := hq
      exact ⟨_, rfl, wpAny_pure ⟨_, rfl, hq⟩⟩
end
end L2
set_option Elab.async false
set_option linter.all false
set_option maxRecDepth 100000
/-! A list or a tuple alike: walked, indexed, compared. -/
namespace L2
open PySem PySem.Spec PyProof.Rows
/-- the record of a list, or of a tuple -/
def Ob (o : HO) (xs : List V) : Prop := o = .lst xs ∨ o = .tup xs
theorem Ob.sq {K : PySem.W.Frag} {H : Hp} {a : Addr} {o : HO} {xs : List V} (h : Ob o xs) (e : H a = some o) : SqL K H a xs ∨ SqT K H a xs := by
  rcases h with h | h
  · subst h; exact .inl (.of e)
  · subst h; exact .inr (.of e)
/-- what is told of an iterator over it -/
def ItOk (J : It) (a : Addr) (o : HO) (xs : List V) : Prop := ∀ H : Hp, H a = some o → (∀ i x, xs[i]? = some x → J.go i H ∧ ∀ y H', J.yld i H y H' → H' = H ∧ y = x) ∧ J.stop xs.length H
def iSeq (K : PySem.W.Frag) (tl : TE) : TI := fun σ H R => tl σ H fun x H1 => ∃ a o xs, x = .ref a ∧ H1 a = some o ∧ Ob o xs ∧ ∀ J, ItOk J a o xs → R J H1
theorem itl_ok {K : PySem.W.Frag} {a : Addr} {xs : List V} : ItOk (Itl K a) a (.lst xs) xs := fun H e => ⟨fun i x hx => ⟨⟨xs, x, .of e, hx⟩, fun y H' z => ⟨z.1, by
    have := z.2 xs (.of e)
    rw [hx] at this
    exact (Option.some.inj this).symm⟩⟩, ⟨xs, .of e, Nat.le_refl _⟩⟩
theorem itt_ok {K : PySem.W.Frag} {a : Addr} {xs : List V} : ItOk (Itt K a) a (.tup xs) xs := fun H e => ⟨fun i x hx => ⟨⟨xs, x, .of e, hx⟩, fun y H' z => ⟨z.1, by
    have := z.2 xs (.of e)
    rw [hx] at this
    exact (Option.some.inj this).symm⟩⟩, ⟨xs, .of e, Nat.le_refl _⟩⟩
section
variable {X : Cx} {tg : Expr}
theorem pi_seq {l : Expr} {tl : TE} (hl : PE X l tl) : PI X tg l (iSeq X.K tl) := by
  intro pins s σ H R I h
  refine thn (hl pins s σ H _ I h) fun v s1 ⟨x, H1, I1, r1, q1⟩ => ?_
  obtain ⟨a, o, xs, e, ha, ho, q⟩ := q1
  subst e
  cases r1
  have fpk : ∀ b ∈ [s1.heap.objs.size], FpOk X pins H1 b := fun b hb => by
    have e : b = s1.heap.objs.size := by simpa using hb
    subst e
    exact I1.fpOk (Nat.le_refl _) (I1.hok.fresh (Nat.le_refl _))
  rcases ho with ho | ho
  · subst ho
    obtain ⟨its, rv, p, hz⟩ := I1.list (.of ha : SqL X.K H1 a xs)
    refine wpAny_pyIter_list p.isList ?_
    exact ⟨s1.heap.objs.size, [s1.heap.objs.size], _, _, H1, rfl, I1.kept (t' := s1.toks) fun b o e => Heap.get?_push_of_some _ e, turn_list a _, ⟨_, Heap.get?_push_size _ rfl, rfl, rfl⟩, fpk, q _ itl_ok⟩
  · subst ho
    obtain ⟨its, rv, p, hz⟩ := I1.tuple (.of ha : SqT X.K H1 a xs)
    refine wpAny_pyIter_tuple (show s1.heap.IsTuple a its.toArray from p) ?_
    exact ⟨s1.heap.objs.size, [s1.heap.objs.size], _, _, H1, rfl, I1.kept (t' := s1.toks) fun b o e => Heap.get?_push_of_some _ e, turn_tuple a _, ⟨_, Heap.get?_push_size _ rfl, rfl, rfl⟩, fpk, q _ itt_ok⟩
end
theorem lc_it {J : It} {a : Addr} {o : HO} {xs : List V} {tc : TT} {te : TE} {σ : St} {D : Addr} {Fin : Hp → Prop} {H : Hp} (hJ : ItOk J a o xs) (Pv : Nat → List V → Hp → Prop) (h0 : Pv 0 [] (upd H D (.lst [])))
    (hD : ∀ i ys H, Pv i ys H → H D = some (.lst ys) ∧ H a = some o) (hend : ∀ ys H, Pv xs.length ys H → Fin H)
    (hgo : ∀ i x ys H, i < xs.length → xs[i]? = some x → Pv i ys H → tc (some x :: σ) H fun b H2 => if b = true then te (some x :: σ) H2 (LcNx xs.length i D ys Pv) else LcNo xs.length i ys Pv H2) : lcGo tc te σ J D Fin H := by
  refine lc_go Pv h0 (fun i ys H p => (hD i ys H p).1) (fun ys H p => ⟨(hJ H (hD _ _ _ p).2).2, hend ys H p⟩) fun i ys H hi p => ?_
  obtain ⟨g, k⟩ := (hJ H (hD _ _ _ p).2).1 i xs[i] (List.getElem?_eq_getElem hi)
  refine ⟨g, fun x H' y => ?_⟩
  obtain ⟨e1, e2⟩ := k x H' y
  subst e1 e2
  exact hgo i _ ys _ hi (List.getElem?_eq_getElem hi) p
/-! ### == and != of lists and tuples of whole numbers -/
section
variable {X : Cx}
end
end L2
set_option Elab.async false
set_option linter.all false
set_option maxRecDepth 100000
/-! in order: sorted by (moment, key), over the hand layer. -/
namespace Srt
open PySem
/-- the place of an entry: its moment, its key -/
abbrev Pl := Int × Str
def plt (a b : Pl) : Bool := if a.1 = b.1 then decide (a.2.cps.toList < b.2.cps.toList) else decide (a.1 < b.1)
theorem plt_asym {a b : Pl} (h : plt a b = true) : plt b a = false := by
  unfold plt at h ⊢
  by_cases e : a.1 = b.1
  · rw [if_pos e] at h
    rw [if_pos e.symm]
    exact decide_eq_false (List.lt_asymm (of_decide_eq_true h))
  · rw [if_neg e] at h
    rw [if_neg (Ne.symm e)]
    have := of_decide_eq_true h
    exact decide_eq_false (by omega)
theorem plt_tr {a b c : Pl} (h : plt b a = false) (h' : plt c b = false) : plt c a = false := by
  unfold plt at h h' ⊢
  by_cases e : b.1 = a.1 <;> by_cases e' : c.1 = b.1
  · rw [if_pos e] at h
    rw [if_pos e'] at h'
    rw [if_pos (e'.trans e)]
    have h1 := List.not_lt.mp (of_decide_eq_false h)
    have h2 := List.not_lt.mp (of_decide_eq_false h')
    exact decide_eq_false (List.not_lt.mpr (List.le_trans h1 h2))
  · rw [if_neg e'] at h'
    have := of_decide_eq_false h'
    rw [if_neg (by omega)]
    exact decide_eq_false (by omega)
  · rw [if_neg e] at h
    have := of_decide_eq_false h
    rw [if_neg (by omega)]
    exact decide_eq_false (by omega)
  · rw [if_neg e] at h
    rw [if_neg e'] at h'
    have := of_decide_eq_false h
    have := of_decide_eq_false h'
    rw [if_neg (by omega)]
    exact decide_eq_false (by omega)
def ltOf (es : List Pl) (i j : Nat) : Bool := plt (es.getD i (0, ⟨#[]⟩)) (es.getD j (0, ⟨#[]⟩))
theorem ltOf_ord (es : List Pl) : Ord (ltOf es) := ⟨plt_asym, plt_tr⟩
end Srt
namespace L2
open PySem PySem.Spec PyProof.Rows
/-- rows whose first two things are these -/
abbrev Places (H : Hp) (xs : List V) (es : List Srt.Pl) : Prop := Paired (fun x (e : Srt.Pl) => ∃ a r, x = .ref a ∧ H a = some (.tup (.int e.1 :: .str e.2 :: r))) xs es
/-- the def that tells an entry's place -/
inductive sp_place (vs : List V) (H : Hp) (Q : VK) (E : XK) : Prop
  | mk (a : Addr) (m : Int) (k : Str) (r : List V) (h0 : vs = [.ref a]) (h1 : H a = some (.tup (.int m :: .str k :: r))) (q : ∀ t, H t = none → Q (.ref t) (upd H t (.tup [.int m, .str k]))) : sp_place vs H Q E
def PJ (H0 : Hp) (es : List Srt.Pl) (i : Nat) (H : Hp) (ks : List Value) : Prop :=
  Same H0 H ∧ Paired (fun (u : Value) (e : Srt.Pl) => ∃ t, u = .ref t ∧ H t = some (.tup [.int e.1, .str e.2])) ks (es.take i)
section
variable {X : Cx} {pins : List (Addr × Obj)} {σ : St} {H : Hp} {s : Shared}
theorem tup2_at (I : Inv X pins σ H s) {t : Addr} {m : Int} {k : Str} (h : H t = some (.tup [.int m, .str k])) : ∃ o n tm tk, s.heap.get? t = some o ∧ o.cls = .type "tuple" ∧ o.data = .seq #[.int m tm, .str k tk] n := by
  obtain ⟨_, its, rv, o, ho, hc, n, hd⟩ := I.hok t _ h
  obtain ⟨u, v, rfl, ⟨tm, rfl⟩, ⟨tk, rfl⟩⟩ := vals2 rv
  exact ⟨o, n, tm, tk, ho, hc, hd⟩
theorem ask2 (I : Inv X pins σ H s) {A : Around} {t t' : Addr} {e e' : Srt.Pl} (h : H t = some (.tup [.int e.1, .str e.2])) (h' : H t' = some (.tup [.int e'.1, .str e'.2])) {C : Bool → Shared → Prop} {E : Value → Shared → Prop} (q : C (Srt.plt e e') s) :
    wpAny (model X.prog X.w) A (keyLt' (tuples' true) (.ref t) (.ref t')) C E s := by
  obtain ⟨o, n, tm, tk, ho, hc, hd⟩ := tup2_at I h
  obtain ⟨o', n', tm', tk', ho', hc', hd'⟩ := tup2_at I h'
  refine PySem.W.kat_lt ho hd ho' hd' ?_
  refine PySem.W.kat_cons (wpAny_eqBool_int (PySem.W.kat_go (fun e1 => PySem.W.kat_yes ?_) fun e1 => PySem.W.kat_no ?_))
  · have e1' : e.1 = e'.1 := by simpa using e1
    refine PySem.W.kat_cons (wpAny_eqBool_str (PySem.W.kat_go (fun e2 => PySem.W.kat_yes (PySem.W.kat_nil ?_)) fun e2 => PySem.W.kat_no ?_))
    · have e2' : e.2 = e'.2 := by simpa using e2
      have e3 : Srt.plt e e' = false := by
        unfold Srt.plt
        rw [if_pos e1', e2']
        exact decide_eq_false (List.lt_irrefl _)
      rw [e3] at q
      exact q
    · have e3 : Srt.plt e e' = decide (e.2.cps.toList < e'.2.cps.toList) := by
        unfold Srt.plt
        rw [if_pos e1']
      rw [e3] at q
      exact PySem.W.kat_one _ _ (lt_str q)
  · have e1' : ¬ e.1 = e'.1 := by simpa using e1
    have e3 : Srt.plt e e' = decide (e.1 < e'.1) := by
      unfold Srt.plt
      rw [if_neg e1']
    rw [e3] at q
    exact oneLt_int q
theorem kat_tups (I : Inv X pins σ H s) : ∀ {ks : List Value} {es : List Srt.Pl}, Paired (fun (u : Value) (e : Srt.Pl) => ∃ t, u = .ref t ∧ H t = some (.tup [.int e.1, .str e.2])) ks es → ∃ fs, PySem.W.KatTups s.heap ks fs ∧ fs.length = ks.length ∧ ∀ v ∈ fs, ∃ m tm, v = Value.int m tm
  | _, _, .nil => ⟨[], .nil, rfl, fun v h => nomatch h⟩
  | _, _, .cons ⟨t, e, h⟩ r => by
    obtain ⟨fs, h1, h2, h3⟩ := kat_tups I r
    obtain ⟨o, n, tm, tk, ho, hc, hd⟩ := tup2_at I h
    subst e
    refine ⟨_ :: fs, .cons ho hc hd rfl h1, by rw [List.length_cons, List.length_cons, h2], fun v hv => ?_⟩
    rcases List.mem_cons.mp hv with rfl | hv
    · exact ⟨_, _, rfl⟩
    · exact h3 v hv
theorem Paired.getR {α β : Type} {F : α → β → Prop} : ∀ {xs : List α} {ys : List β} {i : Nat} {y : β}, Paired F xs ys → ys[i]? = some y → ∃ x, xs[i]? = some x ∧ F x y
  | _, _, _, _, .nil, e => by simp at e
  | _, _, 0, _, .cons r _, e => by simp at e; subst e; exact ⟨_, rfl, r⟩
  | _, _, i + 1, y, .cons _ t, e => by
    obtain ⟨u, h1, h2⟩ := Paired.getR (i := i) (y := y) t (by simpa using e)
    exact ⟨u, by simpa using h1, h2⟩
theorem Paired.snoc {α β : Type} {F : α → β → Prop} {x : α} {y : β} (h : F x y) : ∀ {xs : List α} {ys : List β}, Paired F xs ys → Paired F (xs ++ [x]) (ys ++ [y])
  | _, _, .nil => .cons h .nil
  | _, _, .cons r t => .cons r (Paired.snoc h t)
/-- what sorted tells -/
inductive rSort (K : PySem.W.Frag) (vs : List V) (H : Hp) (Q : VK) : Prop
  | mk (l : Addr) (xs : List V) (es : List Srt.Pl) (h0 : vs = [.ref l]) (h1 : SqL K H l xs) (h2 : xs.length < 64) (h3 : Places H xs es)
    (q : ∀ D H' (p : List Nat), Same H H' → H D = none → H' D = some (.lst (p.map fun i => xs.getD i .non)) → p.Perm (List.range xs.length) → p.Pairwise (Srt.R (Srt.ltOf es)) → Q (.ref D) H') : rSort K vs H Q
theorem sort_places {k k' : Nat} {kf pn : Str} {vs : List V} {us : List Value} {Q : VK} {f : Addr} {fd : FuncData} (F : FnOk X.prog X.w X.K X.mg X.base CX0 k f fd [pn] sp_place) (hb : Binds X.K fd [pn] []) (hr : Room (k + 2) X.A)
    (I : Inv X pins σ H s) (r : Vals vs us) (h : rSort X.K vs H Q) : wpAny (model X.prog X.w) X.A (call (.builtin "sorted") us [(Str.ofString "key", .ref f)]) (EP X pins σ Q) X.xe s := by
  obtain ⟨l, xs, es, rfl, hl, h64, hp, q⟩ := h
  obtain ⟨u, rfl, ru⟩ := vals1 r
  cases ru
  have hlen : xs.length = es.length := hp.length
  refine sort_call (J := PJ H es) I hl h64 ⟨Same.refl _, by rw [List.take_zero]; exact .nil⟩ (fun i x v pins σ H' s ks hx rx hJ hk J => ?_) fun pins σ H' s ks hJ hk J => ?_
  · obtain ⟨hs, hP⟩ := hJ
    obtain ⟨e, he, a, rr, rfl, ha⟩ := Paired.get hp hx
    cases rx
    have run := run_fn (X := inn X) (k := k) (f := f) (fd := fd) (ps := [pn]) (sp := sp_place) (dvs := []) (ds := []) (E := E0) (CX := CX0) (us := [Value.ref a]) (vs := [V.ref a]) (Q := fun v H2 => ∃ t, v = .ref t ∧ Same H' H2 ∧ H2 t = some (.tup [.int e.1, .str e.2])) F hr.in1.in1 hb .nil pass0 J (.cons rfl .nil)
      ⟨a, e.1, e.2, rr, rfl, hs _ _ ha, fun t ht => ⟨t, rfl, Same.upd ht, upd_same⟩⟩
    refine thn run fun u s2 hu => ?_
    obtain ⟨v, H2, J2, rv, t, rfl, s2', ht⟩ := hu
    cases rv
    refine ⟨H2, J2, hs.trans s2', ?_⟩
    rw [List.take_add_one, he]
    exact Paired.snoc ⟨t, rfl, ht⟩ (Paired.mapP hP fun _ _ ⟨t', e1, e2⟩ => ⟨t', e1, s2' _ _ e2⟩)
  · obtain ⟨hs, hP⟩ := hJ
    rw [List.take_of_length_le (by omega)] at hP
    refine ⟨tuples' true, Srt.ltOf es, ⟨Srt.ltOf_ord es, fun h2 Q hQ => ?_, fun i j C hi hj hC => ?_⟩, fun p p1 p2 D hD => q D _ p (hs.trans (Same.upd hD)) (hs.free hD) upd_same p1 p2⟩
    · obtain ⟨fs, t1, t2, t3⟩ := kat_tups J hP
      refine PySem.W.kat_kind (T := .type "int") t1 (by omega) (fun v hv => ?_) (by decide +kernel) ?_
      · obtain ⟨m, tm, rfl⟩ := t3 v hv
        exact PySem.W.Looks.of_pure rfl
      · exact hQ
    · have hi' : es[i]? = some es[i] := List.getElem?_eq_getElem (by omega)
      have hj' : es[j]? = some es[j] := List.getElem?_eq_getElem (by omega)
      obtain ⟨u, eu, t, rfl, ht⟩ := Paired.getR hP hi'
      obtain ⟨u', eu', t', rfl, ht'⟩ := Paired.getR hP hj'
      unfold PySem.W.kas_ask
      rw [List.getD_eq_getElem?_getD, List.getD_eq_getElem?_getD, eu, eu']
      refine ask2 J ht ht' ?_
      unfold Srt.ltOf at hC
      rw [List.getD_eq_getElem?_getD, List.getD_eq_getElem?_getD, hi', hj'] at hC
      exact hC
end
section
variable {X : Cx} {k : Nat} {kf pn : Str} {e : Expr} {t : TA} {p pos kp kpos : Pos}
/-- sorted(e, key = kf) -/
theorem pe_sortK (K : PySem.W.Frag) (h : Can X.prog X.w X.K X.mg X.base k kf [pn] sp_place) (hr : Room (k + 2) X.A) (hm : X.mg "sorted" = none) (ha : PA X [e] t) (ek : X.K = K := by rfl) (hg : Gl X "sorted" := by rfl) (hg2 : Gl X kf := by rfl) (hdb : (kf == ("__debug__" : Str)) = false := by decide)
    (he : backTo pos (starEach [e] X.env) = (false, eval e X.env) :: backTo pos (starEach [] X.env) := by rfl) (hpl : (backTo pos (starEach [e] X.env)).any (·.1) = false := by rfl) :
    PE X (.Call (.Name "sorted" p) [e] [⟨some "key", .Name kf kp, kpos⟩] pos) (fun σ H Q => t σ H fun vs H1 => rSort K vs H1 Q) := by
  subst ek
  refine ⟨?_⟩
  intro pins s σ H Q I hq
  obtain ⟨f, fd, F, hmf, kpn, hb⟩ := h
  refine wpAny_Call_Name_kw (ld_blt I hg hm boot_sorted ?_ (by decide) (by decide))
  refine callWith_kw (thn (ha pos pins s σ H _ I hq) fun us s1 ⟨vs, H1, I1, r, q⟩ => ?_) he hpl
  refine thn ((pk_cons (nm := some "key") (kpos := kpos) (pe_glob (pos := kp) hg2 hmf (v := .ref f) rfl hdb) pk_nil) pos pins s1 σ H1 (fun zs H2 => zs = [.ref f] ∧ H2 = H1) I1 ⟨rfl, rfl⟩) fun ws s2 ⟨zs, H2, I2, r2, e1, e2⟩ => ?_
  subst e1 e2
  obtain ⟨u, rfl, ru⟩ := vals1 r2
  cases ru
  exact sort_places (kf := kf) (k' := 0) F hb hr I2 r q
end
end L2
set_option Elab.async false
set_option linter.all false
set_option maxRecDepth 100000
/-! entries and bars, as data -/
namespace Ent
open PySem
/-- an entry: moment, key, value -/
abbrev En := Int × Str × Int
def pl (e : En) : Srt.Pl := (e.1, e.2.1)
def eD (e : En) : PyData := .tuple [.int e.1, .str e.2.1, .int e.2.2]
/-! ### the order that a sort tells -/
def dn : En := (0, ⟨#[]⟩, 0)
def pick (es : List En) (p : List Nat) : List En := p.map fun i => es.getD i dn
/-! ### data that can be shown -/
theorem depth_eD (e : En) : (eD e).depth = 1 := by
  unfold eD
  simp [PyData.depth, PyData.depthAll]
end Ent
set_option Elab.async false
set_option linter.all false
set_option maxRecDepth 100000
/-! sorted of lists, tuples and sets of fewer than 64 things: one rule for what is collected -/
namespace L2
open PySem PySem.Spec PySem.W PyProof.Rows
section
variable {X : Cx} {pins : List (Addr × Obj)} {σ : St} {H : Hp} {s : Shared}
theorem vals_at {xs : List V} {vs : List Value} (rv : Vals xs vs) : ∀ l : List Nat, (∀ i ∈ l, i < xs.length) → Vals (l.map fun i => xs.getD i .non) (l.map fun i => vs.getD i Value.none)
  | [], _ => .nil
  | i :: r, hl => by
    have hi := hl i List.mem_cons_self
    obtain ⟨u, hu, ru⟩ := rv.get (List.getElem?_eq_getElem hi)
    rw [List.map_cons, List.map_cons]
    refine .cons ?_ (vals_at rv r fun j hj => hl j (List.mem_cons_of_mem _ hj))
    rw [List.getD_eq_getElem?_getD, List.getD_eq_getElem?_getD, hu, List.getElem?_eq_getElem hi]
    exact ru
theorem sorted_gen {p : Addr} {Q : VK} {PV : List Value → Prop} (hex : X.ex = []) (I : Inv X pins σ H s)
    (hcol : ∀ Q' : List Value → Shared → Prop, (∀ vs (h' : Heap) tk d, (∀ b o, s.heap.get? b = some o → h'.get? b = some o) → PV vs → Q' vs { s with heap := h', toks := tk, drawn := d }) → wpAny (model X.prog X.w) X.A.in1 (collect (.ref p)) Q' X.xe s)
    (hgo : ∀ vs, PV vs → ∃ (xs : List V) (lt : Nat → Nat → Bool), Vals xs vs ∧ xs.length < 64 ∧ (∀ s', Inv X pins σ H s' → 2 ≤ xs.length → ∃ κ, Asks X xs.length vs s' κ lt) ∧
      ∀ D (is : List Nat), is.Perm (List.range xs.length) → is.Pairwise (Srt.R lt) → H D = none → Q (.ref D) (upd H D (.lst (is.map fun i => xs.getD i .non)))) :
    wpAny (model X.prog X.w) X.A (call (.builtin "sorted") [.ref p]) (EP X pins σ Q) X.xe s := by
  refine Calls.call_function_entry kind_sorted plain_sorted entry_sorted (args_sorted1 _) ?_
  unfold Builtin.«sorted»
  refine wpAny_bind (m := checkCount "sorted" 1 1 _) (wpAny_pure (wpAny_bind (hcol _ fun vs h' tk d keep pv => ?_)))
  obtain ⟨xs, lt, rv, h64, hask, q⟩ := hgo vs pv
  have hlen : xs.length = vs.length := rv.length
  have hz : vs.length ≤ sizeLine := by rw [sizeLine_eq]; omega
  refine wpAny_bind (wpAny_newList ?_ hz)
  have oL : (h'.push (seqObj "list" vs.toArray 0)).get? h'.objs.size = some (seqObj "list" vs.toArray 0) := Heap.get?_push_size _ rfl
  have I1 : Inv X pins σ H { s with heap := h', toks := tk, drawn := d } := (I.kept (t' := tk) keep).drawn d
  by_cases h2 : vs.length < 2
  · refine wpAny_bind (wpAny_holding (wpAny_call_entry slot_list_sort (s := { s with heap := h'.push (seqObj "list" vs.toArray 0), toks := tk, drawn := d }) ⟨_, oL, rfl⟩ entry_list_sort (sort_small oL h2 ⟨_, rfl, wpAny_pure ⟨_, rfl, ?_⟩⟩) (args_list_sort _)))
    obtain ⟨e, he⟩ := sortedHeap_at (out := vs.toArray) oL
    have hq : Q (.ref h'.objs.size) (upd H h'.objs.size (.lst xs)) := by
      have := q h'.objs.size (List.range xs.length) (List.Perm.refl _) (by
        match xs, hlen with
        | [], _ => exact List.Pairwise.nil
        | [_], _ => exact List.pairwise_singleton _ _
        | _ :: _ :: _, e => simp only [List.length_cons] at e; omega) (I1.hok.fresh (Nat.le_refl _))
      have e2 : ((List.range xs.length).map fun i => xs.getD i .non) = xs := by
        apply List.ext_getElem (by simp)
        intro i h1 h2
        rw [List.getElem_map, List.getElem_range, List.getD_eq_getElem?_getD, List.getElem?_eq_getElem h2]
        rfl
      rw [e2] at this
      exact this
    refine ⟨.ref h'.objs.size, _, I1.laid (t' := tk) (o := .lst xs) (fun b u e => ?_) (Nat.le_refl _) ⟨by rw [sizeLine_eq]; omega, vs, e, rv, he⟩, rfl, hq⟩
    have hb := Heap.lt_size e
    rw [sortedHeap_old (Nat.ne_of_lt hb) (by rw [size_push']; exact Nat.lt_succ_of_lt hb)]
    exact Heap.get?_push_of_some _ e
  obtain ⟨m, hm, _⟩ := id I1.loc
  have gk : ∀ b o, h'.get? b = some o → (h'.push (seqObj "list" vs.toArray 0)).get? b = some o := fun b o e => Heap.get?_push_of_some _ e
  have F : Fr X.base X.env.locals (h'.push (seqObj "list" vs.toArray 0)) m := ⟨hm.keeps gk, fun b o e => gk b o (I1.bk b o e), Nat.le_trans I.ok.bsz I.ok.above⟩
  have N : News X.base X.env.locals (h'.push (seqObj "list" vs.toArray 0)) (newsOf X.base h' X.env.locals) := (newsOf_news X.base h' X.env.locals).grown gk
  have hLl : X.env.locals < h'.objs.size := I1.lt
  refine wpAny_bind (wpAny_holding (wpAny_call_entry slot_list_sort (s := { s with heap := h'.push (seqObj "list" vs.toArray 0), toks := tk, drawn := d }) ⟨_, oL, rfl⟩ entry_list_sort ?body (args_list_sort _)))
  case body =>
    refine kat_list_sort (s := { s with heap := h'.push (seqObj "list" vs.toArray 0), toks := tk, drawn := d }) F N oL (Nat.ne_of_gt hLl) (Heap.get?_none_of_le (Nat.le_trans I.ok.bsz (Nat.le_trans I.ok.above (Nat.le_of_lt hLl)))) (fun p hp => Nat.ne_of_lt (Heap.lt_size ((newsOf_news X.base h' X.env.locals) p hp).1)) (by omega) (by omega) fun e1 h3 F3 N3 => ?_
    obtain ⟨_, I3⟩ := I1.ofFr (t' := tk) (more := [(h'.objs.size, seqObj "list" #[] e1)]) hm F3 N3
    obtain ⟨κ, ak⟩ := hask _ I3 (by omega)
    refine ak.kind (by omega) _ ?_
    refine Srt.good_wp (n := vs.length) (lt := lt) (fun i j C hi hj hC => ak.ask i j C (by omega) (by omega) hC) _ (Srt.good_mono (fun pp hp2 => ?_) _ (Srt.sort_ok ak.ord (by omega)))
    obtain ⟨o1, o2⟩ := Srt.out_ok hp2.1 hp2.2
    refine KasFin.intro F3 N3 (.head fun q hq => Nat.ne_of_lt (Heap.lt_size ((newsOf_news X.base h' X.env.locals) q hq).1)) fun h4 c F4 N4 => ⟨_, rfl, wpAny_pure ⟨_, rfl, ?_⟩⟩
    obtain ⟨kp, I4⟩ := I1.ofFr (t' := tk) (more := [(h'.objs.size, listOf (List.toArray (pp.toList.map fun i => vs.getD i Value.none)) c)]) hm F4 N4
    obtain ⟨d1, d2, d3⟩ := N4 _ List.mem_cons_self
    have hD : H h'.objs.size = none := I1.hok.fresh (Nat.le_refl _)
    have x0 : X.s₀.heap.get? h'.objs.size = none := by
      cases e : X.s₀.heap.get? h'.objs.size with
      | none => rfl
      | some o =>
        obtain ⟨o', e2⟩ := I1.base.there _ o e (by rw [hex]; simp)
        exact absurd (Heap.lt_size e2) (Nat.lt_irrefl _)
    have xp : ∀ p ∈ X.pn ++ pins, p.1 ≠ h'.objs.size := fun p hp z => absurd (Heap.lt_size (I1.pin p hp).1) (by rw [z]; exact Nat.lt_irrefl _)
    have vls := vals_at rv pp.toList fun i hi => by rw [hlen]; exact List.mem_range.mp (o1.mem_iff.mp hi)
    refine ⟨.ref h'.objs.size, _, I4.trackG (o := .lst (pp.toList.map fun i => xs.getD i .non)) d1 (Ne.symm d2) (fun v z => nomatch z) hD x0 xp ⟨?_, _, c, vls, d1⟩, rfl, q _ _ (by rw [hlen]; exact o1) o2 hD⟩
    rw [List.length_map, o1.length_eq, List.length_range, sizeLine_eq]; omega
/-- how texts are asked -/
theorem asks_str {zs : List Str} {vs : List Value} (rv : Vals (zs.map V.str) vs) (s' : Shared) : Asks X (zs.map V.str).length vs s' oneType' (Srt.ltT zs) := by
  have hl : vs.length = zs.length := by rw [← rv.length, List.length_map]
  refine ⟨Srt.ltT_ord zs, fun h2 Q' hQ => ?_, fun i j C hi hj hC => ?_⟩
  · rw [List.length_map] at h2
    refine kas_kind (T := .type "str") (by rw [hl]; omega) (fun v hv => ?_) (by decide +kernel) (by decide +kernel) hQ
    obtain ⟨i, hi, rfl⟩ := List.getElem_of_mem hv
    obtain ⟨t, e⟩ := str_at rv (i := i) (by omega)
    rw [List.getD_eq_getElem?_getD, List.getElem?_eq_getElem hi] at e
    rw [show vs[i] = _ from e]
    exact Looks.of_pure rfl
  · rw [List.length_map] at hi hj
    obtain ⟨t, e⟩ := str_at rv (i := i) hi
    obtain ⟨t', e'⟩ := str_at rv (i := j) hj
    unfold kas_ask
    rw [e, e']
    exact kas_lt_str hC
end
section
variable {X : Cx}
theorem getD_str (zs : List Str) (i : Nat) (h : i < zs.length) : (zs.map V.str).getD i .non = .str (zs.getD i "") := by
  rw [List.getD_eq_getElem?_getD, List.getElem?_map, List.getElem?_eq_getElem h, List.getD_eq_getElem?_getD, List.getElem?_eq_getElem h]
  rfl
theorem pick_str {zs : List Str} {is : List Nat} (h : is.Perm (List.range (zs.map V.str).length)) : (is.map fun i => (zs.map V.str).getD i .non) = (is.map fun i => zs.getD i "").map V.str := by
  rw [List.map_map]
  refine List.map_congr_left fun i hi => ?_
  have := List.mem_range.mp (h.mem_iff.mp hi)
  rw [List.length_map] at this
  exact getD_str zs i this
/-- sorted of a list or a tuple of texts -/
inductive cSrtQ (vs : List V) (H : Hp) (Q : VK) : Prop
  | mk (p : Addr) (o : HO) (zs : List Str) (e : vs = [.ref p]) (h : H p = some o) (ob : Ob o (zs.map V.str)) (h64 : zs.length < 64)
      (q : ∀ D (is : List Nat), is.Perm (List.range zs.length) → is.Pairwise (Srt.R (Srt.ltT zs)) → H D = none → Q (.ref D) (upd H D (.lst ((is.map fun i => zs.getD i "").map V.str)))) : cSrtQ vs H Q
theorem collect_ob {pins : List (Addr × Obj)} {σ : St} {H : Hp} {s : Shared} {A : Around} {E : Value → Shared → Prop} {p : Addr} {o : HO} {xs : List V} (I : Inv X pins σ H s) (h : H p = some o) (ob : Ob o xs) (Q' : List Value → Shared → Prop)
    (q : ∀ vs (h' : Heap) tk d, (∀ b o, s.heap.get? b = some o → h'.get? b = some o) → Vals xs vs → Q' vs { s with heap := h', toks := tk, drawn := d }) : wpAny (model X.prog X.w) A (collect (.ref p)) Q' E s := by
  rcases ob with rfl | rfl
  · obtain ⟨hz, its, n, rv, e⟩ := I.hok p _ h
    refine wpAny_collect_seq p (T := "list") (.inl rfl) e rfl rfl (fun h' k => ?_) (by rw [List.size_toArray, ← rv.length]; exact hz)
    exact q _ h' s.toks s.drawn k rv
  · obtain ⟨hz, its, rv, ob, e, hc, n, hd⟩ := I.hok p _ h
    refine wpAny_collect_seq p (T := "tuple") (.inr rfl) e hc hd (fun h' k => ?_) (by rw [List.size_toArray, ← rv.length]; exact hz)
    exact q _ h' s.toks s.drawn k rv
theorem call_sortedQ (hex : X.ex = [] := by rfl) : CallR X (.builtin "sorted") cSrtQ := by
  intro pins s σ H xs us Q I r h
  obtain ⟨p, o, zs, rfl, hp, ob, h64, q⟩ := h
  obtain ⟨u, rfl, rx⟩ := vals1 r
  cases rx
  refine sorted_gen (PV := Vals (zs.map V.str)) hex I (fun Q' hq => collect_ob I hp ob Q' hq) fun vs rv => ⟨zs.map V.str, Srt.ltT zs, rv, by rw [List.length_map]; exact h64, fun s' _ _ => ⟨_, asks_str rv s'⟩, fun D is p1 p2 hD => ?_⟩
  rw [pick_str p1]
  rw [List.length_map] at p1
  exact q D is p1 p2 hD
/-- sorted of a set of texts -/
inductive cSrtT (P : Program) (w : World) (vs : List V) (H : Hp) (Q : VK) : Prop
  | mk (p : Addr) (zs : List Str) (e : vs = [.ref p]) (h : H p = some (SetH P w p (zs.map Sum.inr))) (h64 : zs.length < 64)
      (q : ∀ D (ys : List Str) (is : List Nat), ys.Perm zs → is.Perm (List.range ys.length) → is.Pairwise (Srt.R (Srt.ltT ys)) → H D = none → Q (.ref D) (upd H D (.lst ((is.map fun i => ys.getD i "").map V.str)))) : cSrtT P w vs H Q
theorem call_sortedT (P : Program) (w : World) (hc : X.calm = true) (e1 : X.prog = P := by rfl) (e2 : X.w = w := by rfl) (hex : X.ex = [] := by rfl) : CallR X (.builtin "sorted") (cSrtT P w) := by
  subst e1 e2
  intro pins s σ H xs us Q I r h
  obtain ⟨p, zs, rfl, hq, h64, q⟩ := h
  obtain ⟨u, rfl, rx⟩ := vals1 r
  cases rx
  obtain ⟨⟨es, g, nd, el, pe, qe⟩, _, _⟩ := I.hok p _ hq
  have hh : X.A.in1.handled = none := I.ok.hd hc
  have he : es.size = zs.length := by have := Paired.length qe; have := pe.length_eq; simp at *; omega
  refine sorted_gen (PV := fun vs => ∃ ys : List Str, Vals (ys.map V.str) vs ∧ ys.Perm zs) hex I (fun Q' hq' => Ss.collect_set hh g (by omega) fun h' tk d vs keep hv => hq' vs h' tk d keep ?_) fun vs ⟨ys, rv, hp⟩ => ⟨ys.map V.str, Srt.ltT ys, rv, by rw [List.length_map, hp.length_eq]; exact h64, fun s' _ _ => ⟨_, asks_str rv s'⟩, fun D is p1 p2 hD => ?_⟩
  · exact strs_perm (hv.trans (pe.map (·.2)).symm) (keys_strs qe)
  · rw [pick_str p1]
    rw [List.length_map] at p1
    exact q D ys is hp p1 p2 hD
end
end L2
/-! ### tuples (int, text, int) -/
namespace Srt
open PySem
end Srt
namespace L2
open PySem PySem.Spec PySem.W PyProof.Rows
section
variable {X : Cx} {pins : List (Addr × Obj)} {σ : St} {H : Hp} {s : Shared}
end
end L2
set_option Elab.async false
set_option linter.all false
set_option maxRecDepth 100000
/-! set(xs) of a list or a tuple of texts, len of a set -/
namespace Ss
open PySem PySem.Spec
section
variable {prog : Program} {w : World} {K : Type} [DecidableEq K] {knd : KeyKind prog w K} {A : Around} {R : Result → Shared → Prop} {E : Value → Shared → Prop} {I : Addr} {fp wr : List Addr} {n : Nat} {P : Nat → Value → Prop} {St : Nat → Heap → Prop}
theorem loop (W : Walks prog w A.in1 I fp wr n P St) {S : Addr} (hSf : S ∉ fp) {ks : List K} {Z : Nat → Array (Int × Value) → Prop} (hb : n + 1 < scanBound)
    (hval : ∀ i v, P i v → ∃ k, ks[i]? = some k ∧ knd.is k v = true ∧ v.scannable = true) (hel : ∀ i es, Z i es → ElemsOf knd es.toList ∧ es.size ≤ i)
    (hst : ∀ i k v es es', Z i es → ks[i]? = some k → knd.is k v = true → Added knd k v es es' → Z (i + 1) es') :
    ∀ (r i : Nat) (s : Shared) (es : Array (Int × Value)), n - i = r → i ≤ n → St i s.heap → SetG w s.heap S es → Z i es →
      (∀ h' tk es', (∀ b o, b ∉ S :: wr → s.heap.get? b = some o → h'.get? b = some o) → SetG w h' S es' → Z n es' → R (.ok (.ret .none)) { s with heap := h', toks := tk }) →
      codeAny (model prog w) A (.builtin "set.update.loop" ⟨[.ref S, .ref I], []⟩) R s := by
  have hSw : S ∉ wr := fun z => hSf (W.sub _ z)
  intro r
  induction r with
  | zero =>
    intro i s es hr hi st hS hZ hR
    obtain rfl : i = n := by omega
    refine codeAny_builtin PyProof.Rows.F.entry_set_update_loop ?_
    rw [Around.under_plainId PyProof.Rows.F.plain_set_update_loop _]
    show wpAny _ A.in1 (pyNext (.ref I) >>= _) _ _ _
    refine wpAny_bind (W.done s _ _ st fun h' tk keep => ?_)
    exact wpAny_pure (hR h' tk es (fun b o hb e => keep b o (fun z => hb (List.mem_cons_of_mem _ z)) e) (hS.at fun o e => keep S o hSw e) hZ)
  | succ r ih =>
    intro i s es hr hi st hS hZ hR
    have hlt : i < n := by omega
    refine codeAny_builtin PyProof.Rows.F.entry_set_update_loop ?_
    rw [Around.under_plainId PyProof.Rows.F.plain_set_update_loop _]
    show wpAny _ A.in1 (pyNext (.ref I) >>= _) _ _ _
    refine wpAny_bind (W.item i s _ _ hlt st fun v h' tk hP st' keep => ?_)
    obtain ⟨k, hk, hv, hs⟩ := hval i v hP
    obtain ⟨el, hz⟩ := hel i es hZ
    have hS' : SetG w h' S es := hS.at fun o e => keep S o hSw e
    show wpAny _ A.in1 (holding [v] (setAdd S v) >>= _) _ _ _
    refine wpAny_bind (wpAny_holding ?_)
    unfold setAdd
    refine wpAny_holding (wpAny_bind (knd.pyHash hv ?_))
    refine addH (s := { s with heap := h', toks := tk + 1 }) hv hs hS' el (by omega) fun b h2 es2 sb S2 ad => ?_
    refine wpAny_pure ⟨plainId_quiet PyProof.Rows.F.plain_set_update_loop _, ih (i + 1) { s with heap := h2, toks := tk + 1 } es2 (by omega) hlt (W.frame _ _ _ st' fun c hc o e => ?_) S2 (hst i k v es es2 hZ hk hv ad) fun h3 tk3 es3 keep3 S3 Z3 => ?_⟩
    · exact (sb.2 c (fun z : c = S => hSf (by rw [← z]; exact hc))).trans e
    · refine hR h3 tk3 es3 (fun c o hc e => keep3 c o hc ?_) S3 Z3
      exact (sb.2 c (fun z : c = S => hc (by rw [z]; exact List.mem_cons_self))).trans (keep c o (fun z => hc (List.mem_cons_of_mem _ z)) e)
end
section
variable {prog : Program} {w : World} {A : Around} {E : Value → Shared → Prop} {s : Shared}
theorem code_new (a : Value) {Q : Value → Shared → Prop} (h : ∀ led : Bool, (byText w = true ∨ led = true) → Q (.ref s.heap.objs.size) { s with heap := s.heap.push { cls := .type "set", dict := none, data := .set #[] 0 (.fresh 0 0 led) } }) :
    codeAny (model prog w) A (.call (.builtin "set.__new__") ⟨[.type "set", a], []⟩) (wants Q E) s := by
  refine codeAny_of_tree ?_
  show wpAny _ A.in1 (do checkBuiltinCall "set.__new__" ⟨[.type "set", a], []⟩; again (.builtin "set.__new__" ⟨[.type "set", a], []⟩)) _ _ _
  refine wpAny_bind (wpAny_of_eq (PySem.F.newCall_set_1 a) (wpAny_pure ⟨plainId_quiet PySem.F.plain_set_new _, codeAny_builtin PySem.F.entry_set_new ?_⟩))
  rw [Around.under_plainId PySem.F.plain_set_new _]
  unfold Builtin.«set.__new__» Builtin.Frozenset.newClass
  have hsub := sub_set_self
  obtain ⟨hp, g, d, tk, os⟩ := s
  dsimp only
  wp_walk
  refine wpAny_askSetting (wpAny_pure ?_)
  simp only [newObj]
  refine wpAny_bind (wpAny_alloc (wpAny_pure (wpAny_pure (h _ ?_))))
  show byText w = true ∨ (!(byText w)) = true
  cases byText w
  · exact .inr rfl
  · exact .inl rfl
end
section
variable {prog : Program} {w : World} {K : Type} [DecidableEq K] {knd : KeyKind prog w K} {A : Around} {E : Value → Shared → Prop} {s : Shared}
theorem sub_list : isSubtype (.type "list") (.type "set") = pure false ∧ isSubtype (.type "list") (.type "frozenset") = pure false := ⟨by rw [isSubtype_type]; kernel_rfl, by rw [isSubtype_type]; kernel_rfl⟩
set_option maxHeartbeats 3200000 in
theorem call_list {l : Addr} {items : Array Value} {ks : List K} {Z : Nat → Array (Int × Value) → Prop} {Q : Value → Shared → Prop} (hh : A.handled = none) (hl : s.heap.IsList l items) (hb : items.size + 1 < scanBound)
    (hval : ∀ (i : Nat) v, items[i]? = some v → ∃ k, ks[i]? = some k ∧ knd.is k v = true ∧ v.scannable = true) (hel : ∀ i es, Z i es → ElemsOf knd es.toList ∧ es.size ≤ i)
    (hst : ∀ i k v es es', Z i es → ks[i]? = some k → knd.is k v = true → Added knd k v es es' → Z (i + 1) es') (h0 : Z 0 #[])
    (h : ∀ (h' : Heap) (tk : Nat) es, (∀ b o, s.heap.get? b = some o → h'.get? b = some o) → SetG w h' s.heap.objs.size es → Z items.size es → Q (.ref s.heap.objs.size) { s with heap := h', toks := tk }) :
    wpAny (model prog w) A (call (.type "set") [.ref l]) Q E s := by
  obtain ⟨c, tl, hmro⟩ := PySem.F.called_set.mro
  have hmade := PySem.F.called_set.made
  have hsub := PySem.F.called_set.sub
  refine wpAny_call (codeAny_of_tree (show wpAny _ _ (callAny (.type "set") _) _ _ _ from wpAny_pure ⟨Code.quiet_builtin _ (by decide +kernel), codeAny_builtin PySem.F.entry_type_call ?_⟩))
  rw [Around.under_plain (weight_type_call_type "set" [.ref l] []) rfl]
  have n1 := PySem.F.called_set.notType
  have n2 := PySem.F.called_set.canCreate
  have n3 := PySem.F.typeCall_set_1 (.ref l)
  repeat (any_goals (first | assumption | wp_step))
  refine codeAny_mono (code_new (.ref l) (E := E) (Q := fun obj s₁ => ∃ led : Bool, obj = .ref s.heap.objs.size ∧ s₁ = { s with heap := s.heap.push { cls := .type "set", dict := none, data := .set #[] 0 (.fresh 0 0 led) } } ∧ (byText w = true ∨ led = true)) fun o g => ⟨o, rfl, rfl, g⟩) fun r s₁ hr => ?_
  cases r with
  | error e => exact hr
  | ok fl =>
    cases fl with
    | ret obj =>
      obtain ⟨led, rfl, rfl, hled⟩ := hr
      have hS : (s.heap.push { cls := .type "set", dict := none, data := .set #[] 0 (.fresh 0 0 led) }).get? s.heap.objs.size = some { cls := .type "set", dict := none, data := .set #[] 0 (.fresh 0 0 led) } := Heap.get?_push_size _ rfl
      have g : SetG w (s.heap.push { cls := .type "set", dict := none, data := .set #[] 0 (.fresh 0 0 led) }) s.heap.objs.size #[] := ⟨0, _, hS, rfl, ⟨List.Pairwise.nil, rfl⟩, hled⟩
      have hT : Shared.TypeIs { s with heap := s.heap.push { cls := .type "set", dict := none, data := .set #[] 0 (.fresh 0 0 led) } } (.ref s.heap.objs.size) "set" := ⟨_, hS, rfl⟩
      have n4 := PySem.F.called_set.init.lookup
      have n5 := PySem.F.called_set.init.bind (.ref s.heap.objs.size)
      repeat (any_goals (first | assumption | wp_step))
      refine codeAny_mono (codeAny_call_builtin (R := wants (fun r s₂ => r = .none ∧ ∃ h' tk es, s₂ = { s with heap := h', toks := tk } ∧ (∀ b o, s.heap.get? b = some o → h'.get? b = some o) ∧ SetG w h' s.heap.objs.size es ∧ Z items.size es) E) PySem.F.called_set.init.plain PySem.F.entry_set_init (check_set_init_1 hT ?_)) fun r₂ s₂ hr₂ => ?_
      · obtain ⟨ol, hol, hcl, nl, hdl⟩ := id hl
        obtain ⟨ocls, odict, odata, oslots⟩ := ol
        simp only at hcl hdl
        subst hcl hdl
        have hlS : l < s.heap.objs.size := Heap.lt_size hol
        have hol' := Heap.get?_push_of_some { cls := .type "set", dict := none, data := .set #[] 0 (.fresh 0 0 led) } hol
        have n6 := sub_list.1
        have n7 := sub_list.2
        have n8 : (Value.type "list" == Value.type "dict") = false := by decide
        have hlb : (s.heap.push { cls := .type "set", dict := none, data := .set #[] 0 (.fresh 0 0 led) }).IsList l items := ⟨_, hol', rfl, nl, rfl⟩
        unfold Builtin.«set.__init__» noKeywords Builtin.Frozenset.updateFrom
        generalize hPI : pyIter = PI
        wp_walk
        subst hPI
        refine wpAny_pyIter_list hlb ?_
        refine wpAny_bind (wpAny_runValue ?_)
        have hh3 : A.in1.in1.in1.handled = none := by simp [hh]
        have nI : l ≠ (s.heap.push { cls := .type "set", dict := none, data := .set #[] 0 (.fresh 0 0 led) }).objs.size := by rw [Heap.size_push]; exact Nat.ne_of_lt (Nat.lt_succ_of_lt hlS)
        have nS : s.heap.objs.size ∉ [(s.heap.push { cls := .type "set", dict := none, data := .set #[] 0 (.fresh 0 0 led) }).objs.size, l] := by
          rw [Heap.size_push]
          simp only [List.mem_cons, List.not_mem_nil, or_false, not_or]
          exact ⟨Nat.ne_of_lt (Nat.lt_succ_self _), Nat.ne_of_gt hlS⟩
        refine loop (Walks.list hh3 _ l nI items) nS hb hval hel hst items.size 0 _ #[] (by omega) (Nat.zero_le _) ⟨⟨_, Heap.get?_push_size _ rfl, rfl, rfl⟩, hlb.at fun _ => Heap.get?_push_of_some _⟩ (g.at fun _ => Heap.get?_push_of_some _) h0 fun h' tk es keep gS zS => ?_
        refine wpAny_pure (wpAny_pure ⟨rfl, h', tk, es, rfl, fun b o e => keep b o ?_ (Heap.get?_push_of_some _ (Heap.get?_push_of_some _ e)), gS, zS⟩)
        have hb := Heap.lt_size e
        rw [Heap.size_push]
        simp only [List.mem_cons, List.not_mem_nil, or_false, not_or]
        exact ⟨Nat.ne_of_lt hb, Nat.ne_of_lt (Nat.lt_succ_of_lt hb)⟩
      · cases r₂ with
        | error e => exact hr₂
        | ok fl₂ =>
          cases fl₂ with
          | ret r =>
            obtain ⟨rfl, h', tk, es, rfl, kp, gS, zS⟩ := hr₂
            repeat (any_goals (first | assumption | wp_step))
            exact h h' tk es kp gS zS
          | _ => exact hr₂.elim
    | _ => exact hr.elim

theorem sub_tuple : isSubtype (.type "tuple") (.type "set") = pure false ∧ isSubtype (.type "tuple") (.type "frozenset") = pure false := ⟨by rw [isSubtype_type]; kernel_rfl, by rw [isSubtype_type]; kernel_rfl⟩
set_option maxHeartbeats 3200000 in
theorem call_tuple {l : Addr} {items : Array Value} {ks : List K} {Z : Nat → Array (Int × Value) → Prop} {Q : Value → Shared → Prop} (hh : A.handled = none) (hl : s.heap.IsTuple l items) (hb : items.size + 1 < scanBound)
    (hval : ∀ (i : Nat) v, items[i]? = some v → ∃ k, ks[i]? = some k ∧ knd.is k v = true ∧ v.scannable = true) (hel : ∀ i es, Z i es → ElemsOf knd es.toList ∧ es.size ≤ i)
    (hst : ∀ i k v es es', Z i es → ks[i]? = some k → knd.is k v = true → Added knd k v es es' → Z (i + 1) es') (h0 : Z 0 #[])
    (h : ∀ (h' : Heap) (tk : Nat) es, (∀ b o, s.heap.get? b = some o → h'.get? b = some o) → SetG w h' s.heap.objs.size es → Z items.size es → Q (.ref s.heap.objs.size) { s with heap := h', toks := tk }) :
    wpAny (model prog w) A (call (.type "set") [.ref l]) Q E s := by
  obtain ⟨c, tl, hmro⟩ := PySem.F.called_set.mro
  have hmade := PySem.F.called_set.made
  have hsub := PySem.F.called_set.sub
  refine wpAny_call (codeAny_of_tree (show wpAny _ _ (callAny (.type "set") _) _ _ _ from wpAny_pure ⟨Code.quiet_builtin _ (by decide +kernel), codeAny_builtin PySem.F.entry_type_call ?_⟩))
  rw [Around.under_plain (weight_type_call_type "set" [.ref l] []) rfl]
  have n1 := PySem.F.called_set.notType
  have n2 := PySem.F.called_set.canCreate
  have n3 := PySem.F.typeCall_set_1 (.ref l)
  repeat (any_goals (first | assumption | wp_step))
  refine codeAny_mono (code_new (.ref l) (E := E) (Q := fun obj s₁ => ∃ led : Bool, obj = .ref s.heap.objs.size ∧ s₁ = { s with heap := s.heap.push { cls := .type "set", dict := none, data := .set #[] 0 (.fresh 0 0 led) } } ∧ (byText w = true ∨ led = true)) fun o g => ⟨o, rfl, rfl, g⟩) fun r s₁ hr => ?_
  cases r with
  | error e => exact hr
  | ok fl =>
    cases fl with
    | ret obj =>
      obtain ⟨led, rfl, rfl, hled⟩ := hr
      have hS : (s.heap.push { cls := .type "set", dict := none, data := .set #[] 0 (.fresh 0 0 led) }).get? s.heap.objs.size = some { cls := .type "set", dict := none, data := .set #[] 0 (.fresh 0 0 led) } := Heap.get?_push_size _ rfl
      have g : SetG w (s.heap.push { cls := .type "set", dict := none, data := .set #[] 0 (.fresh 0 0 led) }) s.heap.objs.size #[] := ⟨0, _, hS, rfl, ⟨List.Pairwise.nil, rfl⟩, hled⟩
      have hT : Shared.TypeIs { s with heap := s.heap.push { cls := .type "set", dict := none, data := .set #[] 0 (.fresh 0 0 led) } } (.ref s.heap.objs.size) "set" := ⟨_, hS, rfl⟩
      have n4 := PySem.F.called_set.init.lookup
      have n5 := PySem.F.called_set.init.bind (.ref s.heap.objs.size)
      repeat (any_goals (first | assumption | wp_step))
      refine codeAny_mono (codeAny_call_builtin (R := wants (fun r s₂ => r = .none ∧ ∃ h' tk es, s₂ = { s with heap := h', toks := tk } ∧ (∀ b o, s.heap.get? b = some o → h'.get? b = some o) ∧ SetG w h' s.heap.objs.size es ∧ Z items.size es) E) PySem.F.called_set.init.plain PySem.F.entry_set_init (check_set_init_1 hT ?_)) fun r₂ s₂ hr₂ => ?_
      · obtain ⟨ol, hol, hcl, nl, hdl⟩ := id hl
        obtain ⟨ocls, odict, odata, oslots⟩ := ol
        simp only at hcl hdl
        subst hcl hdl
        have hlS : l < s.heap.objs.size := Heap.lt_size hol
        have hol' := Heap.get?_push_of_some { cls := .type "set", dict := none, data := .set #[] 0 (.fresh 0 0 led) } hol
        have n6 := sub_tuple.1
        have n7 := sub_tuple.2
        have n8 : (Value.type "tuple" == Value.type "dict") = false := by decide
        have hlb : (s.heap.push { cls := .type "set", dict := none, data := .set #[] 0 (.fresh 0 0 led) }).IsTuple l items := ⟨_, hol', rfl, nl, rfl⟩
        unfold Builtin.«set.__init__» noKeywords Builtin.Frozenset.updateFrom
        generalize hPI : pyIter = PI
        wp_walk
        subst hPI
        refine wpAny_pyIter_tuple hlb ?_
        refine wpAny_bind (wpAny_runValue ?_)
        have hh3 : A.in1.in1.in1.handled = none := by simp [hh]
        have nI : l ≠ (s.heap.push { cls := .type "set", dict := none, data := .set #[] 0 (.fresh 0 0 led) }).objs.size := by rw [Heap.size_push]; exact Nat.ne_of_lt (Nat.lt_succ_of_lt hlS)
        have nS : s.heap.objs.size ∉ [(s.heap.push { cls := .type "set", dict := none, data := .set #[] 0 (.fresh 0 0 led) }).objs.size, l] := by
          rw [Heap.size_push]
          simp only [List.mem_cons, List.not_mem_nil, or_false, not_or]
          exact ⟨Nat.ne_of_lt (Nat.lt_succ_self _), Nat.ne_of_gt hlS⟩
        refine loop (Walks.tuple hh3 _ l nI items) nS hb hval hel hst items.size 0 _ #[] (by omega) (Nat.zero_le _) ⟨⟨_, Heap.get?_push_size _ rfl, rfl, rfl⟩, hlb.at fun _ => Heap.get?_push_of_some _⟩ (g.at fun _ => Heap.get?_push_of_some _) h0 fun h' tk es keep gS zS => ?_
        refine wpAny_pure (wpAny_pure ⟨rfl, h', tk, es, rfl, fun b o e => keep b o ?_ (Heap.get?_push_of_some _ (Heap.get?_push_of_some _ e)), gS, zS⟩)
        have hb := Heap.lt_size e
        rw [Heap.size_push]
        simp only [List.mem_cons, List.not_mem_nil, or_false, not_or]
        exact ⟨Nat.ne_of_lt hb, Nat.ne_of_lt (Nat.lt_succ_of_lt hb)⟩
      · cases r₂ with
        | error e => exact hr₂
        | ok fl₂ =>
          cases fl₂ with
          | ret r =>
            obtain ⟨rfl, h', tk, es, rfl, kp, gS, zS⟩ := hr₂
            repeat (any_goals (first | assumption | wp_step))
            exact h h' tk es kp gS zS
          | _ => exact hr₂.elim
    | _ => exact hr.elim
end
end Ss
set_option Elab.async false
set_option linter.all false
set_option maxRecDepth 100000
namespace L2
open PySem PySem.Spec PyProof.Rows
def SetK (P : Program) (w : World) (js : List Key) (es : Array (Int × Value)) : Prop :=
  js.Nodup ∧ ∃ el : List (Int × Value), el.Perm es.toList ∧ Paired (fun (k : Key) (e : Int × Value) => (mixKind P w).is k e.2 = true ∧ e.1 = (mixKind P w).hash k) js el
theorem setK_add {P : Program} {w : World} {js : List Key} {es es' : Array (Int × Value)} {k : Key} {u : Value} (h : SetK P w js es) (hk : (mixKind P w).is k u = true) (ad : Ss.Added (mixKind P w) k u es es') : SetK P w (addK js k) es' := by
  obtain ⟨nd, el, p, q⟩ := h
  rcases ad with ⟨⟨e, he, hek⟩, rfl⟩ | ⟨hno, hp⟩
  · have hm : k ∈ js := by
      obtain ⟨k', hk', z⟩ := Paired.mem_right q e (p.mem_iff.mpr he)
      rw [(mixKind P w).inj _ _ _ hek z.1]
      exact hk'
    rw [addK_in hm]
    exact ⟨nd, el, p, q⟩
  · have hm : k ∉ js := fun hm => by
      obtain ⟨e, he, z⟩ := Paired.mem_left q k hm
      have := hno e (p.mem_iff.mp he)
      rw [z.1] at this
      cases this
    rw [addK_new hm]
    refine ⟨List.nodup_append.mpr ⟨nd, List.pairwise_singleton _ _, fun a ha b hb => ?_⟩, el ++ [((mixKind P w).hash k, u)], (p.append_right _).trans hp.symm, Paired.app q (.cons ⟨hk, rfl⟩ .nil)⟩
    rw [List.mem_singleton.mp hb]
    exact fun z => hm (z ▸ ha)
def allK (ks : List Key) : List Key := ks.foldl addK []
theorem allK_snoc (ks : List Key) (k : Key) : allK (ks ++ [k]) = addK (allK ks) k := by unfold allK; rw [List.foldl_append]; rfl
theorem addK_len (ks : List Key) (k : Key) : (addK ks k).length ≤ ks.length + 1 := by
  unfold addK
  split
  · omega
  · rw [List.length_append]; exact Nat.le_refl _
theorem foldl_new : ∀ (ks acc : List Key), (acc ++ ks).Nodup → ks.foldl addK acc = acc ++ ks
  | [], acc, _ => (List.append_nil acc).symm
  | k :: r, acc, h => by
    have hk : k ∉ acc := fun z => (List.nodup_append.mp h).2.2 k z k List.mem_cons_self rfl
    rw [List.foldl_cons, addK_new hk, foldl_new r (acc ++ [k]) (by rw [List.append_assoc]; exact h), List.append_assoc]
    rfl
theorem allK_nodup {ks : List Key} (h : ks.Nodup) : allK ks = ks := foldl_new ks [] h
theorem mem_addK {ks : List Key} {k j : Key} : j ∈ addK ks k ↔ j ∈ ks ∨ j = k := by
  by_cases h : k ∈ ks
  · rw [addK_in h]
    exact ⟨.inl, fun z => z.elim id fun e => e ▸ h⟩
  · rw [addK_new h, List.mem_append, List.mem_singleton]
theorem mem_foldl : ∀ {ks acc : List Key} {j : Key}, j ∈ ks.foldl addK acc ↔ j ∈ acc ∨ j ∈ ks
  | [], acc, j => by simp
  | k :: r, acc, j => by
    rw [List.foldl_cons, mem_foldl, mem_addK, List.mem_cons]
    exact or_assoc
theorem mem_allK {ks : List Key} {j : Key} : j ∈ allK ks ↔ j ∈ ks := by unfold allK; rw [mem_foldl]; simp
theorem addK_nd {ks : List Key} {k : Key} (h : ks.Nodup) : (addK ks k).Nodup := by
  by_cases z : k ∈ ks
  · rw [addK_in z]; exact h
  · rw [addK_new z]
    refine List.nodup_append.mpr ⟨h, List.pairwise_singleton _ _, fun a ha b hb e => ?_⟩
    rw [List.mem_singleton.mp hb] at e
    exact z (e ▸ ha)
theorem foldl_nd : ∀ {ks acc : List Key}, acc.Nodup → (ks.foldl addK acc).Nodup
  | [], _, h => h
  | k :: r, acc, h => by rw [List.foldl_cons]; exact foldl_nd (addK_nd h)
theorem allK_nd (ks : List Key) : (allK ks).Nodup := foldl_nd List.nodup_nil
section
variable {X : Cx}
/-- set(..) of a list or a tuple of texts -/
inductive cSetT (P : Program) (w : World) (vs : List V) (H : Hp) (Q : VK) : Prop
  | mk (p : Addr) (o : HO) (zs : List Str) (e : vs = [.ref p]) (h : H p = some o) (ob : Ob o (zs.map V.str)) (hz : zs.length < 1000)
      (q : ∀ D, H D = none → Q (.ref D) (upd H D (SetH P w D (allK (zs.map Sum.inr))))) : cSetT P w vs H Q
theorem call_setT (P : Program) (w : World) (hc : X.calm = true) (e1 : X.prog = P := by rfl) (e2 : X.w = w := by rfl) : CallR X (.type "set") (cSetT P w) := by
  subst e1 e2
  intro pins s σ H xs us Q I r h
  obtain ⟨p, o, zs, rfl, hp, ob, hz, q⟩ := h
  obtain ⟨u, rfl, rx⟩ := vals1 r
  cases rx
  have hh : X.A.handled = none := I.ok.hd hc
  have key : ∀ {its : List Value}, Vals (zs.map V.str) its → (∀ (i : Nat) v, its.toArray[i]? = some v → ∃ k, (zs.map Sum.inr : List Key)[i]? = some k ∧ (mixKind X.prog X.w).is k v = true ∧ v.scannable = true) := fun {its} rv i v hv => by
    have hl := rv.length
    rw [List.length_map] at hl
    have hi : i < zs.length := by
      rw [List.getElem?_toArray] at hv
      have := (List.getElem?_eq_some_iff.mp hv).1
      omega
    obtain ⟨t, e⟩ := str_at rv hi
    rw [List.getElem?_toArray] at hv
    rw [List.getD_eq_getElem?_getD, hv] at e
    refine ⟨.inr (zs.getD i ""), ?_, ?_, ?_⟩
    · rw [List.getElem?_map, List.getElem?_eq_getElem hi, List.getD_eq_getElem?_getD, List.getElem?_eq_getElem hi]; rfl
    · rw [show v = _ from e]; exact keyIs_str _ t
    · rw [show v = _ from e]; rfl
  have fin : ∀ {its : List Value}, Vals (zs.map V.str) its → ∀ (h' : Heap) (tk : Nat) es, (∀ b o, s.heap.get? b = some o → h'.get? b = some o) → Ss.SetG X.w h' s.heap.objs.size es → SetK X.prog X.w (allK ((zs.map Sum.inr).take its.length)) es → EP X pins σ Q (.ref s.heap.objs.size) { s with heap := h', toks := tk } := fun {its} rv h' tk es keep g k => by
    have hl := rv.length
    rw [List.length_map] at hl
    rw [List.take_of_length_le (by rw [List.length_map]; omega)] at k
    exact ⟨.ref s.heap.objs.size, _, I.laid (t' := tk) (o := SetH X.prog X.w s.heap.objs.size (allK (zs.map Sum.inr))) keep (Nat.le_refl _) (setH_ok ⟨es, g, k⟩), rfl, q _ (I.hok.fresh (Nat.le_refl _))⟩
  have stp : ∀ i (k : Key) v (es es' : Array (Int × Value)), SetK X.prog X.w (allK ((zs.map Sum.inr).take i)) es ∧ es.size ≤ i → (zs.map Sum.inr : List Key)[i]? = some k → (mixKind X.prog X.w).is k v = true → Ss.Added (mixKind X.prog X.w) k v es es' → SetK X.prog X.w (allK ((zs.map Sum.inr).take (i + 1))) es' ∧ es'.size ≤ i + 1 := fun i k v es es' z hk hv ad => by
    refine ⟨?_, ?_⟩
    · rw [List.take_add_one, hk]
      show SetK _ _ (allK (_ ++ [k])) _
      rw [allK_snoc]
      exact setK_add z.1 hv ad
    · rcases ad with ⟨_, rfl⟩ | ⟨_, hp⟩
      · omega
      · have := hp.length_eq
        simp at this
        omega
  have elm : ∀ i (es : Array (Int × Value)), SetK X.prog X.w (allK ((zs.map Sum.inr).take i)) es ∧ es.size ≤ i → ElemsOf (mixKind X.prog X.w) es.toList ∧ es.size ≤ i := fun i es z => by
    obtain ⟨_, el, pe, qe⟩ := z.1
    exact ⟨setP_elems pe qe, z.2⟩
  have ini : SetK X.prog X.w (allK ((zs.map Sum.inr).take 0)) #[] ∧ (#[] : Array (Int × Value)).size ≤ 0 := ⟨⟨List.nodup_nil, [], .nil, .nil⟩, Nat.le_refl _⟩
  have sb : scanBound = 4096 := rfl
  rcases ob with rfl | rfl
  · obtain ⟨_, its, n, rv, e⟩ := I.hok p _ hp
    have hl := rv.length
    rw [List.length_map] at hl
    refine Ss.call_list (knd := mixKind X.prog X.w) (ks := zs.map Sum.inr) (Z := fun i es => SetK X.prog X.w (allK ((zs.map Sum.inr).take i)) es ∧ es.size ≤ i) hh ⟨_, e, rfl, n, rfl⟩ (by rw [List.size_toArray, sb]; omega) (key rv) elm stp ini fun h' tk es keep g z => ?_
    rw [List.size_toArray] at z
    exact fin rv h' tk es keep g z.1
  · obtain ⟨_, its, rv, ob, e, hcl, n, hd⟩ := I.hok p _ hp
    have hl := rv.length
    rw [List.length_map] at hl
    refine Ss.call_tuple (knd := mixKind X.prog X.w) (ks := zs.map Sum.inr) (Z := fun i es => SetK X.prog X.w (allK ((zs.map Sum.inr).take i)) es ∧ es.size ≤ i) hh ⟨_, e, hcl, n, hd⟩ (by rw [List.size_toArray, sb]; omega) (key rv) elm stp ini fun h' tk es keep g z => ?_
    rw [List.size_toArray] at z
    exact fin rv h' tk es keep g z.1
/-- len of a set -/
inductive cLenS (P : Program) (w : World) (vs : List V) (H : Hp) (Q : VK) : Prop
  | mk (p : Addr) (ks : List Key) (e : vs = [.ref p]) (h : H p = some (SetH P w p ks)) (hz : ks.length < 1000) (q : Q (.int ks.length) H) : cLenS P w vs H Q
theorem call_lenS (P : Program) (w : World) (e1 : X.prog = P := by rfl) (e2 : X.w = w := by rfl) : CallR X (.builtin "len") (cLenS P w) := by
  subst e1 e2
  intro pins s σ H xs us Q I r h
  obtain ⟨p, ks, rfl, hp, hz, q⟩ := h
  obtain ⟨u, rfl, rx⟩ := vals1 r
  cases rx
  obtain ⟨⟨es, ⟨ep, t, ho, hf, _⟩, nd, el, pe, qe⟩, _, _⟩ := I.hok p _ hp
  have he : es.size = ks.length := by have := Paired.length qe; have := pe.length_eq; simp at *; omega
  refine call_len_set ho ⟨rfl, rfl, rfl⟩ rfl hf (by omega) ?_
  exact ⟨.int ks.length, H, I.tok _, ⟨_, by rw [he]⟩, q⟩
end
end L2
set_option Elab.async false
set_option linter.all false
set_option maxRecDepth 100000
/-! TEXTS over the hand layer: their methods, join, split, partition, int of a text. -/
namespace L2
open PySem PySem.Spec PyProof.Rows
theorem strs_of : ∀ {ts : List Str} {us : List Value}, Vals (ts.map V.str) us → ∃ l : List (Str × Tok), us = strValues l ∧ l.map (·.1) = ts
  | [], us, h => by
    cases h
    exact ⟨[], rfl, rfl⟩
  | x :: r, us, h => by
    cases h with
    | cons a b =>
      obtain ⟨t, rfl⟩ := a
      obtain ⟨l, rfl, e⟩ := strs_of b
      exact ⟨(x, t) :: l, rfl, by rw [List.map_cons, e]⟩
section
variable {X : Cx}
theorem mt_join : MtR X "str.join" (fun x xs H Q => ∃ sep D, ∃ ts : List Str, x = .str sep ∧ xs = [.ref D] ∧ SqL X.K H D (ts.map V.str) ∧ JoinOk sep ts = true ∧ Q (.str (Txt.join sep ts)) H) := by
  intro pins s σ H x xs v us Q I rx r h
  obtain ⟨sep, D, ts, e1, e2, hq, hok, q⟩ := h
  subst e1 e2
  obtain ⟨t, rfl⟩ := rx
  obtain ⟨u, rfl, ry⟩ := vals1 r
  cases ry
  obtain ⟨its, rv, p, hz⟩ := I.list hq
  obtain ⟨l, rfl, et⟩ := strs_of rv
  exact SC.join p.isList et hok fun t1 k => ⟨.str _, H, I.tok k, ⟨t1, rfl⟩, q⟩
end
end L2
set_option Elab.async false
set_option linter.all false
set_option maxRecDepth 100000
/-! the signs of a text, one by one; a statement that isn't come to -/
namespace L2
open PySem PySem.Spec PyProof.Rows
def Its (x : Str) : It := ⟨fun i _ => i < x.cps.size, fun i H v H' => H' = H ∧ ∃ c, x.cps.toList[i]? = some c ∧ v = .str ⟨#[c]⟩, fun i _ => x.cps.size ≤ i⟩
theorem turn_str {P : Program} {w : World} {K : PySem.W.Frag} {tg : Expr} (x : Str) (t : Tok) (it : Addr) : Turn P w K tg (Its x) [it] it (fun i h => h.IsStrIter it "str_ascii_iterator" x t i) where
  mem := by simp
  obj := fun i h st b hb => by
    have e : b = it := by simpa using hb
    subst e
    obtain ⟨o, e, c, d⟩ := st
    exact ⟨o, e, fun v z => by rw [d] at z; cases z⟩
  keep := fun i h h' st k => by
    obtain ⟨o, ho, r⟩ := st
    exact ⟨o, k it (by simp) o ho, r⟩
  item := by
    intro X hP hw hK hc i pins s σ H E I hf st hg
    subst hP hw hK
    have hi : i < x.cps.size := hg
    obtain ⟨f0, f1, f2, f3, f4, f5⟩ := hf it (by simp)
    refine wpAny_pyNext_ascii_item st (c := x.cps[i]) (by simp [hi]) fun h' st' sb => ?_
    have I1 : Inv X pins σ H { s with heap := h', toks := s.toks + 1 } := I.turned (t' := s.toks + 1) (fun b o hb e => (sb.2 b hb).trans e) f0 f1 f3 f4 f5
    obtain ⟨o, e, c, d⟩ := id st'
    exact ⟨_, rfl, go_of (s := { s with heap := h', toks := s.toks + 1 }) e c d (by decide) ⟨.str ⟨#[x.cps[i]]⟩, H, I1, ⟨_, rfl⟩, ⟨rfl, _, by simp [hi], rfl⟩, st', fun b hb => (hf b hb).1⟩⟩
  done := by
    intro X hP hw hK hc i pins s σ H E I hf st hg
    subst hP hw hK
    have hi : x.cps.size ≤ i := hg
    obtain ⟨f0, f1, f2, f3, f4, f5⟩ := hf it (by simp)
    exact wpAny_pyNext_ascii_end (I.ok.hd hc) st (by simp [hi]) fun h' eb => ⟨rfl, I.turned (t' := s.toks) (fun b o hb e => eb b o hb e) f0 f1 f3 f4 f5⟩
  self := fun _ _ _ _ _ st h => wpAny_pyIter_striter_ascii st h
section
variable {X : Cx} {tg : Expr}
def iStr (tl : TE) : TI := fun σ H R => tl σ H fun v H1 => ∃ x, v = .str x ∧ x.cps.all (· < 128) = true ∧ R (Its x) H1
theorem pi_str {l : Expr} {tl : TE} (hl : PE X l tl) : PI X tg l (iStr tl) := by
  intro pins s σ H R I h
  refine thn (hl pins s σ H _ I h) fun v s1 ⟨y, H1, I1, r1, q1⟩ => ?_
  obtain ⟨x, e, ha, q⟩ := q1
  subst e
  obtain ⟨t, rfl⟩ := r1
  refine wpAny_pyIter_ascii ha ?_
  refine ⟨s1.heap.objs.size, [s1.heap.objs.size], _, _, H1, rfl, I1.kept (t' := s1.toks) fun b o e => Heap.get?_push_of_some _ e, turn_str x t _, ⟨_, Heap.get?_push_size _ rfl, rfl, rfl⟩, fun b hb => ?_, q⟩
  have e : b = s1.heap.objs.size := by simpa using hb
  subst e
  exact I1.fpOk (Nat.le_refl _) (I1.hok.fresh (Nat.le_refl _))
end
end L2
set_option Elab.async false
set_option linter.all false
set_option maxRecDepth 100000
/-! things put one by one into order; words -/
namespace Srt
end Srt
namespace Ent
open PySem
/-! ### words -/
end Ent
set_option Elab.async false
set_option linter.all false
set_option maxRecDepth 100000
/-! numbers as texts, texts taken apart -/
namespace Ent
open PySem PySem.NumText
/-! ### taken apart -/
end Ent
set_option Elab.async false
set_option linter.all false
set_option maxRecDepth 100000
/-! a, b, c = a list; f-strings -/
namespace L2
open PySem PySem.Spec PyProof.Rows
section
variable {prog : Program} {w : World} {A : Around} {E : Value → Shared → Prop} {s : Shared}
end
section
variable {X : Cx} {pos : Pos}
/-! ### f-strings -/
end
end L2
set_option Elab.async false
set_option linter.all false
set_option maxRecDepth 100000
namespace L2
open PySem PySem.Spec PyProof.Rows
section
variable {X : Cx} {st : Stmt} {rest : List Stmt} {t u : TS} {e : Expr} {te : TE}
def tCut (t u : TS) : TS := fun D σ H => ∃ M : St → Hp → Prop, t { D with nx := M } σ H ∧ ∀ σ' H', M σ' H' → u D σ' H'
theorem pss_cut (h1 : PS X st t) (h2 : PSs X rest u) : PSs X (st :: rest) (tCut t u) := by
  refine ⟨?_⟩
  intro pins s σ H D I h
  obtain ⟨M, a, b⟩ := h
  refine wpAny_execs_cons (thn (h1 pins s σ H { D with nx := M } I a) fun f s1 q => ?_)
  cases f with
  | next =>
    obtain ⟨σ', H', I', q⟩ := q
    exact h2 pins s1 σ' H' D I' (b _ _ q)
  | ret v => exact q
  | brk => exact q
  | cont => exact q
end
end L2
set_option Elab.async false
set_option linter.all false
set_option maxRecDepth 100000
namespace L2
open PySem PySem.Spec PyProof.Rows
section
variable {X : Cx}
/-- tuple(..) of a list or a tuple -/
theorem call_tup_ob : CallR X (.type "tuple") (fun xs H Q => ∃ a o ys, xs = [.ref a] ∧ H a = some o ∧ Ob o ys ∧ ∀ l H', Same H H' → H' l = some (.tup ys) → Q (.ref l) H') := by
  intro pins s σ H xs us Q I r h
  obtain ⟨a, o, ys, e1, ha, ho, q⟩ := h
  refine call_tuple_of pins s σ H xs us Q I r ⟨a, ys, e1, ?_⟩
  rcases ho with ho | ho
  · subst ho
    exact .inl ⟨.of ha, fun l hl => q l _ (Same.upd hl) upd_same⟩
  · subst ho
    exact .inr ⟨.of ha, q a H (Same.refl _) ha⟩
/-- len(..) of a list or a tuple -/
theorem call_len_ob : CallR X (.builtin "len") (fun xs H Q => ∃ a o ys, xs = [.ref a] ∧ H a = some o ∧ Ob o ys ∧ Q (.int ys.length) H) := by
  intro pins s σ H xs us Q I r h
  obtain ⟨a, o, ys, e1, ha, ho, q⟩ := h
  exact call_len_seq pins s σ H xs us Q I r ⟨a, ys, e1, ho.sq ha, q⟩
end
end L2
set_option Elab.async false
set_option linter.all false
set_option maxRecDepth 100000
/-! checks of sources that are sources -/
namespace L2
open PySem PySem.Spec PyProof.Rows
section
variable {X : Cx} {x : Str} {pos : Pos}
theorem pe_gs {z : Str} (h : ∃ t, X.mg x = some (.str z t)) (hg : Gl X x := by rfl) (hd : (x == ("__debug__" : Str)) = false := by decide) : PE X (.Name x pos) (tC (.str z)) := by
  obtain ⟨t, h⟩ := h
  exact pe_glob hg h ⟨t, rfl⟩ hd
end
end L2
namespace Pr
open PySem L2 PyProof.Rows
theorem line1 {n : Nat} (h : n ≤ 1000) : n ≤ sizeLine := by rw [sizeLine_eq]; omega
theorem iteB {c : Bool} {A B : Prop} (h1 : c = true → A) (h2 : c = false → B) : if c = true then A else B := by
  cases c with
  | true => rw [if_pos rfl]; exact h1 rfl
  | false => rw [if_neg Bool.false_ne_true]; exact h2 rfl
theorem iteC {c : Bool} {A B : Prop} (hc : c = true) (h : A) : if c = true then A else B := by rw [hc]; exact iteT h
theorem iteN {c : Bool} {A B : Prop} (hc : c = false) (h : B) : if c = true then A else B := by rw [hc]; exact iteF h
abbrev AZ : Str := (("abcdefghijklmnopqrstuvwxyz" : String) : Str)
/-- a source's name -/
structure Src (z : Str) : Prop where
  l : 1 ≤ z.cps.size
  h : z.cps.size ≤ 6
  c : ∀ c ∈ z.cps.toList, c < 128 ∧ c ∈ AZ.cps.toList
structure Srcs (zs : List Str) : Prop where
  l : 1 ≤ zs.length
  h : zs.length ≤ 6
  nd : zs.Nodup
  s : ∀ z ∈ zs, Src z
theorem nd_inr {zs : List Str} (h : zs.Nodup) : (zs.map Sum.inr : List Key).Nodup := List.Pairwise.map _ (fun _ _ hne e => hne (Sum.inr.inj e)) h
section
variable {P : Program} {w : World} {K : PySem.W.Frag} {mg : Str → Option Value} {base : Heap} {C : Addr}
theorem kit_lst (K : PySem.W.Frag) : PySem.W.kitAny K (.type "list") [.type "list", .type "tuple"] = some true := by rfl
theorem kit_tup (K : PySem.W.Frag) : PySem.W.kitAny K (.type "tuple") [.type "list", .type "tuple"] = some true := by rfl
theorem kit_str1 (K : PySem.W.Frag) : PySem.W.kitOne K (.type "str") (.type "str") = some true := by rfl
theorem ob_ty {H : Hp} {p : Addr} {o : HO} {xs : List V} (h : H p = some o) (ob : Ob o xs) (K : PySem.W.Frag) : ∃ t, TyW H (.ref p) t ∧ PySem.W.kitAny K t [.type "list", .type "tuple"] = some true := by
  rcases ob with rfl | rfl
  · exact ⟨_, .s (.lst h), kit_lst K⟩
  · exact ⟨_, .s (.tup h), kit_tup K⟩
inductive sp_is_list (vs : List V) (H : Hp) (Q : VK) (E : XK) : Prop
  | mk (p : Addr) (o : HO) (xs : List V) (e : vs = [.ref p]) (h : H p = some o) (ob : Ob o xs) (q : ∀ H', Same H H' → Q (.bl true) H') : sp_is_list vs H Q E
theorem sc_is_list : FnScope ["value"] ["value"] (defScope s_is_list) := ⟨rfl, rfl, rfl, by decide +kernel, rfl, by decide +kernel, by decide +kernel⟩
theorem is_list (T : Txt K mg C) : Can P w K mg base 1 "is_list" ["value"] sp_is_list := by
  refine fn_can T.f_is_list sc_is_list (fun vs H Q E h => ?_) (fun f cdv A outer s H vs Q E hr h => ?_)
  · obtain ⟨p, o, xs, rfl, _⟩ := h
    rfl
  · obtain ⟨p, o, xs, rfl, hp, ob, q⟩ := h
    refine ⟨_, pss_one (ps_ret (pe_b (call_isiW2 K) T.b_isinstance boot_isinstance (pa2 (pv 0) (pe_tup (pa2 (pe_ty rfl T.b_list boot_list) (pe_ty rfl T.b_tuple boot_tuple)))))), ?_⟩
    refine ⟨_, rfl, line1 (by show 2 ≤ 1000; decide), fun u hu => ?_⟩
    obtain ⟨t, ty, hk⟩ := ob_ty (K := K) ((Same.upd (o := .tup [.ty "list", .ty "tuple"]) hu) _ _ hp) ob
    exact ⟨_, t, u, _, _, _, rfl, .of upd_same, ty, hk, q _ (Same.upd hu)⟩
inductive sp_is_list_from (vs : List V) (H : Hp) (Q : VK) (E : XK) : Prop
  | mk (p : Addr) (o : HO) (xs : List V) (a b : Int) (e : vs = [.ref p, .int a, .int b]) (h : H p = some o) (ob : Ob o xs) (h1 : a ≤ xs.length) (h2 : xs.length ≤ b) (q : ∀ H', Same H H' → Q (.bl true) H') : sp_is_list_from vs H Q E
theorem sc_is_list_from : FnScope ["value", "fewest", "most"] ["value", "fewest", "most"] (defScope s_is_list_from) := ⟨rfl, rfl, rfl, by decide +kernel, rfl, by decide +kernel, by decide +kernel⟩
theorem is_list_from (T : Txt K mg C) : Can P w K mg base 2 "is_list_from" ["value", "fewest", "most"] sp_is_list_from := by
  refine fn_can T.f_is_list_from sc_is_list_from (fun vs H Q E h => ?_) (fun f cdv A outer s H vs Q E hr h => ?_)
  · obtain ⟨p, o, xs, a, b, rfl, _⟩ := h
    rfl
  · obtain ⟨p, o, xs, a, b, rfl, hp, ob, h1, h2, q⟩ := h
    refine ⟨_, pss_one (ps_ret (pe_and (pe_can (is_list T) hr (pa1 (pv 0))) (pe_one (pe_chain op_le op_le (pv 1) (pe_b call_len_ob T.b_len boot_len (pa1 (pv 0))) (pv 2))))), ?_⟩
    refine ⟨_, rfl, p, o, xs, rfl, hp, ob, fun H1 s1 => ⟨_, rfl, iteT ?_⟩⟩
    refine ⟨_, rfl, _, rfl, p, o, xs, rfl, s1 _ _ hp, ob, _, _, rfl, rfl, _, rfl, iteC (decide_eq_true h1) ⟨_, rfl, _, _, rfl, rfl, ?_⟩⟩
    rw [decide_eq_true h2]
    exact q _ s1
inductive sp_is_word (vs : List V) (H : Hp) (Q : VK) (E : XK) : Prop
  | mk (k sg : Str) (m : Int) (e : vs = [.str k, .str sg, .int m]) (h1 : 1 ≤ k.cps.size) (h2 : (k.cps.size : Int) ≤ m) (hm : m ≤ 8) (h3 : ∀ c ∈ k.cps.toList, c < 128 ∧ c ∈ sg.cps.toList) (q : ∀ H', Same H H' → Q (.bl true) H') : sp_is_word vs H Q E
theorem sc_is_word : FnScope ["value", "signs", "most"] ["value", "signs", "most"] (defScope s_is_word) := ⟨rfl, rfl, rfl, by decide +kernel, rfl, by decide +kernel, by decide +kernel⟩
set_option maxHeartbeats 2000000 in
theorem is_word (T : Txt K mg C) : Can P w K mg base 1 "is_word" ["value", "signs", "most"] sp_is_word := by
  refine fn_can T.f_is_word sc_is_word (fun vs H Q E h => ?_) (fun f cdv A outer s H vs Q E hr h => ?_)
  · obtain ⟨k, sg, m, rfl, _⟩ := h
    rfl
  · obtain ⟨k, sg, m, rfl, h1, h2, hm, h3, q⟩ := h
    refine ⟨_, pss_one (ps_ret (pe_and (pe_b (call_isiW K) T.b_isinstance boot_isinstance (pa2 (pv 0) (pe_ty rfl T.b_str boot_str))) (pe_and (pe_chain op_le op_le pe_int (pe_b call_len_str T.b_len boot_len (pa1 (pv 0))) (pv 2)) (pe_one (pe_b (call_all_seqK K rfl) T.b_all boot_all (pa1 (pe_lc rfl (lcS sc_is_word) (pi_str (pv 0)) (fun _ _ _ _ => pts_nil) (fun _ _ _ _ => pe_cmpR op_in_str (pv 0) (pv 2) rfl)))))))), ?_⟩
    have hk : k.length = k.cps.size := rfl
    have hal : k.cps.all (· < 128) = true := by
      rw [← Array.all_toList, List.all_eq_true]
      exact fun c hc => decide_eq_true (h3 c hc).1
    refine ⟨_, rfl, _, _, _, _, rfl, .str k, kit_str1 _, _, rfl, iteT ?_⟩
    refine ⟨_, rfl, _, rfl, line1 (by omega), _, _, rfl, rfl, _, rfl, iteC (decide_eq_true (by omega)) ⟨_, rfl, _, _, rfl, rfl, _, rfl, iteC (decide_eq_true (by omega)) ⟨_, rfl, k, rfl, hal, fun D hD => ?_⟩⟩⟩
    refine lc_go (n := k.cps.size) (fun i ys H1 => H1 D = some (.lst ys) ∧ Same H H1 ∧ ys = (List.replicate i true).map V.bl) ⟨upd_same, Same.upd hD, rfl⟩ (fun i ys H1 h => h.1) (fun ys H1 h => ⟨Nat.le_refl _, ?_⟩) fun i ys H1 hi h => ⟨hi, fun x H' y => ?_⟩
    · obtain ⟨z1, z2, rfl⟩ := h
      refine ⟨D, _, rfl, .of z1, ?_⟩
      have e : (List.replicate k.cps.size true).all id = true := by simp
      rw [e]
      exact q _ z2
    · obtain ⟨z1, z2, rfl⟩ := h
      obtain ⟨e1, c, hc, e2⟩ := y
      subst e1 e2
      refine yesI ⟨_, rfl, _, rfl, _, _, rfl, rfl, ?_⟩
      have hf : (!(Builtin.Str.occurrences sg ⟨#[c]⟩ 0 sg.length 1).isEmpty) = true := by
        rw [StrLaws.found_one]
        exact decide_eq_true (h3 c (List.mem_of_getElem? hc)).2
      rw [hf]
      refine LcNx.mk hi (by omega) (by rw [List.length_map, List.length_replicate]; exact Nat.le_refl _) z1 ⟨upd_same, fun b o e => ?_, ?_⟩
      · rw [upd_ne (ne_of_none e hD)]; exact z2 _ _ e
      · rw [List.replicate_succ', List.map_append]
        rfl
inductive sp_is_source (vs : List V) (H : Hp) (Q : VK) (E : XK) : Prop
  | mk (k : Str) (e : vs = [.str k]) (h : Src k) (q : ∀ H', Same H H' → Q (.bl true) H') : sp_is_source vs H Q E
theorem sc_is_source : FnScope ["value"] ["value"] (defScope s_is_source) := ⟨rfl, rfl, rfl, by decide +kernel, rfl, by decide +kernel, by decide +kernel⟩
theorem is_source (T : Txt K mg C) : Can P w K mg base 2 "is_source" ["value"] sp_is_source := by
  refine fn_can T.f_is_source sc_is_source (fun vs H Q E h => ?_) (fun f cdv A outer s H vs Q E hr h => ?_)
  · obtain ⟨k, rfl, _⟩ := h
    rfl
  · obtain ⟨k, rfl, ok, q⟩ := h
    refine ⟨_, pss_one (ps_ret (pe_can (is_word T) hr (pa3 (pv 0) (pe_gs T.c_LETTERS) (pe_gi T.c_MOST_SOURCE_SIGNS)))), ?_⟩
    have := ok.h
    exact ⟨_, rfl, k, AZ, 6, rfl, ok.l, by omega, by decide, ok.c, q⟩
inductive sp_are_sources (vs : List V) (H : Hp) (Q : VK) (E : XK) : Prop
  | mk (p : Addr) (o : HO) (zs : List Str) (e : vs = [.ref p]) (h : H p = some o) (ob : Ob o (zs.map V.str)) (ok : Srcs zs) (q : ∀ H', Same H H' → Q (.bl true) H') : sp_are_sources vs H Q E
theorem sc_are_sources : FnScope ["value"] ["value"] (defScope s_are_sources) := ⟨rfl, rfl, rfl, by decide +kernel, rfl, by decide +kernel, by decide +kernel⟩
set_option maxHeartbeats 2000000 in
theorem are_sources (T : Txt K mg C) : Can P w K mg base 3 "are_sources" ["value"] sp_are_sources := by
  refine fn_can T.f_are_sources sc_are_sources (fun vs H Q E h => ?_) (fun f cdv A outer s H vs Q E hr h => ?_)
  · obtain ⟨p, o, zs, rfl, _⟩ := h
    rfl
  · obtain ⟨p, o, zs, rfl, hp, ob, ok, q⟩ := h
    refine ⟨_, (pss_cons (ps_if (PW.pt (pw_or (pt_not (pt_val (pe_can (is_list_from T) hr (pa3 (pv 0) pe_int (pe_gi T.c_MOST_SOURCES))))) (pw_or1 (pt_not (pt_val (pe_b (call_all_seqK K rfl) T.b_all boot_all (pa1 (pe_lc rfl (lcS sc_are_sources) (pi_seq (pv 0)) (fun _ _ _ _ => pts_nil) (fun _ _ _ _ => (pe_can (is_source T) hr (pa1 (pv 0))))))))))))
        (pss_one (ps_ret pe_bl)) pss_nil)
      (pss_one (ps_ret (pe_cmpR op_eq (pe_b (call_lenS P w) T.b_len boot_len (pa1 (pe_t (call_setT P w rfl) T.b_set boot_set (pa1 (pv 0))))) (pe_b call_len_ob T.b_len boot_len (pa1 (pv 0))) (nomark _))))), ?_⟩
    have h1 := ok.l
    have h6 := ok.h
    refine ⟨_, rfl, p, o, _, _, _, rfl, hp, ob, by rw [List.length_map]; omega, by rw [List.length_map]; omega, fun H1 s1 => ⟨_, rfl, iteF ?_⟩⟩
    refine ⟨_, rfl, p, o, _, rfl, s1 _ _ hp, ob, fun J hJ D hD => ?_⟩
    refine lc_it hJ (fun i ys H2 => H2 D = some (.lst ys) ∧ ys = (List.replicate i true).map V.bl ∧ Same H1 H2) ⟨upd_same, rfl, Same.upd hD⟩ (fun i ys H2 h => ⟨h.1, h.2.2 _ _ (s1 _ _ hp)⟩) (fun ys H2 h => ?_) fun i x ys H2 hi hx h => ?_
    · obtain ⟨d1, rfl, d3⟩ := h
      refine ⟨D, _, rfl, .of d1, _, rfl, ?_⟩
      have e : ∀ n, (List.replicate n true).all id = true := fun n => by simp
      rw [e]
      have s2 := s1.trans d3
      refine iteF ⟨_, rfl, p, o, zs, rfl, s2 _ _ hp, ob, by omega, fun S hS => ⟨S, _, rfl, upd_same, ?_, ?_⟩⟩
      · rw [allK_nodup (nd_inr ok.nd), List.length_map]; omega
      · refine ⟨_, rfl, p, o, _, rfl, (Same.upd hS) _ _ (s2 _ _ hp), ob, rfl, ?_⟩
        rw [allK_nodup (nd_inr ok.nd), List.length_map, List.length_map, decide_eq_true rfl]
        exact q _ (s2.trans (Same.upd hS))
    · obtain ⟨d1, rfl, d3⟩ := h
      rw [List.length_map] at hi
      rw [List.getElem?_map, List.getElem?_eq_getElem hi] at hx
      cases hx
      refine yesI ⟨_, rfl, _, rfl, ok.s _ (List.getElem_mem hi), fun H3 s3 => ?_⟩
      refine LcNx.mk (by rw [List.length_map]; exact hi) (by rw [List.length_map]; omega) (by rw [List.length_map, List.length_replicate]; exact Nat.le_refl _) (s3 _ _ d1) ⟨upd_same, by rw [List.replicate_succ', List.map_append]; rfl, fun b o e => ?_⟩
      rw [upd_ne (ne_of_none e hD)]
      exact s3 _ _ (d3 _ _ e)
end
end Pr
set_option Elab.async false
set_option linter.all false
set_option maxRecDepth 100000
/-! more: products of wide numbers, a <= b <= c <= d, slices of a list or a tuple -/
namespace L2
open PySem PySem.Spec PyProof.Rows
section
variable {X : Cx} {a b c d : Expr} {ta tb tc td : TE} {pos : Pos}
/-- list(x) of a list or a tuple -/
inductive cListO (vs : List V) (H : Hp) (Q : VK) : Prop
  | mk (a : Addr) (o : HO) (xs : List V) (e : vs = [.ref a]) (h : H a = some o) (ob : Ob o xs) (q : ∀ p, H p = none → Q (.ref p) (upd H p (.lst xs))) : cListO vs H Q
theorem call_list_ob : CallR X (.type "list") cListO := by
  intro pins s σ H xs us Q I r h
  obtain ⟨a, o, ys, rfl, ha, ob, q⟩ := h
  exact call_list_of pins s σ H _ us Q I r ⟨a, ys, rfl, ob.sq ha, q⟩
end
end L2
set_option Elab.async false
set_option linter.all false
set_option maxRecDepth 100000
/-! a dict whatever its keys are: iter, next, list(d) -/
namespace Dx
open PySem PySem.Spec PySem.W PySem.Calls PyProof.Rows
/-- a dict's entries -/
def DE (h : Heap) (d : Addr) (es : Array DictEntry) (ep : Nat) : Prop := ∃ o, h.get? d = some o ∧ o.ExactDict ∧ o.data = .dict es ep
theorem DE.ty {s : Shared} {d : Addr} {es : Array DictEntry} {ep : Nat} (x : DE s.heap d es ep) : s.TypeIs (.ref d) "dict" := by
  obtain ⟨o, e, r, _⟩ := x
  exact ⟨o, e, r.1⟩
section
variable {prog : Program} {w : World} {A : Around} {E : Value → Shared → Prop} {s : Shared} {d it : Addr} {es : Array DictEntry} {ep i : Nat}
theorem iter {Q : Value → Shared → Prop} (hd : (d == sysModules) = false) (hm : DE s.heap d es ep)
    (q : Q (.ref s.heap.objs.size) { s with heap := s.heap.push { cls := .type "dict_keyiterator", data := .fields #[.ref d, .int 0 0, .int es.size 0, .int ep 0] } }) : wpAny (model prog w) A (pyIter (.ref d)) Q E s := by
  have hT := hm.ty
  obtain ⟨o, ho, hc, hdat⟩ := hm
  refine wpAny_pyIter_slot hT PySem.F.slot_dict_iter (wpAny_call_entry PySem.F.slot_dict_iter hT PySem.F.entry_dict_iter ?_ (PySem.F.args_dict_iter_1 _))
  unfold Builtin.«dict.__iter__» Builtin.Dict.dictSlotNone
  refine wpAny_bind (wpAny_bind (wpAny_notOrdered_dict hT ?_))
  show wpAny _ _ (pure (Value.ref d)) _ _ s
  refine wpAny_pure ?_
  show wpAny _ _ (Builtin.Dict.showsAll d >>= _) _ _ s
  unfold Builtin.Dict.showsAll
  rw [if_neg (by rw [hd]; simp)]
  refine wpAny_bind (wpAny_pure (wpAny_bind (wpAny_dictEntries ho hdat (wpAny_bind (wpAny_dictEpoch ho hdat (wpAny_bind (wpAny_newObj_type (wpAny_pure ⟨_, rfl, "dict_keyiterator", _, ⟨_, Heap.get?_push_size _ rfl, rfl⟩, PySem.F.slot_dict_keyiterator_next.lookup, ?_⟩))))))))
  simpa [rawInt] using q
theorem next {e : DictEntry} {Q : Option Value → Shared → Prop} (hit : s.heap.IsKeyIter it d i es.size ep) (hm : DE s.heap d es ep) (hx : es[i]? = some e)
    (q : ∀ h', h'.IsKeyIter it d (i + 1) es.size ep → Heap.SameBut it s.heap h' → Q (some e.key) { s with heap := h' }) : wpAny (model prog w) A (pyNext (.ref it)) Q E s := by
  have hT := hit.typeIs
  obtain ⟨o, ho, hc, hd⟩ := hit
  obtain ⟨od, hod, hcd, hdd⟩ := hm
  have hown : Builtin.Dict_items.ownsTuple "dict_keyiterator" = false := by decide
  obtain ⟨hlt, he⟩ := Array.getElem?_eq_some_iff.mp hx
  unfold pyNext
  refine wpAny_bind (wpAny_attempt (wpAny_callSpecial?_slot (name := Str.ofString "__next__") hT PySem.F.slot_dict_keyiterator_next (wpAny_call_entry PySem.F.slot_dict_keyiterator_next hT PySem.F.entry_dict_keyiterator_next ?_ (PySem.F.args_dict_keyiterator_next_1 _))))
  refine wpAny_bind (wpAny_pure (wpAny_bind (wpAny_bind ?_)))
  first | refine wpAny_bind (wpAny_typeNameOfWhole_keyiter hT (wpAny_pure (wpAny_bind (wpAny_fieldsOf ho hd ?_)))) | refine wpAny_bind (wpAny_typeNameOf_keyiter hT (wpAny_pure (wpAny_bind (wpAny_fieldsOf ho hd ?_))))
  simp only [hown, Bool.false_eq_true, if_false]
  show wpAny _ _ (if (Value.ref d == Value.none) = true then _ else _) _ _ s
  rw [if_neg (show ¬ ((Value.ref d == Value.none) = true) by simp)]
  refine wpAny_bind (wpAny_pure (wpAny_bind (wpAny_dictEntries hod hdd ?_)))
  rw [if_neg (by simp)]
  refine wpAny_bind (wpAny_pure (wpAny_bind (wpAny_dictEpoch hod hdd ?_)))
  rw [if_neg (by simp)]
  refine wpAny_pure ?_
  simp only [show ¬ ((i : Int) < 0) by omega, if_false, Int.toNat_natCast, hx]
  refine wpAny_bind ?_
  first | refine wpAny_bind (wpAny_typeNameOfWhole_keyiter hT (wpAny_pure (wpAny_bind (wpAny_isOneOf_keyiter hT ?_)))) | refine wpAny_bind (wpAny_typeNameOf_keyiter hT (wpAny_pure (wpAny_bind (wpAny_isOneOf_keyiter hT ?_))))
  show wpAny _ _ (setField (.ref it) 1 (rawInt ((i : Int) + 1)) >>= _) _ _ s
  refine wpAny_bind (wpAny_setField ho hd (by simp) ?_)
  have hit' : (s.heap.update it (Obj.mapFields fun z => z.setIfInBounds 1 (rawInt ((i : Int) + 1)))).IsKeyIter it d (i + 1) es.size ep :=
    ⟨_, Heap.get?_update_self _ ho (Obj.isFreed_of_fields (Obj.data_mapFields hd _)), (Obj.cls_mapFields ..).trans hc, by rw [Obj.data_mapFields hd]; simp [rawInt]⟩
  refine wpAny_bind (wpAny_holding (wpAny_bind (wpAny_isOneOf_keyiter (s := { s with heap := s.heap.update it (Obj.mapFields fun z => z.setIfInBounds 1 (rawInt ((i : Int) + 1))) }) hit'.typeIs ?_)))
  show wpAny _ _ (pure e.key) _ _ _
  exact wpAny_pure (wpAny_pure ⟨_, rfl, wpAny_pure (q _ hit' (Heap.SameBut.update ..))⟩)
theorem stop {Q : Option Value → Shared → Prop} (hh : A.handled = none) (hge : es.size ≤ i) (hit : s.heap.IsKeyIter it d i es.size ep) (hm : DE s.heap d es ep)
    (q : ∀ h', Heap.ExtBut it s.heap h' → Q none { s with heap := h' }) : wpAny (model prog w) A (pyNext (.ref it)) Q E s := by
  have hT := hit.typeIs
  obtain ⟨o, ho, hc, hd⟩ := hit
  obtain ⟨od, hod, hcd, hdd⟩ := hm
  have hown : Builtin.Dict_items.ownsTuple "dict_keyiterator" = false := by decide
  unfold pyNext
  refine wpAny_bind (wpAny_attempt (wpAny_callSpecial?_slot (name := Str.ofString "__next__") hT PySem.F.slot_dict_keyiterator_next (wpAny_call_entry PySem.F.slot_dict_keyiterator_next hT PySem.F.entry_dict_keyiterator_next ?_ (PySem.F.args_dict_keyiterator_next_1 _))))
  refine wpAny_bind (wpAny_pure (wpAny_bind (wpAny_bind ?_)))
  first | refine wpAny_bind (wpAny_typeNameOfWhole_keyiter hT (wpAny_pure (wpAny_bind (wpAny_fieldsOf ho hd ?_)))) | refine wpAny_bind (wpAny_typeNameOf_keyiter hT (wpAny_pure (wpAny_bind (wpAny_fieldsOf ho hd ?_))))
  simp only [hown, Bool.false_eq_true, if_false]
  show wpAny _ _ (if (Value.ref d == Value.none) = true then _ else _) _ _ s
  rw [if_neg (show ¬ ((Value.ref d == Value.none) = true) by simp)]
  refine wpAny_bind (wpAny_pure (wpAny_bind (wpAny_dictEntries hod hdd ?_)))
  rw [if_neg (by simp)]
  refine wpAny_bind (wpAny_pure (wpAny_bind (wpAny_dictEpoch hod hdd ?_)))
  rw [if_neg (by simp)]
  refine wpAny_pure ?_
  simp only [show ¬ ((i : Int) < 0) by omega, if_false, Int.toNat_natCast, Array.getElem?_eq_none hge]
  refine wpAny_bind ?_
  first | refine wpAny_bind (wpAny_typeNameOfWhole_keyiter hT (wpAny_pure ?_)) | refine wpAny_bind (wpAny_typeNameOf_keyiter hT (wpAny_pure ?_))
  show wpAny _ _ (setField (.ref it) 0 .none >>= _) _ _ s
  refine wpAny_bind (wpAny_setField ho hd (by simp) ?_)
  show wpAny _ _ (newExc (.type "StopIteration") [] >>= _) _ _ _
  simp only [newExc, newTuple]
  refine wpAny_bind (wpAny_bind (wpAny_newObj_type (wpAny_bind (m := firstArgMember _ _) (wpAny_of_eq (a := Value.none) (by first | rfl | (simp only [firstArgMember]; rfl)) (wpAny_newObj_type ?_ (by size_fits)))) (by size_fits)))
  simp only [raiseNew]
  refine wpAny_bind (wpAny_handled ?_)
  rw [show A.in1.handled = none from hh]
  refine wpAny_bind (wpAny_pure (wpAny_throw ?thr))
  case thr => exact wpAny_bind (wpAny_isInstance (T := "StopIteration") (b := true) ⟨_, Heap.get?_push_size _ rfl, rfl⟩ isSubtype_stop (wpAny_pure (q _ (((Heap.SameBut.update ..).extBut.push _).push _))))
end
end Dx
set_option Elab.async false
set_option linter.all false
set_option maxRecDepth 100000
/-! del d[k], d.pop(k) of a dict with tuples for keys -/
namespace L2
open PySem PySem.Spec PyProof.Rows
theorem erase_filter {α β : Type} [DecidableEq α] (f : β → α) : ∀ {xs : List β} {j : Nat} {x : β}, (xs.map f).Nodup → xs[j]? = some x → xs.eraseIdx j = xs.filter fun y => decide (f y ≠ f x)
  | [], _, _, _, h => by cases h
  | y :: r, 0, x, hn, h => by
    cases h
    rw [List.map_cons, List.nodup_cons] at hn
    show r = _
    rw [List.filter_cons, if_neg (by simp)]
    refine (List.filter_eq_self.mpr fun z hz => ?_).symm
    refine decide_eq_true fun e => hn.1 ?_
    rw [← e]
    exact List.mem_map.mpr ⟨z, hz, rfl⟩
  | y :: r, j + 1, x, hn, h => by
    rw [List.map_cons, List.nodup_cons] at hn
    have h : r[j]? = some x := h
    have ne : f y ≠ f x := fun e => hn.1 (by rw [e]; exact List.mem_map.mpr ⟨x, List.mem_of_getElem? h, rfl⟩)
    show y :: r.eraseIdx j = _
    rw [List.filter_cons, if_pos (decide_eq_true ne), erase_filter f hn.2 h]
theorem erase_map {α β : Type} (f : α → β) : ∀ (xs : List α) (j : Nat), (xs.map f).eraseIdx j = (xs.eraseIdx j).map f
  | [], _ => rfl
  | _ :: _, 0 => rfl
  | x :: r, j + 1 => by
    show f x :: (r.map f).eraseIdx j = f x :: (r.eraseIdx j).map f
    rw [erase_map f r j]
theorem takeOut_heap {prog : Program} {w : World} {K : Type} [DecidableEq K] {knd : HeapKind prog w K} {A : Around} {E : Value → Shared → Prop} {s : Shared} {d a : Addr} {xs : List (K × Addr × Value)} {k : K} {p : Addr × Value} {Q : Option DictEntry → Shared → Prop} (hu : knd.room A) (hkey : knd.is s.heap k a) (hm : s.heap.DictOfH knd d xs) (hp : atKey xs k = some p) (hsz : xs.length ≤ sizeLine)
    (h : ∀ h', h'.DictOfH knd d (xs.filter fun y => decide (y.1 ≠ k)) → Heap.SameBut d s.heap h' → Q (some (entryOfKey knd (k, p))) { s with heap := h', toks := s.toks + knd.draws k }) : wpAny (model prog w) A (Builtin.Dict.takeOut d (.ref a)) Q E s := by
  obtain ⟨o, es, ep, ho, hc, hd, he, his, hn⟩ := hm
  unfold Builtin.Dict.takeOut
  try with_reducible refine wpAny_holding ?_
  refine wpAny_bind (knd.pyHash hu hkey (wpAny_bind (wpAny_dictFind_heap (s := { s with toks := s.toks + knd.draws k }) hu hkey ho hd he his hn (fun hno => ?_) fun j q hj => ?_)))
  · rw [atKey_none_of_get hno] at hp; cases hp
  · have eq : q = p := by rw [atKey_of_get hn hj] at hp; exact Option.some.inj hp
    subst eq
    refine wpAny_bind (wpAny_dictEntries (s := { s with toks := s.toks + knd.draws k }) ho hd ?_)
    rw [entry_at he j, hj]
    have hfil : xs.eraseIdx j = xs.filter fun y => decide (y.1 ≠ k) := erase_filter (fun y : K × Addr × Value => y.1) hn hj
    refine wpAny_bind (wpAny_updateDictKeys (hz := by have e := size_of_entries he; omega) (s := { s with toks := s.toks + knd.draws k }) ho hd (wpAny_pure (h _ ⟨_, _, ep + 1, Heap.get?_update_self _ ho (Obj.isFreed_of_dict (Obj.data_mapDictKeys hd _)), hc.mapDictKeys _, Obj.data_mapDictKeys hd _, ?_, fun x hx => ?_, ?_⟩ (Heap.SameBut.update ..))))
    · obtain ⟨l⟩ := es
      rw [← hfil]
      simp only [List.eraseIdxIfInBounds_toArray] at he ⊢
      rw [he, erase_map]
    · exact knd.keeps (his x (List.mem_filter.mp hx).1) ho hd (Heap.SameBut.update ..)
    · exact (List.Sublist.map _ List.filter_sublist).nodup hn
theorem KT.drop {H : Hp} {kvs : List (List Key × V)} {xs : List (List Key × Addr × Value)} (r : KT H kvs xs) (k : List Key) : KT H (dropK kvs k) (xs.filter fun y => decide (y.1 ≠ k)) := by
  unfold dropK
  induction r with
  | nil => exact .nil
  | @cons p q ps qs h t ih =>
    rw [List.filter_cons, List.filter_cons]
    by_cases e : p.1 = k
    · rw [if_neg (by simp [e]), if_neg (by simp [← h.1, e])]; exact ih
    · rw [if_pos (by simp [e]), if_pos (by simp [← h.1, e])]; exact .cons h ih
section
variable {X : Cx} {pins : List (Addr × Obj)} {σ : St} {H : Hp} {s : Shared} {a b : Addr} {kvs : List (List Key × V)} {k : List Key} {A : Around} {E : Value → Shared → Prop}
theorem dt_new {P : Program} {w : World} {h' : Heap} {xs : List (List Key × Addr × Value)} (z : kvs.length ≤ sizeLine) (hd : (a == sysModules) = false) (rel : KT H kvs xs) (dd : h'.DictOfH (tupleKind (mixKind P w)) a xs) : ObjOk P w H h' a (.dT kvs) := by
  obtain ⟨o, es, ep, h1, h2, h3, h4, h5, h6⟩ := dd
  exact ⟨z, hd, xs, rel, o, es, ep, h1, h2, h3, h4, h6⟩
theorem d_delT {Q : Unit → Shared → Prop} (hu : A.units + 1 < cLine) (I : Inv X pins σ H s) (e : H a = some (.dT kvs)) (eb : H b = some (.tup (k.map kV))) (l : (valV kvs k).isSome = true) (h : ∀ s', Inv X pins σ (upd H a (.dT (dropK kvs k))) s' → Q () s') : wpAny (model X.prog X.w) A (delItem (.ref a) (.ref b)) Q E s := by
  obtain ⟨z, hd, xs, rel, dd⟩ := dt_of I.hok e
  have hx : ((atKey xs k).map (·.2)).isSome = true := by rw [← (rel.val k).isSome_eq]; exact l
  obtain ⟨p, hp⟩ : ∃ p, atKey xs k = some p := by
    cases q : atKey xs k with
    | none => rw [q] at hx; cases hx
    | some p => exact ⟨p, rfl⟩
  have hl : xs.length ≤ sizeLine := by rw [← Paired.length rel]; exact z
  refine wpAny_delItem_slot dd.typeIs (by decide) PySem.F.slot_dict_delitem (wpAny_call_entry PySem.F.slot_dict_delitem dd.typeIs PySem.F.entry_dict_delitem ?_ (PySem.F.args_dict_delitem_2 _ _))
  unfold Builtin.«dict.__delitem__»
  refine wpAny_bind ?_
  unfold Builtin.Dict.dictSlotArgs
  refine wpAny_bind (wpAny_notOrdered_dict dd.typeIs ?_)
  show wpAny _ _ (pure (Value.ref a, Value.ref b)) _ _ s
  refine wpAny_pure ?_
  show wpAny _ _ (Builtin.Dict.takeOut a (.ref b) >>= _) _ _ s
  refine wpAny_bind (takeOut_heap (tupleKind_room_in1 hu) (key_of I.hok eb) dd hp hl fun h' dd' hs => wpAny_bind (wpAny_letGo (wpAny_pure ⟨.none, rfl, h _ ?_⟩)))
  have he : ∃ q, h'.get? a = some q := let ⟨q, _, _, hq, _⟩ := dd'; ⟨q, hq⟩
  have nab : b ≠ a := fun z => by rw [z, e] at eb; cases eb
  exact d_write I (by rw [e]; exact True.intro) hs he (dt_new (Nat.le_trans (dropK_le kvs k) z) hd ((rel.drop k).keeps fun c ys q => by rw [upd_ne (fun z => by rw [z, e] at q; cases q)]; exact q) dd')
end
section
variable {X : Cx} {o i : Expr} {td ty : TE} {pos tpos : Pos}
/-- del d[k], k a tuple -/
inductive sDelT (td ty : TE) (D : Ends) (σ : St) (H : Hp) : Prop
  | mk (h : td σ H fun x H1 => ty σ H1 fun y H2 => ∃ a b kvs k, x = .ref a ∧ y = .ref b ∧ H2 a = some (.dT kvs) ∧ H2 b = some (.tup (k.map kV)) ∧ (valV kvs k).isSome = true ∧ D.nx σ (upd H2 a (.dT (dropK kvs k)))) : sDelT td ty D σ H
theorem ps_delT (hu : X.A.units + 1 < cLine) (ho : PE X o td) (hi : PE X i ty) : PS X (.Delete [.Subscript o i tpos] pos) (sDelT td ty) := by
  refine ⟨?_⟩
  intro pins s σ H D I h
  obtain ⟨h⟩ := h
  refine wpAny_Delete (wpAny_deleteEach_cons (wpAny_delete_Subscript (thn (ho pins s σ H _ I h) fun u s1 ⟨x, H1, I1, rx, q1⟩ => thn (hi pins s1 σ H1 _ I1 q1) fun iv s2 ⟨y, H2, I2, ry, a, b, kvs, k, ex, ey, e, eb, l, q2⟩ => ?_)))
  subst ex ey
  obtain rfl : u = Value.ref a := rx
  obtain rfl : iv = Value.ref b := ry
  exact d_delT hu I2 e eb l fun s3 I3 => wpAny_deleteEach_nil ⟨σ, _, I3, q2⟩
end
end L2
set_option Elab.async false
set_option linter.all false
set_option maxRecDepth 100000
/-! a book in a heap: what is told by pairs (source, key) -/
namespace Pr
open PySem L2 PyProof.Rows
abbrev TM := List ((Str × Str) × (Int × Int))
abbrev tk (p : Str × Str) : List Key := [.inr p.1, .inr p.2]
theorem tk_inj {p q : Str × Str} (h : tk p = tk q) : p = q := by
  have h1 := (List.cons.inj h).1
  have h2 := (List.cons.inj (List.cons.inj h).2).1
  exact Prod.ext (Sum.inr.inj h1) (Sum.inr.inj h2)
def pairV (H : Hp) (v : V) (x : Int × Int) : Prop := ∃ t, v = .ref t ∧ H t = some (.tup [.int x.1, .int x.2])
abbrev ToldR (H : Hp) : List (List Key × V) → TM → Prop := Paired fun p q => p.1 = tk q.1 ∧ pairV H p.2 q.2
def look (m : TM) (p : Str × Str) : Option (Int × Int) := (m.find? fun q => decide (q.1 = p)).map (·.2)
def putM (m : TM) (p : Str × Str) (x : Int × Int) : TM := if (m.any fun q => decide (q.1 = p)) = true then m.map (fun q => if q.1 = p then (q.1, x) else q) else m ++ [(p, x)]
def dropM (m : TM) (p : Str × Str) : TM := m.filter fun q => decide (q.1 ≠ p)
theorem pairV.same {H H' : Hp} (s : ∀ b ys, H b = some (.tup ys) → H' b = some (.tup ys)) {v : V} {x : Int × Int} (h : pairV H v x) : pairV H' v x := by
  obtain ⟨t, e, h⟩ := h
  exact ⟨t, e, s _ _ h⟩
theorem ToldR.same {H H' : Hp} (s : ∀ b ys, H b = some (.tup ys) → H' b = some (.tup ys)) {kvs : List (List Key × V)} {m : TM} (h : ToldR H kvs m) : ToldR H' kvs m := Paired.mapP h fun _ _ ⟨a, b⟩ => ⟨a, b.same s⟩
theorem ToldR.val {H : Hp} {p : Str × Str} : ∀ {kvs : List (List Key × V)} {m : TM}, ToldR H kvs m → (look m p = none ∧ valV kvs (tk p) = none) ∨ ∃ v x, look m p = some x ∧ valV kvs (tk p) = some v ∧ pairV H v x
  | _, _, .nil => .inl ⟨rfl, rfl⟩
  | _, _, .cons (a := a) (b := b) ⟨h1, h2⟩ t => by
    by_cases e : b.1 = p
    · refine .inr ⟨a.2, b.2, ?_, valV_pos (by rw [h1, e]), h2⟩
      unfold look
      rw [List.find?_cons, decide_eq_true e]
      rfl
    · have ih := ToldR.val (p := p) t
      have el : ∀ r, look (b :: r) p = look r p := fun r => by
        unfold look
        rw [List.find?_cons, decide_eq_false e]
      rw [el, valV_neg (by rw [h1]; exact fun z => e (tk_inj z))]
      exact ih
theorem ToldR.anyE {H : Hp} {p : Str × Str} : ∀ {kvs : List (List Key × V)} {m : TM}, ToldR H kvs m → (kvs.any fun kv => decide (kv.1 = tk p)) = m.any fun q => decide (q.1 = p)
  | _, _, .nil => rfl
  | _, _, .cons (a := a) (b := b) ⟨h1, h2⟩ t => by
    rw [List.any_cons, List.any_cons, ToldR.anyE t, h1]
    congr 1
    by_cases e : b.1 = p
    · rw [e, decide_eq_true rfl, decide_eq_true rfl]
    · rw [decide_eq_false e, decide_eq_false fun z => e (tk_inj z)]
theorem ToldR.repl {H : Hp} {p : Str × Str} {v : V} {x : Int × Int} (hv : pairV H v x) : ∀ {kvs : List (List Key × V)} {m : TM}, ToldR H kvs m → ToldR H (kvs.map fun kv => if kv.1 = tk p then (kv.1, v) else kv) (m.map fun q => if q.1 = p then (q.1, x) else q)
  | _, _, .nil => .nil
  | _, _, .cons (a := a) (b := b) ⟨h1, h2⟩ t => by
    rw [List.map_cons, List.map_cons]
    refine .cons ?_ (ToldR.repl hv t)
    by_cases e : b.1 = p
    · rw [if_pos e, if_pos (by rw [h1, e])]
      exact ⟨h1, hv⟩
    · rw [if_neg e, if_neg fun z => e (tk_inj (by rw [← h1]; exact z))]
      exact ⟨h1, h2⟩
theorem ToldR.put {H : Hp} {p : Str × Str} {v : V} {x : Int × Int} (hv : pairV H v x) {kvs : List (List Key × V)} {m : TM} (h : ToldR H kvs m) : ToldR H (putK kvs (tk p) v) (putM m p x) := by
  unfold putK putM
  rw [ToldR.anyE h]
  split
  · exact ToldR.repl hv h
  · exact Paired.app h (.cons ⟨rfl, hv⟩ .nil)
theorem ToldR.drop {H : Hp} {p : Str × Str} : ∀ {kvs : List (List Key × V)} {m : TM}, ToldR H kvs m → ToldR H (dropK kvs (tk p)) (dropM m p)
  | _, _, .nil => .nil
  | _, _, .cons (a := a) (b := b) ⟨h1, h2⟩ t => by
    have ih := ToldR.drop (p := p) t
    unfold dropK dropM at ih ⊢
    rw [List.filter_cons, List.filter_cons]
    by_cases e : b.1 = p
    · rw [if_neg (by rw [h1, e]; simp), if_neg (by rw [e]; simp)]
      exact ih
    · rw [if_pos (decide_eq_true (by rw [h1]; exact fun z => e (tk_inj z))), if_pos (decide_eq_true e)]
      exact .cons ⟨h1, h2⟩ ih
/-- a book: its object at b, what is told at d -/
inductive BookAt (C : Addr) (H : Hp) (b d : Addr) (os : List Str) (m : TM) : Prop
  | mk (dx f : Addr) (kvs : List (List Key × V)) (hb : H b = some (.ins C dx [("best_first", .ref f), ("told", .ref d)])) (hf : H f = some (.tup (os.map V.str))) (hd : H d = some (.dT kvs)) (r : ToldR H kvs m) : BookAt C H b d os m
theorem BookAt.same {C : Addr} {H H' : Hp} {b d : Addr} {os : List Str} {m : TM} (h : BookAt C H b d os m) (s : Same H H') : BookAt C H' b d os m := by
  obtain ⟨dx, f, kvs, hb, hf, hd, r⟩ := h
  exact ⟨dx, f, kvs, s _ _ hb, s _ _ hf, s _ _ hd, r.same fun b ys e => s _ _ e⟩
/-- what is told of a key, the best source first -/
def tellsM (os : List Str) (m : TM) (k : Str) : List (Str × Int × Int) := os.filterMap fun s => (look m (s, k)).map fun x => (s, x.1, x.2)
def RowT (H : Hp) (x : V) (r : Str × Int × Int) : Prop := ∃ a, x = .ref a ∧ H a = some (.tup [.str r.1, .int r.2.1, .int r.2.2])
theorem RowT.same {H H' : Hp} (s : Same H H') {x : V} {r : Str × Int × Int} (h : RowT H x r) : RowT H' x r := by
  obtain ⟨a, e, h⟩ := h
  exact ⟨a, e, s _ _ h⟩
section
variable {P : Program} {w : World} {K : PySem.W.Frag} {mg : Str → Option Value} {base : Heap} {C : Addr}
inductive sp_order (C : Addr) (vs : List V) (H : Hp) (Q : VK) (E : XK) : Prop
  | mk (b d : Addr) (os : List Str) (m : TM) (e : vs = [.ref b]) (h : BookAt C H b d os m) (q : ∀ D, H D = none → Q (.ref D) (upd H D (.lst (os.map V.str)))) : sp_order C vs H Q E
theorem sc_order : FnScope ["self"] ["self"] (defScope sm_order) := ⟨rfl, rfl, rfl, by decide +kernel, rfl, by decide +kernel, by decide +kernel⟩
theorem order (T : Txt K mg C) : CanM P w K mg base C 1 "order" ["self"] (sp_order C) := by
  refine fm_can T.m_order sc_order (fun vs H Q E h => ?_) (fun f cdv A outer s H vs Q E hr h => ?_)
  · obtain ⟨b, d, os, m, rfl, _⟩ := h
    rfl
  · obtain ⟨b, d, os, m, rfl, ⟨dx, f, kvs, hb, hf, hd, r⟩, q⟩ := h
    refine ⟨_, pss_one (ps_ret (pe_t call_list_ob T.b_list boot_list (pa1 (pe_fldK K (pv 0) rfl)))), ?_⟩
    exact ⟨_, rfl, b, C, dx, _, _, rfl, hb, T.cl, T.n_best_first, rfl, f, _, _, rfl, hf, .inr rfl, fun D hD => q D hD⟩
inductive sp_put (C : Addr) (vs : List V) (H : Hp) (Q : VK) (E : XK) : Prop
  | mk (b d : Addr) (os : List Str) (m : TM) (s k : Str) (x y : Int) (e : vs = [.ref b, .str s, .str k, .int x, .int y]) (h : BookAt C H b d os m) (hm : m.length < 1000) (q : ∀ H', But d H H' → BookAt C H' b d os (putM m (s, k) (x, y)) → Q .non H') : sp_put C vs H Q E
theorem sc_put : FnScope ["self", "source", "key", "moment", "value"] ["self", "source", "key", "moment", "value"] (defScope sm_put) := ⟨rfl, rfl, rfl, by decide +kernel, rfl, by decide +kernel, by decide +kernel⟩
theorem put (T : Txt K mg C) : CanM P w K mg base C 1 "put" ["self", "source", "key", "moment", "value"] (sp_put C) := by
  refine fm_can T.m_put sc_put (fun vs H Q E h => ?_) (fun f cdv A outer s H vs Q E hr h => ?_)
  · obtain ⟨b, d, os, m, s, k, x, y, rfl, _⟩ := h
    rfl
  · obtain ⟨b, d, os, m, s, k, x, y, rfl, ⟨dx, f, kvs, hb, hf, hd, r⟩, hm, q⟩ := h
    refine ⟨_, pss_one (ps_dput (hu_of hr) (pe_fldK K (pv 0) rfl) (pe_tup (pa2 (pv 1) (pv 2))) (pe_tup (pa2 (pv 3) (pv 4))) rfl), ?_⟩
    refine ⟨_, rfl, _, rfl, line1 (by show 2 ≤ 1000; decide), fun t ht => ?_⟩
    have s1 : Same H (upd H t (.tup [.int x, .int y])) := Same.upd ht
    refine ⟨_, rfl, b, C, dx, _, _, rfl, s1 _ _ hb, T.cl, T.n_told, rfl, _, rfl, _, rfl, line1 (by show 2 ≤ 1000; decide), fun u hu => ?_⟩
    have s2 : Same (upd H t (.tup [.int x, .int y])) (upd (upd H t (.tup [.int x, .int y])) u (.tup [.str s, .str k])) := Same.upd hu
    have s3 := s1.trans s2
    have hl : kvs.length = m.length := Paired.length r
    refine ⟨d, _, rfl, DPut.t (k := tk (s, k)) (s3 _ _ hd) upd_same (by rw [sizeLine_eq]; omega), ?_⟩
    have nt : ∀ a ys, (upd (upd H t (.tup [.int x, .int y])) u (.tup [.str s, .str k])) a = some (.tup ys) → a ≠ d := fun a ys e z => by rw [z, s3 _ _ hd] at e; cases e
    have nb : b ≠ d := fun z => by rw [z, hd] at hb; cases hb
    refine q _ (fun a o e n => by rw [upd_ne n]; exact s3 _ _ e) ⟨dx, f, _, by rw [upd_ne nb]; exact s3 _ _ hb, by rw [upd_ne (nt _ _ (s3 _ _ hf))]; exact s3 _ _ hf, upd_same, ?_⟩
    refine ToldR.put ⟨t, rfl, ?_⟩ (r.same fun a ys e => ?_)
    · have e := s2 _ _ (upd_same (H := H) (a := t) (o := .tup [.int x, .int y]))
      rw [upd_ne (nt _ _ e)]; exact e
    · have e' := s3 _ _ e
      rw [upd_ne (nt _ _ e')]; exact e'
inductive sp_take (C : Addr) (vs : List V) (H : Hp) (Q : VK) (E : XK) : Prop
  | mk (b d : Addr) (os : List Str) (m : TM) (s k : Str) (e : vs = [.ref b, .str s, .str k]) (h : BookAt C H b d os m) (ht : (look m (s, k)).isSome = true) (q : ∀ H', But d H H' → BookAt C H' b d os (dropM m (s, k)) → Q .non H') : sp_take C vs H Q E
theorem sc_take : FnScope ["self", "source", "key", "pair"] ["self", "source", "key"] (defScope sm_take) := ⟨rfl, rfl, rfl, by decide +kernel, rfl, by decide +kernel, by decide +kernel⟩
theorem take (T : Txt K mg C) : CanM P w K mg base C 1 "take" ["self", "source", "key"] (sp_take C) := by
  refine fm_can T.m_take sc_take (fun vs H Q E h => ?_) (fun f cdv A outer s H vs Q E hr h => ?_)
  · obtain ⟨b, d, os, m, s, k, rfl, _⟩ := h
    rfl
  · obtain ⟨b, d, os, m, s, k, rfl, ⟨dx, f, kvs, hb, hf, hd, r⟩, ht, q⟩ := h
    refine ⟨_, pss_cons (ps_set (i := 3) sc_take.nd rfl (Or.inl rfl) (pe_tup (pa2 (pv 1) (pv 2)))) (pss_cons (ps_if (pt_cmp (pc_dnotin (hu_of hr) (pv 3) (pe_fldK K (pv 0) rfl))) (pss_one ps_never) pss_nil) (pss_one (ps_delT (hu_of hr) (pe_fldK K (pv 0) rfl) (pv 3)))), ?_⟩
    refine ⟨_, rfl, _, rfl, line1 (by show 2 ≤ 1000; decide), fun u hu => ?_⟩
    have s1 : Same H (upd H u (.tup [.str s, .str k])) := Same.upd hu
    rcases r.val (p := (s, k)) with ⟨z, _⟩ | ⟨v, x, _, hv, _⟩
    · rw [z] at ht; cases ht
    refine ⟨_, rfl, _, rfl, b, C, dx, _, _, rfl, s1 _ _ hb, T.cl, T.n_told, rfl, d, _, rfl, DGet.t (k := tk (s, k)) (s1 _ _ hd) upd_same, _, rfl, ?_⟩
    rw [hv]
    refine iteF ?_
    refine ⟨⟨_, rfl, b, C, dx, _, _, rfl, s1 _ _ hb, T.cl, T.n_told, rfl, _, rfl, d, u, kvs, tk (s, k), rfl, rfl, s1 _ _ hd, upd_same, by rw [hv]; rfl, ?_⟩⟩
    have nt : ∀ a ys, (upd H u (.tup [.str s, .str k])) a = some (.tup ys) → a ≠ d := fun a ys e z => by rw [z, s1 _ _ hd] at e; cases e
    have nb : b ≠ d := fun z => by rw [z, hd] at hb; cases hb
    refine q _ (fun a o e n => by rw [upd_ne n]; exact s1 _ _ e) ⟨dx, f, _, by rw [upd_ne nb]; exact s1 _ _ hb, by rw [upd_ne (nt _ _ (s1 _ _ hf))]; exact s1 _ _ hf, upd_same, ?_⟩
    refine ToldR.drop (r.same fun a ys e => ?_)
    have e' := s1 _ _ e
    rw [upd_ne (nt _ _ e')]; exact e'
end
end Pr
set_option Elab.async false
set_option linter.all false
set_option maxRecDepth 100000
/-! what is told of a key, what is counted -/
namespace L2
open PySem PySem.Spec PyProof.Rows
theorem op_catTK {X : Cx} (K : PySem.W.Frag) (e : X.K = K := by rfl) : OpR X (binaryOp .Add) (rCatT K) := by subst e; exact op_catT
end L2
namespace Pr
open PySem L2 PyProof.Rows
/-- those that tell the key -/
def telling (os : List Str) (m : TM) (k : Str) : List Str := os.filter fun s => (look m (s, k)).isSome
theorem telling_snoc (os : List Str) (s : Str) (m : TM) (k : Str) : telling (os ++ [s]) m k = telling os m k ++ (if (look m (s, k)).isSome = true then [s] else []) := by
  unfold telling
  rw [List.filter_append, List.filter_cons]
  rfl
theorem telling_len (os : List Str) (m : TM) (k : Str) : (telling os m k).length ≤ os.length := List.length_filter_le _ _
theorem tellsM_eq (m : TM) (k : Str) : ∀ os : List Str, tellsM os m k = (telling os m k).filterMap fun s => (look m (s, k)).map fun x => (s, x.1, x.2)
  | [] => rfl
  | s :: r => by
    unfold tellsM telling
    rw [List.filterMap_cons, List.filter_cons]
    cases e : look m (s, k) with
    | none =>
      rw [if_neg (by simp)]
      exact tellsM_eq m k r
    | some x =>
      rw [if_pos (show (some x).isSome = true from rfl), List.filterMap_cons, e]
      exact congrArg _ (tellsM_eq m k r)
theorem same_none {H H' : Hp} {D : Addr} (s : Same H H') (h : H' D = none) : H D = none := by
  cases e : H D with
  | none => rfl
  | some o => rw [s _ _ e] at h; cases h
theorem Same.but_ne'' {H H' : Hp} {D : Addr} {o : HO} (s : Same H H') (h : H D = none) : Same H (L2.upd H' D o) := fun b u e => by
  rw [L2.upd_ne (ne_of_none e h)]
  exact s _ _ e
section
variable {P : Program} {w : World} {K : PySem.W.Frag} {mg : Str → Option Value} {base : Heap} {C : Addr}
inductive sp_tells (C : Addr) (vs : List V) (H : Hp) (Q : VK) (E : XK) : Prop
  | mk (b d : Addr) (os : List Str) (m : TM) (k : Str) (e : vs = [.ref b, .str k]) (h : BookAt C H b d os m) (hl : os.length ≤ 6)
      (q : ∀ D ys H', Same H H' → H D = none → H' D = some (.lst ys) → Paired (RowT H') ys (tellsM os m k) → Q (.ref D) H') : sp_tells C vs H Q E
theorem sc_tells : FnScope ["self", "key", "telling"] ["self", "key"] (defScope sm_tells) := ⟨rfl, rfl, rfl, by decide +kernel, rfl, by decide +kernel, by decide +kernel⟩
set_option maxHeartbeats 4000000 in
theorem tells (T : Txt K mg C) : CanM P w K mg base C 1 "tells" ["self", "key"] (sp_tells C) := by
  refine fm_can T.m_tells sc_tells (fun vs H Q E h => ?_) (fun f cdv A outer s H vs Q E hr h => ?_)
  · obtain ⟨b, d, os, m, k, rfl, _⟩ := h
    rfl
  · obtain ⟨b, d, os, m, k, rfl, hB, hl, q⟩ := h
    refine ⟨_, pss_cons (ps_setLC (i := 2) rfl rfl rfl (lcS sc_tells) (pi_seq (pe_fldK K (pv 0) rfl)) (fun _ _ _ _ => pts_one (pt_cmp (pc_din (hu_of hr) (pe_tup (pa2 (pv 0) (pv 2))) (pe_fldK K (pv 1) rfl)))) (fun _ _ _ _ => pv 0))
      (pss_one (ps_ret (pe_lc rfl (lcS sc_tells) (pi_listK K (pv 2)) (fun _ _ _ _ => pts_nil) (fun _ _ _ _ => pe_op (op_catTK K) (pe_tup (pa1 (pv 0))) (pe_dget (hu_of hr) (pe_fldK K (pv 1) rfl) (pe_tup (pa2 (pv 0) (pv 2))) (fun _ _ => rfl)))))), ?_⟩
    obtain ⟨dx, f, kvs, hb, hf, hd, r⟩ := id hB
    refine ⟨_, rfl, b, C, dx, _, _, rfl, hb, T.cl, T.n_best_first, rfl, f, _, _, rfl, hf, .inr rfl, fun J hJ D hD => ?_⟩
    refine lc_it hJ (fun i ys H1 => H1 D = some (.lst ys) ∧ ys = (telling (os.take i) m k).map V.str ∧ Same H H1) ⟨upd_same, rfl, Same.upd hD⟩ (fun i ys H1 h => ⟨h.1, h.2.2 _ _ hf⟩) (fun ys H1 h => ?fin) fun i x ys H1 hi hx h => ?turn
    case turn =>
      obtain ⟨d1, rfl, d3⟩ := h
      rw [List.length_map] at hi
      rw [List.getElem?_map, List.getElem?_eq_getElem hi] at hx
      cases hx
      refine ⟨_, rfl, _, rfl, line1 (by show 2 ≤ 1000; decide), fun u hu => ?_⟩
      have s1 : Same H1 (upd H1 u (.tup [.str os[i], .str k])) := Same.upd hu
      have s2 := d3.trans s1
      refine ⟨_, rfl, b, C, dx, _, _, rfl, s2 _ _ hb, T.cl, T.n_told, rfl, d, _, rfl, DGet.t (k := tk (os[i], k)) (s2 _ _ hd) upd_same, _, rfl, ?_⟩
      have tn : telling (os.take (i + 1)) m k = telling (os.take i) m k ++ (if (look m (os[i], k)).isSome = true then [os[i]] else []) := by
        rw [List.take_add_one, List.getElem?_eq_getElem hi]
        exact telling_snoc _ _ _ _
      have tl := telling_len (os.take i) m k
      rw [List.length_take] at tl
      rcases r.val (p := (os[i], k)) with ⟨z1, z2⟩ | ⟨v, x, z1, z2, _⟩
      · rw [z2]
        refine iteF (LcNo.mk (by rw [List.length_map]; exact hi) ⟨s1 _ _ d1, ?_, s2⟩)
        rw [tn, z1, if_neg (by simp), List.append_nil]
      · rw [z2]
        refine iteT ⟨_, rfl, LcNx.mk (by rw [List.length_map]; exact hi) (by rw [List.length_map]; omega) (by rw [List.length_map]; omega) (s1 _ _ d1) ⟨upd_same, ?_, Same.but_ne'' s2 hD⟩⟩
        rw [tn, z1, if_pos (show (some x).isSome = true from rfl), List.map_append]
        rfl
    obtain ⟨d1, rfl, d3⟩ := h
    rw [List.length_map, List.take_of_length_le (Nat.le_refl _)] at d1
    have hD' := d1
    refine ⟨_, rfl, D, rfl, ⟨_, .of d1⟩, fun G hG => ?_⟩
    have tl := telling_len os m k
    refine lc_list (xs := (telling os m k).map V.str) (fun i ys H2 => H2 G = some (.lst ys) ∧ ys.length = i ∧ Same H1 H2 ∧ Paired (RowT H2) ys (((telling os m k).take i).filterMap fun s => (look m (s, k)).map fun x => (s, x.1, x.2))) ⟨upd_same, rfl, Same.upd hG, .nil⟩ (fun i ys H2 h => ⟨h.1, .of (h.2.2.1 _ _ d1)⟩) (fun ys H2 h => ?fin2) fun i x ys H2 hi hx h => ?turn2
    case turn2 =>
      obtain ⟨g1, g2, g3, g4⟩ := h
      rw [List.length_map] at hi
      rw [List.getElem?_map, List.getElem?_eq_getElem hi] at hx
      cases hx
      have hm : (look m ((telling os m k)[i], k)).isSome = true := (List.mem_filter.mp (List.getElem_mem hi)).2
      have s02 := d3.trans g3
      rcases r.val (p := ((telling os m k)[i], k)) with ⟨z1, _⟩ | ⟨v, x, z1, z2, t, rfl, ht⟩
      · rw [z1] at hm; cases hm
      refine yesI ⟨_, rfl, line1 (by show 1 ≤ 1000; decide), fun u hu => ?_⟩
      have s1 : Same H2 (upd H2 u (.tup [.str (telling os m k)[i]])) := Same.upd hu
      have s3 := s02.trans s1
      refine ⟨_, rfl, b, C, dx, _, _, rfl, s3 _ _ hb, T.cl, T.n_told, rfl, _, rfl, _, rfl, line1 (by show 2 ≤ 1000; decide), fun u2 hu2 => ?_⟩
      have s4 : Same (upd H2 u (.tup [.str (telling os m k)[i]])) (upd (upd H2 u (.tup [.str (telling os m k)[i]])) u2 (.tup [.str (telling os m k)[i], .str k])) := Same.upd hu2
      have s5 := s3.trans s4
      refine ⟨d, .ref t, rfl, ?_, u, t, _, _, rfl, rfl, .of (s4 _ _ upd_same), .of (s5 _ _ ht), by simp, line1 (by show 3 ≤ 1000; decide), (fun z => by cases z), fun _ p hp => ?_⟩
      · have g := DGet.t (k := tk ((telling os m k)[i], k)) (s5 _ _ hd) (upd_same (a := u2))
        rw [z2] at g
        exact g
      have s6 := (s1.trans s4).trans (Same.upd (o := .tup ([.str (telling os m k)[i]] ++ [.int x.1, .int x.2])) hp)
      refine LcNx.mk (by rw [List.length_map]; exact hi) (by rw [List.length_map]; omega) (by omega) (s6 _ _ g1) ⟨upd_same, by rw [List.length_append, g2]; rfl, Same.but_ne'' (g3.trans s6) hG, ?_⟩
      rw [List.take_add_one, List.getElem?_eq_getElem hi, List.filterMap_append]
      have e1 : (List.filterMap (fun s => (look m (s, k)).map fun x => (s, x.1, x.2)) (some (telling os m k)[i]).toList) = [((telling os m k)[i], x.1, x.2)] := by
        show (List.filterMap (fun s => (look m (s, k)).map fun x => (s, x.1, x.2)) [(telling os m k)[i]]) = _
        rw [List.filterMap_cons, z1]
        rfl
      rw [e1]
      have ne : ∀ {a : Addr} {ys : List V}, (upd (upd (upd H2 u (.tup [.str (telling os m k)[i]])) u2 (.tup [.str (telling os m k)[i], .str k])) p (.tup ([.str (telling os m k)[i]] ++ [.int x.1, .int x.2]))) a = some (.tup ys) → a ≠ G := fun e z => by
        rw [z, s6 _ _ g1] at e; cases e
      have r1 : RowT (upd (upd (upd (upd H2 u (.tup [.str (telling os m k)[i]])) u2 (.tup [.str (telling os m k)[i], .str k])) p (.tup ([.str (telling os m k)[i]] ++ [.int x.1, .int x.2]))) G (.lst (ys ++ [.ref p]))) (.ref p) ((telling os m k)[i], x.1, x.2) := ⟨p, rfl, by rw [upd_ne (ne upd_same), upd_same]; rfl⟩
      refine Paired.snoc r1 (Paired.mapP g4 fun _ _ z => ?_)
      obtain ⟨a, ea, ha⟩ := z
      have := s6 _ _ ha
      exact ⟨a, ea, by rw [upd_ne (ne this)]; exact this⟩
    obtain ⟨g1, g2, g3, g4⟩ := h
    rw [List.take_of_length_le (by rw [List.length_map]; exact Nat.le_refl _), ← tellsM_eq] at g4
    exact q G ys H2 (d3.trans g3) (same_none d3 hG) g1 g4
end
end Pr
set_option Elab.async false
set_option linter.all false
set_option maxRecDepth 100000
/-! the program's bars: place_of, empty, in_order, bar_of -/
namespace L2
open PySem PySem.Spec PyProof.Rows
section
variable {X : Cx} {k k' : Nat} {x : Str} {sp : Sp} {p pos : Pos}
end
theorem Same.but_ne {H H' : Hp} {D : Addr} {o : HO} (s : Same H H') (h : H D = none) : Same H (L2.upd H' D o) := fun b u e => by
  rw [L2.upd_ne (ne_of_none e h)]
  exact s _ _ e
theorem Paired.mono2 {α β : Type} {F G : α → β → Prop} (f : ∀ a b, F a b → G a b) {l₁ : List α} {l₂ : List β} (r : Paired F l₁ l₂) : Paired G l₁ l₂ := Paired.mapP r f
theorem Paired.mapR {α β γ : Type} {F : α → β → Prop} {G : α → γ → Prop} {g : β → γ} (h : ∀ a b, F a b → G a (g b)) : ∀ {xs : List α} {ys : List β}, Paired F xs ys → Paired G xs (ys.map g)
  | _, _, .nil => .nil
  | _, _, .cons r t => .cons (h _ _ r) (Paired.mapR h t)
theorem Paired.picks {α β : Type} {F : α → β → Prop} {xs : List α} {ys : List β} {a : α} {b : β} (h : Paired F xs ys) : ∀ (p : List Nat), (∀ i ∈ p, i < xs.length) → Paired F (p.map fun i => xs.getD i a) (p.map fun i => ys.getD i b)
  | [], _ => .nil
  | i :: p, hp => by
    have hi := hp i List.mem_cons_self
    obtain ⟨y, ey, r⟩ := Paired.get h (List.getElem?_eq_getElem hi)
    refine .cons ?_ (Paired.picks h p fun j hj => hp j (List.mem_cons_of_mem _ hj))
    show F (xs.getD i a) (ys.getD i b)
    rw [List.getD_eq_getElem?_getD, List.getD_eq_getElem?_getD, ey, List.getElem?_eq_getElem hi]
    exact r
theorem line1000 {n : Nat} (h : n ≤ 1000) : n ≤ sizeLine := Nat.le_of_lt (small1000 h)
end L2
namespace Pr
open PySem L2 PyProof.Rows Ent
/-- an entry's three things -/
abbrev three (e : En) : List V := [.int e.1, .str e.2.1, .int e.2.2]
/-- an entry, a tuple or a list; a tuple; a list -/
def EntG (H : Hp) (x : V) (e : En) : Prop := ∃ a o, x = .ref a ∧ H a = some o ∧ Ob o (three e)
def EntT (H : Hp) (x : V) (e : En) : Prop := ∃ a, x = .ref a ∧ H a = some (.tup (three e))
theorem EntT.same {H H' : Hp} (s : Same H H') {x : V} {e : En} (h : EntT H x e) : EntT H' x e := by
  obtain ⟨a, h1, h2⟩ := h
  exact ⟨a, h1, s _ _ h2⟩
theorem EntT.g {H : Hp} {x : V} {e : En} (h : EntT H x e) : EntG H x e := by
  obtain ⟨a, h1, h2⟩ := h
  exact ⟨a, _, h1, h2, .inr rfl⟩
theorem EntT.wr {H : Hp} {x : V} {e : En} {D : Addr} {ys : List V} {o : HO} (h : EntT H x e) (hD : H D = some (.lst ys)) : EntT (upd H D o) x e := by
  obtain ⟨a, h1, h2⟩ := h
  exact ⟨a, h1, by rw [upd_ne (ne_of h2 hD (by intro z; cases z))]; exact h2⟩
theorem EntT.dat {H : Hp} {x : V} {e : En} (h : EntT H x e) : Dat H (eD e) x := by
  obtain ⟨a, h1, h2⟩ := h
  unfold eD Dat
  refine ⟨a, _, h1, h2, ?_⟩
  unfold DatAll
  refine ⟨_, _, rfl, by unfold Dat; rfl, ?_⟩
  unfold DatAll
  refine ⟨_, _, rfl, by unfold Dat; rfl, ?_⟩
  unfold DatAll
  refine ⟨_, _, rfl, by unfold Dat; rfl, ?_⟩
  unfold DatAll
  rfl
section
variable {P : Program} {w : World} {K : PySem.W.Frag} {mg : Str → Option Value} {base : Heap} {C : Addr}
theorem sc_place_of : FnScope ["entry"] ["entry"] (defScope s_place_of) := ⟨rfl, rfl, rfl, by decide +kernel, rfl, by decide +kernel, by decide +kernel⟩
theorem place_of (T : Txt K mg C) : Can P w K mg base 1 "place_of" ["entry"] sp_place := by
  refine fn_can T.f_place_of sc_place_of (fun vs H Q E h => ?_) (fun f cdv A outer s H vs Q E hr h => ?_)
  · obtain ⟨a, m, k, r, rfl, _⟩ := h
    rfl
  · obtain ⟨a, m, k, r, rfl, ha, q⟩ := h
    refine ⟨_, pss_one (ps_ret (pe_tup (pa2 (pe_ix (ix_tupK K) (pv 0) pe_int (fun _ _ => rfl)) (pe_ix (ix_tupK K) (pv 0) pe_int (fun _ _ => rfl))))), ?_⟩
    refine ⟨_, rfl, a, _, _, _, rfl, rfl, .of ha, atI_nat (j := 0) rfl, _, rfl, a, _, _, _, rfl, rfl, .of ha, atI_nat (j := 1) rfl, line1000 (by show 2 ≤ 1000; decide), fun p hp => q p hp⟩
inductive sp_in_order (vs : List V) (H : Hp) (Q : VK) (E : XK) : Prop
  | mk (a : Addr) (o : HO) (xs : List V) (es : List En) (h0 : vs = [.ref a]) (h1 : H a = some o) (h2 : Ob o xs) (h3 : Paired (EntG H) xs es) (h4 : es.length < 64)
    (q : ∀ D H' ys (p : List Nat), Same H H' → H D = none → H' D = some (.lst ys) → Paired (EntT H') ys (pick es p) → p.Perm (List.range es.length) → p.Pairwise (Srt.R (Srt.ltOf (es.map pl))) → Q (.ref D) H') : sp_in_order vs H Q E
theorem sc_in_order : FnScope ["entries"] ["entries"] (defScope s_in_order) := ⟨rfl, rfl, rfl, by decide +kernel, rfl, by decide +kernel, by decide +kernel⟩
theorem in_order (T : Txt K mg C) : Can P w K mg base 4 "in_order" ["entries"] sp_in_order := by
  refine fn_can T.f_in_order sc_in_order (fun vs H Q E h => ?_) (fun f cdv A outer s H vs Q E hr h => ?_)
  · obtain ⟨a, o, xs, es, rfl, _⟩ := h
    rfl
  · obtain ⟨a, o, xs, es, rfl, ha, ho, hp, h64, q⟩ := h
    have hlen : xs.length = es.length := hp.length
    refine ⟨_, pss_one (ps_ret (pe_sortK K (place_of T) hr T.b_sorted (pa1 (pe_lc rfl (lcS sc_in_order) (pi_seq (pv 0)) (fun _ _ _ _ => pts_nil) (fun _ _ _ _ => pe_t call_tup_ob T.b_tuple boot_tuple (pa1 (pv 0))))))), ?_⟩
    refine ⟨_, rfl, a, o, xs, rfl, ha, ho, fun J hJ D hD => ?_⟩
    refine lc_it hJ (fun i ys H1 => H1 D = some (.lst ys) ∧ ys.length = i ∧ Same H H1 ∧ Paired (EntT H1) ys (es.take i)) ⟨upd_same, rfl, Same.upd hD, .nil⟩ (fun i ys H1 h => ⟨h.1, h.2.2.1 _ _ ha⟩) (fun ys H1 h => ?_) fun i x ys H1 hi hx h => ?_
    · obtain ⟨d1, d2, d3, d4⟩ := h
      rw [List.take_of_length_le (by omega)] at d4
      refine ⟨D, ys, es.map pl, rfl, .of d1, by omega, Paired.mapR (fun x e ⟨b, e1, e2⟩ => ⟨b, _, e1, e2⟩) d4, fun D' H' p s' hD' hg p1 p2 => ?_⟩
      rw [d2, hlen] at p1
      refine q D' H' _ p (d3.trans s') (d3.free hD') hg ?_ p1 p2
      exact Paired.picks (Paired.mono2 (fun _ _ z => z.same s') d4) p fun i hi => by
        have := List.mem_range.mp (p1.mem_iff.mp hi)
        omega
    · obtain ⟨d1, d2, d3, d4⟩ := h
      obtain ⟨e, he, b, ob, rfl, hb, hob⟩ := Paired.get hp hx
      refine yesI ⟨_, rfl, b, ob, _, rfl, d3 _ _ hb, hob, fun l H2 s2 hl => LcNx.mk hi (by omega) (by omega) (s2 _ _ d1) ⟨upd_same, by rw [List.length_append, d2]; rfl, (d3.trans s2).but_ne hD, ?_⟩⟩
      rw [List.take_add_one, he]
      refine Paired.snoc ?_ (Paired.mono2 (fun _ _ z => (z.same s2).wr (s2 _ _ d1)) d4)
      exact EntT.wr ⟨l, rfl, hl⟩ (s2 _ _ d1)
end
end Pr
set_option Elab.async false
set_option linter.all false
set_option maxRecDepth 100000
/-! list(d) of a dict with tuples for keys; x in a list of data -/
namespace L2
open PySem PySem.Spec PyProof.Rows
section
variable {X : Cx}
end
end L2
set_option Elab.async false
set_option linter.all false
set_option maxRecDepth 100000
/-! for k in d: the dict is held fast while it is walked -/
namespace L2
open PySem PySem.Spec PyProof.Rows
inductive IsDc : HO → Prop
  | k (kvs : List (Key × V)) : IsDc (.dK kvs)
  | t (kvs : List (List Key × V)) : IsDc (.dT kvs)
section
variable {X : Cx} {pins : List (Addr × Obj)} {σ : St} {H : Hp} {s : Shared} {a : Addr} {u : HO} {o : Obj}
/-- a dict's description in another heap of words -/
theorem dc_upd {P : Program} {w : World} {h : Heap} (hu : IsDc u) (v : HO) (hv : ∀ xs, H a ≠ some (.tup xs)) (x : ObjOk P w H h a u) : ObjOk P w (upd H a v) h a u := by
  cases hu with
  | k kvs => exact x
  | t kvs =>
    obtain ⟨z, y, xs, r, rest⟩ := x
    exact ⟨z, y, xs, Paired.mapP r fun p q z => ⟨z.1, by rw [upd_ne (fun e => hv _ (by rw [← e]; exact z.2.1))]; exact z.2.1, z.2.2⟩, rest⟩
theorem Inv.swapDc (I : Inv X pins σ H s) {c v : HO} (e : H a = some c) (hc : ∀ xs, c ≠ .tup xs) (hc2 : ∀ y, c ≠ .own y) (hc3 : ∀ ps, c ≠ .tbl ps) (h0 : ∀ o' u', X.H₀ a = some (.frz o' u') → c = .frz o' u' → v = .frz o' u') (new : ObjOk X.prog X.w (upd H a v) s.heap a v) : Inv X pins σ (upd H a v) s := by
  have na : ∀ {b}, H b = none → b ≠ a := fun {b} q z => by rw [z, e] at q; cases q
  refine ⟨I.ok, I.os, I.bare, ⟨I.base.keep, I.base.slot, fun b o q n hx => ?_, I.base.there, fun b xs q => ?_, fun b o' u' q => ?_, fun b ps q => ?_⟩, I.loc, I.cell, ?_, fun y d q => ?_, fun p hp => ?_, fun b ob q => ?_, I.len⟩
  · have z := I.base.free b o q n hx
    rw [upd_ne (na z)]; exact z
  · have z := I.base.tups b xs q
    rw [upd_ne (fun w => by rw [w, e] at z; cases z; exact hc _ rfl)]; exact z
  · have z := I.base.frzs b o' u' q
    by_cases hb : b = a
    · subst hb
      rw [e] at z
      rw [upd_same, h0 o' u' q (Option.some.inj z)]
    · rw [upd_ne hb]; exact z
  · obtain ⟨m, z⟩ := I.base.tbls b ps q
    exact ⟨m, by rw [upd_ne (fun w => by rw [w, e] at z; cases z; exact hc3 _ rfl)]; exact z⟩
  · rw [upd_ne (na I.free)]; exact I.free
  · rw [upd_ne (na (I.freeC y d q))]; exact I.freeC y d q
  · obtain ⟨e1, e2, e3⟩ := I.pin p hp
    exact ⟨e1, by rw [upd_ne (na e2)]; exact e2, e3⟩
  · by_cases hb : b = a
    · subst hb
      rw [upd_same] at q
      cases q
      exact new
    · rw [upd_ne hb] at q
      refine (I.hok b ob q).stay (fun _ _ _ z => z) (fun d z => ?_) fun d xs z => ?_
      · rw [upd_ne (fun w => by rw [w, e] at z; cases z; exact hc2 _ rfl)]; exact z
      · rw [upd_ne (fun w => by rw [w, e] at z; cases z; exact hc _ rfl)]; exact z
theorem Inv.freeze (I : Inv X pins σ H s) (hu : IsDc u) (e : H a = some u) (ho : s.heap.get? a = some o) : Inv X pins σ (upd H a (.frz o u)) s := by
  have hx := I.hok a u e
  have ht : ∀ xs, u ≠ .tup xs := fun xs z => by rw [z] at hu; cases hu
  refine I.swapDc e ht (fun y z => by rw [z] at hu; cases hu) (fun y z => by rw [z] at hu; cases hu) (fun o' u' _ z => by rw [z] at hu; cases hu) ⟨ho, dc_upd hu _ (fun xs q => ?_) hx⟩
  rw [e] at q
  exact ht xs (Option.some.inj q)
theorem Inv.thaw (I : Inv X pins σ H s) (hu : IsDc u) (e : H a = some (.frz o u)) (h0 : ∀ o' u', X.H₀ a ≠ some (.frz o' u')) : Inv X pins σ (upd H a u) s := by
  obtain ⟨_, hx⟩ := (show ObjOk X.prog X.w H s.heap a (.frz o u) from I.hok a _ e)
  refine I.swapDc e (fun xs z => nomatch z) (fun y z => nomatch z) (fun ps z => nomatch z) (fun o' u' q _ => absurd q (h0 o' u')) (dc_upd hu _ (fun xs q => ?_) hx)
  rw [e] at q
  cases q
/-- behind an expression a dict that was held fast is let go -/
def tThaw (H0 : Hp) (t : TE) : TE := fun σ H Q => t σ H fun v H1 => ∃ a o u, H1 a = some (.frz o u) ∧ IsDc u ∧ (∀ o' u', H0 a ≠ some (.frz o' u')) ∧ Q v (upd H1 a u)
theorem pe_thaw {e : Expr} {t : TE} {H0 : Hp} (h : PE X e t) (h0 : X.H₀ = H0 := by rfl) : PE X e (tThaw H0 t) := by
  subst h0
  refine ⟨?_⟩
  intro pins s σ H Q I hq
  refine thn (h pins s σ H _ I hq) fun v s1 ⟨x, H1, I1, r, a, o, u, e, hu, h0, q⟩ => ⟨x, _, I1.thaw hu e h0, r, q⟩
end
/-- the keys of a dict of tuples, one by one -/
def Itd (a : Addr) (o : Obj) (kvs : List (List Key × V)) : It where
  go := fun i H => H a = some (.frz o (.dT kvs)) ∧ i < kvs.length
  yld := fun i H x H' => H' = H ∧ ∃ b p, x = .ref b ∧ kvs[i]? = some p ∧ H b = some (.tup (p.1.map kV))
  stop := fun i H => H a = some (.frz o (.dT kvs)) ∧ kvs.length ≤ i
theorem turn_dT {P : Program} {w : World} {K : PySem.W.Frag} {tg : Expr} {a it : Addr} {o : Obj} {es : Array DictEntry} {ep : Nat} {kvs : List (List Key × V)} (hne : it ≠ a) (hx : o.ExactDict) (hd : o.data = .dict es ep) : Turn P w K tg (Itd a o kvs) [it] it (fun i h => h.IsKeyIter it a i es.size ep) where
  mem := by simp
  obj := fun i h st b hb => by
    have e : b = it := by simpa using hb
    subst e
    obtain ⟨o, e, c, d⟩ := st
    exact ⟨o, e, fun v z => by rw [d] at z; cases z⟩
  keep := fun i h h' st k => st.at fun o e => k it (by simp) o e
  item := by
    intro X hP hw hK hc i pins s σ H E I hf st hg
    subst hP hw hK
    obtain ⟨hq, hlt⟩ := hg
    obtain ⟨ho, z, hsm, xs, kt, o2, es2, ep2, h1, h2, h3, h4, h5⟩ := (show ObjOk X.prog X.w H s.heap a (.frz o (.dT kvs)) from I.hok a _ hq)
    rw [ho] at h1
    cases h1
    rw [hd] at h3
    cases h3
    obtain ⟨f0, f1, f2, f3, f4, f5⟩ := hf it (by simp)
    have hlen : kvs.length = xs.length := Paired.length kt
    obtain ⟨x, hxx⟩ : ∃ x, xs[i]? = some x := ⟨xs[i]'(by omega), List.getElem?_eq_getElem (by omega)⟩
    obtain ⟨p, hp, hpx⟩ : ∃ p, kvs[i]? = some p ∧ (p.1 = x.1 ∧ H x.2.1 = some (.tup (p.1.map kV)) ∧ RelV p.2 x.2.2) := by
      have key : ∀ {l : List (List Key × V)} {m : List (List Key × Addr × Value)}, KT H l m → ∀ {i : Nat} {x : List Key × Addr × Value}, m[i]? = some x → ∃ p : List Key × V, l[i]? = some p ∧ (p.1 = x.1 ∧ H x.2.1 = some (.tup (p.1.map kV)) ∧ RelV p.2 x.2.2) := by
        intro l m q
        induction q with
        | nil => intro i x e; cases e
        | cons h t ih =>
          intro i x e
          cases i with
          | zero => cases e; exact ⟨_, rfl, h⟩
          | succ i => exact ih (show _ = some x from e)
      exact key kt hxx
    have he : es[i]? = some (entryOfKey (tupleKind (mixKind X.prog X.w)) x) := by rw [entry_at h4 i, hxx]; rfl
    refine Dx.next st ⟨o, ho, hx, hd⟩ he fun h' st' sb => ?_
    have I1 : Inv X pins σ H { s with heap := h' } := I.turned (t' := s.toks) (fun b o hb e => (sb.2 b hb).trans e) f0 f1 f3 f4 f5
    obtain ⟨oi, ei, ci, di⟩ := id st'
    exact ⟨_, rfl, go_of (s := { s with heap := h' }) ei ci di (by decide) ⟨.ref x.2.1, H, I1, rfl, ⟨rfl, x.2.1, p, rfl, hp, hpx.2.1⟩, st', fun b hb => (hf b hb).1⟩⟩
  done := by
    intro X hP hw hK hc i pins s σ H E I hf st hg
    subst hP hw hK
    obtain ⟨hq, hle⟩ := hg
    obtain ⟨ho, z, hsm, xs, kt, o2, es2, ep2, h1, h2, h3, h4, h5⟩ := (show ObjOk X.prog X.w H s.heap a (.frz o (.dT kvs)) from I.hok a _ hq)
    rw [ho] at h1
    cases h1
    rw [hd] at h3
    cases h3
    obtain ⟨f0, f1, f2, f3, f4, f5⟩ := hf it (by simp)
    have hlen : kvs.length = xs.length := Paired.length kt
    have hes : es.size = xs.length := size_of_entries h4
    exact Dx.stop (I.ok.hd hc) (by omega) st ⟨o, ho, hx, hd⟩ fun h' eb => ⟨rfl, I.turned (t' := s.toks) (fun b o hb e => eb b o hb e) f0 f1 f3 f4 f5⟩
  self := fun _ _ _ _ _ st h => wpAny_pyIter_keyiter st h
/-- for k in d, k a tuple -/
inductive iDT (te : TE) (σ : St) (H : Hp) (R : It → Hp → Prop) : Prop
  | mk (h : te σ H fun x H1 => ∃ a kvs, x = .ref a ∧ H1 a = some (.dT kvs) ∧ ∀ o, R (Itd a o kvs) (upd H1 a (.frz o (.dT kvs)))) : iDT te σ H R
theorem pi_dT {X : Cx} {tg e : Expr} {te : TE} (he : PE X e te) : PI X tg e (iDT te) := by
  intro pins s σ H R I h
  obtain ⟨h⟩ := h
  refine thn (he pins s σ H _ I h) fun v s1 ⟨x, H1, I1, r1, a, kvs, e, hq, q⟩ => ?_
  subst e
  cases r1
  obtain ⟨z, hsm, xs, kt, o, es, ep, h1, h2, h3, h4, h5⟩ := (show ObjOk X.prog X.w H1 s1.heap a (.dT kvs) from I1.hok a _ hq)
  refine Dx.iter hsm ⟨o, h1, h2, h3⟩ ?_
  have I2 : Inv X pins σ H1 { s1 with heap := s1.heap.push { cls := .type "dict_keyiterator", data := .fields #[.ref a, .int 0 0, .int es.size 0, .int ep 0] } } := I1.kept (t' := s1.toks) fun b o e => Heap.get?_push_of_some _ e
  have hlt := Heap.lt_size h1
  refine ⟨s1.heap.objs.size, [s1.heap.objs.size], _, _, _, rfl, I2.freeze (.t kvs) hq (Heap.get?_push_of_some _ h1), turn_dT (Nat.ne_of_gt hlt) h2 h3, ⟨_, Heap.get?_push_size _ rfl, rfl, rfl⟩, fun b hb => ?_, q o⟩
  have e : b = s1.heap.objs.size := by simpa using hb
  subst e
  exact I1.fpOk (Nat.le_refl _) (by rw [upd_ne (Nat.ne_of_gt hlt)]; exact I1.hok.fresh (Nat.le_refl _))
end L2
set_option Elab.async false
set_option linter.all false
set_option maxRecDepth 100000
/-! what is counted; all entries -/
namespace Pr
open PySem L2 PyProof.Rows Ent
/-- the entry that is counted -/
def countedM (os : List Str) (m : TM) (k : Str) : Option En := (tellsM os m k).head?.map fun r => (r.2.1, k, r.2.2)
section
variable {P : Program} {w : World} {K : PySem.W.Frag} {mg : Str → Option Value} {base : Heap} {C : Addr}
inductive sp_counted (C : Addr) (vs : List V) (H : Hp) (Q : VK) (E : XK) : Prop
  | mk (b d : Addr) (os : List Str) (m : TM) (k : Str) (e : vs = [.ref b, .str k]) (h : BookAt C H b d os m) (hl : os.length ≤ 6)
      (q0 : countedM os m k = none → ∀ H', Same H H' → Q .non H') (q1 : ∀ e, countedM os m k = some e → ∀ x H', Same H H' → EntT H' x e → Q x H') : sp_counted C vs H Q E
theorem sc_counted : FnScope ["self", "key", "rows", "source", "moment", "value"] ["self", "key"] (defScope sm_counted) := ⟨rfl, rfl, rfl, by decide +kernel, rfl, by decide +kernel, by decide +kernel⟩
theorem counted (T : Txt K mg C) : CanM P w K mg base C 2 "counted" ["self", "key"] (sp_counted C) := by
  refine fm_can T.m_counted sc_counted (fun vs H Q E h => ?_) (fun f cdv A outer s H vs Q E hr h => ?_)
  · obtain ⟨b, d, os, m, k, rfl, _⟩ := h
    rfl
  · obtain ⟨b, d, os, m, k, rfl, hB, hl, q0, q1⟩ := h
    refine ⟨_, (pss_cons (ps_set (i := 2) sc_counted.nd rfl (Or.inl rfl) (pe_canM (pv 0) T.cl (tells T) hr (pa1 (pv 1))))
      (pss_cons (ps_if (pt_not (pt_truth (pv 2) (fun _ => rfl))) (pss_one (ps_ret pe_non)) pss_nil)
      (pss_cons (ps_asg (pe_ix (ix_listK K) (pv 2) pe_int (fun _ _ => rfl)) (pg_tupK K rfl (pgs_cons (pg_name (i := 3) sc_counted.nd rfl (Or.inl rfl)) (pgs_cons (pg_name (i := 4) sc_counted.nd rfl (Or.inl rfl)) (pgs_cons (pg_name (i := 5) sc_counted.nd rfl (Or.inl rfl)) pgs_nil)))))
      (pss_one (ps_ret (pe_tup (pa3 (pv 4) (pv 1) (pv 5)))))))), ?_⟩
    obtain ⟨dx, f, kvs, hb, hf, hd, r⟩ := id hB
    refine ⟨_, rfl, b, dx, _, rfl, hb, rfl, _, rfl, b, d, os, m, k, rfl, hB, hl, fun D ys H1 s1 hD hy hp => ?_⟩
    unfold countedM at q0 q1
    refine ⟨_, rfl, _, .inl ⟨ys, .of hy, rfl⟩, ?_⟩
    generalize tellsM os m k = rs at hp q0 q1
    cases hp with
    | nil => exact iteT (q0 rfl _ s1)
    | @cons x row xs rows hr0 ht =>
      obtain ⟨a, rfl, ha⟩ := hr0
      refine iteF ?_
      refine ⟨_, rfl, D, _, _, _, rfl, rfl, .of hy, atI_nat (j := 0) rfl, a, _, rfl, .of ha, rfl, _, _, rfl, _, _, rfl, _, _, rfl, rfl, ?_⟩
      refine ⟨_, rfl, _, rfl, _, rfl, line1 (by show 3 ≤ 1000; decide), fun t ht => ?_⟩
      exact q1 _ rfl _ _ (s1.trans (Same.upd ht)) ⟨t, rfl, upd_same⟩
theorem inr_all : ∀ {ks : List Key}, (∀ k ∈ ks, ∃ z, k = Sum.inr z) → ∃ zs : List Str, ks = zs.map Sum.inr
  | [], _ => ⟨[], rfl⟩
  | k :: r, h => by
    obtain ⟨z, rfl⟩ := h k List.mem_cons_self
    obtain ⟨zs, rfl⟩ := inr_all fun j hj => h j (List.mem_cons_of_mem _ hj)
    exact ⟨z :: zs, rfl⟩
theorem keys_of (m : TM) : ∃ zs : List Str, allK (m.map fun q => (Sum.inr q.1.2 : Key)) = zs.map Sum.inr ∧ zs.Nodup ∧ ∀ z, z ∈ zs ↔ ∃ q ∈ m, q.1.2 = z := by
  obtain ⟨zs, e⟩ := inr_all (ks := allK (m.map fun q => (Sum.inr q.1.2 : Key))) fun k hk => by
    rw [mem_allK] at hk
    obtain ⟨q, _, rfl⟩ := List.mem_map.mp hk
    exact ⟨_, rfl⟩
  refine ⟨zs, e, ?_, fun z => ?_⟩
  · have := allK_nd (m.map fun q => (Sum.inr q.1.2 : Key))
    rw [e] at this
    exact (List.pairwise_map.mp this).imp fun h z => h (by rw [z])
  · have h1 : z ∈ zs ↔ (Sum.inr z : Key) ∈ zs.map Sum.inr := by
      rw [List.mem_map]
      exact ⟨fun h => ⟨z, h, rfl⟩, fun ⟨y, hy, e⟩ => by cases e; exact hy⟩
    rw [h1, ← e, mem_allK, List.mem_map]
    exact ⟨fun ⟨q, hq, e⟩ => ⟨q, hq, Sum.inr.inj e⟩, fun ⟨q, hq, e⟩ => ⟨q, hq, by rw [e]⟩⟩
theorem look_some {m : TM} {q : (Str × Str) × (Int × Int)} (h : q ∈ m) : (look m q.1).isSome = true := by
  unfold look
  cases e : m.find? (fun p => decide (p.1 = q.1)) with
  | some y => rfl
  | none =>
    have := List.find?_eq_none.mp e q h
    simp at this
theorem counted_some {os : List Str} {m : TM} {q : (Str × Str) × (Int × Int)} (h : q ∈ m) (ho : q.1.1 ∈ os) : ∃ e, countedM os m q.1.2 = some e := by
  unfold countedM tellsM
  cases hl : (os.filterMap fun s => (look m (s, q.1.2)).map fun x => (s, x.1, x.2)) with
  | cons r rs => exact ⟨_, rfl⟩
  | nil =>
    have h1 := look_some h
    cases e : look m q.1 with
    | none => rw [e] at h1; cases h1
    | some x =>
      have : (q.1.1, x.1, x.2) ∈ (os.filterMap fun s => (look m (s, q.1.2)).map fun x => (s, x.1, x.2)) := List.mem_filterMap.mpr ⟨q.1.1, ho, by rw [show (q.1.1, q.1.2) = q.1 from rfl, e]; rfl⟩
      rw [hl] at this
      cases this
/-- all that is counted: the keys that are told, each once, and their entries in order -/
structure AllM (os : List Str) (m : TM) (es : List En) : Prop where
  ex : ∃ (zs : List Str) (cs : List En) (p : List Nat), zs.Nodup ∧ (∀ z, z ∈ zs ↔ ∃ q ∈ m, q.1.2 = z) ∧ zs.map (fun z => countedM os m z) = cs.map some ∧ es = pick cs p ∧ p.Perm (List.range cs.length) ∧ p.Pairwise (Srt.R (Srt.ltOf (cs.map pl)))
inductive sp_entries (C : Addr) (vs : List V) (H : Hp) (Q : VK) (E : XK) : Prop
  | mk (b d : Addr) (os : List Str) (m : TM) (e : vs = [.ref b]) (h : BookAt C H b d os m) (hl : os.length ≤ 6) (hm : m.length < 1000) (hk : (allK (m.map fun q => (Sum.inr q.1.2 : Key))).length < 64) (hs : ∀ q ∈ m, q.1.1 ∈ os)
      (q : ∀ D ys H' es, Same H H' → H D = none → H' D = some (.lst ys) → Paired (EntT H') ys es → AllM os m es → Q (.ref D) H') : sp_entries C vs H Q E
theorem sc_entries : FnScope ["self", "keys"] ["self"] (defScope sm_entries) := ⟨rfl, rfl, rfl, by decide +kernel, rfl, by decide +kernel, by decide +kernel⟩
set_option maxHeartbeats 4000000 in
theorem entries (T : Txt K mg C) : CanM P w K mg base C 5 "entries" ["self"] (sp_entries C) := by
  refine fm_can T.m_entries sc_entries (fun vs H Q E h => ?_) (fun f cdv A outer s H vs Q E hr h => ?_)
  · obtain ⟨b, d, os, m, rfl, _⟩ := h
    rfl
  · obtain ⟨b, d, os, m, rfl, hB, hl, hm, hk, hs, q⟩ := h
    refine ⟨_, (pss_cons (ps_set (i := 1) sc_entries.nd rfl (Or.inl rfl) (pe_thaw (pe_b (call_sortedT P w rfl) T.b_sorted boot_sorted (pa1 (pe_sn (xs := ["source", "key"]) (Ns := ["self", "keys"]) rfl (lnS _ sc_entries) (pi_dT (pe_fldK K (pv 0) rfl)) (pg_pair rfl (lnS _ sc_entries)) (fun _ _ _ _ => pts_nil) (fun _ _ _ _ => (pv 1)))))))
      (pss_one (ps_ret (pe_can (in_order T) hr (pa1 (pe_lc rfl (lcS sc_entries) (pi_listK K (pv 1)) (fun _ _ _ _ => pts_nil) (fun _ _ _ _ => (pe_canM (pv 1) T.cl (counted T) hr (pa1 (pv 0)))))))))), ?_⟩
    obtain ⟨dx, f, kvs, hb, hf, hd, r⟩ := id hB
    have hlen : kvs.length = m.length := Paired.length r
    refine ⟨⟨_, rfl, b, C, dx, _, _, rfl, hb, T.cl, T.n_told, rfl, d, kvs, rfl, hd, fun o D hD => ?_⟩⟩
    have nD : D ≠ d := fun z => by rw [z, upd_same] at hD; cases hD
    have hD0 : H D = none := by rw [upd_ne nD] at hD; exact hD
    let kk : (Str × Str) × (Int × Int) → Key := fun q => .inr q.1.2
    refine ⟨fun i mm ks H' => mm = kvs.length - i ∧ i ≤ kvs.length ∧ ks = allK ((m.take i).map kk) ∧ H' = upd (upd H d (.frz o (.dT kvs))) D (SetH P w D ks), ⟨kvs.length, rfl, Nat.zero_le _, rfl, rfl⟩, ?_⟩
    rintro i mm ks H' ⟨rfl, hi, rfl, rfl⟩
    refine ⟨upd_same, ?_⟩
    have hdz : ∀ z, (upd (upd H d (.frz o (.dT kvs))) D z) d = some (.frz o (.dT kvs)) := fun z => by rw [upd_ne (Ne.symm nD), upd_same]
    by_cases hlt : i < kvs.length
    · refine .inr ⟨⟨hdz _, hlt⟩, fun x H' u hu y => ?_⟩
      obtain ⟨rfl, bb, p, rfl, hp, hbb⟩ := y
      obtain ⟨qq, hqq, e1, e2⟩ := Paired.get r hp
      rw [e1] at hbb
      match u, hu with
      | [u0, u1], _ =>
      have ml : (allK ((m.take i).map kk)).length < 1000 := by
        have h1 : ∀ (l acc : List Key), (l.foldl addK acc).length ≤ acc.length + l.length := fun l => by
          induction l with
          | nil => intro acc; exact Nat.le_refl _
          | cons a t ih => intro acc; rw [List.foldl_cons, List.length_cons]; have := ih (addK acc a); have := addK_len acc a; omega
        have h2 := h1 ((m.take i).map kk) []
        rw [List.length_map, List.length_take] at h2
        have e0 : ([] : List Key).length = 0 := rfl
        show (((m.take i).map kk).foldl addK []).length < 1000
        omega
      refine ⟨bb, _, rfl, .of hbb, rfl, _, _, rfl, _, _, rfl, rfl, ⟨[_, _], rfl, rfl⟩, ?_⟩
      refine yesI ⟨_, rfl, upd_same, ml, .inr qq.1.2, rfl, kvs.length - (i + 1), by omega, rfl, hlt, ?_, ?_⟩
      · rw [List.take_add_one, hqq, List.map_append]
        exact (allK_snoc _ _).symm
      · funext a
        by_cases z : a = D
        · rw [z]; (rw [upd_same, upd_same]) <;> rfl
        · rw [upd_ne z, upd_ne z, upd_ne z]
    · obtain rfl : i = kvs.length := by omega
      rw [hlen, List.take_of_length_le (Nat.le_refl _)]
      refine .inl ⟨⟨hdz _, Nat.le_of_eq hlen⟩, ?_⟩
      obtain ⟨zs, ez, nz, mz⟩ := keys_of m
      have ez' : allK (m.map kk) = zs.map Sum.inr := ez
      rw [ez'] at hk ⊢
      rw [List.length_map] at hk
      refine ⟨D, zs, rfl, upd_same, hk, fun G ys is yp p1 p2 hG => ?_⟩
      have nG : G ≠ D := fun z => by rw [z, upd_same] at hG; cases hG
      have nGd : G ≠ d := fun z => by rw [z, hdz] at hG; cases hG
      have hG0 : H G = none := by rw [upd_ne nG, upd_ne nGd] at hG; exact hG
      refine ⟨d, o, .dT kvs, by rw [upd_ne (Ne.symm nGd)]; exact hdz _, .t kvs, (fun o' u' z => by have z' : H d = some (.frz o' u') := z; rw [hd] at z'; cases z'), ?_⟩
      generalize hus : (is.map fun i => ys.getD i "") = us
      have sH : Same H (upd (upd (upd (upd H d (.frz o (.dT kvs))) D (SetH P w D (zs.map Sum.inr))) G (.lst (us.map V.str))) d (.dT kvs)) := fun a u e => by
        by_cases z : a = d
        · rw [z, upd_same]; rw [z, hd] at e; exact e
        · rw [upd_ne z, upd_ne (ne_of_none e hG0), upd_ne (ne_of_none e hD0), upd_ne z]; exact e
      have hG5 : (upd (upd (upd (upd H d (.frz o (.dT kvs))) D (SetH P w D (zs.map Sum.inr))) G (.lst (us.map V.str))) d (.dT kvs)) G = some (.lst (us.map V.str)) := by rw [upd_ne nGd, upd_same]
      generalize (upd (upd (upd (upd H d (.frz o (.dT kvs))) D (SetH P w D (zs.map Sum.inr))) G (.lst (us.map V.str))) d (.dT kvs)) = H5 at sH hG5
      have up : us.Perm zs := by
        rw [← hus]
        refine List.Perm.trans ((p1.map _).trans ?_) yp
        rw [show ((List.range ys.length).map fun i => ys.getD i "") = ys from by
          apply List.ext_getElem (by simp)
          intro j h1 h2
          rw [List.getElem_map, List.getElem_range, List.getD_eq_getElem?_getD, List.getElem?_eq_getElem h2]
          rfl]
      have ul : us.length < 64 := by rw [up.length_eq]; exact hk
      have hce : ∀ z ∈ us, ∃ e, countedM os m z = some e := fun z hz => by
        obtain ⟨qq, hq, rfl⟩ := (mz z).mp (up.mem_iff.mp hz)
        exact counted_some hq (hs qq hq)
      have hcs : ∀ l : List Str, (∀ z ∈ l, z ∈ us) → ∃ cs : List En, l.map (fun z => countedM os m z) = cs.map some := fun l => by
        induction l with
        | nil => intro _; exact ⟨[], rfl⟩
        | cons z t ih =>
          intro h
          obtain ⟨cs, ec⟩ := ih fun y hy => h y (List.mem_cons_of_mem _ hy)
          obtain ⟨e, he⟩ := hce z (h z List.mem_cons_self)
          exact ⟨e :: cs, by rw [List.map_cons, List.map_cons, he, ec]⟩
      obtain ⟨cs, hcs⟩ := hcs us fun _ h => h
      have cl : cs.length = us.length := by have := congrArg List.length hcs; rw [List.length_map, List.length_map] at this; exact this.symm
      refine ⟨_, rfl, G, rfl, ⟨_, .of hG5⟩, fun L hL => ?_⟩
      refine lc_list (xs := us.map V.str) (fun i ys H6 => H6 L = some (.lst ys) ∧ ys.length = i ∧ Same H5 H6 ∧ Paired (EntT H6) ys (cs.take i)) ⟨upd_same, rfl, Same.upd hL, .nil⟩ (fun i ys H6 h => ⟨h.1, .of (h.2.2.1 _ _ hG5)⟩) (fun ys H6 h => ?fin) fun i x ys H6 hi hx h => ?turn
      case turn =>
        obtain ⟨l1, l2, l3, l4⟩ := h
        rw [List.length_map] at hi
        rw [List.getElem?_map, List.getElem?_eq_getElem hi] at hx
        cases hx
        have ei : countedM os m us[i] = some (cs[i]'(by omega)) := by
          have := congrArg (fun l => l[i]?) hcs
          simp only [List.getElem?_map] at this
          rw [List.getElem?_eq_getElem hi, List.getElem?_eq_getElem (show i < cs.length by omega)] at this
          simpa using this
        have hB6 := hB.same (sH.trans l3)
        obtain ⟨dx6, f6, kvs6, hb6, _⟩ := id hB6
        refine yesI ⟨_, rfl, b, dx6, _, rfl, hb6, rfl, _, rfl, b, d, os, m, us[i], rfl, hB6, hl, (fun z => by rw [ei] at z; cases z), fun e he x H7 s7 hx7 => ?_⟩
        rw [ei] at he
        cases he
        refine LcNx.mk (by rw [List.length_map]; exact hi) (by rw [List.length_map]; omega) (by omega) (s7 _ _ l1) ⟨upd_same, by rw [List.length_append, l2]; rfl, Same.but_ne'' (l3.trans s7) hL, ?_⟩
        rw [List.take_add_one, List.getElem?_eq_getElem (show i < cs.length by omega)]
        exact Paired.snoc (hx7.wr (s7 _ _ l1)) (Paired.mapP l4 fun _ _ z => (z.same s7).wr (s7 _ _ l1))
      obtain ⟨l1, l2, l3, l4⟩ := h
      rw [List.take_of_length_le (by rw [List.length_map]; omega)] at l4
      refine ⟨L, _, _, cs, rfl, l1, .inl rfl, Paired.mapP l4 fun _ _ z => z.g, by omega, fun R H7 ys7 p s7 hR h7 hE p3 p4 => ?_⟩
      refine q R ys7 H7 _ (sH.trans (l3.trans s7)) (same_none (sH.trans l3) hR) h7 hE ⟨us, cs, p, up.nodup_iff.mpr nz, fun z => ?_, hcs, rfl, p3, p4⟩
      rw [up.mem_iff]
      exact mz z
end
end Pr
set_option Elab.async false
set_option linter.all false
set_option maxRecDepth 100000
/-! a book made; ranked anew -/
namespace Pr
open PySem L2 PyProof.Rows
theorem strs_dat (H : Hp) : ∀ l : List Str, DatAll H (l.map PyData.str) (l.map V.str)
  | [] => by unfold DatAll; rfl
  | x :: t => by rw [List.map_cons, List.map_cons]; unfold DatAll; exact ⟨_, _, rfl, by unfold Dat; rfl, strs_dat H t⟩
theorem strs_layA : ∀ {l : List Str}, (∀ z ∈ l, Src z) → PyData.canLayAll0 (l.map PyData.str) = true
  | [], _ => rfl
  | x :: t, h => by
    rw [List.map_cons]
    unfold PyData.canLayAll0
    rw [strs_layA fun z hz => h z (List.mem_cons_of_mem _ hz), Bool.and_true]
    have hx := h x List.mem_cons_self
    unfold PyData.canLay0 PyData.strOk
    rw [Array.all_eq_true_iff_forall_mem]
    intro c hc
    have := (hx.c c (Array.mem_toList_iff.mpr hc)).1
    exact decide_eq_true (by omega)
theorem strs_lay {l : List Str} (h : ∀ z ∈ l, Src z) : (PyData.list (l.map .str)).canLay0 = true := by unfold PyData.canLay0; exact strs_layA h
theorem strs_depA : ∀ l : List Str, PyData.depthAll (l.map PyData.str) = 0
  | [] => rfl
  | x :: t => by rw [List.map_cons]; simp only [PyData.depthAll, PyData.depth, strs_depA t]; rfl
theorem strs_dep (l : List Str) : (PyData.list (l.map .str)).depth ≤ 8 := by simp only [PyData.depth, strs_depA]; omega
section
variable {P : Program} {w : World} {K : PySem.W.Frag} {mg : Str → Option Value} {base : Heap} {C : Addr}
inductive sp_init (C : Addr) (vs : List V) (H : Hp) (Q : VK) (E : XK) : Prop
  | mk (b dx a : Addr) (o : HO) (zs : List Str) (e : vs = [.ref b, .ref a]) (h1 : H b = some (.ins C dx [])) (h2 : H a = some o) (ob : Ob o (zs.map V.str)) (ok : Srcs zs) (q : ∀ d H', But b H H' → H d = none → BookAt C H' b d zs [] → Q .non H') : sp_init C vs H Q E
theorem sc_init : FnScope ["self", "sources"] ["self", "sources"] (defScope sm_init) := ⟨rfl, rfl, rfl, by decide +kernel, rfl, by decide +kernel, by decide +kernel⟩
theorem init_ok (T : Txt K mg C) {f : Addr} {fd : FuncData} (F : Fun K "__init__" "Book.__init__" sm_init f fd) : FnOk P w K mg base CX0 4 f fd ["self", "sources"] (sp_init C) := by
  refine F.ok sc_init (fun vs H Q E h => ?_) (fun cdv A outer s H vs Q E hr h => ?_)
  · obtain ⟨b, dx, a, o, zs, rfl, _⟩ := h
    rfl
  · obtain ⟨b, dx, a, o, zs, rfl, hb, ha, ob, ok, q⟩ := h
    refine ⟨_, (pss_cons (ps_if (pt_not (pt_val (pe_can (are_sources T) hr (pa1 (pv 1))))) pss_never pss_nil)
      (pss_cons (ps_fld (pv 0) (pe_t call_tup_ob T.b_tuple boot_tuple (pa1 (pv 1))) rfl)
      (pss_one (ps_fld (pv 0) pe_dnewT rfl)))), ?_⟩
    refine ⟨_, rfl, a, o, zs, rfl, ha, ob, ok, fun H1 s1 => ⟨_, rfl, iteF ?_⟩⟩
    refine ⟨_, rfl, a, o, _, rfl, s1 _ _ ha, ob, fun l H2 s2 hl => ?_⟩
    have s12 := s1.trans s2
    have hb2 := s12 _ _ hb
    have nl : l ≠ b := fun z => by rw [z, hb2] at hl; cases hl
    refine ⟨_, rfl, b, C, dx, _, rfl, hb2, T.cl, T.n_best_first, (by show 0 < 1000; decide), ?_⟩
    intro d hd
    have nd : d ≠ b := fun z => by rw [z, upd_same] at hd; cases hd
    have hd2 : H2 d = none := by rw [upd_ne nd] at hd; exact hd
    have nld : l ≠ d := fun z => by rw [← z, upd_ne nl, hl] at hd; cases hd
    refine ⟨_, rfl, b, C, dx, _, rfl, by rw [upd_ne (Ne.symm nd), upd_same], T.cl, T.n_told, (by show 1 < 1000; decide), ?_⟩
    refine q d _ (fun c u e n => ?_) (same_none s12 hd2) ⟨dx, l, [], by rw [upd_same]; rfl, ?_, ?_, .nil⟩
    · rw [upd_ne n, upd_ne (fun z => by rw [z] at e; rw [s12 _ _ e] at hd2; cases hd2), upd_ne n]
      exact s12 _ _ e
    · rw [upd_ne nl, upd_ne nld, upd_ne nl]; exact hl
    · rw [upd_ne nd, upd_same]
theorem sc_rank : FnScope ["self", "order"] ["self", "order"] (defScope sm_rank) := ⟨rfl, rfl, rfl, by decide +kernel, rfl, by decide +kernel, by decide +kernel⟩
end
end Pr
set_option Elab.async false
set_option linter.all false
set_option maxRecDepth 100000
/-! the laws' draws: pot, digit, wide -/
namespace L2
open PySem PySem.Spec PyProof.Rows
theorem But.upd {p : Addr} {H : Hp} {o : HO} : But p H (L2.upd H p o) := fun c u h n => by rw [L2.upd_ne n]; exact h
end L2
namespace Pr
open PySem L2 PyProof.Rows
theorem atI_ints {S : List Int} {i : Int} (h0 : 0 ≤ i) (h1 : i < (S.length : Int)) : atI (S.map V.int) i = some (.int (S.getD i.toNat 0)) := by
  obtain ⟨n, rfl⟩ : ∃ n : Nat, i = n := ⟨i.toNat, by omega⟩
  refine atI_nat ?_
  rw [Int.toNat_natCast, List.getElem?_map, List.getElem?_eq_getElem (by omega), List.getD_eq_getElem?_getD, List.getElem?_eq_getElem (by omega)]
  rfl
inductive PotAt (H : Hp) (p : Addr) : Prop
  | mk (x : Int) (y : Int) (h : H p = some (.lst [.int x, .int y])) : PotAt H p
theorem PotAt.ne {H : Hp} {p l : Addr} (h : PotAt H p) (hl : H l = none) : l ≠ p := by
  obtain ⟨x, y, h⟩ := h
  exact Ne.symm (ne_of_none h hl)
theorem PotAt.same {H H' : Hp} {p : Addr} (h : PotAt H p) (s : Same H H') : PotAt H' p := by
  obtain ⟨x, y, h⟩ := h
  exact ⟨x, y, s _ _ h⟩
section
variable {P : Program} {w : World} {K : PySem.W.Frag} {mg : Str → Option Value} {base : Heap} {C : Addr}
inductive sp_pot (K : PySem.W.Frag) (vs : List V) (H : Hp) (Q : VK) (E : XK) : Prop
  | mk (a : Addr) (ns : List Int) (k : Int) (e : vs = [.ref a, .int k]) (h : SqL K H a (ns.map V.int)) (hn : ns.length ≤ 63) (hk : 0 ≤ k) (q : ∀ p H', Same H H' → H p = none → PotAt H' p → Q (.ref p) H') : sp_pot K vs H Q E
theorem sc_pot : FnScope ["_law_script", "_law_k", "_law_cell"] ["_law_script", "_law_k"] (defScope s_law_pot) := ⟨rfl, rfl, rfl, by decide +kernel, rfl, by decide +kernel, by decide +kernel⟩
theorem pot (T : Txt K mg C) : Can P w K mg base 1 "_law_pot" ["_law_script", "_law_k"] (sp_pot K) := by
  refine fn_can T.f_law_pot sc_pot (fun vs H Q E h => ?_) (fun f cdv A outer s H vs Q E hr h => ?_)
  · obtain ⟨a, ns, k, rfl, _⟩ := h
    rfl
  · obtain ⟨a, ns, k, rfl, ha, hn, hk, q⟩ := h
    refine ⟨_, (pss_cons (ps_set (i := 2) sc_pot.nd rfl (Or.inl rfl) (pe_ix (ix_listK K) (pe_op op_cat (pe_t (call_list_ofK K) T.b_list boot_list (pa1 (pv 0))) (pe_lst (pa1 pe_int))) (pe_b (call_min2 rfl) T.b_min boot_min (pa2 (pv 1) (pe_b (call_lenK K) T.b_len boot_len (pa1 (pv 0))))) (fun _ _ => rfl)))
      (pss_one (ps_ret (pe_lst (pa2 (pe_op op_mul (pv 2) (pe_t call_int1 T.b_int boot_int (pa1 (pe_cmpR op_ge (pv 2) (pe_op op_pow pe_int pe_int) (nomark _))))) (pe_op op_mod (pe_op op_add (pe_op op_add (pe_op op_mul (pe_op op_mod (pv 2) pe_int) pe_int) (pe_op op_mul pe_int (pv 1))) pe_int) pe_int)))))), ?_⟩
    refine ⟨_, rfl, a, _, rfl, .inl ha, fun l1 h1 => ?_⟩
    have s1 : Same H (upd H l1 (.lst (ns.map V.int))) := Same.upd h1
    refine ⟨line1 (by show 1 ≤ 1000; decide), fun l2 h2 => ?_⟩
    have s2 : Same (upd H l1 (.lst (ns.map V.int))) (upd (upd H l1 (.lst (ns.map V.int))) l2 (.lst [.int 0])) := Same.upd h2
    refine ⟨l1, l2, _, _, rfl, rfl, s2 _ _ upd_same, upd_same, by rw [sizeLine_eq, List.length_map]; show ns.length + 1 ≤ _; omega, fun l3 h3 => ?_⟩
    have s3 : Same (upd (upd H l1 (.lst (ns.map V.int))) l2 (.lst [.int 0])) (upd (upd (upd H l1 (.lst (ns.map V.int))) l2 (.lst [.int 0])) l3 (.lst (ns.map V.int ++ [.int 0]))) := Same.upd h3
    have sA := s1.trans (s2.trans s3)
    refine ⟨_, rfl, _, rfl, a, _, rfl, .inl (sA.seq ha), _, _, rfl, ?_⟩
    have e : ns.map V.int ++ [V.int 0] = (ns ++ [0]).map V.int := by rw [List.map_append]; rfl
    rw [List.length_map]
    have b0 : 0 ≤ (if (ns.length : Int) < k then (ns.length : Int) else k) := by split <;> omega
    have b1 : (if (ns.length : Int) < k then (ns.length : Int) else k) < ((ns ++ [0]).length : Int) := by rw [List.length_append]; show _ < ((ns.length + 1 : Nat) : Int); split <;> omega
    refine ⟨l3, _, _, _, rfl, rfl, .of (by rw [upd_same, e]), atI_ints b0 b1, ?_⟩
    generalize (ns ++ [0]).getD (if (ns.length : Int) < k then (ns.length : Int) else k).toNat 0 = c
    refine ⟨_, rfl, _, rfl, _, _, rfl, rfl, ⟨by decide +kernel, by decide +kernel, by decide +kernel⟩, _, _, rfl, rfl, .inr ⟨_, rfl, _, _, rfl, rfl, .inr ?_, ?_⟩⟩
    · constructor <;> split <;> decide
    refine ⟨_, rfl, _, _, rfl, rfl, (by show (0 : Int) < _; decide +kernel), _, _, rfl, rfl, .inr ⟨by decide +kernel, by decide +kernel⟩, _, rfl, _, _, rfl, rfl, .inl ⟨by decide +kernel, by decide +kernel⟩, _, _, rfl, rfl, _, _, rfl, rfl, _, _, rfl, rfl, (by show (0 : Int) < _; decide +kernel), line1 (by show 2 ≤ 1000; decide), fun p hp => ?_⟩
    exact q p _ (sA.trans (Same.upd hp)) (same_none sA hp) ⟨_, _, upd_same⟩
inductive sp_digit (vs : List V) (H : Hp) (Q : VK) (E : XK) : Prop
  | mk (p : Addr) (many : Int) (e : vs = [.ref p, .int many]) (h1 : PotAt H p) (h2 : 0 < many) (h3 : many < 2 ^ 300) (q : ∀ d H', 0 ≤ d → d < many → But p H H' → PotAt H' p → Q (.int d) H') : sp_digit vs H Q E
theorem sc_digit : FnScope ["_law_pot_here", "_law_many", "_law_digit_here"] ["_law_pot_here", "_law_many"] (defScope s_law_digit) := ⟨rfl, rfl, rfl, by decide +kernel, rfl, by decide +kernel, by decide +kernel⟩
theorem digit (T : Txt K mg C) : Can P w K mg base 1 "_law_digit" ["_law_pot_here", "_law_many"] sp_digit := by
  refine fn_can T.f_law_digit sc_digit (fun vs H Q E h => ?_) (fun f cdv A outer s H vs Q E hr h => ?_)
  · obtain ⟨p, many, rfl, _⟩ := h
    rfl
  · obtain ⟨p, many, rfl, ⟨x, y, hp⟩, h0, h1, q⟩ := h
    refine ⟨_, (pss_cons (ps_if (pt_cmpR op_gt (pe_ix (ix_listK K) (pv 0) pe_int (fun _ _ => rfl)) pe_int (nomark _))
        (pss_cons (ps_set (i := 2) sc_digit.nd rfl (Or.inl rfl) (pe_op op_mod (pe_ix (ix_listK K) (pv 0) pe_int (fun _ _ => rfl)) (pv 1)))
        (pss_cons (ps_asg (pe_op op_fdivB (pe_ix (ix_listK K) (pv 0) pe_int (fun _ _ => rfl)) (pv 1)) (pg_sub (pv 0) pe_int set_list))
        (pss_one (ps_ret (pv 2)))))
        pss_nil)
      (pss_cons (ps_asg (pe_op op_mod (pe_op op_add (pe_op op_mul (pe_ix (ix_listK K) (pv 0) pe_int (fun _ _ => rfl)) pe_int) pe_int) pe_int) (pg_sub (pv 0) pe_int set_list))
      (pss_one (ps_ret (pe_op op_mod (pe_op op_fdivB (pe_ix (ix_listK K) (pv 0) pe_int (fun _ _ => rfl)) pe_int) (pv 1)))))), ?_⟩
    refine ⟨_, rfl, p, _, _, _, rfl, rfl, .of hp, rfl, _, _, rfl, rfl, _, rfl, ?_⟩
    refine ite2 (fun hc => ?_) (fun hc => ?_)
    · refine ⟨_, rfl, p, _, _, _, rfl, rfl, .of hp, rfl, _, rfl, _, _, rfl, rfl, h0, ?_⟩
      refine ⟨_, rfl, p, _, _, _, rfl, rfl, .of hp, rfl, _, rfl, _, _, rfl, rfl, ⟨h0, h1⟩, _, rfl, p, _, _, _, rfl, rfl, hp, rfl, _, rfl, ?_⟩
      exact q _ _ (Int.emod_nonneg _ (by omega)) (Int.emod_lt_of_pos _ h0) But.upd ⟨_, _, upd_same⟩
    · refine ⟨_, rfl, p, _, _, _, rfl, rfl, .of hp, rfl, _, _, rfl, rfl, .inr ⟨by decide +kernel, by decide +kernel⟩, _, _, rfl, rfl, _, _, rfl, rfl, (by show (0 : Int) < _; decide +kernel), _, rfl, p, _, _, _, rfl, rfl, hp, rfl, ?_⟩
      refine ⟨_, rfl, p, _, _, _, rfl, rfl, .of upd_same, rfl, _, _, rfl, rfl, ⟨by decide +kernel, by decide +kernel⟩, _, rfl, _, _, rfl, rfl, h0, ?_⟩
      exact q _ _ (Int.emod_nonneg _ (by omega)) (Int.emod_lt_of_pos _ h0) But.upd ⟨_, _, upd_same⟩
end
end Pr
set_option Elab.async false
set_option linter.all false
set_option maxRecDepth 100000
/-! drawn words: sources, keys -/
namespace L2
open PySem PySem.Spec PyProof.Rows
theorem op_notIn_seqK {X : Cx} (K : PySem.W.Frag) (e : X.K = K := by rfl) : OpR X (compareOp .NotIn) (rIn K true) := by rw [← e]; exact op_notIn_seq
theorem op_in_seqK {X : Cx} (K : PySem.W.Frag) (e : X.K = K := by rfl) : OpR X (compareOp .In) (rIn K false) := by rw [← e]; exact op_in_seq
end L2
namespace Pr
open PySem L2 PyProof.Rows Ent
abbrev wd (cs : List Nat) : Str := Txt.join "" (cs.map fun c => (⟨#[c]⟩ : Str))
theorem sum_ones (cs : List Nat) : (cs.map ((fun x : Str => x.length) ∘ fun c => (⟨#[c]⟩ : Str))).sum = cs.length := by
  induction cs with
  | nil => rfl
  | cons c r ih =>
    rw [List.map_cons, List.sum_cons, List.length_cons, ih]
    show 1 + r.length = _
    omega
theorem wd_le (cs : List Nat) : (wd cs).cps.size ≤ cs.length := by
  have e : wd cs = Str.join "" (cs.map fun c => (⟨#[c]⟩ : Str)) := StrLaws.glued_eq_join _ _
  rw [e]
  have h1 := StrLaws.join_length_le "" (cs.map fun c => (⟨#[c]⟩ : Str))
  rw [List.map_map, sum_ones] at h1
  have h3 : (("" : String) : Str).length = 0 := by decide
  rw [h3] at h1
  show (Str.join _ _).length ≤ _
  omega
theorem wd_mem {cs : List Nat} {c : Nat} (h : c ∈ (wd cs).cps.toList) : c ∈ cs := by
  have e : wd cs = Str.join "" (cs.map fun c => (⟨#[c]⟩ : Str)) := StrLaws.glued_eq_join _ _
  rw [e] at h
  rcases (mem_join "" c _).mp h with ⟨t, ht, h2⟩ | ⟨_, h2⟩
  · obtain ⟨d, hd, rfl⟩ := List.mem_map.mp ht
    have : c = d := by simpa using h2
    rw [this]
    exact hd
  · have e0 : (("" : String) : Str).cps.toList = [] := by decide
    rw [e0] at h2
    cases h2
theorem wd_pos {cs : List Nat} (h : 1 ≤ cs.length) : 1 ≤ (wd cs).cps.size := by
  have e : wd cs = Str.join "" (cs.map fun c => (⟨#[c]⟩ : Str)) := StrLaws.glued_eq_join _ _
  rw [e]
  obtain ⟨c, hm⟩ := List.exists_mem_of_length_pos (show 0 < cs.length from h)
  exact join_mem_le "" _ (⟨#[c]⟩ : Str) (List.mem_map.mpr ⟨c, hm, rfl⟩)
theorem wd_join {cs : List Nat} (h : cs.length ≤ 100) : JoinOk "" (cs.map fun c => (⟨#[c]⟩ : Str)) = true := by
  refine joinOk_of ?_
  rw [List.map_map, sum_ones]
  have h3 : (("" : String) : Str).length = 0 := by decide
  rw [h3]
  omega
theorem sign_at {sg : Str} {i : Int} (h0 : 0 ≤ i) (h1 : i < sg.cps.toList.length) : ∃ c, atI sg.cps.toList i = some c ∧ c ∈ sg.cps.toList := by
  obtain ⟨n, rfl⟩ : ∃ n : Nat, i = n := ⟨i.toNat, by omega⟩
  have hn : n < sg.cps.toList.length := by omega
  exact ⟨sg.cps.toList[n], atI_nat (List.getElem?_eq_getElem hn), List.getElem_mem hn⟩
end Pr
set_option Elab.async false
set_option linter.all false
set_option maxRecDepth 100000
/-! drawn sources -/
namespace Pr
open PySem L2 PyProof.Rows Ent
theorem inV_str (k : Str) (ks : List Str) : inV (.str k) (ks.map V.str) = decide (k ∈ ks) := by
  induction ks with
  | nil => rfl
  | cons x t ih =>
    unfold inV at ih ⊢
    rw [List.map_cons, List.any_cons, ih]
    have e : eqV (.str x) (.str k) = decide (x = k) := by show (x == k) = _; by_cases z : x = k <;> simp [z]
    rw [e]
    by_cases z : k = x
    · subst z; simp
    · rw [decide_eq_false (fun h => z h.symm), Bool.false_or]
      by_cases y : k ∈ t
      · rw [decide_eq_true y, decide_eq_true (List.mem_cons_of_mem _ y)]
      · rw [decide_eq_false y, decide_eq_false (by simp [z, y])]
theorem flat_strs (ks : List Str) : (ks.map V.str).all flatV = true := by
  rw [List.all_eq_true]
  intro x hx
  obtain ⟨k, _, rfl⟩ := List.mem_map.mp hx
  rfl
theorem few {α : Type} [DecidableEq α] : ∀ {l zs : List α}, l.Nodup → (∀ x ∈ l, x ∈ zs) → l.length ≤ zs.length
  | [], _, _, _ => Nat.zero_le _
  | x :: t, zs, nd, h => by
    have nd' := List.nodup_cons.mp nd
    have hx := h x List.mem_cons_self
    have := few (zs := zs.erase x) nd'.2 fun y hy => by
      have ne : y ≠ x := fun z => nd'.1 (z ▸ hy)
      exact (List.mem_erase_of_ne ne).mpr (h y (List.mem_cons_of_mem _ hy))
    rw [List.length_erase_of_mem hx] at this
    have : 0 < zs.length := List.length_pos_of_mem hx
    rw [List.length_cons]
    omega
theorem az_all : ∀ c ∈ AZ.cps.toList, c < 128 := by
  have : AZ.cps.toList.all (fun c => decide (c < 128)) = true := by decide +kernel
  exact fun c hc => of_decide_eq_true (List.all_eq_true.mp this c hc)
theorem src_one {c : Nat} (h : c ∈ AZ.cps.toList) : Src ⟨#[c]⟩ := ⟨Nat.le_refl 1, Nat.le_of_ble_eq_true rfl, fun d hd => by
  have : d = c := by simpa using hd
  rw [this]; exact ⟨az_all c h, h⟩⟩
section
variable {P : Program} {w : World} {K : PySem.W.Frag} {mg : Str → Option Value} {base : Heap} {C : Addr}
inductive sp_sources (vs : List V) (H : Hp) (Q : VK) (E : XK) : Prop
  | mk (p : Addr) (e : vs = [.ref p]) (h1 : PotAt H p) (q : ∀ L zs H', Srcs zs → But p H H' → PotAt H' p → H L = none → H' L = some (.lst (zs.map V.str)) → Q (.ref L) H') : sp_sources vs H Q E
theorem sc_sources : FnScope ["_law_pot_here", "_law_letters", "_law_found", "_law_k", "_law_name"] ["_law_pot_here"] (defScope s_law_sources) := ⟨rfl, rfl, rfl, by decide +kernel, rfl, by decide +kernel, by decide +kernel⟩
set_option maxHeartbeats 4000000 in
theorem sources (T : Txt K mg C) : Can P w K mg base 2 "_law_sources" ["_law_pot_here"] sp_sources := by
  refine fn_can T.f_law_sources sc_sources (fun vs H Q E h => ?_) (fun f cdv A outer s H vs Q E hr h => ?_)
  · obtain ⟨p, rfl, _⟩ := h
    rfl
  · obtain ⟨p, rfl, hp, q⟩ := h
    refine ⟨_, (pss_cons (ps_set (i := 1) sc_sources.nd rfl (Or.inr rfl) pe_str)
      (pss_cons (ps_set (i := 2) sc_sources.nd rfl (Or.inr rfl) (pe_lst pa_nil))
      (pss_cons (ps_for PassesOwn.never rfl (pi_range1 rfl T.b_range (pa1 (pe_op op_add pe_int (pe_can (digit T) hr (pa2 (pv 0) pe_int))))) (pg_name (i := 3) sc_sources.nd rfl (Or.inl rfl))
        (pss_cons (ps_set (i := 4) sc_sources.nd rfl (Or.inl rfl) (pe_bmK K PySem.F.plainAttrs_str PySem.F.slot_str_join PySem.F.type_str_join mt_join pe_str (pa1 (pe_lc rfl (lcS sc_sources) (pi_range1 rfl T.b_range (pa1 (pe_op op_add pe_int (pe_can (digit T) hr (pa2 (pv 0) pe_int))))) (fun _ _ _ _ => pts_nil) (fun _ _ _ _ => (pe_ix ix_str (pv 2) (pe_can (digit T) hr (pa2 (pv 1) pe_int)) (fun _ _ => rfl)))))))
        (pss_cut (ps_if (pt_cmpR (op_in_seqK K) (pv 4) (pv 2) rfl)
          (pss_one (ps_set (i := 4) sc_sources.nd rfl (Or.inl rfl) (pe_ix (ix_listK K) (pe_lc rfl (lcS sc_sources) (pi_str (pv 1)) (fun _ _ _ _ => (pts_one (pt_cmpR (op_notIn_seqK K) (pv 0) (pv 3) rfl))) (fun _ _ _ _ => (pv 0))) pe_int (fun _ _ => rfl))))
          pss_nil)
        (pss_one (ps_expr (pe_bmK K PySem.F.plainAttrs_list PySem.F.slot_list_append PySem.F.type_list_append mt_append (pv 2) (pa1 (pv 4))))))))
      (pss_one (ps_ret (pv 2)))))), ?_⟩
    refine ⟨Nat.zero_le _, fun L hL => ?_⟩
    have s1 : Same H (upd H L (.lst [])) := Same.upd hL
    refine ⟨_, rfl, p, _, rfl, hp.same s1, by decide +kernel, by decide +kernel, fun d0 H0 a0 b0 c0 hp0 => ⟨_, _, rfl, rfl, _, rfl, by omega, by omega, ?_⟩⟩
    have nL : L ≠ p := hp.ne hL
    refine for_range (n := (1 + d0).toNat) (fun i σ H1 => ∃ v3 v4 zs, σ = [some (.ref p), some (.str AZ), some (.ref L), v3, v4] ∧ But p H H1 ∧ PotAt H1 p ∧ H1 L = some (.lst (zs.map V.str)) ∧ zs.length = i ∧ zs.Nodup ∧ ∀ z ∈ zs, Src z) ⟨_, _, [], rfl, s1.but.trans c0, hp0, c0 _ _ upd_same nL, rfl, List.nodup_nil, fun _ h => nomatch h⟩ ?turn ?fin
    case fin =>
      rintro σ H1 ⟨v3, v4, zs, rfl, c1, hp1, hL1, hl, nd, hs⟩
      exact ⟨_, rfl, q L zs _ ⟨by omega, by omega, nd, hs⟩ c1 hp1 hL hL1⟩
    case turn =>
      rintro i σ H1 hi ⟨v3, v4, zs, rfl, c1, hp1, hL1, hl, nd, hs⟩
      refine ⟨rfl, _, rfl, p, _, rfl, hp1, by decide +kernel, by decide +kernel, fun d1 H2 a1 b1 c2 hp2 => ⟨_, _, rfl, rfl, _, rfl, by omega, by omega, fun D hD => ?_⟩⟩
      have nD : D ≠ p := hp2.ne hD
      refine lc_range (fun i ys H3 => H3 D = some (.lst ys) ∧ But p H2 H3 ∧ PotAt H3 p ∧ ∃ cs : List Nat, ys = cs.map (fun c => V.str ⟨#[c]⟩) ∧ cs.length = i ∧ ∀ c ∈ cs, c ∈ AZ.cps.toList) ⟨upd_same, (Same.upd hD).but, hp2.same (Same.upd hD), [], rfl, rfl, fun _ h => nomatch h⟩ (fun i ys H3 h => h.1) (fun ys H3 h => ?_) fun i ys H3 hi h => ?go
      case go =>
        obtain ⟨h1, h2, h3, cs, rfl, h5, h6⟩ := h
        refine yesI ⟨_, rfl, _, rfl, p, _, rfl, h3, by decide +kernel, by decide +kernel, fun d H4 a4 b4 c4 hp4 => ?_⟩
        obtain ⟨ch, hch, hab⟩ := sign_at (sg := AZ) a4 (by show d < 26; exact b4)
        refine ⟨_, _, _, rfl, rfl, by decide +kernel, hch, LcNx.mk hi (by omega) (by rw [List.length_map]; omega) (c4 _ _ h1 nD) ⟨upd_same, ?_, ?_, cs ++ [ch], by rw [List.map_append]; rfl, by rw [List.length_append, h5]; rfl, fun z hz => ?_⟩⟩
        · intro b' o hb hn
          rw [upd_ne (ne_of_none hb hD)]
          exact c4 _ _ (h2 _ _ hb hn) hn
        · obtain ⟨x, y, hxy⟩ := hp4
          exact ⟨x, y, by rw [upd_ne (Ne.symm nD)]; exact hxy⟩
        · rcases List.mem_append.mp hz with hz | hz
          · exact h6 z hz
          · rw [List.mem_singleton.mp hz]; exact hab
      obtain ⟨h1, h2, h3, cs, rfl, h5, h6⟩ := h
      have e2 : cs.map (fun c => V.str ⟨#[c]⟩) = (cs.map fun c => (⟨#[c]⟩ : Str)).map V.str := by rw [List.map_map]; rfl
      rw [e2] at h1
      have hL3 := (c2.trans h2) _ _ hL1 nL
      have sw : Src (wd cs) := ⟨wd_pos (by omega), by have := wd_le cs; omega, fun c hc => ⟨az_all c (h6 c (wd_mem hc)), h6 c (wd_mem hc)⟩⟩
      refine ⟨_, D, _, rfl, rfl, .of h1, wd_join (by omega), ?_⟩
      refine ⟨fun σ' H' => ∃ nm', σ' = [some (.ref p), some (.str AZ), some (.ref L), some (.int (0 + (i : Int))), some (.str nm')] ∧ Same H3 H' ∧ nm' ∉ zs ∧ Src nm', ?_, ?_⟩
      · refine ⟨_, rfl, _, rfl, L, _, rfl, .inl (.of hL3), rfl, flat_strs zs, _, rfl, ?_⟩
        rcases Bool.eq_false_or_eq_true (inV (V.str (wd cs)) (zs.map V.str)) with hc | hc
        · refine iteC hc ?_
          have hal : AZ.cps.all (· < 128) = true := by decide +kernel
          refine ⟨_, rfl, AZ, rfl, hal, fun G hG => ?_⟩
          refine lc_go (n := AZ.cps.size) (fun i ys H5 => H5 G = some (.lst ys) ∧ Same H3 H5 ∧ ys = ((AZ.cps.toList.take i).filter (fun c => decide ((⟨#[c]⟩ : Str) ∉ zs))).map (fun c => V.str ⟨#[c]⟩)) ⟨upd_same, Same.upd hG, rfl⟩ (fun i ys H5 h => h.1) (fun ys H5 h => ⟨Nat.le_refl _, ?_⟩) fun i ys H5 hi h => ⟨hi, fun x H' y => ?_⟩
          · obtain ⟨g1, g2, rfl⟩ := h
            rw [List.take_of_length_le (by rw [Array.length_toList]; exact Nat.le_refl _)] at g1
            cases hf : AZ.cps.toList.filter (fun c => decide ((⟨#[c]⟩ : Str) ∉ zs)) with
            | nil =>
              exfalso
              have nd26 : (AZ.cps.toList.map fun c => (⟨#[c]⟩ : Str)).Nodup := by decide +kernel
              have l26 : (AZ.cps.toList.map fun c => (⟨#[c]⟩ : Str)).length = 26 := by decide +kernel
              have := few nd26 fun x hx => by
                obtain ⟨c, hc, rfl⟩ := List.mem_map.mp hx
                refine Classical.byContradiction fun z => ?_
                have : c ∈ AZ.cps.toList.filter (fun c => decide ((⟨#[c]⟩ : Str) ∉ zs)) := List.mem_filter.mpr ⟨hc, decide_eq_true z⟩
                rw [hf] at this
                cases this
              omega
            | cons c rest =>
              rw [hf] at g1
              have hm : c ∈ AZ.cps.toList.filter (fun c => decide ((⟨#[c]⟩ : Str) ∉ zs)) := by rw [hf]; exact List.mem_cons_self
              obtain ⟨m1, m2⟩ := List.mem_filter.mp hm
              exact ⟨G, _, _, _, rfl, rfl, .of g1, atI_nat (j := 0) rfl, ⟨#[c]⟩, rfl, g2, of_decide_eq_true m2, src_one m1⟩
          · obtain ⟨g1, g2, rfl⟩ := h
            obtain ⟨e1, c, hc5, e2⟩ := y
            subst e1 e2
            have tk1 : AZ.cps.toList.take (i + 1) = AZ.cps.toList.take i ++ [c] := by rw [List.take_add_one, hc5]; rfl
            have fl : ((AZ.cps.toList.take i).filter (fun c => decide ((⟨#[c]⟩ : Str) ∉ zs))).length ≤ i := Nat.le_trans (List.length_filter_le _ _) (by rw [List.length_take]; omega)
            have a26 : AZ.cps.size = 26 := by decide +kernel
            refine ⟨_, rfl, _, rfl, L, _, rfl, .inl (.of (g2 _ _ hL3)), rfl, flat_strs zs, _, rfl, ?_⟩
            have hv := inV_str ⟨#[c]⟩ zs
            by_cases z : (⟨#[c]⟩ : Str) ∈ zs
            · rw [decide_eq_true z] at hv
              refine iteN (show (!inV (V.str ⟨#[c]⟩) (zs.map V.str)) = false by rw [hv]; rfl) (LcNo.mk hi ⟨g1, g2, ?_⟩)
              rw [tk1, List.filter_append, List.filter_cons, if_neg (by simp [z])]
              simp
            · rw [decide_eq_false z] at hv
              refine iteC (show (!inV (V.str ⟨#[c]⟩) (zs.map V.str)) = true by rw [hv]; rfl) ⟨_, rfl, LcNx.mk hi (by omega) (by rw [List.length_map]; exact fl) g1 ⟨upd_same, fun b o e => ?_, ?_⟩⟩
              · rw [upd_ne (ne_of_none e hG)]; exact g2 _ _ e
              · rw [tk1, List.filter_append, List.filter_cons, if_pos (decide_eq_true z), List.map_append]
                rfl
        · refine iteN hc ⟨(wd cs), rfl, Same.refl _, fun z => ?_, sw⟩
          rw [inV_str, decide_eq_true z] at hc
          cases hc
      · rintro σ' H4 ⟨nm', rfl, s4, hn, hsn⟩
        have hL4 := s4 _ _ hL3
        refine ⟨_, rfl, .inl ⟨rfl, _, .of hL4⟩, _, rfl, L, _, _, rfl, rfl, hL4, by rw [List.length_map, sizeLine_eq]; omega, ?_⟩
        refine ⟨_, _, zs ++ [nm'], rfl, fun b o e n => ?_, ?_, by rw [upd_same, List.map_append]; rfl, by rw [List.length_append, hl]; rfl, ?_, fun z hz => ?_⟩
        · rw [upd_ne (ne_of_none e hL)]
          exact s4 _ _ ((c2.trans h2) _ _ (c1 _ _ e n) n)
        · obtain ⟨x, y, hxy⟩ := h3.same s4
          exact ⟨x, y, by rw [upd_ne (Ne.symm nL)]; exact hxy⟩
        · refine List.nodup_append.mpr ⟨nd, List.pairwise_singleton _ _, fun a ha b hb z => ?_⟩
          rw [List.mem_singleton.mp hb] at z
          exact hn (z ▸ ha)
        · rcases List.mem_append.mp hz with hz | hz
          · exact hs z hz
          · rw [List.mem_singleton.mp hz]; exact hsn
end
end Pr
set_option Elab.async false
set_option linter.all false
set_option maxRecDepth 100000
/-! the checks of sources, of any thing -/
namespace Pr
open PySem L2 PyProof.Rows Ent
theorem TyS.same {H H' : Hp} (s : Same H H') {v : V} {t : Value} (h : TyS H v t) : TyS H' v t := by
  cases h with
  | bl y => exact .bl y
  | int i => exact .int i
  | lst e => exact .lst (s _ _ e)
  | tup e => exact .tup (s _ _ e)
theorem TyW.same {H H' : Hp} (s : Same H H') {v : V} {t : Value} (h : TyW H v t) : TyW H' v t := by
  cases h with
  | s h => exact .s (TyS.same s h)
  | non => exact .non
  | str x => exact .str x
  | dK e => exact .dK (s _ _ e)
  | lit e => exact .lit (s _ _ e)
/-- is a text a source's name? -/
def wdB (z : Str) : Bool := decide (1 ≤ z.cps.size) && (decide (z.cps.size ≤ 6) && z.cps.toList.all fun c => decide (c ∈ AZ.cps.toList))
def Asc (z : Str) : Prop := ∀ c ∈ z.cps.toList, c < 128
inductive El (K : PySem.W.Frag) (H : Hp) (v : V) (b : Bool) : Prop
  | str (z : Str) (e : v = .str z) (asc : Asc z) (l : z.cps.size ≤ 1000) (eb : b = wdB z) : El K H v b
  | oth (t : Value) (h : TyW H v t) (k : PySem.W.kitOne K t (.type "str") = some false) (eb : b = false) : El K H v b
theorem El.same {K : PySem.W.Frag} {H H' : Hp} (s : Same H H') {v : V} {b : Bool} (h : El K H v b) : El K H' v b := by
  cases h with
  | str z e asc l eb => exact .str z e asc l eb
  | oth t h k eb => exact .oth t (TyW.same s h) k eb
theorem src_asc {z : Str} (h : Src z) : Asc z := fun c hc => (h.c c hc).1
theorem src_wd {z : Str} (h : Src z) : wdB z = true := by
  unfold wdB
  rw [decide_eq_true h.l, decide_eq_true h.h, Bool.true_and, Bool.true_and, List.all_eq_true]
  exact fun c hc => decide_eq_true (h.c c hc).2
theorem src_el {K : PySem.W.Frag} {H : Hp} {z : Str} (h : Src z) : El K H (.str z) true := .str z rfl (src_asc h) (by have := h.h; omega) (src_wd h).symm
theorem TyW.but {p : Addr} {H H' : Hp} (c : But p H H') {v : V} {t : Value} (n : v ≠ .ref p) (h : TyW H v t) : TyW H' v t := by
  cases h with
  | s h =>
    cases h with
    | bl y => exact .s (.bl y)
    | int i => exact .s (.int i)
    | lst e => exact .s (.lst (c _ _ e fun z => n (by rw [z])))
    | tup e => exact .s (.tup (c _ _ e fun z => n (by rw [z])))
  | non => exact .non
  | str x => exact .str x
  | dK e => exact .dK (c _ _ e fun z => n (by rw [z]))
  | lit e => exact .lit (c _ _ e fun z => n (by rw [z]))
theorem El.but {K : PySem.W.Frag} {p : Addr} {H H' : Hp} (c : But p H H') {v : V} {b : Bool} (n : v ≠ .ref p) (h : El K H v b) : El K H' v b := by
  cases h with
  | str z e asc l eb => exact .str z e asc l eb
  | oth t h k eb => exact .oth t (TyW.but c n h) k eb
/-- what is no list of unlike sources, and has nothing to do with the list at q -/
inductive Unf (K : PySem.W.Frag) (q : Addr) (H : Hp) (v : V) : Prop
  | ty (t : Value) (n : v ≠ .ref q) (h : TyW H v t) (k : PySem.W.kitAny K t [.type "list", .type "tuple"] = some false) : Unf K q H v
  | len (p : Addr) (o : HO) (xs : List V) (e : v = .ref p) (n : p ≠ q) (h : H p = some o) (ob : Ob o xs) (l : xs.length = 0 ∨ 6 < xs.length) : Unf K q H v
  | el (p : Addr) (o : HO) (xs : List V) (bs : List Bool) (e : v = .ref p) (n : p ≠ q) (nx : ∀ x ∈ xs, x ≠ .ref q) (h : H p = some o) (ob : Ob o xs) (l1 : 1 ≤ xs.length) (l2 : xs.length ≤ 6) (hb : Paired (El K H) xs bs) (no : bs.all id = false) : Unf K q H v
  | dup (p : Addr) (o : HO) (zs : List Str) (e : v = .ref p) (n : p ≠ q) (h : H p = some o) (ob : Ob o (zs.map V.str)) (l1 : 1 ≤ zs.length) (l2 : zs.length ≤ 6) (hs : ∀ z ∈ zs, Src z) (no : (allK (zs.map Sum.inr : List Key)).length ≠ zs.length) : Unf K q H v
theorem Unf.same {K : PySem.W.Frag} {q : Addr} {H H' : Hp} (s : Same H H') {v : V} (h : Unf K q H v) : Unf K q H' v := by
  cases h with
  | ty t n h k => exact .ty t n (TyW.same s h) k
  | len p o xs e n h ob l => exact .len p o xs e n (s _ _ h) ob l
  | el p o xs bs e n nx h ob l1 l2 hb no => exact .el p o xs bs e n nx (s _ _ h) ob l1 l2 (Paired.mapP hb fun _ _ z => z.same s) no
  | dup p o zs e n h ob l1 l2 hs no => exact .dup p o zs e n (s _ _ h) ob l1 l2 hs no
theorem els_but {K : PySem.W.Frag} {q : Addr} {H H' : Hp} (c : But q H H') : ∀ {xs : List V} {bs : List Bool}, (∀ x ∈ xs, x ≠ .ref q) → Paired (El K H) xs bs → Paired (El K H') xs bs
  | _, _, _, .nil => .nil
  | _, _, n, .cons h t => .cons (h.but c (n _ List.mem_cons_self)) (els_but c (fun x hx => n x (List.mem_cons_of_mem _ hx)) t)
theorem Unf.but {K : PySem.W.Frag} {q : Addr} {H H' : Hp} (c : But q H H') {v : V} (h : Unf K q H v) : Unf K q H' v := by
  cases h with
  | ty t n h k => exact .ty t n (TyW.but c n h) k
  | len p o xs e n h ob l => exact .len p o xs e n (c _ _ h n) ob l
  | el p o xs bs e n nx h ob l1 l2 hb no => exact .el p o xs bs e n nx (c _ _ h n) ob l1 l2 (els_but c nx hb) no
  | dup p o zs e n h ob l1 l2 hs no => exact .dup p o zs e n (c _ _ h n) ob l1 l2 hs no
theorem allK_le (ks : List Key) : (allK ks).length ≤ ks.length := few (allK_nd ks) fun _ h => mem_allK.mp h
section
variable {P : Program} {w : World} {K : PySem.W.Frag} {mg : Str → Option Value} {base : Heap} {C : Addr}
inductive sp_is_listA (K : PySem.W.Frag) (vs : List V) (H : Hp) (Q : VK) (E : XK) : Prop
  | mk (v : V) (t : Value) (b : Bool) (e : vs = [v]) (h : TyW H v t) (k : PySem.W.kitAny K t [.type "list", .type "tuple"] = some b) (q : ∀ H', Same H H' → Q (.bl b) H') : sp_is_listA K vs H Q E
theorem is_listA (T : Txt K mg C) : Can P w K mg base 1 "is_list" ["value"] (sp_is_listA K) := by
  refine fn_can T.f_is_list sc_is_list (fun vs H Q E h => ?_) (fun f cdv A outer s H vs Q E hr h => ?_)
  · obtain ⟨v, t, b, rfl, _⟩ := h
    rfl
  · obtain ⟨v, t, b, rfl, ty, hk, q⟩ := h
    refine ⟨_, pss_one (ps_ret (pe_b (call_isiW2 K) T.b_isinstance boot_isinstance (pa2 (pv 0) (pe_tup (pa2 (pe_ty rfl T.b_list boot_list) (pe_ty rfl T.b_tuple boot_tuple)))))), ?_⟩
    refine ⟨_, rfl, line1 (by show 2 ≤ 1000; decide), fun u hu => ?_⟩
    exact ⟨_, t, u, _, _, _, rfl, .of upd_same, TyW.same (Same.upd hu) ty, hk, q _ (Same.upd hu)⟩
inductive sp_is_list_fromA (K : PySem.W.Frag) (vs : List V) (H : Hp) (Q : VK) (E : XK) : Prop
  | no (v : V) (t : Value) (a b : Int) (e : vs = [v, .int a, .int b]) (h : TyW H v t) (k : PySem.W.kitAny K t [.type "list", .type "tuple"] = some false) (q : ∀ H', Same H H' → Q (.bl false) H') : sp_is_list_fromA K vs H Q E
  | yes (p : Addr) (o : HO) (xs : List V) (a b : Int) (e : vs = [.ref p, .int a, .int b]) (h : H p = some o) (ob : Ob o xs) (q : ∀ H', Same H H' → Q (.bl (decide (a ≤ (xs.length : Int)) && decide ((xs.length : Int) ≤ b))) H') : sp_is_list_fromA K vs H Q E
theorem is_list_fromA (T : Txt K mg C) : Can P w K mg base 2 "is_list_from" ["value", "fewest", "most"] (sp_is_list_fromA K) := by
  refine fn_can T.f_is_list_from sc_is_list_from (fun vs H Q E h => ?_) (fun f cdv A outer s H vs Q E hr h => ?_)
  · cases h with
    | no v t a b e => rw [e]; rfl
    | yes p o xs a b e => rw [e]; rfl
  · refine ⟨_, pss_one (ps_ret (pe_and (pe_can (is_listA T) hr (pa1 (pv 0))) (pe_one (pe_chain op_le op_le (pv 1) (pe_b call_len_ob T.b_len boot_len (pa1 (pv 0))) (pv 2))))), ?_⟩
    cases h with
    | no v t a b e ty k q =>
      subst e
      exact ⟨_, rfl, v, t, _, rfl, ty, k, fun H1 s1 => ⟨_, rfl, iteF (q _ s1)⟩⟩
    | yes p o xs a b e hp ob q =>
      subst e
      obtain ⟨t, ty, hk⟩ := ob_ty (K := K) hp ob
      refine ⟨_, rfl, _, t, _, rfl, ty, hk, fun H1 s1 => ⟨_, rfl, iteT ?_⟩⟩
      refine ⟨_, rfl, _, rfl, p, o, xs, rfl, s1 _ _ hp, ob, _, _, rfl, rfl, _, rfl, iteB (fun h => ?_) (fun h => ?_)⟩
      · refine ⟨_, rfl, _, _, rfl, rfl, ?_⟩
        have := q _ s1
        rw [h, Bool.true_and] at this
        exact this
      · have := q _ s1
        rw [h, Bool.false_and] at this
        exact this
inductive sp_is_wordA (K : PySem.W.Frag) (vs : List V) (H : Hp) (Q : VK) (E : XK) : Prop
  | oth (v : V) (t : Value) (sg : Str) (m : Int) (e : vs = [v, .str sg, .int m]) (h : TyW H v t) (k : PySem.W.kitOne K t (.type "str") = some false) (q : ∀ H', Same H H' → Q (.bl false) H') : sp_is_wordA K vs H Q E
  | str (z sg : Str) (m : Int) (e : vs = [.str z, .str sg, .int m]) (asc : Asc z) (l : z.cps.size ≤ 1000) (q : ∀ H', Same H H' → Q (.bl (decide (1 ≤ (z.cps.size : Int)) && (decide ((z.cps.size : Int) ≤ m) && z.cps.toList.all fun c => decide (c ∈ sg.cps.toList)))) H') : sp_is_wordA K vs H Q E
set_option maxHeartbeats 2000000 in
theorem is_wordA (T : Txt K mg C) : Can P w K mg base 1 "is_word" ["value", "signs", "most"] (sp_is_wordA K) := by
  refine fn_can T.f_is_word sc_is_word (fun vs H Q E h => ?_) (fun f cdv A outer s H vs Q E hr h => ?_)
  · cases h with
    | oth v t sg m e => rw [e]; rfl
    | str z sg m e => rw [e]; rfl
  · refine ⟨_, pss_one (ps_ret (pe_and (pe_b (call_isiW K) T.b_isinstance boot_isinstance (pa2 (pv 0) (pe_ty rfl T.b_str boot_str))) (pe_and (pe_chain op_le op_le pe_int (pe_b call_len_str T.b_len boot_len (pa1 (pv 0))) (pv 2)) (pe_one (pe_b (call_all_seqK K rfl) T.b_all boot_all (pa1 (pe_lc rfl (lcS sc_is_word) (pi_str (pv 0)) (fun _ _ _ _ => pts_nil) (fun _ _ _ _ => pe_cmpR op_in_str (pv 0) (pv 2) rfl)))))))), ?_⟩
    cases h with
    | oth v t sg m e ty k q =>
      subst e
      exact ⟨_, rfl, _, _, _, _, rfl, ty, k, _, rfl, iteF (q _ (Same.refl _))⟩
    | str k sg m e asc hl q =>
      subst e
      have hk : k.length = k.cps.size := rfl
      have hal : k.cps.all (· < 128) = true := by
        rw [← Array.all_toList, List.all_eq_true]
        exact fun c hc => decide_eq_true (asc c hc)
      refine ⟨_, rfl, _, _, _, _, rfl, .str k, kit_str1 _, _, rfl, iteT ?_⟩
      refine ⟨_, rfl, _, rfl, line1 (by omega), _, _, rfl, rfl, _, rfl, iteB (fun h1 => ⟨_, rfl, _, _, rfl, rfl, _, rfl, iteB (fun h2 => ⟨_, rfl, k, rfl, hal, fun D hD => ?_⟩) (fun h2 => ?_)⟩) (fun h1 => ⟨_, rfl, iteF ?_⟩)⟩
      · have q' : ∀ H', Same H H' → Q (.bl (k.cps.toList.all fun c => decide (c ∈ sg.cps.toList))) H' := fun H' s => by
          have := q H' s
          rw [show decide (1 ≤ (k.cps.size : Int)) = true from h1, show decide ((k.cps.size : Int) ≤ m) = true from h2, Bool.true_and, Bool.true_and] at this
          exact this
        refine lc_go (n := k.cps.size) (fun i ys H1 => H1 D = some (.lst ys) ∧ Same H H1 ∧ ys = ((k.cps.toList.take i).map fun c => decide (c ∈ sg.cps.toList)).map V.bl) ⟨upd_same, Same.upd hD, rfl⟩ (fun i ys H1 h => h.1) (fun ys H1 h => ⟨Nat.le_refl _, ?_⟩) fun i ys H1 hi h => ⟨hi, fun x H' y => ?_⟩
        · obtain ⟨z1, z2, rfl⟩ := h
          refine ⟨D, _, rfl, .of z1, ?_⟩
          rw [List.take_of_length_le (by rw [Array.length_toList]; exact Nat.le_refl _), List.all_map]
          exact q' _ z2
        · obtain ⟨z1, z2, rfl⟩ := h
          obtain ⟨e1, c, hc, e2⟩ := y
          subst e1 e2
          refine yesI ⟨_, rfl, _, rfl, _, _, rfl, rfl, ?_⟩
          have hf : (!(Builtin.Str.occurrences sg ⟨#[c]⟩ 0 sg.length 1).isEmpty) = decide (c ∈ sg.cps.toList) := by
            rw [StrLaws.found_one]
          rw [hf]
          refine LcNx.mk hi (by omega) (by rw [List.length_map, List.length_map, List.length_take, Array.length_toList]; omega) z1 ⟨upd_same, fun b o e => ?_, ?_⟩
          · rw [upd_ne (ne_of_none e hD)]; exact z2 _ _ e
          · rw [List.take_add_one, hc, List.map_append, List.map_append]
            rfl
      · have := q H (Same.refl _)
        rw [show decide (1 ≤ (k.cps.size : Int)) = true from h1, show decide ((k.cps.size : Int) ≤ m) = false from h2, Bool.true_and, Bool.false_and] at this
        exact this
      · have := q H (Same.refl _)
        rw [show decide (1 ≤ (k.cps.size : Int)) = false from h1, Bool.false_and] at this
        exact this
inductive sp_is_sourceA (K : PySem.W.Frag) (vs : List V) (H : Hp) (Q : VK) (E : XK) : Prop
  | mk (v : V) (b : Bool) (e : vs = [v]) (h : El K H v b) (q : ∀ H', Same H H' → Q (.bl b) H') : sp_is_sourceA K vs H Q E
theorem is_sourceA (T : Txt K mg C) : Can P w K mg base 2 "is_source" ["value"] (sp_is_sourceA K) := by
  refine fn_can T.f_is_source sc_is_source (fun vs H Q E h => ?_) (fun f cdv A outer s H vs Q E hr h => ?_)
  · obtain ⟨k, b, rfl, _⟩ := h
    rfl
  · obtain ⟨v, b, rfl, h, q⟩ := h
    refine ⟨_, pss_one (ps_ret (pe_can (is_wordA T) hr (pa3 (pv 0) (pe_gs T.c_LETTERS) (pe_gi T.c_MOST_SOURCE_SIGNS)))), ?_⟩
    cases h with
    | oth t h k eb =>
      subst eb
      exact ⟨_, rfl, .oth v t AZ 6 rfl h k q⟩
    | str z e asc l eb =>
      subst e eb
      refine ⟨_, rfl, .str z AZ 6 rfl asc l fun H' s => ?_⟩
      have := q H' s
      have e1 : decide (1 ≤ (z.cps.size : Int)) = decide (1 ≤ z.cps.size) := by rw [decide_eq_decide]; omega
      have e2 : decide ((z.cps.size : Int) ≤ 6) = decide (z.cps.size ≤ 6) := by rw [decide_eq_decide]; omega
      rw [e1, e2]
      exact this
inductive sp_are_sourcesA (K : PySem.W.Frag) (vs : List V) (H : Hp) (Q : VK) (E : XK) : Prop
  | mk (v : V) (u : Addr) (e : vs = [v]) (h : Unf K u H v) (q : ∀ H', Same H H' → Q (.bl false) H') : sp_are_sourcesA K vs H Q E
set_option maxHeartbeats 4000000 in
theorem are_sourcesA (T : Txt K mg C) : Can P w K mg base 3 "are_sources" ["value"] (sp_are_sourcesA K) := by
  refine fn_can T.f_are_sources sc_are_sources (fun vs H Q E h => ?_) (fun f cdv A outer s H vs Q E hr h => ?_)
  · obtain ⟨v, u, rfl, _⟩ := h
    rfl
  · obtain ⟨v, u, rfl, h, q⟩ := h
    refine ⟨_, (pss_cons (ps_if (PW.pt (pw_or (pt_not (pt_val (pe_can (is_list_fromA T) hr (pa3 (pv 0) pe_int (pe_gi T.c_MOST_SOURCES))))) (pw_or1 (pt_not (pt_val (pe_b (call_all_seqK K rfl) T.b_all boot_all (pa1 (pe_lc rfl (lcS sc_are_sources) (pi_seq (pv 0)) (fun _ _ _ _ => pts_nil) (fun _ _ _ _ => (pe_can (is_sourceA T) hr (pa1 (pv 0))))))))))))
        (pss_one (ps_ret pe_bl)) pss_nil)
      (pss_one (ps_ret (pe_cmpR op_eq (pe_b (call_lenS P w) T.b_len boot_len (pa1 (pe_t (call_setT P w rfl) T.b_set boot_set (pa1 (pv 0))))) (pe_b call_len_ob T.b_len boot_len (pa1 (pv 0))) (nomark _))))), ?_⟩
    cases h with
    | ty t n ty k => exact ⟨_, rfl, .no v t _ _ rfl ty k fun H1 s1 => ⟨_, rfl, iteT (q _ s1)⟩⟩
    | len p o xs e n hp ob l =>
      subst e
      refine ⟨_, rfl, .yes p o xs _ _ rfl hp ob fun H1 s1 => ⟨_, rfl, ?_⟩⟩
      have e : (decide ((1 : Int) ≤ (xs.length : Int)) && decide ((xs.length : Int) ≤ 6)) = false := by
        rw [Bool.and_eq_false_iff, decide_eq_false_iff_not, decide_eq_false_iff_not]
        omega
      rw [e]
      exact iteT (q _ s1)
    | el p o xs bs e n nx hp ob l1 l2 hb no =>
      subst e
      have bl := Paired.length hb
      refine ⟨_, rfl, .yes p o xs _ _ rfl hp ob fun H1 s1 => ⟨_, rfl, ?_⟩⟩
      have e : (decide ((1 : Int) ≤ (xs.length : Int)) && decide ((xs.length : Int) ≤ 6)) = true := by
        rw [Bool.and_eq_true, decide_eq_true_eq, decide_eq_true_eq]
        omega
      rw [e]
      refine iteF ⟨_, rfl, p, o, _, rfl, s1 _ _ hp, ob, fun J hJ D hD => ?_⟩
      refine lc_it hJ (fun i ys H2 => H2 D = some (.lst ys) ∧ ys = (bs.take i).map V.bl ∧ Same H1 H2) ⟨upd_same, rfl, Same.upd hD⟩ (fun i ys H2 h => ⟨h.1, h.2.2 _ _ (s1 _ _ hp)⟩) (fun ys H2 h => ?_) fun i x ys H2 hi hx h => ?_
      · obtain ⟨d1, rfl, d3⟩ := h
        rw [List.take_of_length_le (by omega)] at d1
        refine ⟨D, bs, rfl, .of d1, _, rfl, ?_⟩
        rw [no]
        exact iteT (q _ (s1.trans d3))
      · obtain ⟨d1, rfl, d3⟩ := h
        obtain ⟨b, hbi, he⟩ := Paired.get hb hx
        refine yesI ⟨_, rfl, _, _, rfl, (he.same s1).same d3, fun H3 s3 => ?_⟩
        refine LcNx.mk hi (by omega) (by rw [List.length_map, List.length_take]; omega) (s3 _ _ d1) ⟨upd_same, by rw [List.take_add_one, hbi, List.map_append]; rfl, fun b o e => ?_⟩
        rw [upd_ne (ne_of_none e hD)]
        exact s3 _ _ (d3 _ _ e)
    | dup p o zs e n hp ob l1 l2 hs no =>
      subst e
      refine ⟨_, rfl, .yes p o (zs.map V.str) _ _ rfl hp ob fun H1 s1 => ⟨_, rfl, ?_⟩⟩
      have e : (decide ((1 : Int) ≤ ((zs.map V.str).length : Int)) && decide (((zs.map V.str).length : Int) ≤ 6)) = true := by
        rw [List.length_map, Bool.and_eq_true, decide_eq_true_eq, decide_eq_true_eq]
        omega
      rw [e]
      refine iteF ⟨_, rfl, p, o, _, rfl, s1 _ _ hp, ob, fun J hJ D hD => ?_⟩
      refine lc_it hJ (fun i ys H2 => H2 D = some (.lst ys) ∧ ys = (List.replicate i true).map V.bl ∧ Same H1 H2) ⟨upd_same, rfl, Same.upd hD⟩ (fun i ys H2 h => ⟨h.1, h.2.2 _ _ (s1 _ _ hp)⟩) (fun ys H2 h => ?_) fun i x ys H2 hi hx h => ?_
      · obtain ⟨d1, rfl, d3⟩ := h
        refine ⟨D, _, rfl, .of d1, _, rfl, ?_⟩
        have e : ∀ n, (List.replicate n true).all id = true := fun n => by simp
        rw [e]
        have s2 := s1.trans d3
        refine iteF ⟨_, rfl, p, o, zs, rfl, s2 _ _ hp, ob, by omega, fun S hS => ⟨S, _, rfl, upd_same, ?_, ?_⟩⟩
        · have := allK_le (zs.map Sum.inr : List Key)
          rw [List.length_map] at this
          omega
        · refine ⟨_, rfl, p, o, _, rfl, (Same.upd hS) _ _ (s2 _ _ hp), ob, rfl, ?_⟩
          rw [List.length_map, decide_eq_false (fun z => no (by have := V.int.inj z; omega))]
          exact q _ (s2.trans (Same.upd hS))
      · obtain ⟨d1, rfl, d3⟩ := h
        rw [List.length_map] at hi
        rw [List.getElem?_map, List.getElem?_eq_getElem hi] at hx
        cases hx
        refine yesI ⟨_, rfl, _, _, rfl, src_el (hs _ (List.getElem_mem hi)), fun H3 s3 => ?_⟩
        refine LcNx.mk (by rw [List.length_map]; exact hi) (by rw [List.length_map]; omega) (by rw [List.length_map, List.length_replicate]; exact Nat.le_refl _) (s3 _ _ d1) ⟨upd_same, by rw [List.replicate_succ', List.map_append]; rfl, fun b o e => ?_⟩
        rw [upd_ne (ne_of_none e hD)]
        exact s3 _ _ (d3 _ _ e)
end
end Pr
set_option Elab.async false
set_option linter.all false
set_option maxRecDepth 100000
/-! methods from which errors may leave -/
namespace L2
open PySem PySem.Spec PyProof.Rows
def CanMX (P : Program) (w : World) (K : PySem.W.Frag) (mg : Str → Option Value) (base : Heap) (C : Addr) (k : Nat) (x : Str) (ps : List Str) (sp : Sp) : Prop :=
  ∃ f fd, FnOk P w K mg base (CX1 P w) k f fd ps sp ∧ Meth K C x f ∧ Binds K fd ps []
section
variable {P : Program} {w : World} {K : PySem.W.Frag} {mg : Str → Option Value} {base : Heap}
theorem fm_canX {C : Addr} {x qual : Str} {st : Stmt} {N ps : List Str} {k : Nat} {sp : Sp} (h : ∃ f fd, Fm K C x qual st ps f fd) (S : FnScope N ps (defScope st)) (len : ∀ vs H Q E, sp vs H Q E → vs.length = ps.length)
    (hbody : ∀ (f : Addr) (cdv : Value) (A : Around) (outer : List Env) (s : Shared) (H : Hp) (vs : List V) (Q : VK) (E : XK), Room k (A.deeper (envOfC qual (defScope st) s.heap.objs.size f cdv)) → Wish (cxOf (CX1 P w) P w K mg base N qual (defScope st) f cdv A outer s H E) E → sp vs H Q E →
      ∃ t, PSs (cxOf (CX1 P w) P w K mg base N qual (defScope st) f cdv A outer s H E) (defBody st) t ∧ t { nx := fun _ H' => Q .non H', rt := Q } (start N vs) H) : CanMX P w K mg base C (k + 1) x ps sp := by
  obtain ⟨f, fd, F⟩ := h
  obtain ⟨oc, od, kV, doc, pm, an, cdv, ct, osl, e, lk, hcd⟩ := F.fn.ex
  refine ⟨f, fd, ?_, F.m, F.b⟩
  subst e
  exact fn_of lk hcd S len fun A outer s H vs Q E hr hsp => hbody f cdv A outer s H vs Q E hr wish_def hsp
/-- __init__ from which errors may leave -/
theorem Fun.okX {x qual : Str} {st : Stmt} {f : Addr} {fd : FuncData} {N ps : List Str} {k : Nat} {sp : Sp} (F : Fun K x qual st f fd) (S : FnScope N ps (defScope st)) (len : ∀ vs H Q E, sp vs H Q E → vs.length = ps.length)
    (hbody : ∀ (cdv : Value) (A : Around) (outer : List Env) (s : Shared) (H : Hp) (vs : List V) (Q : VK) (E : XK), Room k (A.deeper (envOfC qual (defScope st) s.heap.objs.size f cdv)) → Wish (cxOf (CX1 P w) P w K mg base N qual (defScope st) f cdv A outer s H E) E → sp vs H Q E →
      ∃ t, PSs (cxOf (CX1 P w) P w K mg base N qual (defScope st) f cdv A outer s H E) (defBody st) t ∧ t { nx := fun _ H' => Q .non H', rt := Q } (start N vs) H) : FnOk P w K mg base (CX1 P w) (k + 1) f fd ps sp := by
  obtain ⟨oc, od, kV, doc, pm, an, cdv, ct, osl, e, lk, hcd⟩ := F.ex
  subst e
  exact fn_of lk hcd S len fun A outer s H vs Q E hr hsp => hbody cdv A outer s H vs Q E hr wish_def hsp
end
section
variable {X : Cx} {k k' : Nat} {x m : Str} {ps : List Str} {sp : Sp} {p pos apos : Pos} {e o : Expr} {es : List Expr} {ta : TE} {t : TA} {C : Addr} {E : XK}
theorem pe_canMX {pl : Sem Bool} (ho : PE X o ta) (c : Cls X.K C) (h : CanMX X.prog X.w X.K X.mg X.base C k m ps sp) (W : Wish X E) (hr : Room k' X.A) (ha : PA X (e :: es) t) (hk : k ≤ k' := by decide)
    (hst : starEach (e :: es) X.env = (false, eval e X.env) :: starEach es X.env := by rfl) (hpl : (backTo pos (starEach es X.env)).any (·.1) = false := by rfl)
    (ht : eval (.Call (.Attribute o m apos) (e :: es) [] pos) X.env = (do
      let ov ← eval o X.env
      standAt apos.atName
      let (f, first) ← holding [ov] (getMethod ov m pl)
      callWith pos f first (backTo pos (starEach (e :: es) X.env)) (backToKw pos (keywordEach [] X.env))) := by rfl) : PE X (.Call (.Attribute o m apos) (e :: es) [] pos) (tMeth C m sp [] E ta t) := by
  obtain ⟨f, fd, F, hm, b⟩ := h
  exact pe_meth (pl := pl) ho c hm F (hr.mono hk) b .nil W.pass ha hst hpl ht
end
end L2
set_option Elab.async false
set_option linter.all false
set_option maxRecDepth 100000
/-! isinstance of an error with two classes; any; a def that may raise, where it doesn't -/
namespace L2
open PySem PySem.Spec PyProof.Rows
section
variable {X : Cx}
end
end L2
set_option Elab.async false
set_option linter.all false
set_option maxRecDepth 100000
/-! lambdas: how one runs -/
namespace L2
open PySem PySem.Spec PyProof.Rows
/-- what a lambda's code object is tracked as -/
abbrev CodO (oc : Obj) : HO := .frz oc (.own 0)
/-- a def's table of codes: each of a lambda of its own -/
structure TabRow (H : Hp) (ps : Array Value) (q : Str) : Prop where
  ok : TriplesOk ps.toList
  at_ : ∀ pos cv, codeAmong pos ps.toList = some cv → ∃ c oc vs t, cv = .ref c ∧ H c = some (CodO oc) ∧ oc.data = .fields vs ∧ vs[1]? = some (.str q t)
inductive TabOk (H : Hp) (P : Addr) (q : Str) : Prop
  | mk (ps : Array Value) (h : H P = some (.tbl ps)) (r : TabRow H ps q) : TabOk H P q
theorem among_snoc {pos : Pos} {a b : Int} {c cv : Value} (l : List Value) (h : TriplesOk l) (hn : codeAmong pos (l ++ [rawInt a, rawInt b, c]) = some cv) : codeAmong pos l = some cv ∨ cv = c := by
  fun_induction TriplesOk l with
  | case1 =>
    simp only [List.nil_append, codeAmong, rawInt] at hn
    split at hn
    · cases hn; exact .inr rfl
    · cases hn
  | case2 a t b u x rest ih =>
    simp only [List.cons_append, codeAmong] at hn ⊢
    split at hn
    · rename_i hc
      rw [if_pos hc]; exact .inl hn
    · rename_i hc
      rw [if_neg hc]; exact ih h hn
  | case3 l h1 h2 => exact h.elim
theorem TabOk.nil {H : Hp} {P : Addr} {q : Str} (h : H P = some (.tbl #[])) : TabOk H P q := ⟨_, h, trivial, fun pos cv e => by cases e⟩
theorem TabOk.keep {H H' : Hp} {P : Addr} {q : Str} (t : TabOk H P q) (s : ∀ b o, H b = some o → (∀ xs, o ≠ .lst xs) → H' b = some o) : TabOk H' P q := by
  obtain ⟨ps, h, ok, at_⟩ := t
  refine ⟨ps, s _ _ h (fun _ z => nomatch z), ok, fun pos cv e => ?_⟩
  obtain ⟨c, oc, vs, t, e1, e2, e3⟩ := at_ pos cv e
  exact ⟨c, oc, vs, t, e1, s _ _ e2 (fun _ z => nomatch z), e3⟩
/-- all but the table -/
def ButP (P : Addr) (H H' : Hp) : Prop := ∀ b o, H b = some o → b ≠ P → H' b = some o
/-! ### the lambda's own context -/
def cxLam (P : Program) (w : World) (K : PySem.W.Frag) (mg : Str → Option Value) (base : Heap) (N : List Str) (qual : Str) (scope : Scope) (cl : List (Str × Addr)) (f : Addr) (cd : Value) (A : Around) (outer : List Env) (s : Shared) (H : Hp) (E : XK) : Cx where
  prog := P
  w := w
  K := K
  mg := mg
  base := base
  A := A.deeper (PySem.W.envX qual scope s.heap.objs.size f cd cl)
  N := N
  s₀ := s
  H₀ := H
  env := PySem.W.envX qual scope s.heap.objs.size f cd cl
  outer := outer
  stack := PySem.W.envX qual scope s.heap.objs.size f cd cl :: outer
  ex := []
  calm := true
  fn := fun _ => false
  pn := []
  xe := fun e s' => wpAny (model P w) (A.deeper (PySem.W.envX qual scope s.heap.objs.size f cd cl)) (leaving (PySem.W.envX qual scope s.heap.objs.size f cd cl) e) (fun _ s'' => CX1 P w outer H s E e s'') (fun e' s'' => CX1 P w outer H s E e' s'') s'
/-- the names that a lambda takes from around it, and where they lie -/
structure LamC (N : List Str) (σ : L2.St) (scope : Scope) (cl : List (Str × Addr)) (cells : List (Addr × Obj)) : Prop where
  kind : scope.kind = .function
  co : scope.isCoroutine = false
  gen : scope.isGenerator = false
  nocell : ∀ x ∈ scope.names, x.2 ≠ .cell
  len : σ.length = N.length
  inj : ∀ x y c, cl.lookup x = some c → cl.lookup y = some c → x = y
  has : ∀ x, scope.names.lookup x = some .free → ∃ c, cl.lookup x = some c
  cell : ∀ x c, cl.lookup x = some c → ∃ o v, (c, o) ∈ cells ∧ o.data = .cell v
  val : ∀ (i : Nat) (x : Str) (v : V), N[i]? = some x → σ[i]? = some (some v) → Vis scope x → ∃ u c o, RelV v u ∧ scope.names.lookup x = some .free ∧ cl.lookup x = some c ∧ (c, o) ∈ cells ∧ o.data = .cell (some u)
theorem wish_lam {P : Program} {w : World} {K : PySem.W.Frag} {mg : Str → Option Value} {base : Heap} {N : List Str} {qual : Str} {scope : Scope} {cl : List (Str × Addr)} {f : Addr} {cd : Value} {A : Around} {outer : List Env} {s : Shared} {H : Hp} {E : XK} : Wish (cxLam P w K mg base N qual scope cl f cd A outer s H E) E where
  go := fun pins σ H1 s1 new cls a H' s₁ I x q => by
    show wpAny (model P w) (A.deeper (PySem.W.envX qual scope s.heap.objs.size f cd cl)) (leaving (PySem.W.envX qual scope s.heap.objs.size f cd cl) (.ref a)) _ _ s₁
    refine leave_ex I rfl rfl I.ok.frames x fun h₃ x' => ⟨a, cls, H', rfl, x'.out I rfl, q⟩
section
variable {P : Program} {w : World} {K : PySem.W.Frag} {mg : Str → Option Value} {base : Heap} {N : List Str} {σ : L2.St} {qual : Str} {scope : Scope} {cl : List (Str × Addr)} {cells : List (Addr × Obj)} {f c : Addr} {A : Around} {outer : List Env} {s : Shared} {H : Hp} {E : XK} {Q : VK} {name : Str} {params : Arguments} {body : Expr} {pm ctv : Value} {te : TE} {k : Nat}
theorem inv_lam {h₁ : Heap} {tk : Nat} (S : LamC N σ scope cl cells) (hd : A.handled = none) (e0 : Env0 P w K mg base A outer s H) (hcells : ∀ p ∈ cells, s.heap.get? p.1 = some p.2 ∧ H p.1 = none) (hns : h₁.Ns s.heap.objs.size fun x => ([] : List (Str × Value)).reverse.lookup x)
    (hk : ∀ b o, s.heap.get? b = some o → h₁.get? b = some o) : Inv (cxLam P w K mg base N qual scope cl f (.ref c) A outer s H E) [] σ H { s with heap := h₁, toks := tk } := by
  have noA : ∀ b : Addr, b ∉ (cxLam P w K mg base N qual scope cl f (.ref c) A outer s H E).ex := fun b z => absurd (show b ∈ ([] : List Addr) from z) (by simp)
  refine ⟨⟨e0.mod, S.kind, rfl, rfl, Nat.le_refl _, S.inj, fun y hy => ?_, fun y c z => (by cases (show false = true from z)), fun _ => hd, Around.frames_deeper e0.frames, .inr ⟨rfl, rfl⟩, fun b z => absurd z (noA b), e0.bs, e0.bsz, fun b _ _ => noA b, fun b z => absurd z (noA b), e0.funs, e0.frf⟩,
    rfl, e0.bare, Un.kept hk, ⟨_, hns, fun i y v h1 h2 h3 => ?_⟩, fun y c h => ?_, e0.hok.fresh (Nat.le_refl _), fun y c h => ?_, fun p hp => absurd (show p ∈ ([] : List (Addr × Obj)) from hp) (by simp), e0.hok.kept hk, S.len⟩
  · have hy : scope.names.lookup y = some .cell ∨ scope.names.lookup y = some .free := hy
    rcases hy with hy | hy
    · exact absurd rfl (S.nocell _ (PySem.mem_of_lookup hy))
    · exact S.has y hy
  · obtain ⟨u, c, o, r, q1, q2, q3, q4⟩ := S.val i y v h1 h2 h3
    exact ⟨u, r, .inr ⟨.inr q1, c, q2, o, hk _ _ (hcells _ q3).1, q4⟩⟩
  · obtain ⟨o, v, q3, q4⟩ := S.cell y c h
    exact ⟨v, o, hk _ _ (hcells _ q3).1, q4⟩
  · obtain ⟨o, v, q3, q4⟩ := S.cell y c h
    exact (hcells _ q3).2
theorem lam_run (S : LamC N σ scope cl cells) (hr : Room (k + 1) A) (e0 : Env0 P w K mg base A outer s H) (hf : s.heap.get? f = some (PySem.W.kla_obj name qual params body scope cl pm c ctv)) (hcells : ∀ p ∈ cells, s.heap.get? p.1 = some p.2 ∧ H p.1 = none) (hc : s.heap.CodeRec (.ref c) qual)
    (hb : bindArgs (PySem.W.kla_fn name qual params body scope cl pm (.ref c) ctv) ⟨[], []⟩ = pure []) (he : PE (cxLam P w K mg base N qual scope cl f (.ref c) A outer s H E) body te) (q : te σ H Q) : codeAny (model P w) A (.call (.ref f) ⟨[], []⟩) (CR (CX1 P w) outer P w H s Q E) s := by
  have lim : s.heap.NoLimit := e0.mod.nolimit.keeps fun b o e => (e0.bs b o e).1
  refine PySem.W.kla_callFunE hr.depth hf rfl S.co S.gen rfl hc ?_
  rw [hb]
  refine wpAny_pure (wpAny_newFunctionEnv S.nocell (fun _ z => nomatch z) (fun h₁ hns hsb => ⟨lim.fresh _ hsb, ?_⟩) S.kind)
  show codeAny _ _ (.expr body (PySem.W.envX qual scope s.heap.objs.size f (.ref c) cl)) _ _
  have hk₁ : ∀ b o, s.heap.get? b = some o → h₁.get? b = some o := fun b o e => hsb.extBut b o (Nat.ne_of_lt (Heap.lt_size e)) (Heap.get?_push_of_some _ e)
  refine PySem.W.kla_codeExpr (wpAny_mono (he [] _ σ H Q (inv_lam S hr.hd e0 hcells hns hk₁) q) (fun v s' hl => ?_) fun _ _ y => y)
  obtain ⟨x, H', J, rv, q'⟩ := hl
  exact ⟨x, H', J.os, J.bare, J.base, J.hok, rv, q'⟩
end
/-- what a lambda's call promises, wherever its objects lie as they lay -/
structure LamP (P : Program) (w : World) (K : PySem.W.Frag) (mg : Str → Option Value) (base : Heap) (k : Nat) (f : Addr) (fo : Obj) (cells : List (Addr × Obj)) (c : Addr) (oc : Obj) (sp : Hp → VK → XK → Prop) : Prop where
  fn : ∃ oc od fd sl, fo = ⟨oc, od, .func fd, sl⟩
  run : ∀ (A : Around) (outer : List Env) (s : Shared) (H : Hp) (Q : VK) (E : XK), Room k A → Env0 P w K mg base A outer s H → s.heap.get? f = some fo → (∀ p ∈ cells, s.heap.get? p.1 = some p.2 ∧ H p.1 = none) → H c = some (CodO oc) → sp H Q E → codeAny (model P w) A (.call (.ref f) ⟨[], []⟩) (CR (CX1 P w) outer P w H s Q E) s
/-- its objects lie there at a def's entry -/
structure LamIn (outer : List Env) (s : Shared) (H : Hp) (f : Addr) (fo : Obj) (cells : List (Addr × Obj)) (c : Addr) (oc : Obj) : Prop where
  f : s.heap.get? f = some fo ∧ H f = none ∧ f ∉ frs outer
  cells : ∀ p ∈ cells, s.heap.get? p.1 = some p.2 ∧ H p.1 = none ∧ p.1 ∉ frs outer
  code : H c = some (CodO oc)
/-- a def whose promise speaks of the state at its entry -/
abbrev SpS := List Env → Shared → Sp
structure FnOkS (P : Program) (w : World) (K : PySem.W.Frag) (mg : Str → Option Value) (base : Heap) (k : Nat) (f : Addr) (fd : FuncData) (ps : List Str) (sp : SpS) : Prop where
  len : ∀ o s vs H Q E, sp o s vs H Q E → vs.length = ps.length
  run : ∀ (A : Around) (outer : List Env) (s : Shared) (H : Hp) (args : Args) (us : List Value) (vs : List V) (Q : VK) (E : XK), Room k A → Env0 P w K mg base A outer s H → BindsTo s fd args (ps.zip us) → Vals vs us → sp outer s vs H Q E →
    codeAny (model P w) A (.call (.ref f) args) (CR CX0 outer P w H s Q E) s
def CanS (P : Program) (w : World) (K : PySem.W.Frag) (mg : Str → Option Value) (base : Heap) (k : Nat) (x : Str) (ps : List Str) (sp : SpS) : Prop :=
  ∃ f fd, FnOkS P w K mg base k f fd ps sp ∧ mg x = some (.ref f) ∧ PySem.W.keepIn K (.ref f) = true ∧ Binds K fd ps []
section
variable {P : Program} {w : World} {K : PySem.W.Frag} {mg : Str → Option Value} {base : Heap}
theorem fn_canS {x : Str} {st : Stmt} {N ps : List Str} {k : Nat} {sp : SpS} (h : ∃ f fd, Fn K mg x st ps f fd) (S : FnScope N ps (defScope st)) (len : ∀ o s vs H Q E, sp o s vs H Q E → vs.length = ps.length)
    (hbody : ∀ (f : Addr) (cdv : Value) (A : Around) (outer : List Env) (s : Shared) (H : Hp) (vs : List V) (Q : VK) (E : XK), Room k (A.deeper (envOfC x (defScope st) s.heap.objs.size f cdv)) → sp outer s vs H Q E →
      ∃ t, PSs (cxOf CX0 P w K mg base N x (defScope st) f cdv A outer s H E).nox (defBody st) t ∧ t { nx := fun _ H' => Q .non H', rt := Q } (start N vs) H) : CanS P w K mg base (k + 1) x ps sp := by
  obtain ⟨f, fd, F⟩ := h
  obtain ⟨oc, od, kV, doc, pm, an, cdv, ct, osl, e, lk, hcd⟩ := F.fn.ex
  refine ⟨f, fd, ⟨len, fun A outer s H args us vs Q E hr e0 hb r hsp => ?_⟩, F.m, F.fn.kp, F.b⟩
  subst e
  have hl := len _ _ _ _ _ _ hsp
  have KX : K.In s.heap := e0.mod.kin.keeps fun b o e => (e0.bs b o e).1
  have lim : s.heap.NoLimit := e0.mod.nolimit.keeps fun b o e => (e0.bs b o e).1
  have hkind : ∀ y ∈ ps.zip us, (defScope st).names.lookup y.1 = some .local ∨ ((defScope st).names.lookup y.1 = some .cell ∧ ((cellsFrom (s.heap.objs.size + 1) (defScope st).names []).lookup y.1).isSome = true) := fun ⟨n, v⟩ hy => by
    rcases S.par n (List.of_mem_zip hy).1 with q | q
    · exact .inl q
    · exact .inr ⟨q, PySem.W.cellsFrom_some _ _ _ (.inl q)⟩
  refine codeAny_call_function hr.depth (KX _ _ lk) rfl S.co S.gen rfl (PySem.W.codeRec_of KX hcd) (hb _ _ _ _ ?_)
  refine wpAny_newFunctionEnv_cells S.kind hkind fun env he s1 x1 => ?_
  subst he
  refine ⟨lim.keeps x1.toInCall.keep, codeAny_func ?_⟩
  obtain ⟨t, ht, hq⟩ := hbody f cdv A outer s H vs Q E (hr.deeper _) hsp
  have I : Inv (cxOf CX0 P w K mg base N x (defScope st) f cdv A outer s H E) [] (start N vs) H s1 := inv_start S hr.hd e0 hl r x1
  refine wpAny_mono (ht.nox [] s1 (start N vs) H _ I hq) (fun fl s' hs => ?_) fun e s' hs => hs
  have fin : ∀ {σ' : L2.St} {H' : Hp} {v : V} {u : Value}, Inv (cxOf CX0 P w K mg base N x (defScope st) f cdv A outer s H E) [] σ' H' s' → RelV v u → Q v H' → CE outer P w H s Q u s' :=
    fun {σ' H' v u} J rv q => ⟨v, H', J.os, J.bare, J.base, J.hok, rv, q⟩
  cases fl with
  | ret u =>
    obtain ⟨v, σ', H', J, rv, q⟩ := hs
    exact fin J rv q
  | next =>
    obtain ⟨σ', H', J, q⟩ := hs
    exact fin (v := V.non) (u := Value.none) J rfl q
  | brk =>
    obtain ⟨_, _, _, q⟩ := hs
    exact False.elim q
  | cont =>
    obtain ⟨_, _, _, q⟩ := hs
    exact False.elim q
end
section
variable {X : Cx} {x : Str} {p pos : Pos}
/-- the call of a lambda that was handed in, in the def's body (or its try) -/
inductive tDeed (sp : Hp → VK → XK → Prop) (f : Addr) (i : Nat) (E : XK) (σ : L2.St) (H : Hp) (Q : VK) : Prop
  | mk (h : σ[i]? = some (some (.ref f))) (q : sp H Q E) : tDeed sp f i E σ H Q
theorem pe_deed {k k' : Nat} {f c : Addr} {fo oc : Obj} {cells : List (Addr × Obj)} {sp : Hp → VK → XK → Prop} {E : XK} {i : Nat} (L : LamP X.prog X.w X.K X.mg X.base k f fo cells c oc sp) (hin : LamIn X.outer X.s₀ X.H₀ f fo cells c oc) (W : Wish X E) (hr : Room k' X.A) (hv : PE X (.Name x p) (tVar i)) (hk : k ≤ k' := by decide) (hex : X.ex = [] := by rfl) :
    PE X (.Call (.Name x p) [] [] pos) (tDeed sp f i E) := by
  refine ⟨?_⟩
  intro pins s σ H Q I h
  obtain ⟨h, q⟩ := h
  have up : ∀ b o, X.s₀.heap.get? b = some o → X.H₀ b = none → b ∉ frs X.outer → s.heap.get? b = some o ∧ H b = none := fun b o e n nf => ⟨I.base.keep b o e n nf (by rw [hex]; simp), I.base.free b o e n (by rw [hex]; simp)⟩
  refine wpAny_Call_Name_kw (thn (hv pins s σ H (fun v H' => v = .ref f ∧ H' = H) I ⟨_, h, rfl, rfl⟩) fun u s1 ⟨v, H1, I1, rv, e1, e2⟩ => ?_)
  subst e1 e2
  obtain rfl : u = Value.ref f := rv
  have up1 : ∀ b o, X.s₀.heap.get? b = some o → X.H₀ b = none → b ∉ frs X.outer → s1.heap.get? b = some o ∧ H1 b = none := fun b o e n nf => ⟨I1.base.keep b o e n nf (by rw [hex]; simp), I1.base.free b o e n (by rw [hex]; simp)⟩
  have hf := (up1 f fo hin.f.1 hin.f.2.1 hin.f.2.2).1
  obtain ⟨oc', od, fd, sl, efo⟩ := L.fn
  refine PySem.W.callWith_F0 ⟨oc', od, fd, sl, by rw [hf, efo]⟩ (wpAny_call (codeAny_mono (L.run X.A X.stack s1 H1 Q E (hr.mono hk) I1.env0 hf (fun p hp => up1 p.1 p.2 (hin.cells p hp).1 (hin.cells p hp).2.1 (hin.cells p hp).2.2) (I1.base.frzs _ _ _ hin.code) q) fun r s' hq => ?_))
  cases r with
  | error e => exact W.pass pins σ H1 s1 e s' I1 hq
  | ok fl =>
    cases fl with
    | ret u => exact I1.after hq
    | next => exact False.elim hq
    | brk => exact False.elim hq
    | cont => exact False.elim hq
end
end L2
set_option Elab.async false
set_option linter.all false
set_option maxRecDepth 100000
/-! lambdas: made and handed in -/
namespace L2
open PySem PySem.Spec PyProof.Rows
structure LamB (mg : Str → Option Value) (base : Heap) (c P : Addr) : Prop where
  code : PySem.W.CodeHd base c P
  bm : ∃ bm ob, mg "__builtins__" = some (.ref bm) ∧ bm ≠ builtinsNs ∧ base.get? bm = some ob ∧ ob.cls = .type "module" ∧ ob.dict = some builtinsNs ∧ ob.data = .plain
/-- what a lambda's scope must be: no names of its own, others from around it -/
structure LamSc (X : Cx) (sc : Scope) : Prop where
  kind : sc.kind = .function
  co : sc.isCoroutine = false
  gen : sc.isGenerator = false
  own : ∀ p ∈ sc.names, p.2 ≠ .cell ∧ p.2 ≠ .local
  free : ∀ p ∈ sc.names, p.2 = .free → X.env.kindOf p.1 = some .cell ∨ X.env.kindOf p.1 = some .free
inductive tLam (P' : Program) (w : World) (K : PySem.W.Frag) (mg : Str → Option Value) (base : Heap) (k : Nat) (P : Addr) (q : Str) (te : XK → TE) (sp : SpS) (σ : L2.St) (H : Hp) (Q : VK) : Prop
  | mk (tab : TabOk H P q) (go : ∀ H1 f fo cells c oc, ButP P H H1 → TabOk H1 P q → H f = none → LamP P' w K mg base k f fo cells c oc (fun H Q E => te E σ H Q) → ∀ outer s, LamIn outer s H1 f fo cells c oc → sp outer s [.ref f] H1 Q E0) : tLam P' w K mg base k P q te sp σ H Q
section
variable {X : Cx} {pins : List (Addr × Obj)} {σ : L2.St} {H : Hp} {s : Shared}
/-- a lambda's code was made: the table has grown -/
theorem Inv.grown {P c : Addr} {ps more : Array Value} {oc : Obj} {h' : Heap} {tk : Nat} (I : Inv X pins σ H s) (hP : H P = some (.tbl ps)) (hc : s.heap.objs.size ≤ c) (hx : Heap.ExtBut P s.heap h') (ho : h'.get? c = some oc) (ht : h'.get? P = some { cls := .none, data := .fields (ps ++ more) }) :
    Inv X pins σ (upd (upd H P (.tbl (ps ++ more))) c (CodO oc)) { s with heap := h', toks := tk } := by
  have hcn : H c = none := I.hok.fresh hc
  have cP : c ≠ P := Ne.symm (ne_of_none hP hcn)
  have nP : ∀ {b : Addr}, H b = none → b ≠ P := fun n => Ne.symm (ne_of_none hP n)
  have nc : ∀ {b : Addr} {o : Obj}, s.heap.get? b = some o → b ≠ c := fun e => Nat.ne_of_lt (Nat.lt_of_lt_of_le (Heap.lt_size e) hc)
  have tr : ∀ {b : Addr} {o : HO}, H b = some o → b ≠ P → upd (upd H P (.tbl (ps ++ more))) c (CodO oc) b = some o := fun {b o} e n => by rw [upd_ne (ne_of_none e hcn), upd_ne n]; exact e
  refine I.step (g' := s.gens) (d' := s.drawn) (ch := []) (fun _ z => nomatch z) (fun b o _ _ _ e n => hx b o (nP n) e) (fun b o _ _ _ e n => ⟨o.slots, hx b o (nP n) e⟩) (fun b o _ e n => by rw [upd_ne (nc e), upd_ne (nP n)]; exact n) (fun b o _ e => ?_)
    (fun b xs e => tr e (ne_of e hP (by intro z; cases z))) (fun b o u e => tr e (ne_of e hP (by intro z; cases z))) (fun b qs e => ?_) (fun m hm => ?_) (fun b ob e => ?_) I.bare
  · by_cases hb : b = P
    · subst hb; exact ⟨_, ht⟩
    · exact ⟨o, hx b o hb e⟩
  · by_cases hb : b = P
    · subst hb
      rw [hP] at e
      cases e
      exact ⟨more, by rw [upd_ne (Ne.symm cP)]; exact upd_same⟩
    · exact ⟨#[], by rw [tr e hb]; simp⟩
  · obtain ⟨o, es, ep, e, r⟩ := hm
    exact ⟨o, es, ep, hx _ o (nP I.free) e, r⟩
  · by_cases hbc : b = c
    · subst hbc
      rw [upd_same] at e
      cases e
      exact ⟨ho, _, ho⟩
    · rw [upd_ne hbc] at e
      by_cases hb : b = P
      · subst hb
        rw [upd_same] at e
        cases e
        exact ht
      · rw [upd_ne hb] at e
        refine (I.hok b ob e).stay (fun d u hd z => hx d u (fun zz => ?_) z) (fun d z => tr z (ne_of z hP (by intro y; cases y))) fun d xs z => tr z (ne_of z hP (by intro y; cases y))
        rcases hd with rfl | hd
        · exact hb zz
        · rw [zz, hP] at hd; cases hd
variable {x : Str} {p pos lpos : Pos} {params : Arguments} {body : Expr} {sc : Scope} {c P : Addr} {te : XK → TE} {spS : SpS} {k kw k' : Nat} {pn : Str}
/-- why(lambda: ..) -/
theorem pe_lam (hW : CanS X.prog X.w X.K X.mg X.base kw x [pn] spS) (hr : Room k' X.A) (LB : LamB X.mg X.base c P) (hcode : X.env.code = .ref c) (S : LamSc X sc)
    (he : ∀ A outer s H E f cl cd, Room k (A.deeper (PySem.W.envX (X.env.qual ++ "<lambda>") sc s.heap.objs.size f (.ref cd) cl)) → Wish (cxLam X.prog X.w X.K X.mg X.base X.N (X.env.qual ++ "<lambda>") sc cl f (.ref cd) A outer s H E) E → PE (cxLam X.prog X.w X.K X.mg X.base X.N (X.env.qual ++ "<lambda>") sc cl f (.ref cd) A outer s H E) body (te E))
    (hfn : ∀ y, X.fn y = true := by intro _; rfl) (hg : Gl X x := by rfl) (hk : kw ≤ k' := by decide) (hdb : (x == ("__debug__" : Str)) = false := by decide) (hdef : defaultsOf params X.env = ([], []) := by rfl)
    (hb : ∀ name qual pm cd ctv cl, bindArgs (PySem.W.kla_fn name qual params body sc cl pm (.ref cd) ctv) ⟨[], []⟩ = pure [] := by intros; rfl)
    (hs : starEach [.Lambda params body sc lpos] X.env = [(false, eval (.Lambda params body sc lpos) X.env)] := by rfl) :
    PE X (.Call (.Name x p) [.Lambda params body sc lpos] [] pos) (tLam X.prog X.w X.K X.mg X.base (k + 1) P (X.env.qual ++ "<lambda>") te spS) := by
  refine ⟨?_⟩
  intro pins s σ H Q I h
  obtain ⟨tab, go⟩ := h
  obtain ⟨fw, fd, F, hm, kp, b⟩ := hW
  have cls := closure_eq (sc := sc) (env := X.env) fun p hp e => I.ok.has p.1 (S.free p hp e)
  have clh := fun (I' : X.Ok) => @clOf_has sc X.env.cells fun p hp e => I'.has p.1 (S.free p hp e)
  have key : ∀ (H1 : Hp) (s1 : Shared) (f cd : Addr) (oc : Obj) (ctv : Value) (vs : Array Value) (t : Tok), Inv X pins σ H1 s1 → ButP P H H1 → TabOk H1 P (X.env.qual ++ "<lambda>") → H f = none → H1 f = none → f ∉ frs X.stack → s1.heap.get? f = some (PySem.W.kla_obj "<lambda>" (X.env.qual ++ "<lambda>") params body sc (clOf sc X.env.cells) ((X.mg "__name__").getD .none) cd ctv) →
      H1 cd = some (CodO oc) → oc.data = .fields vs → vs[1]? = some (.str (X.env.qual ++ "<lambda>") t) → wpAny (model X.prog X.w) X.A (call (.ref fw) [.ref f]) (EP X pins σ Q) X.xe s1 := by
    intro H1 s1 f cd oc ctv vs t I1 bp tab1 hfn0 hfn1 hff hfo hcd hod hv1
    have cells : ∃ cells : List (Addr × Obj), (∀ p ∈ cells, s1.heap.get? p.1 = some p.2 ∧ ∃ y, X.env.cells.lookup y = some p.1) ∧ ∀ y d, (clOf sc X.env.cells).lookup y = some d → ∃ o v, (d, o) ∈ cells ∧ o.data = .cell v := by
      refine ⟨(clOf sc X.env.cells).filterMap fun q => if (clOf sc X.env.cells).lookup q.1 = some q.2 then (s1.heap.get? q.2).map fun o => (q.2, o) else none, fun p hp => ?_, fun y d e => ?_⟩
      · obtain ⟨q, hq, e⟩ := List.mem_filterMap.mp hp
        split at e
        · rename_i hl
          cases z : s1.heap.get? q.2 with
          | none => rw [z] at e; cases e
          | some o => rw [z] at e; cases e; exact ⟨z, q.1, clOf_sub sc X.env.cells hl⟩
        · cases e
      · obtain ⟨v, o, ho, hd⟩ := I1.cell y d (clOf_sub sc X.env.cells e)
        exact ⟨o, v, List.mem_filterMap.mpr ⟨(y, d), PySem.mem_of_lookup e, by dsimp only; rw [if_pos e, ho]; rfl⟩, hd⟩
    obtain ⟨cells, c1, c2⟩ := cells
    have cfr : ∀ p ∈ cells, s1.heap.get? p.1 = some p.2 ∧ H1 p.1 = none ∧ p.1 ∉ frs X.stack := fun p hp => by
      obtain ⟨e, y, ey⟩ := c1 p hp
      refine ⟨e, I1.freeC y _ ey, fun hm => ?_⟩
      rcases List.mem_cons.mp (I1.stkSub _ hm) with z | z
      · exact I1.cne y _ ey z
      · obtain ⟨_, o, ho, _⟩ := I1.ok.funs.mem z
        exact absurd (Nat.lt_of_lt_of_le (Heap.lt_size ho) (I1.ok.cab y _ (hfn y) ey)) (Nat.lt_irrefl _)
    have LC : LamC X.N σ sc (clOf sc X.env.cells) cells := by
      refine ⟨S.kind, S.co, S.gen, fun p hp => (S.own p hp).1, I1.len, fun y z d e1 e2 => I1.ok.inj y z d (clOf_sub sc X.env.cells e1) (clOf_sub sc X.env.cells e2), fun y e => clh I1.ok (PySem.mem_of_lookup e), c2, fun i y v e1 e2 e3 => ?_⟩
      have fr : sc.names.lookup y = some .free := by
        rcases e3 with z | z | z
        · exact absurd rfl (S.own _ (PySem.mem_of_lookup z)).2
        · exact absurd rfl (S.own _ (PySem.mem_of_lookup z)).1
        · exact z
      have ok := S.free (y, .free) (PySem.mem_of_lookup fr) rfl
      obtain ⟨m0, hn0, hl0⟩ := I1.loc
      obtain ⟨u, r, l⟩ := hl0 i y v e1 e2 (.inr ok)
      obtain ⟨d, ed⟩ := clh I1.ok (PySem.mem_of_lookup fr)
      rcases l with ⟨kk, _⟩ | ⟨_, c', ec, z⟩
      · rcases ok with q | q <;> (rw [show X.env.kindOf y = some .local from kk] at q; cases q)
      · have e5 : c' = d := Option.some.inj (ec.symm.trans (clOf_sub sc X.env.cells ed))
        subst e5
        obtain ⟨o, ho, hd⟩ := z
        obtain ⟨o', v', hm', hd'⟩ := c2 y c' ed
        have e6 : o = o' := Option.some.inj (ho.symm.trans (c1 _ hm').1)
        exact ⟨u, c', o', r, fr, ed, hm', by rw [← e6]; exact hd⟩
    have LP : LamP X.prog X.w X.K X.mg X.base (k + 1) f (PySem.W.kla_obj "<lambda>" (X.env.qual ++ "<lambda>") params body sc (clOf sc X.env.cells) ((X.mg "__name__").getD .none) cd ctv) cells cd oc (fun H Q E => te E σ H Q) := by
      refine ⟨⟨_, _, _, _, rfl⟩, fun A outer s2 H2 Q2 E2 hr2 e0 hf2 hc2 hcd2 q2 => ?_⟩
      have hco : s2.heap.CodeRec (.ref cd) (X.env.qual ++ "<lambda>") := ⟨cd, oc, vs, t, rfl, (e0.hok cd _ hcd2).1, hod, hv1⟩
      exact lam_run LC hr2 e0 hf2 hc2 hco (hb _ _ _ _ _ _) (he A outer s2 H2 E2 f _ cd (hr2.deeper _) wish_lam) q2
    have sp1 := go H1 f _ cells cd oc bp tab1 hfn0 LP X.stack s1 ⟨⟨hfo, hfn1, hff⟩, cfr, hcd⟩
    have r2 : Vals [V.ref f] [Value.ref f] := .cons rfl .nil
    refine wpAny_call (codeAny_mono (F.run X.A X.stack s1 H1 ⟨[.ref f], []⟩ [.ref f] [.ref f] Q E0 (hr.mono hk) I1.env0 (by simpa using b s1 [.ref f] I1.kIn rfl) r2 sp1) fun r s' hq => ?_)
    cases r with
    | error e => exact (show False from hq).elim
    | ok fl =>
      cases fl with
      | ret u => exact I1.after hq
      | next => exact False.elim hq
      | brk => exact False.elim hq
      | cont => exact False.elim hq
  refine wpAny_Call_Name_kw (ld_glob I hg hm ?_ hdb)
  refine PySem.W.callWith_K (h₀ := X.base) I.ok.mod.kin kp ?_ (by rw [hs]; rfl) rfl
  rw [hs]
  show wpAny _ _ (spliced [(false, eval (.Lambda params body sc lpos) X.env)]) _ _ s
  refine Calls.spliced_cons (PySem.W.kla_eval hdef ?_)
  obtain ⟨ps, hP, row⟩ := tab
  have hPh : s.heap.get? P = some { cls := .none, data := .fields ps } := I.hok P _ hP
  obtain ⟨bm, ob, b1, b2, b3, b4, b5, b6⟩ := LB.bm
  have gl : s.heap.Ns mainGlobals X.mg := I.mod.glob.keeps I.bk
  have hgP : mainGlobals ≠ P := fun z => by
    obtain ⟨o, es, ep, e, hd, _⟩ := gl
    rw [z, hPh] at e; cases e; cases hd
  have hbP : bm ≠ P := fun z => by
    have e := I.bk _ _ b3
    rw [z, hPh] at e; cases e; cases b4
  have hbG : bm ≠ mainGlobals := fun z => by
    obtain ⟨o, es, ep, e, hd, _⟩ := I.mod.glob
    rw [z, e] at b3; cases b3; rw [hd] at b6; cases b6
  have BA : s.heap.BuiltinsAt X.mg P := ⟨bm, ob, b1, b2, hbG, hbP, I.bk _ _ b3, b4, b5, b6⟩
  have frl : ∀ {a : Addr}, s.heap.objs.size ≤ a → a ∉ frs X.stack := fun {a} ha hm => by
    obtain ⟨_, o, ho, _⟩ := I.stack.mem hm
    exact absurd (Nat.lt_of_lt_of_le (Heap.lt_size ho) ha) (Nat.lt_irrefl _)
  cases ham : codeAmong lpos ps.toList with
  | none =>
    refine PySem.W.kla_makeFunction (mg := X.mg) cls I.ok.glob gl hcode (LB.code.keeps I.bk) hPh row.ok ham hgP BA fun c' ctv h' tk hx hge hlt hrec htb => ?_
    obtain ⟨c2, oc, vs, t, ec, ho, hd, hv⟩ := hrec
    cases ec
    have I1 := I.grown (tk := tk) hP hge hx ho htb
    have hfresh : s.heap.objs.size ≤ h'.objs.size := Nat.le_of_lt (Nat.lt_of_le_of_lt hge hlt)
    have hcn : H c' = none := I.hok.fresh hge
    have cP : c' ≠ P := Ne.symm (ne_of_none hP hcn)
    have fc : h'.objs.size ≠ c' := Nat.ne_of_gt hlt
    have fP : h'.objs.size ≠ P := Nat.ne_of_gt (Nat.lt_of_lt_of_le (Heap.lt_size hPh) hfresh)
    have I2 : Inv X pins σ (upd (upd H P (.tbl (ps ++ #[rawInt lpos.line, rawInt lpos.col, .ref c']))) c' (CodO oc)) { s with heap := h'.push (PySem.W.kla_obj "<lambda>" (X.env.qual ++ "<lambda>") params body sc (clOf sc X.env.cells) ((X.mg "__name__").getD .none) c' ctv), toks := tk } := I1.kept (t' := tk) fun b o e => Heap.get?_push_of_some _ e
    refine Calls.spliced_nil ⟨I2.kIn, ?_⟩
    refine key _ _ h'.objs.size c' oc ctv vs t I2 (fun b o e n => by rw [upd_ne (ne_of_none e hcn), upd_ne n]; exact e) ?_ (I.hok.fresh hfresh) (by rw [upd_ne fc, upd_ne fP]; exact I.hok.fresh hfresh) (frl hfresh) (Heap.get?_push_size _ rfl) upd_same hd hv
    refine ⟨_, by rw [upd_ne (Ne.symm cP)]; exact upd_same, by rw [Array.toList_append]; exact TriplesOk_snoc _ _ _ _ row.ok, fun pos cv e => ?_⟩
    rw [Array.toList_append] at e
    rcases among_snoc _ row.ok e with z | z
    · obtain ⟨d, od, vs', t', e1, e2, e3⟩ := row.at_ pos cv z
      exact ⟨d, od, vs', t', e1, by rw [upd_ne (ne_of_none e2 hcn), upd_ne (ne_of e2 hP (by intro y; cases y))]; exact e2, e3⟩
    · exact ⟨c', oc, vs, t, z, upd_same, hd, hv⟩
  | some cv =>
    obtain ⟨c', oc, vs, t, rfl, hcd, hd, hv⟩ := row.at_ lpos cv ham
    refine PySem.W.kla_makeFunctionHit (mg := X.mg) cls I.ok.glob gl hcode (LB.code.keeps I.bk) hPh row.ok ham BA fun ctv h' tk hx hsz => ?_
    have I2 : Inv X pins σ H { s with heap := h'.push { cls := .type "function", data := .func (PySem.W.kla_fn "<lambda>" (X.env.qual ++ "<lambda>") params body sc (clOf sc X.env.cells) ((X.mg "__name__").getD .none) (.ref c') ctv) }, toks := tk } := I.kept (t' := tk) fun b o e => Heap.get?_push_of_some _ (hx b o e)
    refine Calls.spliced_nil ⟨I2.kIn, ?_⟩
    exact key H _ h'.objs.size c' oc ctv vs t I2 (fun b o e _ => e) ⟨ps, hP, row⟩ (I.hok.fresh hsz) (I.hok.fresh hsz) (frl hsz) (Heap.get?_push_size _ rfl) hcd hd hv
end
end L2
set_option Elab.async false
set_option linter.all false
set_option maxRecDepth 100000
/-! lambdas: the law's call, its defs' tables tracked -/
namespace L2
open PySem PySem.Spec PyProof.Rows
/-- nothing is tracked but the script and the tables -/
def OnlyT (tabs : List (Addr × Addr)) (H : Hp) : Prop := ∀ b, H b = none ∨ (∃ o xs, H b = some (.frz o (.lst xs))) ∨ (b ∈ tabs.map (·.2) ∧ H b = some (.tbl #[]))
theorem law_callT {P : Program} {w : World} {K : PySem.W.Frag} {mg mb : Str → Option Value} {k : Nat} {fa a : Addr} {fd : FuncData} {x : Str} {sp : Sp} {s₁ : Shared} {vs : List Value} {ns : List Int} {tabs : List (Addr × Addr)}
    (KX : K.In s₁.heap) (hns : s₁.heap.Ns mainGlobals mg) (hb : s₁.heap.Ns builtinsNs mb) (hbb : ∀ x : Str, x ≠ "__name__" → mb x = bootBuiltins x) (hlim : s₁.heap.NoLimit) (hg : s₁.gens = #[])
    (hbm : ∃ bm ob, mg "__builtins__" = some (.ref bm) ∧ bm ≠ builtinsNs ∧ s₁.heap.get? bm = some ob ∧ ob.cls = .type "module" ∧ ob.dict = some builtinsNs ∧ ob.data = .plain)
    (hT : PySem.W.TabsAt tabs s₁.heap) (hnt : PySem.W.noTabs K = true)
    (ha : s₁.heap.get? a = some { cls := .type "list", data := .seq vs.toArray }) (hi : IntsAre vs ns) (hl : ns.length ≤ sizeLine) (hr : Room k callerA)
    (F : ∀ base : Heap, K.In base → base.Ns mainGlobals mg → (∀ t ∈ tabs, LamB mg base t.1 t.2) → FnOk P w K mg base CX0 k fa fd [x] sp) (hbind : ∀ (s : Shared) (u : Value), BindsTo s fd ⟨[u], []⟩ [(x, u)])
    (hsp : ∀ H : Hp, SqL K H a (ns.map V.int) → (∀ t ∈ tabs, H t.2 = some (.tbl #[])) → sp [.ref a] H (fun v _ => v = .bl true) fun _ _ _ => False) :
    codeAny (model P w) callerA (.call (.ref fa) ⟨[.ref a], []⟩) (fun r s' => r = .ok (.ret (.bool true)) ∧ OldK s₁.heap s'.heap ∧ s'.os = s₁.os ∧ AllBare s'.gens) s₁ := by
  have rv := vals_ints hi
  have lenV := hi.length
  have tabO : ∀ {b : Addr} {o : Obj}, b ∈ tabs.map (·.2) → s₁.heap.get? b = some o → o = PySem.W.tabObj #[] := fun {b o} hm e => by
    obtain ⟨t, ht, rfl⟩ := List.mem_map.mp hm
    have := (hT t ht).2
    rw [e] at this
    exact Option.some.inj this
  have aT : a ∉ tabs.map (·.2) := fun hm => by cases tabO hm ha
  have core : ∀ H : Hp, OnlyT tabs H → SqL K H a (ns.map V.int) → HOk P w H s₁.heap → (∀ b, H b ≠ none → b = a ∨ b ∈ tabs.map (·.2)) → (H a ≠ none → K.lookup a = none) → (∀ t ∈ tabs, H t.2 = some (.tbl #[])) →
      codeAny (model P w) callerA (.call (.ref fa) ⟨[.ref a], []⟩) (fun r s' => r = .ok (.ret (.bool true)) ∧ OldK s₁.heap s'.heap ∧ s'.os = s₁.os ∧ AllBare s'.gens) s₁ := by
    intro H hO hS hok hA hK hTb
    have base_of : ∀ {b : Addr} {o : Obj}, s₁.heap.get? b = some o → H b = none → (hidT s₁.heap H).get? b = some o := fun e n => hidT_get e n
    have noH : ∀ {b : Addr} {o : Obj}, s₁.heap.get? b = some o → (o.cls ≠ .type "list" ∨ ∀ v n, o.data ≠ .seq v n) → o ≠ PySem.W.tabObj #[] → H b = none := fun {b o} e n1 n2 => by
      cases q : H b with
      | none => rfl
      | some u =>
        rcases hA b (by rw [q]; simp) with e' | e'
        · subst e'
          rw [ha] at e; cases e
          rcases n1 with z | z
          · exact absurd rfl z
          · exact absurd rfl (z _ _)
        · exact absurd (tabO e' e) n2
    have nsK : ∀ {b : Addr} {m : Str → Option Value}, s₁.heap.Ns b m → (hidT s₁.heap H).Ns b m := fun {b m} ⟨o, es, ep, e, d, r⟩ => ⟨o, es, ep, base_of e (noH e (.inr fun v n z => by rw [d] at z; cases z) (fun z => by rw [z] at d; cases d)), d, r⟩
    have hKb : K.In (hidT s₁.heap H) := fun b o e => base_of (KX b o e) (by
      cases q : H b with
      | none => rfl
      | some u =>
        rcases hA b (by rw [q]; simp) with e' | e'
        · subst e'
          rw [hK (by rw [q]; simp)] at e; cases e
        · have z := tabO e' (KX b o e)
          have h2 := List.all_eq_true.mp hnt (b, o) (PySem.W.mem_of_lookupK e)
          subst z
          exact absurd (show false = true from h2) Bool.false_ne_true)
    have hM : Mod K mg (hidT s₁.heap H) := ⟨hKb, nsK hns, ⟨mb, nsK hb, hbb⟩, let ⟨mc, h1, h2⟩ := hlim; ⟨mc, nsK h1, h2⟩⟩
    have e0 : Env0 P w K mg (hidT s₁.heap H) callerA [] s₁ H := ⟨rfl, hM, fun b o e => of_hidT e, Nat.le_of_eq (hidT_size _ _), trivial, fun b hb => absurd (show b ∈ ([] : List Addr) from hb) (by simp), hok, .of_eq hg⟩
    have LB : ∀ t ∈ tabs, LamB mg (hidT s₁.heap H) t.1 t.2 := fun t ht => by
      refine ⟨?_, ?_⟩
      · obtain ⟨o, vs, file, tf, flags, tg, inF, text, tt, e1, r1, r⟩ := (hT t ht).1
        exact ⟨o, vs, file, tf, flags, tg, inF, text, tt, base_of e1 (noH e1 (.inl (by rw [r1]; decide)) (fun z => by rw [z] at r1; cases r1)), r1, r⟩
      · obtain ⟨bm, ob, b1, b2, b3, b4, r⟩ := hbm
        exact ⟨bm, ob, b1, b2, base_of b3 (noH b3 (.inl (by rw [b4]; decide)) (fun z => by rw [z] at b4; cases b4)), b4, r⟩
    refine codeAny_mono ((F _ hKb (nsK hns) LB).run callerA [] s₁ H ⟨[.ref a], []⟩ [.ref a] [.ref a] _ _ hr e0 (hbind s₁ (.ref a)) (.cons rfl .nil) (hsp H hS hTb)) fun r s' h => ?_
    cases r with
    | error e => exact (show False from h).elim
    | ok fl =>
      cases fl with
      | next => exact False.elim h
      | brk => exact False.elim h
      | cont => exact False.elim h
      | ret u =>
        obtain ⟨v, H', os, bare, un, hok', r', q⟩ := h
        have q' : v = .bl true := q
        subst q'
        obtain rfl : u = Value.bool true := r'
        have fin : ∀ b o, s₁.heap.get? b = some o → asItWas s₁.heap s'.heap b o ∧ ∃ o', s'.heap.get? b = some o' := fun b o e => by
          cases q : H b with
          | none =>
            have z := un.keep b o e q (by intro z; exact absurd (show b ∈ ([] : List Addr) from z) (by simp)) (by simp)
            exact ⟨.inl z, _, z⟩
          | some u =>
            rcases hO b with z | ⟨ob, xs, z⟩ | ⟨hm, z⟩
            · rw [q] at z; cases z
            · have z2 := un.frzs b ob _ z
              obtain ⟨e1, _⟩ := hok b _ z
              obtain ⟨e2, _⟩ := hok' b _ z2
              rw [e] at e1; cases e1
              exact ⟨.inl e2, _, e2⟩
            · obtain ⟨more, z2⟩ := un.tbls b _ z
              have e2 : s'.heap.get? b = some { cls := .none, data := .fields (#[] ++ more) } := hok' b _ z2
              have eo := tabO hm e
              subst eo
              obtain ⟨t, ht, rfl⟩ := List.mem_map.mp hm
              exact ⟨.inr (.inl ⟨((hT t ht).1.tab (hT t ht).2).isCodeTable, rfl, #[], more, rfl, e2⟩), _, e2⟩
        exact ⟨rfl, ⟨fun b o e => (fin b o e).1, fun b o e => (fin b o e).2⟩, os, bare⟩
  have tbOk : ∀ (H : Hp) (b : Addr), b ∈ tabs.map (·.2) → ObjOk P w H s₁.heap b (.tbl #[]) := fun H b hm => by
    obtain ⟨t, ht, rfl⟩ := List.mem_map.mp hm
    exact (hT t ht).2
  cases hk : K.lookup a with
  | some o =>
    have e := KX a o hk
    rw [ha] at e
    cases e
    refine core (fun b => if b ∈ tabs.map (·.2) then some (.tbl #[]) else none) (fun b => ?_) (.inr ⟨_, vs.toArray, _, hk, rfl, rfl, rfl, by rw [List.size_toArray, lenV]; exact hl, by simpa using rv⟩) (fun b u z => ?_) (fun b z => ?_) (fun z => ?_) (fun t ht => if_pos (List.mem_map_of_mem ht))
    · by_cases hb : b ∈ tabs.map (·.2)
      · exact .inr (.inr ⟨hb, if_pos hb⟩)
      · exact .inl (if_neg hb)
    · by_cases hb : b ∈ tabs.map (·.2)
      · have z' := (if_pos hb).symm.trans z
        cases z'
        exact tbOk _ b hb
      · have z' := (if_neg hb).symm.trans z
        cases z'
    · by_cases hb : b ∈ tabs.map (·.2)
      · exact .inr hb
      · exact absurd (if_neg hb) z
    · exact absurd (if_neg aT) z
  | none =>
    refine core (fun b => if b = a then some (.frz { cls := .type "list", data := .seq vs.toArray } (.lst (ns.map V.int))) else if b ∈ tabs.map (·.2) then some (.tbl #[]) else none) (fun b => ?_) (.inl (.inr ⟨{ cls := .type "list", data := .seq vs.toArray }, if_pos rfl⟩)) (fun b u z => ?_) (fun b z => ?_) (fun _ => hk) (fun t ht => ?_)
    · by_cases hb : b = a
      · exact .inr (.inl ⟨_, _, if_pos hb⟩)
      · by_cases hm : b ∈ tabs.map (·.2)
        · exact .inr (.inr ⟨hm, (if_neg hb).trans (if_pos hm)⟩)
        · exact .inl ((if_neg hb).trans (if_neg hm))
    · by_cases hb : b = a
      · have z' := (if_pos hb).symm.trans z
        cases z'
        subst hb
        exact ⟨ha, by rw [List.length_map]; exact hl, vs, _, rv, ha⟩
      · have z1 := (if_neg hb).symm.trans z
        by_cases hm : b ∈ tabs.map (·.2)
        · have z' := (if_pos hm).symm.trans z1
          cases z'
          exact tbOk _ b hm
        · have z' := (if_neg hm).symm.trans z1
          cases z'
    · by_cases hb : b = a
      · exact .inl hb
      · by_cases hm : b ∈ tabs.map (·.2)
        · exact .inr hm
        · exact absurd ((if_neg hb).trans (if_neg hm)) z
    · have hm : t.2 ∈ tabs.map (·.2) := List.mem_map_of_mem ht
      have hne : t.2 ≠ a := fun z => aT (z ▸ hm)
      exact (if_neg hne).trans (if_pos hm)
/-- the goal that k_head leaves, for a law whose defs make lambdas: xs are their names -/
theorem walk_ofT {l : PySem.W.OpenLaw} {n k : Nat} {q : Program} {loose : List Str} {XP : (Str → Option Value) → Heap → Prop} {YP : World → Heap → Prop} {d : DefRec} {K : Params → PySem.W.Frag} {sp : World → List (Addr × Addr) → Sp} {x : Str} {xs : List Str}
    (hn : l.most = some n) (hn2 : n ≤ sizeLine) (hdf : d.params.defaults = []) (hr : Room k callerA)
    (hY : ∀ (w : World) (h : Heap), YP w h → (K w.params).In h) (hrec : ∀ y ∈ xs, ((recsOf q).find? (fun e => e.name == y)).isSome = true)
    (F : ∀ (w : World) (mg : Str → Option Value) (fa : Addr) (h : Heap), (K w.params).In h → h.Ns mainGlobals mg → mg d.name = some (.ref fa) →
      ∃ (fd : FuncData) (tabs : List (Addr × Addr)), PySem.W.noTabs (K w.params) = true ∧ (∀ t ∈ tabs, ∃ y ∈ xs, PySem.W.tabIn (K w.params) y = some t) ∧ (∀ (s : Shared) (u : Value), BindsTo s fd ⟨[u], []⟩ [(x, u)]) ∧
        (∀ base : Heap, (K w.params).In base → base.Ns mainGlobals mg → (∀ t ∈ tabs, LamB mg base t.1 t.2) → FnOk l.prog w (K w.params) mg base CX0 k fa fd [x] (sp w tabs)))
    (hsp : ∀ (w : World) (tabs : List (Addr × Addr)) (H : Hp) (a : Addr) (ns : List Int), ns.length ≤ n → SqL (K w.params) H a (ns.map V.int) → (∀ t ∈ tabs, H t.2 = some (.tbl #[])) → sp w tabs [.ref a] H (fun v _ => v = .bl true) fun _ _ _ => False) :
    PySem.W.WalkO q loose XP YP l.row.toRowW d [] (fun f vs => PySem.call f vs) := by
  refine Att.attach_call hn hdf fun w s₀ s₁ mg mb fa o pm cd doc a vs ns G Y ho hd hcd hmg hobj hints hlen hg => ?_
  have KX := hY w _ Y
  obtain ⟨fd, tabs, hnt, htb, hb, hF⟩ := F w mg fa _ KX G.T.g hmg
  refine law_callT KX G.T.g G.T.b G.T.builtins G.T.nolimit hg G.T.bmain (fun t ht => ?_) hnt hobj hints (Nat.le_trans hlen hn2) hr hF hb fun H hS hTb => hsp w tabs H a ns hlen hS hTb
  obtain ⟨y, hy, e⟩ := htb t ht
  obtain ⟨dr, edr⟩ := Option.isSome_iff_exists.mp (hrec y hy)
  exact PySem.W.tab_of G.T KX edr e
theorem tab_mk {K : PySem.W.Frag} {x : Str} {f c P : Addr} {oc oc2 : Value} {od od2 : Option Addr} {fd : FuncData} {sl sl2 : Array (Option Value)} {vs : Array Value} (h1 : PySem.W.nsIn K mainGlobals x = some (some (.ref f))) (h2 : K.lookup f = some ⟨oc, od, .func fd, sl⟩) (h3 : fd.code = .ref c) (h4 : K.lookup c = some ⟨oc2, od2, .fields vs, sl2⟩) (h5 : vs[11]? = some (.ref P)) : PySem.W.tabIn K x = some (c, P) := by
  unfold PySem.W.tabIn
  rw [h1]
  dsimp only
  rw [h2]
  dsimp only
  rw [h3]
  dsimp only
  rw [h4]
  dsimp only
  rw [h5]
section
variable {P : Program} {w : World} {K : PySem.W.Frag} {mg : Str → Option Value} {base : Heap}
/-- a def that makes lambdas: its code is known -/
theorem Fun.okL {x : Str} {st : Stmt} {f c T : Addr} {fd : FuncData} {N ps : List Str} {k : Nat} {sp : Sp} {h : Heap} (F : Fun K x x st f fd) (KX : K.In h) (G : h.Ns mainGlobals mg) (hm : mg x = some (.ref f)) (ht : PySem.W.tabIn K x = some (c, T)) (S : FnScope N ps (defScope st)) (len : ∀ vs H Q E, sp vs H Q E → vs.length = ps.length)
    (hbody : ∀ (A : Around) (outer : List Env) (s : Shared) (H : Hp) (vs : List V) (Q : VK) (E : XK), Room k (A.deeper (envOfC x (defScope st) s.heap.objs.size f (.ref c))) → sp vs H Q E →
      ∃ t, PSs (cxOf CX0 P w K mg base N x (defScope st) f (.ref c) A outer s H E).nox (defBody st) t ∧ t { nx := fun _ H' => Q .non H', rt := Q } (start N vs) H) : FnOk P w K mg base CX0 (k + 1) f fd ps sp := by
  obtain ⟨oc, od, kV, doc, pm, an, cdv, ct, osl, rfl, lk, hcd⟩ := F.ex
  have ec : cdv = .ref c := PySem.W.law_code KX G ht hm (KX _ _ lk) rfl
  subst ec
  refine fn_of lk hcd S len fun A outer s H vs Q E hr hsp => ?_
  obtain ⟨t, h, q⟩ := hbody A outer s H vs Q E hr hsp
  exact ⟨t, h.nox, q⟩
end
end L2
set_option Elab.async false
set_option linter.all false
set_option maxRecDepth 100000
/-! d.pop(k), d.pop(k, x) of a dict with tuples for keys -/
namespace L2
open PySem PySem.Spec PyProof.Rows
section
variable {X : Cx} {pins : List (Addr × Obj)} {σ : St} {H : Hp} {s : Shared} {a b : Addr} {kvs : List (List Key × V)} {k : List Key} {A : Around} {E : Value → Shared → Prop}
end
section
variable {X : Cx} {o e f : Expr} {apos cpos : Pos} {td ty tx : TE}
end
end L2
set_option Elab.async false
set_option linter.all false
set_option maxRecDepth 100000
/-! what is refused; why -/
namespace L2
open PySem PySem.Spec PyProof.Rows
theorem lamS {X : Cx} {sc scp : Scope} {N ps : List Str} (S : FnScope N ps scp) (hs : X.env.scope = scp := by rfl) (h1 : sc.kind = .function := by rfl) (h2 : sc.isCoroutine = false := by rfl) (h3 : sc.isGenerator = false := by rfl) (h4 : ∀ p ∈ sc.names, p.2 ≠ .cell ∧ p.2 ≠ .local := by decide +kernel)
    (h5 : ∀ p ∈ sc.names, p.2 = .free → scp.names.lookup p.1 = some .cell ∨ scp.names.lookup p.1 = some .free := by decide +kernel) : LamSc X sc :=
  ⟨h1, h2, h3, h4, fun p hp e => by
    show X.env.scope.names.lookup p.1 = _ ∨ X.env.scope.names.lookup p.1 = _
    rw [hs]
    exact h5 p hp e⟩
end L2
namespace Pr
open PySem L2 PyProof.Rows Ent
theorem one_line : 1 ≤ sizeLine := by decide
theorem two_line' : 2 ≤ sizeLine := by decide
theorem strs_eqv2 : ∀ us ws : List Str, PyData.eqvAll (us.map PyData.str) (ws.map PyData.str) = decide (us = ws)
  | [], [] => by simp [PyData.eqvAll]
  | [], w :: ws => by simp [PyData.eqvAll]
  | u :: us, [] => by simp [PyData.eqvAll]
  | u :: us, w :: ws => by
    rw [List.map_cons, List.map_cons]
    simp only [PyData.eqvAll, PyData.eqv]
    rw [strs_eqv2 us ws]
    by_cases h : u = w
    · subst h; simp
    · have : (u == w) = false := by simpa using h
      simp [h]
theorem sorted_perm {zs : List Str} {is : List Nat} (p1 : is.Perm (List.range zs.length)) : (is.map fun i => zs.getD i "").Perm zs := by
  have h := p1.map fun i => zs.getD i ""
  refine h.trans (List.Perm.of_eq ?_)
  refine List.ext_getElem? fun i => ?_
  by_cases hi : i < zs.length
  · rw [List.getElem?_map, List.getElem?_range hi]
    simp [hi]
  · rw [List.getElem?_eq_none (by simp; omega), List.getElem?_eq_none (by omega)]
section
variable {P : Program} {w : World} {K : PySem.W.Frag} {mg : Str → Option Value} {base : Heap} {C : Addr}
inductive sp_takeX (mg : Str → Option Value) (C : Addr) (vs : List V) (H : Hp) (Q : VK) (E : XK) : Prop
  | mk (b d : Addr) (os : List Str) (m : TM) (s k : Str) (e : vs = [.ref b, .str s, .str k]) (h : BookAt C H b d os m) (q : (look m (s, k)).isSome = true → ∀ H', But d H H' → BookAt C H' b d os (dropM m (s, k)) → Q .non H')
      (x : look m (s, k) = none → ∀ H', Same H H' → E (.ref (cOf mg "NoTell")) none H') : sp_takeX mg C vs H Q E
theorem takeX (T : Txt K mg C) : CanMX P w K mg base C 1 "take" ["self", "source", "key"] (sp_takeX mg C) := by
  refine fm_canX T.m_take sc_take (fun vs H Q E h => ?_) (fun f cdv A outer s H vs Q E hr W h => ?_)
  · obtain ⟨b, d, os, m, s, k, rfl, _⟩ := h
    rfl
  · obtain ⟨b, d, os, m, s, k, rfl, ⟨dx, f, kvs, hb, hf, hd, r⟩, q, x⟩ := h
    refine ⟨_, pss_cons (ps_set (i := 3) sc_take.nd rfl (Or.inl rfl) (pe_tup (pa2 (pv 1) (pv 2)))) (pss_cons (ps_if (pt_cmp (pc_dnotin (hu_of hr) (pv 3) (pe_fldK K (pv 0) rfl))) (pss_one (ps_raise W rfl T.x_NoTell.cls (pa1 pe_str))) pss_nil) (pss_one (ps_delT (hu_of hr) (pe_fldK K (pv 0) rfl) (pv 3)))), ?_⟩
    refine ⟨_, rfl, _, rfl, line1 (by show 2 ≤ 1000; decide), fun u hu => ?_⟩
    have s1 : Same H (upd H u (.tup [.str s, .str k])) := Same.upd hu
    refine ⟨_, rfl, _, rfl, b, C, dx, _, _, rfl, s1 _ _ hb, T.cl, T.n_told, rfl, d, _, rfl, DGet.t (k := tk (s, k)) (s1 _ _ hd) upd_same, _, rfl, ?_⟩
    rcases r.val (p := (s, k)) with ⟨z, hv⟩ | ⟨v, x, hl, hv, _⟩
    · rw [hv]
      exact iteT ⟨⟨one_line, x z _ s1⟩⟩
    rw [hv]
    refine iteF ?_
    refine ⟨⟨_, rfl, b, C, dx, _, _, rfl, s1 _ _ hb, T.cl, T.n_told, rfl, _, rfl, d, u, kvs, tk (s, k), rfl, rfl, s1 _ _ hd, upd_same, by rw [hv]; rfl, ?_⟩⟩
    have nt : ∀ a ys, (upd H u (.tup [.str s, .str k])) a = some (.tup ys) → a ≠ d := fun a ys e z => by rw [z, s1 _ _ hd] at e; cases e
    have nb : b ≠ d := fun z => by rw [z, hd] at hb; cases hb
    refine q (by rw [hl]; rfl) _ (fun a o e n => by rw [upd_ne n]; exact s1 _ _ e) ⟨dx, f, _, by rw [upd_ne nb]; exact s1 _ _ hb, by rw [upd_ne (nt _ _ (s1 _ _ hf))]; exact s1 _ _ hf, upd_same, ?_⟩
    refine ToldR.drop (r.same fun a ys e => ?_)
    have e' := s1 _ _ e
    rw [upd_ne (nt _ _ e')]; exact e'
inductive sp_initX (K : PySem.W.Frag) (mg : Str → Option Value) (C : Addr) (vs : List V) (H : Hp) (Q : VK) (E : XK) : Prop
  | mk (b : Addr) (v : V) (u : Addr) (e : vs = [.ref b, v]) (h : Unf K u H v) (x : ∀ H', Same H H' → E (.ref (cOf mg "NoSources")) none H') : sp_initX K mg C vs H Q E
theorem init_okX (T : Txt K mg C) {f : Addr} {fd : FuncData} (F : Fun K "__init__" "Book.__init__" sm_init f fd) : FnOk P w K mg base (CX1 P w) 4 f fd ["self", "sources"] (sp_initX K mg C) := by
  refine F.okX sc_init (fun vs H Q E h => ?_) (fun cdv A outer s H vs Q E hr W h => ?_)
  · obtain ⟨b, v, u, rfl, _⟩ := h
    rfl
  · obtain ⟨b, v, u, rfl, h, x⟩ := h
    refine ⟨_, (pss_cons (ps_if (pt_not (pt_val (pe_can (are_sourcesA T) hr (pa1 (pv 1))))) (pss_one (ps_raise W rfl T.x_NoSources.cls (pa1 pe_str))) pss_nil) pss_never), ?_⟩
    exact ⟨_, rfl, v, u, rfl, h, fun H1 s1 => ⟨_, rfl, iteT ⟨⟨one_line, x _ s1⟩⟩⟩⟩
set_option maxHeartbeats 4000000 in
theorem rankX (T : Txt K mg C) : CanMX P w K mg base C 4 "rank" ["self", "order"] (fun vs H Q E => (∃ b v u, vs = [V.ref b, v] ∧ Unf K u H v ∧ ∀ H', Same H H' → E (.ref (cOf mg "NoSources")) none H') ∨ (∃ b d a o os m zs, vs = [V.ref b, .ref a] ∧ BookAt C H b d os m ∧ H a = some o ∧ Ob o (zs.map V.str) ∧ Srcs zs ∧ Srcs os ∧ ¬ zs.Perm os ∧ ∀ H', Same H H' → E (.ref (cOf mg "NoSources")) none H')) := by
  refine fm_canX T.m_rank sc_rank (fun vs H Q E h => ?_) (fun f cdv A outer s H vs Q E hr W h => ?_)
  · rcases h with ⟨b, v, u, rfl, _⟩ | ⟨b, d, a, o, os, m, zs, rfl, _⟩ <;> rfl
  · rcases h with h | h
    · obtain ⟨b, v, u, rfl, h, x⟩ := h
      refine ⟨_, (pss_cons (ps_if (PW.pt (pw_or (pt_not (pt_val (pe_can (are_sourcesA T) hr (pa1 (pv 1))))) (pw_or1 (pt_cmpR (op_neD hr) (pe_b call_sortedQ T.b_sorted boot_sorted (pa1 (pv 1))) (pe_b call_sortedQ T.b_sorted boot_sorted (pa1 (pe_fldK K (pv 0) rfl))) (nomark _))))) (pss_one (ps_raise W rfl T.x_NoSources.cls (pa1 pe_str))) pss_nil) pss_never), ?_⟩
      exact ⟨_, rfl, v, u, rfl, h, fun H1 s1 => ⟨_, rfl, iteT ⟨⟨one_line, x _ s1⟩⟩⟩⟩
    · obtain ⟨b, d, a, o, os, m, zs, rfl, hB, ha, ob, ok, oko, np, x⟩ := h
      refine ⟨_, (pss_cons (ps_if (PW.pt (pw_or (pt_not (pt_val (pe_can (are_sources T) hr (pa1 (pv 1))))) (pw_or1 (pt_cmpR (op_neD hr) (pe_b call_sortedQ T.b_sorted boot_sorted (pa1 (pv 1))) (pe_b call_sortedQ T.b_sorted boot_sorted (pa1 (pe_fldK K (pv 0) rfl))) (nomark _))))) (pss_one (ps_raise W rfl T.x_NoSources.cls (pa1 pe_str))) pss_nil) pss_never), ?_⟩
      have z6 := ok.h
      have o6 := oko.h
      refine ⟨_, rfl, a, o, zs, rfl, ha, ob, ok, fun H1 s1 => ⟨_, rfl, iteF ?_⟩⟩
      have hB1 := hB.same s1
      obtain ⟨dx, f, kvs, hb, hf, hd, r⟩ := id hB1
      refine ⟨_, rfl, a, o, zs, rfl, s1 _ _ ha, ob, by omega, fun D is p1 p2 hD => ?_⟩
      have s2 : Same H1 (upd H1 D (.lst ((is.map fun i => zs.getD i "").map V.str))) := Same.upd hD
      refine ⟨_, rfl, b, C, dx, _, _, rfl, s2 _ _ hb, T.cl, T.n_best_first, rfl, f, _, os, rfl, s2 _ _ hf, .inr rfl, by omega, fun G js r1 r2 hG => ?_⟩
      have pz := sorted_perm p1
      have po := sorted_perm r1
      generalize (is.map fun i => zs.getD i "") = us at s2 hG pz ⊢
      generalize (js.map fun i => os.getD i "") = ws at po ⊢
      have s3 : Same (upd H1 D (.lst (us.map V.str))) (upd (upd H1 D (.lst (us.map V.str))) G (.lst (ws.map V.str))) := Same.upd hG
      have su : ∀ z ∈ us, Src z := fun z hz => ok.s _ (pz.mem_iff.mp hz)
      have sw : ∀ z ∈ ws, Src z := fun z hz => oko.s _ (po.mem_iff.mp hz)
      refine ⟨.list (us.map .str), .list (ws.map .str), by unfold Dat; exact ⟨D, _, rfl, s3 _ _ upd_same, strs_dat _ us⟩, by unfold Dat; exact ⟨G, _, rfl, upd_same, strs_dat _ ws⟩, strs_lay su, strs_lay sw, strs_dep us, _, rfl, ?_⟩
      have ne : us ≠ ws := fun z => np (pz.symm.trans (z ▸ po))
      rw [show PyData.eqv (.list (us.map .str)) (.list (ws.map .str)) = false by simp only [PyData.eqv, strs_eqv2]; exact decide_eq_false ne]
      exact iteT ⟨⟨one_line, x _ (s1.trans (s2.trans s3))⟩⟩
/-- which of the two an error's class is -/
inductive Flg (mg : Str → Option Value) (cls : Value) (a b : Bool) : Prop
  | src (e : cls = .ref (cOf mg "NoSources")) (f : (a, b) = (true, false)) : Flg mg cls a b
  | tel (e : cls = .ref (cOf mg "NoTell")) (f : (a, b) = (false, true)) : Flg mg cls a b
inductive sp_why (P : Program) (w : World) (K : PySem.W.Frag) (mg : Str → Option Value) (base : Heap) (outer : List Env) (s : Shared) (vs : List V) (H : Hp) (Q : VK) (E : XK) : Prop
  | mk (f : Addr) (fo : Obj) (cells : List (Addr × Obj)) (c : Addr) (oc : Obj) (sp : Hp → VK → XK → Prop) (cls : Value) (b1 b2 : Bool) (e : vs = [.ref f]) (L : LamP P w K mg base 6 f fo cells c oc sp) (hin : LamIn outer s H f fo cells c oc) (fl : Flg mg cls b1 b2)
      (go : ∀ Q' E', (∀ H', Same H H' → E' cls none H') → sp H Q' E') (q : ∀ D H2, Same H H2 → H2 D = some (.tup [.bl b1, .bl b2]) → Q (.ref D) H2) : sp_why P w K mg base outer s vs H Q E
theorem sc_why : FnScope ["_law_deed", "_law_found", "e"] ["_law_deed"] (defScope s_law_why) := ⟨rfl, rfl, rfl, by decide +kernel, rfl, by decide +kernel, by decide +kernel⟩
theorem why (T : Txt K mg C) : CanS P w K mg base 7 "_law_why" ["_law_deed"] (sp_why P w K mg base) := by
  refine fn_canS T.f_law_why sc_why (fun o s vs H Q E h => ?_) (fun f cdv A outer s H vs Q E hr h => ?_)
  · obtain ⟨f, fo, cells, c, oc, sp, cls, b1, b2, rfl, _⟩ := h
    rfl
  · obtain ⟨lf, fo, cells, c, oc, sp, cls, b1, b2, rfl, L, hin, fl, go, q⟩ := h
    refine ⟨_, (pss_cons (ps_set (i := 1) sc_why.nd rfl (Or.inl rfl) pe_non)
      (pss_cons (ps_try (n := 3) (fun pn xe E W => (pss_one (ps_expr (pe_deed L hin W hr (pv 0)))))
        (phN (i := 2) T.x_PeakError.m sc_why.nd rfl rfl (fun a => (pss_one (ps_set (i := 1) sc_why.nd rfl (Or.inl rfl) (pe_tup (pa2 (pe_b (call_isE K) T.b_isinstance boot_isinstance (pa2 (pv 2) (pe_glob (v := .ref _) rfl T.x_NoSources.m rfl))) (pe_b (call_isE K) T.b_isinstance boot_isinstance (pa2 (pv 2) (pe_glob (v := .ref _) rfl T.x_NoTell.m rfl)))))))) ph_nil))
      (pss_one (ps_ret (pv 1))))), ?_⟩
    refine .mk rfl (go _ _ fun H' s1 => ?_)
    intro σ' hσ
    match σ', hσ with
    | [t0, t1, t2], _ =>
      cases fl with
      | src e f =>
        subst e
        cases f
        refine .mk true T.e_NoSources_PeakError (iteT fun b oe hb hc hd hf => ?_)
        have x := T.x_NoSources.err hc hd hf
        refine ⟨_, rfl, .own b oe _ _ _ rfl upd_same x T.k_NoSources_NoSources ⟨_, rfl, .own b oe _ _ _ rfl upd_same x T.k_NoSources_NoTell ⟨two_line', fun D hD => ⟨_, rfl, ?_⟩⟩⟩⟩
        exact q D _ (s1.trans ((Same.upd hb).trans (Same.upd hD))) upd_same
      | tel e f =>
        subst e
        cases f
        refine .mk true T.e_NoTell_PeakError (iteT fun b oe hb hc hd hf => ?_)
        have x := T.x_NoTell.err hc hd hf
        refine ⟨_, rfl, .own b oe _ _ _ rfl upd_same x T.k_NoTell_NoSources ⟨_, rfl, .own b oe _ _ _ rfl upd_same x T.k_NoTell_NoTell ⟨two_line', fun D hD => ⟨_, rfl, ?_⟩⟩⟩⟩
        exact q D _ (s1.trans ((Same.upd hb).trans (Same.upd hD))) upd_same
end
end Pr
set_option Elab.async false
set_option linter.all false
set_option maxRecDepth 100000
/-! texts: x * n, x[lo:hi] -/
namespace L2
open PySem PySem.Spec PyProof.Rows
section
variable {X : Cx}
/-- x * n -/
inductive rMulS (x y : V) (H : Hp) (Q : VK) : Prop
  | mk (z : Str) (n : Int) (e1 : x = .str z) (e2 : y = .int n) (h1 : -1000000 < n) (h2 : n < 1000000) (h3 : z.length * n.toNat ≤ 100000) (q : Q (.str (Txt.mul z n)) H) : rMulS x y H Q
theorem op_mulS : OpR X (binaryOp .Mult) rMulS := by
  intro pins s σ H x y v u Q I rx ry h
  obtain ⟨z, n, rfl, rfl, h1, h2, h3, q⟩ := h
  obtain ⟨t, rfl⟩ := rx
  obtain ⟨t', rfl⟩ := ry
  refine SB.mul ⟨?_, fun a b => ?_, fun a b => ?_⟩ fun t' k => ⟨.str (Txt.mul z n), H, I.tok _, ⟨_, rfl⟩, q⟩
  · rw [Bool.or_eq_false_iff]
    exact ⟨decide_eq_false (by omega), decide_eq_false (by omega)⟩
  · have hn : 0 < n.toNat := by omega
    have : z.length ≤ 100000 := Nat.le_trans (Nat.le_mul_of_pos_right _ hn) h3
    have h4 : (9223372036854 : Int) ≤ (2 ^ 63 - 1) / n := by
      rw [Int.le_ediv_iff_mul_le (by omega)]
      have : (9223372036854 : Int) * n ≤ 9223372036854 * 1000000 := Int.mul_le_mul_of_nonneg_left (by omega) (by decide)
      omega
    omega
  · show decide _ = false
    refine decide_eq_false ?_
    have := sizeLine_eq
    omega
/-- x[lo:hi] of a text -/
inductive rSlS (x : V) (lo hi : Option Int) (H : Hp) (Q : VK) : Prop
  | mk (z : Str) (e1 : x = .str z) (h : (StrLaws.sliceText z lo hi).length ≤ 100000) (q : Q (.str (StrLaws.sliceText z lo hi)) H) : rSlS x lo hi H Q
theorem part_of {v : Value} {o : Option Int} (h : IsPart v o) : ∃ p : Option (Int × Tok), v = partValue p ∧ o = p.map (·.1) := by
  cases h with
  | none => exact ⟨none, rfl, rfl⟩
  | int i t => exact ⟨some (i, t), rfl, rfl⟩
theorem sl_str : SlR X rSlS := by
  intro pins s σ H x v vl vu lo hi sl Q I rx hs pl pu h
  obtain ⟨z, rfl, hz, q⟩ := h
  obtain ⟨t, rfl⟩ := rx
  obtain ⟨p, rfl, rfl⟩ := part_of pl
  obtain ⟨p', rfl, rfl⟩ := part_of pu
  refine ⟨"str", _, F.slot_str_getitem.lookup, typeIs_str _ _ _, ?_⟩
  refine wpAny_getItem_str_slice (l := p) (u := p') (st := none) hs rfl ?_
  unfold StrLaws.sliceText at q hz
  unfold sliceMade slicePicked
  split
  · rename_i hc
    have hc' : ((1 : Int) == 1 && (Builtin.Str.strSliceIndices (p.map (·.1)) (p'.map (·.1)) 1 z.length).length == z.length) = true := hc
    rw [if_pos hc'] at q
    exact ⟨.str z, H, I, ⟨_, rfl⟩, q⟩
  · rename_i hc
    have hc' : ¬ ((1 : Int) == 1 && (Builtin.Str.strSliceIndices (p.map (·.1)) (p'.map (·.1)) 1 z.length).length == z.length) = true := hc
    rw [if_neg hc'] at q hz
    refine ⟨?_, ⟨.str _, H, I.tok _, ⟨_, rfl⟩, q⟩⟩
    have := sizeLine_eq
    exact Nat.le_trans hz (by omega)
end
theorem slice_to {z : Str} {j : Int} (h0 : 0 ≤ j) (h1 : j ≤ z.length) : StrLaws.sliceText z none (some j) = ⟨(z.cps.toList.take j.toNat).toArray⟩ := by
  rw [StrLaws.sliceText_to ⟨h0, by rw [Array.length_toList]; exact h1⟩]
  simp
theorem slice_from {z : Str} {j : Int} (h0 : 0 ≤ j) (h1 : j ≤ z.length) : StrLaws.sliceText z (some j) none = ⟨(z.cps.toList.drop j.toNat).toArray⟩ := by
  rw [StrLaws.sliceText_from ⟨h0, by rw [Array.length_toList]; exact h1⟩]
  congr 2
  rw [List.take_of_length_le]
  rw [List.length_drop]
  omega
end L2
set_option Elab.async false
set_option linter.all false
set_option maxRecDepth 100000
/-! texts that are no sources -/
namespace L2
open PySem PySem.Spec PyProof.Rows
section
variable {X : Cx}
/-- x.upper() -/
inductive rUpper (x : V) (xs : List V) (H : Hp) (Q : VK) : Prop
  | mk (z : Str) (e1 : x = .str z) (e2 : xs = []) (h : (Txt.upper z).length ≤ 1000) (q : Q (.str (Txt.upper z)) H) : rUpper x xs H Q
theorem mt_upper : MtR X "str.upper" rUpper := by
  intro pins s σ H x xs v us Q I rx r h
  obtain ⟨z, rfl, rfl, hl, q⟩ := h
  obtain ⟨t, rfl⟩ := rx
  cases r
  refine SC.upper ?_ ⟨.str _, H, I.tok _, ⟨_, rfl⟩, q⟩
  show decide _ = false
  refine decide_eq_false ?_
  have := sizeLine_eq
  omega
end
theorem slice_pre (z : Str) (n : Nat) : StrLaws.sliceText z none (some (n : Int)) = ⟨(z.cps.toList.take n).toArray⟩ := by
  by_cases h : n ≤ z.length
  · exact slice_to (by omega) (by omega)
  · have e : StrLaws.sliceText z none (some (n : Int)) = StrLaws.sliceText z none (some (z.length : Int)) := by
      unfold StrLaws.sliceText Builtin.Str.strSliceIndices
      have h1 : min (n : Int) (z.length : Int) = (z.length : Int) := by omega
      have h2 : ¬ (n : Int) < 0 := by omega
      have h3 : ¬ (z.length : Int) < 0 := by omega
      have h4 : min (z.length : Int) (z.length : Int) = (z.length : Int) := by omega
      have h5 : (1 : Int) > 0 := by decide
      simp only [h1, h2, h3, h4, h5, if_false, if_true]
    rw [e, slice_to (by omega) (by omega)]
    congr 2
    rw [Int.toNat_natCast, List.take_of_length_le (by rw [Array.length_toList]; exact Nat.le_refl _), List.take_of_length_le (by rw [Array.length_toList]; have : z.length = z.cps.size := rfl; omega)]
end L2
namespace Pr
open PySem L2 PyProof.Rows Ent
/-- a text that is no source -/
structure Bad (z : Str) : Prop where
  asc : Asc z
  l : z.cps.size ≤ 1000
  no : wdB z = false
theorem Bad.el {K : PySem.W.Frag} {H : Hp} {z : Str} (h : Bad z) : El K H (.str z) false := .str z rfl h.asc h.l h.no.symm
theorem wd_sign {z : Str} {c : Nat} (h : c ∈ z.cps.toList) (hc : c ∉ AZ.cps.toList) : wdB z = false := by
  unfold wdB
  rw [show (z.cps.toList.all fun c => decide (c ∈ AZ.cps.toList)) = false from ?_]
  · simp
  · rw [Bool.eq_false_iff]
    intro z
    exact hc (of_decide_eq_true (List.all_eq_true.mp z c h))
theorem wd_long {z : Str} (h : 6 < z.cps.size) : wdB z = false := by
  unfold wdB
  rw [decide_eq_false (show ¬ z.cps.size ≤ 6 by omega)]
  simp
theorem app_cps (x y : Str) : (x ++ y).cps.toList = x.cps.toList ++ y.cps.toList := by
  show (x.cps ++ y.cps).toList = _
  exact Array.toList_append
theorem sz (z : Str) : z.cps.size = z.cps.toList.length := (Array.length_toList).symm
/-- what is made of a name and a sign that is none of its -/
theorem bad_mid {a b : List Nat} {c : Nat} {z : Str} (e : z.cps.toList = a ++ [c] ++ b) (ha : ∀ d ∈ a, d < 128) (hb : ∀ d ∈ b, d < 128) (hc : c < 128) (nc : c ∉ AZ.cps.toList) (l : a.length + b.length ≤ 900) : Bad z := by
  refine ⟨fun d hd => ?_, ?_, wd_sign (c := c) (by rw [e]; simp) nc⟩
  · rw [e] at hd
    simp only [List.mem_append, List.mem_singleton] at hd
    rcases hd with (h | rfl) | h
    · exact ha d h
    · exact hc
    · exact hb d h
  · rw [sz, e]
    simp
    omega
abbrev SG : Str := ((" !\"#$&'()*+,-./0123456789:;<=>?@ABCDEFGHIJKLMNOPQRSTUVWXYZ[\\]^_`{|}~" : String) : Str)
theorem sg_ok : ∀ c ∈ SG.cps.toList, c < 128 ∧ c ∉ AZ.cps.toList := by decide +kernel
theorem sg_len : SG.cps.toList.length = 68 := by decide +kernel
theorem sg_length : SG.length = 68 := by decide +kernel
theorem sg_line : SG.length ≤ sizeLine := by rw [sg_length, sizeLine_eq]; decide
section
variable {P : Program} {w : World} {K : PySem.W.Frag} {mg : Str → Option Value} {base : Heap} {C : Addr}
inductive sp_odd_names (vs : List V) (H : Hp) (Q : VK) (E : XK) : Prop
  | mk (p : Addr) (z : Str) (e : vs = [.ref p, .str z]) (hp : PotAt H p) (hz : Src z) (q : ∀ L (zs : List Str) H', But p H H' → PotAt H' p → H L = none → H' L = some (.lst (zs.map V.str)) → zs.length = 4 → (∀ z ∈ zs, Bad z) → Q (.ref L) H') : sp_odd_names vs H Q E
theorem sc_odd_names : FnScope ["_law_pot_here", "_law_name", "_law_signs", "_law_found", "_law_k", "_law_sign", "_law_at"] ["_law_pot_here", "_law_name"] (defScope s_law_odd_names) := ⟨rfl, rfl, rfl, by decide +kernel, rfl, by decide +kernel, by decide +kernel⟩
set_option maxHeartbeats 4000000 in
theorem odd_names (T : Txt K mg C) : Can P w K mg base 2 "_law_odd_names" ["_law_pot_here", "_law_name"] sp_odd_names := by
  refine fn_can T.f_law_odd_names sc_odd_names (fun vs H Q E h => ?_) (fun f cdv A outer s H vs Q E hr h => ?_)
  · obtain ⟨p, z, rfl, _⟩ := h
    rfl
  · obtain ⟨p, z, rfl, hp, hz, q⟩ := h
    refine ⟨_, (pss_cons (ps_set (i := 2) sc_odd_names.nd rfl (Or.inl rfl) pe_str)
      (pss_cons (ps_set (i := 3) sc_odd_names.nd rfl (Or.inl rfl) (pe_lst pa_nil))
      (pss_cons (ps_for PassesOwn.never rfl (pi_range1 rfl T.b_range (pa1 pe_int)) (pg_name (i := 4) sc_odd_names.nd rfl (Or.inl rfl))
        (pss_cons (ps_set (i := 5) sc_odd_names.nd rfl (Or.inl rfl) (pe_ix ix_str (pv 2) (pe_can (digit T) hr (pa2 (pv 0) (pe_b call_len_str T.b_len boot_len (pa1 (pv 2))))) (fun _ _ => rfl)))
        (pss_cons (ps_set (i := 6) sc_odd_names.nd rfl (Or.inl rfl) (pe_can (digit T) hr (pa2 (pv 0) (pe_b call_len_str T.b_len boot_len (pa1 (pv 1))))))
        (pss_cons (ps_expr (pe_bmK K PySem.F.plainAttrs_list PySem.F.slot_list_append PySem.F.type_list_append mt_append (pv 3) (pa1 (pe_op op_add_str (pe_op op_add_str (pe_slice sl_str (pv 1) po_none (po_some (pv 6))) (pv 5)) (pe_slice sl_str (pv 1) (po_some (pe_op op_add (pv 6) pe_int)) po_none)))))
        (pss_one (ps_expr (pe_bmK K PySem.F.plainAttrs_list PySem.F.slot_list_append PySem.F.type_list_append mt_append (pv 3) (pa1 (pe_slice sl_str (pe_op op_add_str (pe_op op_add_str (pe_slice sl_str (pv 1) po_none (po_some (pv 6))) (pv 5)) (pe_slice sl_str (pv 1) (po_some (pv 6)) po_none)) po_none (po_some pe_int))))))))))
      (pss_one (ps_ret (pv 3)))))), ?_⟩
    refine ⟨Nat.zero_le _, fun F hF => ?_⟩
    have nF : F ≠ p := hp.ne hF
    have zl := hz.l
    have zh := hz.h
    have zz : z.length = z.cps.size := rfl
    refine ⟨_, rfl, by decide, by decide, ?_⟩
    refine for_range (n := 2) (fun k σ H1 => ∃ v4 v5 v6, ∃ zs : List Str, σ = [some (.ref p), some (.str z), some (.str SG), some (.ref F), v4, v5, v6] ∧ But p H H1 ∧ PotAt H1 p ∧ H1 F = some (.lst (zs.map V.str)) ∧ zs.length = 2 * k ∧ ∀ z ∈ zs, Bad z) ⟨_, _, _, [], rfl, (Same.upd hF).but, hp.same (Same.upd hF), upd_same, rfl, fun _ z => nomatch z⟩ ?turn ?fin
    case fin =>
      rintro σ H1 ⟨v4, v5, v6, zs, rfl, c1, p1, hF1, l, hb⟩
      exact ⟨_, rfl, q F zs H1 c1 p1 hF hF1 l hb⟩
    case turn =>
      rintro k σ H1 hk ⟨v4, v5, v6, zs, rfl, c1, p1, hF1, l, hb⟩
      refine ⟨_, rfl, _, rfl, _, rfl, SG, rfl, sg_line, p, _, rfl, p1, by rw [sg_length]; decide, by rw [sg_length]; decide +kernel, fun d H2 g0 g1 c2 p2 => ?_⟩
      obtain ⟨c, hc, hcm⟩ := sign_at (sg := SG) g0 (by rw [sg_length] at g1; rw [sg_len]; exact g1)
      obtain ⟨c128, cno⟩ := sg_ok c hcm
      refine ⟨SG, d, c, rfl, rfl, sg_line, hc, ?_⟩
      refine ⟨_, rfl, _, rfl, z, rfl, line1 (by omega), p, _, rfl, p2, by omega, by omega, fun at' H3 a0 a1 c3 p3 => ?_⟩
      obtain ⟨n, rfl⟩ : ∃ n : Nat, at' = n := ⟨at'.toNat, by omega⟩
      have hn : n < z.cps.size := by omega
      have hn' : n < z.cps.toList.length := by rw [← sz]; exact hn
      have c13 := c2.trans c3
      have hF3 := c13 _ _ hF1 nF
      have c0 : (⟨#[c]⟩ : Str).cps.toList = [c] := rfl
      have e1 : (StrLaws.sliceText z none (some (n : Int))).cps.toList = z.cps.toList.take n := by rw [slice_pre]
      have e2 : (StrLaws.sliceText z (some ((n : Int) + 1)) none).cps.toList = z.cps.toList.drop (n + 1) := by
        rw [slice_from (by omega) (by omega)]
        show z.cps.toList.drop ((n : Int) + 1).toNat = _
        rw [show ((n : Int) + 1).toNat = n + 1 by omega]
      have e3 : (StrLaws.sliceText z (some (n : Int)) none).cps.toList = z.cps.toList.drop n := by
        rw [slice_from (by omega) (by omega)]
        show z.cps.toList.drop (n : Int).toNat = _
        rw [Int.toNat_natCast]
      have l1 : (StrLaws.sliceText z none (some (n : Int))).length = n := by
        show Array.size _ = _
        rw [sz, e1, List.length_take]; omega
      have l2 : (StrLaws.sliceText z (some ((n : Int) + 1)) none).length = z.cps.size - (n + 1) := by
        show Array.size _ = _
        rw [sz, e2, List.length_drop, ← sz]
      have l3 : (StrLaws.sliceText z (some (n : Int)) none).length = z.cps.size - n := by
        show Array.size _ = _
        rw [sz, e3, List.length_drop, ← sz]
      have lc : (⟨#[c]⟩ : Str).length = 1 := rfl
      have asz := src_asc hz
      have at1 : ∀ d ∈ z.cps.toList.take n, d < 128 := fun d hd => asz d (List.mem_of_mem_take hd)
      have at2 : ∀ d ∈ z.cps.toList.drop (n + 1), d < 128 := fun d hd => asz d (List.mem_of_mem_drop hd)
      have at3 : ∀ d ∈ z.cps.toList.drop n, d < 128 := fun d hd => asz d (List.mem_of_mem_drop hd)
      have ll : zs.length ≤ 2 := by omega
      have la : ∀ {x y : Str}, (x ++ y).length = x.length + y.length := fun {x y} => by
        show Array.size _ = _
        rw [sz, app_cps, List.length_append, ← sz, ← sz]
        rfl
      have hsz := sizeLine_eq
      refine ⟨_, rfl, .inl ⟨rfl, _, .of hF3⟩, _, rfl, _, rfl, _, rfl, z, rfl, by omega, ?_⟩
      refine ⟨_, rfl, _, _, rfl, rfl, by omega, _, rfl, _, rfl, _, _, rfl, rfl, _, rfl, z, rfl, by omega, _, _, rfl, rfl, by rw [la]; omega, ?_⟩
      have b1 : Bad (StrLaws.sliceText z none (some (n : Int)) ++ ⟨#[c]⟩ ++ StrLaws.sliceText z (some ((n : Int) + 1)) none) := bad_mid (by rw [app_cps, app_cps, e1, e2, c0]) at1 at2 c128 cno (by rw [List.length_take, List.length_drop, ← sz]; omega)
      refine ⟨F, _, _, rfl, rfl, hF3, by rw [List.length_map, hsz]; omega, ?_⟩
      have p4 : PotAt (upd H3 F (.lst (zs.map V.str ++ [.str (StrLaws.sliceText z none (some (n : Int)) ++ ⟨#[c]⟩ ++ StrLaws.sliceText z (some ((n : Int) + 1)) none)]))) p := by
        obtain ⟨x, y, h⟩ := p3
        exact ⟨x, y, by rw [upd_ne (Ne.symm nF)]; exact h⟩
      refine ⟨_, rfl, .inl ⟨rfl, _, .of upd_same⟩, _, rfl, _, rfl, _, rfl, z, rfl, by omega, ?_⟩
      refine ⟨_, rfl, _, _, rfl, rfl, by omega, _, rfl, _, rfl, _, rfl, z, rfl, by omega, _, _, rfl, rfl, by rw [la]; omega, _, rfl, _, rfl, ?_, ?_⟩
      · rw [show (6 : Int) = ((6 : Nat) : Int) from rfl, slice_pre]
        show (List.toArray _).size ≤ _
        rw [List.size_toArray, List.length_take]
        omega
      have b2 : Bad (StrLaws.sliceText (StrLaws.sliceText z none (some (n : Int)) ++ ⟨#[c]⟩ ++ StrLaws.sliceText z (some (n : Int)) none) none (some 6)) := by
        rw [show (6 : Int) = ((6 : Nat) : Int) from rfl, slice_pre]
        refine bad_mid (a := z.cps.toList.take n) (b := (z.cps.toList.drop n).take (6 - (n + 1))) (c := c) ?_ at1 (fun d hd => at3 d (List.mem_of_mem_take hd)) c128 cno (by rw [List.length_take, List.length_take, List.length_drop, ← sz]; omega)
        show List.take 6 _ = _
        rw [app_cps, app_cps, e1, e3, c0, List.take_append]
        have ln : (z.cps.toList.take n ++ [c]).length = n + 1 := by rw [List.length_append, List.length_take, List.length_singleton]; omega
        rw [ln, List.take_of_length_le (by rw [ln]; omega)]
      refine ⟨F, _, _, rfl, rfl, upd_same, by rw [List.length_append, List.length_map, hsz]; simp; omega, ?_⟩
      refine ⟨_, _, _, zs ++ [StrLaws.sliceText z none (some (n : Int)) ++ ⟨#[c]⟩ ++ StrLaws.sliceText z (some ((n : Int) + 1)) none, StrLaws.sliceText (StrLaws.sliceText z none (some (n : Int)) ++ ⟨#[c]⟩ ++ StrLaws.sliceText z (some (n : Int)) none) none (some 6)], rfl, fun bb oo e ne => ?_, ?_, ?_, ?_, fun y hy => ?_⟩
      rotate_left 2
      · rw [upd_same, List.map_append, List.append_assoc]; rfl
      · rw [List.length_append, l]; simp; omega
      · rcases List.mem_append.mp hy with hy | hy
        · exact hb y hy
        · simp only [List.mem_cons, List.not_mem_nil, or_false] at hy
          rcases hy with rfl | rfl
          · exact b1
          · exact b2
      · rw [upd_ne (ne_of_none e hF), upd_ne (ne_of_none e hF)]
        exact c13 _ _ (c1 _ _ e ne) ne
      · obtain ⟨x, y, h⟩ := p4
        exact ⟨x, y, by rw [upd_ne (Ne.symm nF)]; exact h⟩
end
end Pr
set_option Elab.async false
set_option linter.all false
set_option maxRecDepth 100000
/-! sources spoilt -/
namespace Pr
open PySem L2 PyProof.Rows Ent
theorem az_up : ∀ c ∈ AZ.cps.toList, Unicode.upperOf c = [c - 32] ∧ c - 32 < 128 ∧ c - 32 ∉ AZ.cps.toList := by decide +kernel
theorem up_list (z : Str) : (Txt.upper z).cps.toList = (z.cps.toList.map Unicode.upperOf).flatten := by
  show (placed z fun _ c => Unicode.upperOf c).toList = _
  unfold placed
  rw [Array.toList_flatten]
  congr 1
  refine List.ext_getElem? fun i => ?_
  simp
  rfl
theorem up_src {z : Str} (h : Src z) : (Txt.upper z).cps.toList = z.cps.toList.map fun c => c - 32 := by
  rw [up_list]
  have : ∀ l : List Nat, (∀ c ∈ l, c ∈ AZ.cps.toList) → (l.map Unicode.upperOf).flatten = l.map fun c => c - 32 := fun l => by
    induction l with
    | nil => intro _; rfl
    | cons c t ih =>
      intro hl
      rw [List.map_cons, List.flatten_cons, (az_up c (hl c List.mem_cons_self)).1, ih fun d hd => hl d (List.mem_cons_of_mem _ hd), List.map_cons]
      rfl
  exact this _ fun c hc => (h.c c hc).2
theorem up_bad {z : Str} (h : Src z) : Bad (Txt.upper z) ∧ (Txt.upper z).length ≤ 1000 := by
  have e := up_src h
  have hl : (Txt.upper z).cps.size = z.cps.size := by rw [sz, e, List.length_map, ← sz]
  have h1 := h.l
  have h6 := h.h
  refine ⟨⟨fun c hc => ?_, by omega, ?_⟩, by show Array.size _ ≤ _; omega⟩
  · rw [e] at hc
    obtain ⟨d, hd, rfl⟩ := List.mem_map.mp hc
    exact (az_up d (h.c d hd).2).2.1
  · obtain ⟨c, r, hc⟩ : ∃ c r, z.cps.toList = c :: r := by
      cases q : z.cps.toList with
      | nil => rw [sz, q] at h1; exact absurd h1 (by simp)
      | cons c r => exact ⟨c, r, rfl⟩
    have hm : c ∈ z.cps.toList := by rw [hc]; simp
    exact wd_sign (c := c - 32) (by rw [e]; exact List.mem_map.mpr ⟨c, hm, rfl⟩) (az_up c (h.c c hm).2).2.2
theorem mul_list {z : Str} (h : Src z) : (Txt.mul z 7).cps.toList = z.cps.toList ++ z.cps.toList ++ z.cps.toList ++ z.cps.toList ++ z.cps.toList ++ z.cps.toList ++ z.cps.toList := by
  have h1 := h.l
  unfold Txt.mul
  rw [if_neg (by decide), if_neg (by
    have : z.length = z.cps.size := rfl
    simp
    omega)]
  show ((((((((#[] ++ z.cps) ++ z.cps) ++ z.cps) ++ z.cps) ++ z.cps) ++ z.cps) ++ z.cps) : Array Nat).toList = _
  simp
theorem mul_bad {z : Str} (h : Src z) : Bad (StrLaws.sliceText (Txt.mul z 7) none (some 7)) ∧ (StrLaws.sliceText (Txt.mul z 7) none (some 7)).length ≤ 100000 := by
  have h1 := h.l
  have e : (StrLaws.sliceText (Txt.mul z 7) none (some 7)).cps.toList = (Txt.mul z 7).cps.toList.take 7 := by rw [show (7 : Int) = ((7 : Nat) : Int) from rfl, slice_pre]
  have hl : (StrLaws.sliceText (Txt.mul z 7) none (some 7)).cps.size = 7 := by
    rw [sz, e, List.length_take, mul_list h]
    simp
    omega
  refine ⟨⟨fun c hc => ?_, by omega, wd_long (by omega)⟩, by show Array.size _ ≤ _; omega⟩
  rw [e, mul_list h] at hc
  have := List.mem_of_mem_take hc
  simp only [List.mem_append, or_self] at this
  exact (h.c c this).1
theorem pre5 {z : Str} (h : Src z) : (∀ c ∈ (StrLaws.sliceText z none (some 5)).cps.toList, c < 128) ∧ (StrLaws.sliceText z none (some 5)).length ≤ 5 := by
  rw [show (5 : Int) = ((5 : Nat) : Int) from rfl, slice_pre]
  refine ⟨fun c hc => (h.c c (List.mem_of_mem_take hc)).1, ?_⟩
  show (List.toArray _).size ≤ _
  rw [List.size_toArray, List.length_take]
  omega
theorem bad_end {x : Str} {c : Nat} {y : Str} (hy : y.cps.toList = [c]) (hx : ∀ d ∈ x.cps.toList, d < 128) (l : x.length ≤ 100) (hc : c < 128) (nc : c ∉ AZ.cps.toList) : Bad (x ++ y) :=
  bad_mid (a := x.cps.toList) (b := []) (by rw [app_cps, hy, List.append_nil]) hx (fun _ z => nomatch z) hc nc (by rw [← sz]; have : x.length = x.cps.size := rfl; simp; omega)
theorem bad_beg {x : Str} {c : Nat} {y : Str} (hy : y.cps.toList = [c]) (hx : ∀ d ∈ x.cps.toList, d < 128) (l : x.length ≤ 100) (hc : c < 128) (nc : c ∉ AZ.cps.toList) : Bad (y ++ x) :=
  bad_mid (a := []) (b := x.cps.toList) (by rw [app_cps, hy, List.nil_append]) (fun _ z => nomatch z) hx hc nc (by rw [← sz]; have : x.length = x.cps.size := rfl; simp; omega)
theorem bad_nil : Bad (("" : String) : Str) := ⟨(fun c (hc : c ∈ ([] : List Nat)) => nomatch hc), by decide, by decide⟩
theorem cut_take (xs : List V) {n : Nat} (h : n ≤ xs.length) : cutV xs none (some (n : Int)) = xs.take n := by
  unfold cutV
  rw [HT.sIx_nat, HT.sIx_none, Nat.min_eq_left h, Nat.sub_zero, List.drop_zero]
theorem cut_drop (xs : List V) {n : Nat} (h : n ≤ xs.length) : cutV xs (some (n : Int)) none = xs.drop n := by
  unfold cutV
  rw [HT.sIx_nat, HT.sIx_none, Nat.min_eq_left h]
  exact List.take_of_length_le (by rw [List.length_drop]; omega)
theorem atI_mem {xs : List V} {d : Int} (h0 : 0 ≤ d) (h1 : d < (xs.length : Int)) : ∃ z, z ∈ xs ∧ atI xs d = some z := by
  obtain ⟨n, rfl⟩ : ∃ n : Nat, d = n := ⟨d.toNat, by omega⟩
  have hn : n < xs.length := by omega
  exact ⟨xs[n], List.getElem_mem hn, atI_nat (List.getElem?_eq_getElem hn)⟩
theorem els_true {K : PySem.W.Frag} {H : Hp} : ∀ {ys : List Str}, (∀ z ∈ ys, Src z) → Paired (El K H) (ys.map V.str) (ys.map fun _ => true)
  | [], _ => .nil
  | y :: r, h => .cons (src_el (h y List.mem_cons_self)) (els_true fun z hz => h z (List.mem_cons_of_mem _ hz))
theorem paired_app {α β : Type} {F : α → β → Prop} : ∀ {xs xs' : List α} {ys ys' : List β}, Paired F xs ys → Paired F xs' ys' → Paired F (xs ++ xs') (ys ++ ys')
  | _, _, _, _, .nil, s => s
  | _, _, _, _, .cons r t, s => .cons r (paired_app t s)
/-- a thing of the menu -/
structure Odd (K : PySem.W.Frag) (p : Addr) (H : Hp) (v : V) : Prop where
  e : El K H v false
  n : v ≠ .ref p
theorem Odd.same {K : PySem.W.Frag} {p : Addr} {H H' : Hp} (s : Same H H') {v : V} (h : Odd K p H v) : Odd K p H' v := ⟨h.e.same s, h.n⟩
theorem Odd.but {K : PySem.W.Frag} {p : Addr} {H H' : Hp} (c : But p H H') {v : V} (h : Odd K p H v) : Odd K p H' v := ⟨h.e.but c h.n, h.n⟩
theorem Bad.odd {K : PySem.W.Frag} {p : Addr} {H : Hp} {z : Str} (h : Bad z) : Odd K p H (.str z) := ⟨h.el, fun z => nomatch z⟩
section
variable {P : Program} {w : World} {K : PySem.W.Frag} {mg : Str → Option Value} {base : Heap} {C : Addr}
inductive sp_spoilt (K : PySem.W.Frag) (vs : List V) (H : Hp) (Q : VK) (E : XK) : Prop
  | mk (p L : Addr) (zs : List Str) (e : vs = [.ref p, .ref L]) (hp : PotAt H p) (hL : H L = some (.lst (zs.map V.str))) (nL : L ≠ p) (ok : Srcs zs) (q : ∀ v H', But p H H' → PotAt H' p → Unf K p H' v → Q v H') : sp_spoilt K vs H Q E
theorem sc_spoilt : FnScope ["_law_pot_here", "_law_sources_here", "_law_at", "_law_name", "_law_odd", "_law_some"] ["_law_pot_here", "_law_sources_here"] (defScope s_law_spoilt) := ⟨rfl, rfl, rfl, by decide +kernel, rfl, by decide +kernel, by decide +kernel⟩
set_option maxHeartbeats 8000000 in
theorem spoilt (T : Txt K mg C) : Can P w K mg base 3 "_law_spoilt" ["_law_pot_here", "_law_sources_here"] (sp_spoilt K) := by
  refine fn_can T.f_law_spoilt sc_spoilt (fun vs H Q E h => ?_) (fun f cdv A outer s H vs Q E hr h => ?_)
  · obtain ⟨p, L, zs, rfl, _⟩ := h
    rfl
  · obtain ⟨p, L, zs, rfl, hp, hL, nL, ok, q⟩ := h
    refine ⟨_, (pss_cons (ps_set (i := 2) sc_spoilt.nd rfl (Or.inl rfl) (pe_can (digit T) hr (pa2 (pv 0) (pe_b (call_lenK K) T.b_len boot_len (pa1 (pv 1))))))
      (pss_cons (ps_set (i := 3) sc_spoilt.nd rfl (Or.inl rfl) (pe_ix (ix_listK K) (pv 1) (pv 2) (fun _ _ => rfl)))
      (pss_cons (ps_set (i := 4) sc_spoilt.nd rfl (Or.inl rfl) (pe_can (odd_names T) hr (pa2 (pv 0) (pv 3))))
      (pss_cons (ps_set (i := 5) sc_spoilt.nd rfl (Or.inl rfl) (pe_lst (pa_cons pe_str (pa_cons (pe_bm0 PySem.F.plainAttrs_str PySem.F.slot_str_upper PySem.F.type_str_upper mt_upper (pv 3)) (pa_cons (pe_op op_add_str (pe_slice sl_str (pv 3) po_none (po_some pe_int)) pe_str) (pa_cons (pe_op op_add_str (pv 3) pe_str) (pa_cons (pe_op op_add_str pe_str (pe_slice sl_str (pv 3) po_none (po_some pe_int))) (pa_cons (pe_slice sl_str (pe_op op_mulS (pv 3) pe_int) po_none (po_some pe_int)) (pa_cons pe_non (pa3 pe_int pe_bl (pe_lst (pa1 (pv 3)))))))))))))
      (pss_cons (ps_set (i := 5) sc_spoilt.nd rfl (Or.inl rfl) (pe_op op_cat (pe_op op_cat (pv 5) (pe_lst (pa_cons (pe_tup (pa1 (pv 3))) (pa_cons (pe_op op_add_str (pe_slice sl_str (pv 3) po_none (po_some pe_int)) pe_str) (pa3 (pe_op op_add_str (pe_slice sl_str (pv 3) po_none (po_some pe_int)) pe_str) (pe_op op_add_str (pe_slice sl_str (pv 3) po_none (po_some pe_int)) pe_str) (pe_lit (pps_cons (pv 3) pe_int pps_nil) rfl rfl (by simp) (by decide))))))) (pv 4)))
      (pss_one (ps_ret (pe_op op_cat (pe_op op_cat (pe_slice (sl_listK K) (pv 1) po_none (po_some (pv 2))) (pe_lst (pa1 (pe_ix (ix_listK K) (pv 5) (pe_can (digit T) hr (pa2 (pv 0) (pe_b (call_lenK K) T.b_len boot_len (pa1 (pv 5))))) (fun _ _ => rfl))))) (pe_slice (sl_listK K) (pv 1) (po_some (pe_op op_add (pv 2) pe_int)) po_none))))))))), ?_⟩
    have h1 := ok.l
    have h6 := ok.h
    refine ⟨_, rfl, _, rfl, L, _, rfl, .inl (.of hL), p, _, rfl, hp, by rw [List.length_map]; omega, by rw [List.length_map]; omega, fun at' H1 a0 a1 c1 p1 => ?_⟩
    rw [List.length_map] at a1
    obtain ⟨n, rfl⟩ : ∃ n : Nat, at' = n := ⟨at'.toNat, by omega⟩
    have hn : n < zs.length := by omega
    have hz : zs[n]? = some zs[n] := List.getElem?_eq_getElem hn
    generalize zs[n] = z at hz
    have hzs : Src z := ok.s z (List.mem_of_getElem? hz)
    have hL1 := c1 _ _ hL nL
    refine ⟨_, rfl, _, rfl, L, _, _, _, rfl, rfl, .of hL1, atI_nat (by rw [List.getElem?_map, hz]; rfl), ?_⟩
    refine ⟨_, rfl, _, rfl, p, z, rfl, p1, hzs, fun O os H2 c2 p2 hO0 hO2 ol hob => ?_⟩
    have hL2 := c2 _ _ hL1 nL
    obtain ⟨b5, l5⟩ := pre5 hzs
    obtain ⟨bu, lu⟩ := up_bad hzs
    obtain ⟨bm, lm⟩ := mul_bad hzs
    have hsz := sizeLine_eq
    have zl := hzs.l
    have zh := hzs.h
    have zz : z.length = z.cps.size := rfl
    have s5 : (StrLaws.sliceText z none (some 5)).length ≤ 100000 := by omega
    have one : ∀ (x : String), (x : Str).length = 1 → (StrLaws.sliceText z none (some 5)).length + (x : Str).length ≤ sizeLine := fun x e => by rw [e]; omega
    refine ⟨_, rfl, rfl, .mk z rfl rfl lu ?_⟩
    refine ⟨_, rfl, _, rfl, z, rfl, s5, _, _, rfl, rfl, one _ (by decide), ?_⟩
    refine ⟨_, rfl, _, _, rfl, rfl, by rw [show ((" " : String) : Str).length = 1 by decide]; omega, ?_⟩
    refine ⟨_, rfl, _, rfl, z, rfl, s5, _, _, rfl, rfl, by rw [show (("_" : String) : Str).length = 1 by decide]; omega, ?_⟩
    refine ⟨_, rfl, ⟨z, 7, rfl, rfl, by decide, by decide, by rw [zz]; show _ * 7 ≤ _; omega, ?_⟩⟩
    refine ⟨_, rfl, _, rfl, lm, ?_⟩
    refine ⟨_, rfl, one_line, fun D1 hD1 => ⟨by rw [hsz]; simp, fun B1 hB1 => ?_⟩⟩
    have t1 := Same.upd (H := H2) (o := .lst [.str z]) hD1
    have hD1' : (upd H2 D1 (.lst [.str z])) D1 = some (.lst [.str z]) := upd_same
    have nD1 : D1 ≠ p := p2.ne hD1
    generalize (upd H2 D1 (.lst [.str z])) = H3 at t1 hD1' hB1
    have p3 := p2.same t1
    have nB1 : B1 ≠ p := p3.ne hB1
    generalize hm1 : ([V.str (("" : String) : Str), .str (Txt.upper z), .str (StrLaws.sliceText z none (some 5) ++ (("1" : String) : Str)), .str (z ++ ((" " : String) : Str)), .str ((("_" : String) : Str) ++ StrLaws.sliceText z none (some 5)), .str (StrLaws.sliceText (Txt.mul z 7) none (some 7)), .non, .int 7, .bl true, .ref D1] : List V) = m1
    have m1l : m1.length = 10 := by rw [← hm1]; rfl
    have t2 := Same.upd (H := H3) (o := .lst m1) hB1
    have hB1' : (upd H3 B1 (.lst m1)) B1 = some (.lst m1) := upd_same
    have o1 : ∀ v ∈ m1, Odd K p (upd H3 B1 (.lst m1)) v := fun v hv => by
      rw [← hm1] at hv
      simp only [List.mem_cons, List.not_mem_nil, or_false] at hv
      rcases hv with rfl | rfl | rfl | rfl | rfl | rfl | rfl | rfl | rfl | rfl
      · exact bad_nil.odd
      · exact bu.odd
      · exact (bad_end (c := 49) (by decide) b5 (by omega) (by decide) (by decide)).odd
      · exact (bad_end (c := 32) (by decide) (src_asc hzs) (by omega) (by decide) (by decide)).odd
      · exact (bad_beg (c := 95) (by decide) b5 (by omega) (by decide) (by decide)).odd
      · exact bm.odd
      · exact ⟨.oth _ .non rfl rfl, fun z => nomatch z⟩
      · exact ⟨.oth _ (.s (.int 7)) rfl rfl, fun z => nomatch z⟩
      · exact ⟨.oth _ (.s (.bl true)) rfl rfl, fun z => nomatch z⟩
      · exact ⟨.oth _ (.s (.lst (t2 _ _ hD1'))) rfl rfl, fun z => nD1 (by cases z; rfl)⟩
    generalize (upd H3 B1 (.lst m1)) = H4 at t2 hB1' o1
    have p4 := p3.same t2
    refine ⟨_, rfl, _, rfl, one_line, fun T1 hT1 => ?_⟩
    have t3 := Same.upd (H := H4) (o := .tup [.str z]) hT1
    have hT1' : (upd H4 T1 (.tup [.str z])) T1 = some (.tup [.str z]) := upd_same
    generalize (upd H4 T1 (.tup [.str z])) = H5 at t3 hT1'
    have p5 := p4.same t3
    have nT1 : T1 ≠ p := p4.ne hT1
    refine ⟨_, rfl, _, rfl, z, rfl, s5, _, _, rfl, rfl, one _ (by decide), ?_⟩
    refine ⟨_, rfl, _, rfl, z, rfl, s5, _, _, rfl, rfl, one _ (by decide), ?_⟩
    refine ⟨_, rfl, _, rfl, z, rfl, s5, _, _, rfl, rfl, one _ (by decide), ?_⟩
    intro Dk hDk
    refine ⟨_, rfl, ⟨upd_same, [(some (.inr z), .int 1)], [(.str z, .int 1)], rfl, List.pairwise_singleton _ _, .cons ⟨rfl, rfl⟩ .nil, ?_⟩⟩
    have t4 : Same H5 (upd (upd H5 Dk (.dK [])) Dk (LitO Dk [(.str z, .int 1)])) := fun bb oo e => by rw [upd_ne (ne_of_none e hDk), upd_ne (ne_of_none e hDk)]; exact e
    have hDk' : (upd (upd H5 Dk (.dK [])) Dk (LitO Dk [(.str z, .int 1)])) Dk = some (LitO Dk [(.str z, .int 1)]) := upd_same
    generalize (upd (upd H5 Dk (.dK [])) Dk (LitO Dk [(.str z, .int 1)])) = H6 at t4 hDk'
    have p6 := p5.same t4
    have nDk : Dk ≠ p := p5.ne hDk
    refine ⟨by rw [hsz]; simp, fun B2 hB2 => ?_⟩
    generalize hm2 : ([V.ref T1, .str (StrLaws.sliceText z none (some 5) ++ (("\n" : String) : Str)), .str (StrLaws.sliceText z none (some 5) ++ (("{" : String) : Str)), .str (StrLaws.sliceText z none (some 5) ++ (("~" : String) : Str)), .ref Dk] : List V) = m2
    have m2l : m2.length = 5 := by rw [← hm2]; rfl
    have t5 := Same.upd (H := H6) (o := .lst m2) hB2
    have hB2' : (upd H6 B2 (.lst m2)) B2 = some (.lst m2) := upd_same
    have o2 : ∀ v ∈ m2, Odd K p (upd H6 B2 (.lst m2)) v := fun v hv => by
      rw [← hm2] at hv
      simp only [List.mem_cons, List.not_mem_nil, or_false] at hv
      rcases hv with rfl | rfl | rfl | rfl | rfl
      · exact ⟨.oth _ (.s (.tup (t5 _ _ (t4 _ _ hT1')))) rfl rfl, fun z => nT1 (by cases z; rfl)⟩
      · exact (bad_end (c := 10) (by decide) b5 (by omega) (by decide) (by decide)).odd
      · exact (bad_end (c := 123) (by decide) b5 (by omega) (by decide) (by decide)).odd
      · exact (bad_end (c := 126) (by decide) b5 (by omega) (by decide) (by decide)).odd
      · exact ⟨.oth _ (.lit (t5 _ _ hDk')) rfl rfl, fun z => nDk (by cases z; rfl)⟩
    generalize (upd H6 B2 (.lst m2)) = H7 at t5 hB2' o2
    have t47 := t3.trans (t4.trans t5)
    refine ⟨B1, B2, m1, m2, rfl, rfl, t47 _ _ hB1', hB2', by rw [m1l, m2l, hsz]; decide, fun B3 hB3 => ?_⟩
    have t6 := Same.upd (H := H7) (o := .lst (m1 ++ m2)) hB3
    have t27 := (t1.trans t2).trans (t47.trans t6)
    refine ⟨_, rfl, B3, O, _, _, rfl, rfl, upd_same, t27 _ _ hO2, by rw [List.length_append, List.length_map, m1l, m2l, ol, hsz]; decide, fun B4 hB4 => ?_⟩
    have t7 := Same.upd (H := upd H7 B3 (.lst (m1 ++ m2))) (o := .lst (m1 ++ m2 ++ os.map V.str)) hB4
    have hB4' : (upd (upd H7 B3 (.lst (m1 ++ m2))) B4 (.lst (m1 ++ m2 ++ os.map V.str))) B4 = some (.lst (m1 ++ m2 ++ os.map V.str)) := upd_same
    have t28 := t27.trans t7
    have p7 : PotAt H7 p := p4.same t47
    have nB4 : B4 ≠ p := (p7.same t6).ne hB4
    have o3 : ∀ v ∈ m1 ++ m2 ++ os.map V.str, Odd K p (upd (upd H7 B3 (.lst (m1 ++ m2))) B4 (.lst (m1 ++ m2 ++ os.map V.str))) v := fun v hv => by
      rcases List.mem_append.mp hv with hv | hv
      · rcases List.mem_append.mp hv with hv | hv
        · exact ((o1 v hv).same t47).same (t6.trans t7)
        · exact (o2 v hv).same (t6.trans t7)
      · obtain ⟨y, hy, rfl⟩ := List.mem_map.mp hv
        exact (hob y hy).odd
    have ml : (m1 ++ m2 ++ os.map V.str).length = 19 := by rw [List.length_append, List.length_append, List.length_map, m1l, m2l, ol]
    generalize (m1 ++ m2 ++ os.map V.str) = m3 at *
    generalize (upd (upd H7 B3 (.lst (m1 ++ m2))) B4 (.lst m3)) = H8 at *
    have p8 := p2.same t28
    have hL8 := t28 _ _ hL2
    refine ⟨_, rfl, _, rfl, _, rfl, L, _, rfl, .of hL8, fun S1 hS1 => ?_⟩
    have u1 := Same.upd (H := H8) (o := .lst (cutV (zs.map V.str) none (some (n : Int)))) hS1
    have hS1' : (upd H8 S1 (.lst (cutV (zs.map V.str) none (some (n : Int))))) S1 = some (.lst (cutV (zs.map V.str) none (some (n : Int)))) := upd_same
    generalize (upd H8 S1 (.lst (cutV (zs.map V.str) none (some (n : Int))))) = H9 at u1 hS1'
    have p9 := p8.same u1
    have nS1 : S1 ≠ p := p8.ne hS1
    refine ⟨_, rfl, _, rfl, _, rfl, B4, _, rfl, .inl (.of (u1 _ _ hB4')), p, _, rfl, p9, by rw [ml]; decide, by rw [ml]; decide +kernel, fun d HA g0 g1 cA pA => ?_⟩
    obtain ⟨v, hv, ev⟩ := atI_mem (xs := m3) g0 g1
    have cA2 : But p H8 HA := u1.but.trans cA
    have ov := (o3 v hv).but cA2
    refine ⟨B4, _, _, v, rfl, rfl, .of (cA2 _ _ hB4' nB4), ev, one_line, fun B5 hB5 => ?_⟩
    have u2 := Same.upd (H := HA) (o := .lst [v]) hB5
    refine ⟨S1, B5, _, _, rfl, rfl, u2 _ _ (cA _ _ hS1' nS1), upd_same, by have := cutV_length (zs.map V.str) none (some (n : Int)); rw [List.length_map] at this; rw [hsz, List.length_singleton]; omega, fun B6 hB6 => ?_⟩
    have u3 := Same.upd (H := upd HA B5 (.lst [v])) (o := .lst (cutV (zs.map V.str) none (some (n : Int)) ++ [v])) hB6
    have hB6' : (upd (upd HA B5 (.lst [v])) B6 (.lst (cutV (zs.map V.str) none (some (n : Int)) ++ [v]))) B6 = some (.lst (cutV (zs.map V.str) none (some (n : Int)) ++ [v])) := upd_same
    have u23 := u2.trans u3
    generalize (upd (upd HA B5 (.lst [v])) B6 (.lst (cutV (zs.map V.str) none (some (n : Int)) ++ [v]))) = HB at u23 hB6'
    have hLB := u23 _ _ (cA2 _ _ hL8 nL)
    refine ⟨_, rfl, _, rfl, _, _, rfl, rfl, _, rfl, L, _, rfl, .of hLB, fun S2 hS2 => ?_⟩
    have u4 := Same.upd (H := HB) (o := .lst (cutV (zs.map V.str) (some ((n : Int) + 1)) none)) hS2
    refine ⟨B6, S2, _, _, rfl, rfl, u4 _ _ hB6', upd_same, ?_, fun R hR => ?_⟩
    · have h1 := cutV_length (zs.map V.str) none (some (n : Int))
      have h2 := cutV_length (zs.map V.str) (some ((n : Int) + 1)) none
      rw [List.length_map] at h1 h2
      rw [hsz, List.length_append, List.length_singleton]
      omega
    have u5 := Same.upd (H := upd HB S2 (.lst (cutV (zs.map V.str) (some ((n : Int) + 1)) none))) (o := .lst (cutV (zs.map V.str) none (some (n : Int)) ++ [v] ++ cutV (zs.map V.str) (some ((n : Int) + 1)) none)) hR
    have uA := u23.trans (u4.trans u5)
    have pB := pA.same u23
    have nR : R ≠ p := (pB.same u4).ne hR
    have ex : cutV (zs.map V.str) none (some (n : Int)) ++ [v] ++ cutV (zs.map V.str) (some ((n : Int) + 1)) none = (zs.take n).map V.str ++ [v] ++ (zs.drop (n + 1)).map V.str := by
      rw [cut_take _ (by rw [List.length_map]; omega), show ((n : Int) + 1) = ((n + 1 : Nat) : Int) by omega, cut_drop _ (by rw [List.length_map]; omega), ← List.map_take, ← List.map_drop]
    have c28 : But p H2 H8 := t28.but
    have cF : But p H _ := c1.trans (c2.trans (c28.trans (cA2.trans uA.but)))
    refine q (.ref R) _ cF (pA.same uA) (.el R _ _ ((zs.take n).map (fun _ => true) ++ [false] ++ (zs.drop (n + 1)).map (fun _ => true)) rfl nR (fun x hx => ?_) upd_same (.inl rfl) ?_ ?_ ?_ ?_)
    · rw [ex] at hx
      simp only [List.mem_append, List.mem_map, List.mem_singleton] at hx
      rcases hx with (⟨y, _, rfl⟩ | rfl) | ⟨y, _, rfl⟩
      · exact fun z => nomatch z
      · exact ov.n
      · exact fun z => nomatch z
    · rw [ex]; simp; omega
    · rw [ex]; simp; omega
    · have hE := ov.e.same uA
      rw [ex] at hE ⊢
      exact paired_app (paired_app (els_true fun y hy => ok.s y (List.mem_of_mem_take hy)) (.cons hE .nil)) (els_true fun y hy => ok.s y (List.mem_of_mem_drop hy))
    · simp
end
end Pr
set_option Elab.async false
set_option linter.all false
set_option maxRecDepth 100000
/-! what is no list of unlike sources -/
namespace Pr
open PySem L2 PyProof.Rows Ent
theorem src_a : Src (("a" : String) : Str) := ⟨by decide, by decide, by decide⟩
theorem src_b : Src (("b" : String) : Str) := ⟨by decide, by decide, by decide⟩
section
variable {P : Program} {w : World} {K : PySem.W.Frag} {mg : Str → Option Value} {base : Heap} {C : Addr}
inductive sp_unfit (K : PySem.W.Frag) (vs : List V) (H : Hp) (Q : VK) (E : XK) : Prop
  | mk (p L : Addr) (zs : List Str) (e : vs = [.ref p, .ref L]) (hp : PotAt H p) (hL : H L = some (.lst (zs.map V.str))) (nL : L ≠ p) (ok : Srcs zs) (q : ∀ v H', But p H H' → PotAt H' p → Unf K p H' v → Q v H') : sp_unfit K vs H Q E
theorem sc_unfit : FnScope ["_law_pot_here", "_law_sources_here", "_law_more", "_law_some", "_law_way"] ["_law_pot_here", "_law_sources_here"] (defScope s_law_unfit) := ⟨rfl, rfl, rfl, by decide +kernel, rfl, by decide +kernel, by decide +kernel⟩
set_option maxHeartbeats 16000000 in
theorem unfit (T : Txt K mg C) : Can P w K mg base 4 "_law_unfit" ["_law_pot_here", "_law_sources_here"] (sp_unfit K) := by
  refine fn_can T.f_law_unfit sc_unfit (fun vs H Q E h => ?_) (fun f cdv A outer s H vs Q E hr h => ?_)
  · obtain ⟨p, L, zs, rfl, _⟩ := h
    rfl
  · obtain ⟨p, L, zs, rfl, hp, hL, nL, ok, q⟩ := h
    refine ⟨_, (pss_cons (ps_set (i := 2) sc_unfit.nd rfl (Or.inl rfl) (pe_lst (pa_cons pe_str (pa_cons pe_str (pa_cons pe_str (pa_cons pe_str (pa3 pe_str pe_str pe_str)))))))
      (pss_cons (ps_set (i := 3) sc_unfit.nd rfl (Or.inl rfl) (pe_lst (pa_cons pe_non (pa_cons pe_int (pa_cons pe_int (pa_cons pe_bl (pa_cons pe_str (pa_cons pe_str (pa_cons pe_str (pa_cons (pe_lst pa_nil) (pa_cons (pe_tup pa_nil) (pa_cons pe_dnewK (pa_cons (pe_lit (pps_cons pe_str pe_int pps_nil) rfl rfl (by simp) (by decide)) (pa_cons (pe_lst (pa1 (pe_lst pa_nil))) (pa_cons (pe_lst (pa1 pe_non)) (pa_cons (pe_lst (pa1 pe_int)) (pa3 (pe_lst (pa1 (pv 1))) (pe_lst (pa2 pe_str pe_str)) (pe_tup (pa2 pe_str pe_str)))))))))))))))))))
      (pss_cons (ps_set (i := 3) sc_unfit.nd rfl (Or.inl rfl) (pe_op op_cat (pv 3) (pe_lst (pa_cons (pv 2) (pa3 (pe_t call_tup_ob T.b_tuple boot_tuple (pa1 (pv 2))) (pe_op op_cat (pv 1) (pe_lst (pa1 (pe_ix (ix_listK K) (pv 1) (pe_can (digit T) hr (pa2 (pv 0) (pe_b (call_lenK K) T.b_len boot_len (pa1 (pv 1))))) (fun _ _ => rfl))))) (pe_lit (pps_cons pe_str pe_int (pps_cons pe_str pe_int pps_nil)) rfl rfl (by simp) (by decide)))))))
      (pss_cons (ps_set (i := 4) sc_unfit.nd rfl (Or.inl rfl) (pe_can (digit T) hr (pa2 (pv 0) (pe_op op_mul pe_int (pe_b (call_lenK K) T.b_len boot_len (pa1 (pv 3)))))))
      (pss_cons (ps_if (pt_cmpR op_lt (pv 4) (pe_b (call_lenK K) T.b_len boot_len (pa1 (pv 3))) (nomark _))
        (pss_one (ps_ret (pe_ix (ix_listK K) (pv 3) (pv 4) (fun _ _ => rfl))))
        pss_nil)
      (pss_one (ps_ret (pe_can (spoilt T) hr (pa2 (pv 0) (pv 1)))))))))), ?_⟩
    have h1 := ok.l
    have h6 := ok.h
    have hsz := sizeLine_eq
    have P0 := hp
    refine ⟨by rw [hsz]; simp, fun M hM => ?_⟩
    have t1 := Same.upd (H := H) (o := .lst [.str "xa", .str "xb", .str "xc", .str "xd", .str "xe", .str "xf", .str "xg"]) hM
    have kM : (upd H M (.lst [.str "xa", .str "xb", .str "xc", .str "xd", .str "xe", .str "xf", .str "xg"])) M = some (.lst [.str "xa", .str "xb", .str "xc", .str "xd", .str "xe", .str "xf", .str "xg"]) := upd_same
    have nM : M ≠ p := P0.ne hM
    generalize (upd H M (.lst [.str "xa", .str "xb", .str "xc", .str "xd", .str "xe", .str "xf", .str "xg"])) = G1 at t1 kM
    have P1 := P0.same t1
    refine ⟨Nat.zero_le _, fun A1 hA1 => ?_⟩
    have t2 := Same.upd (H := G1) (o := .lst []) hA1
    have kA1 : (upd G1 A1 (.lst [])) A1 = some (.lst []) := upd_same
    have nA1 : A1 ≠ p := P1.ne hA1
    generalize (upd G1 A1 (.lst [])) = G2 at t2 kA1
    have P2 := P1.same t2
    refine ⟨Nat.zero_le _, fun A2 hA2 => ?_⟩
    have t3 := Same.upd (H := G2) (o := .tup []) hA2
    have kA2 : (upd G2 A2 (.tup [])) A2 = some (.tup []) := upd_same
    have nA2 : A2 ≠ p := P2.ne hA2
    generalize (upd G2 A2 (.tup [])) = G3 at t3 kA2
    have P3 := P2.same t3
    intro A3 hA3
    have t4 := Same.upd (H := G3) (o := .dK []) hA3
    have kA3 : (upd G3 A3 (.dK [])) A3 = some (.dK []) := upd_same
    have nA3 : A3 ≠ p := P3.ne hA3
    generalize (upd G3 A3 (.dK [])) = G4 at t4 kA3
    have P4 := P3.same t4
    intro A4 hA4
    refine ⟨upd_same, [(some (.inr "a"), .int 1)], [(.str "a", .int 1)], rfl, List.pairwise_singleton _ _, .cons ⟨rfl, rfl⟩ .nil, ?_⟩
    have t5 : Same G4 (upd (upd G4 A4 (.dK [])) A4 (LitO A4 [(.str "a", .int 1)])) := fun bb oo e => by rw [upd_ne (ne_of_none e hA4), upd_ne (ne_of_none e hA4)]; exact e
    have kA4 : (upd (upd G4 A4 (.dK [])) A4 (LitO A4 [(.str "a", .int 1)])) A4 = some (LitO A4 [(.str "a", .int 1)]) := upd_same
    have nA4 : A4 ≠ p := P4.ne hA4
    generalize (upd (upd G4 A4 (.dK [])) A4 (LitO A4 [(.str "a", .int 1)])) = G5 at t5 kA4
    have P5 := P4.same t5
    refine ⟨Nat.zero_le _, fun A5 hA5 => ?_⟩
    have t6 := Same.upd (H := G5) (o := .lst []) hA5
    have kA5 : (upd G5 A5 (.lst [])) A5 = some (.lst []) := upd_same
    have nA5 : A5 ≠ p := P5.ne hA5
    generalize (upd G5 A5 (.lst [])) = G6 at t6 kA5
    have P6 := P5.same t6
    refine ⟨one_line, fun A6 hA6 => ?_⟩
    have t7 := Same.upd (H := G6) (o := .lst [.ref A5]) hA6
    have kA6 : (upd G6 A6 (.lst [.ref A5])) A6 = some (.lst [.ref A5]) := upd_same
    have nA6 : A6 ≠ p := P6.ne hA6
    generalize (upd G6 A6 (.lst [.ref A5])) = G7 at t7 kA6
    have P7 := P6.same t7
    refine ⟨one_line, fun A7 hA7 => ?_⟩
    have t8 := Same.upd (H := G7) (o := .lst [.non]) hA7
    have kA7 : (upd G7 A7 (.lst [.non])) A7 = some (.lst [.non]) := upd_same
    have nA7 : A7 ≠ p := P7.ne hA7
    generalize (upd G7 A7 (.lst [.non])) = G8 at t8 kA7
    have P8 := P7.same t8
    refine ⟨one_line, fun A8 hA8 => ?_⟩
    have t9 := Same.upd (H := G8) (o := .lst [.int 1]) hA8
    have kA8 : (upd G8 A8 (.lst [.int 1])) A8 = some (.lst [.int 1]) := upd_same
    have nA8 : A8 ≠ p := P8.ne hA8
    generalize (upd G8 A8 (.lst [.int 1])) = G9 at t9 kA8
    have P9 := P8.same t9
    refine ⟨_, rfl, one_line, fun A9 hA9 => ?_⟩
    have t10 := Same.upd (H := G9) (o := .lst [.ref L]) hA9
    have kA9 : (upd G9 A9 (.lst [.ref L])) A9 = some (.lst [.ref L]) := upd_same
    have nA9 : A9 ≠ p := P9.ne hA9
    generalize (upd G9 A9 (.lst [.ref L])) = G10 at t10 kA9
    have P10 := P9.same t10
    refine ⟨two_line', fun Aa hAa => ?_⟩
    have t11 := Same.upd (H := G10) (o := .lst [.str "a", .str "a"]) hAa
    have kAa : (upd G10 Aa (.lst [.str "a", .str "a"])) Aa = some (.lst [.str "a", .str "a"]) := upd_same
    have nAa : Aa ≠ p := P10.ne hAa
    generalize (upd G10 Aa (.lst [.str "a", .str "a"])) = G11 at t11 kAa
    have P11 := P10.same t11
    refine ⟨two_line', fun Ab hAb => ?_⟩
    have t12 := Same.upd (H := G11) (o := .tup [.str "b", .str "b"]) hAb
    have kAb : (upd G11 Ab (.tup [.str "b", .str "b"])) Ab = some (.tup [.str "b", .str "b"]) := upd_same
    have nAb : Ab ≠ p := P11.ne hAb
    generalize (upd G11 Ab (.tup [.str "b", .str "b"])) = G12 at t12 kAb
    have P12 := P11.same t12
    refine ⟨by rw [hsz]; simp, fun B1 hB1 => ?_⟩
    have t13 := Same.upd (H := G12) (o := .lst [.non, .int 0, .int 1, .bl true, .str "", .str "a", .str "ab", .ref A1, .ref A2, .ref A3, .ref A4, .ref A6, .ref A7, .ref A8, .ref A9, .ref Aa, .ref Ab]) hB1
    have kB1 : (upd G12 B1 (.lst [.non, .int 0, .int 1, .bl true, .str "", .str "a", .str "ab", .ref A1, .ref A2, .ref A3, .ref A4, .ref A6, .ref A7, .ref A8, .ref A9, .ref Aa, .ref Ab])) B1 = some (.lst [.non, .int 0, .int 1, .bl true, .str "", .str "a", .str "ab", .ref A1, .ref A2, .ref A3, .ref A4, .ref A6, .ref A7, .ref A8, .ref A9, .ref Aa, .ref Ab]) := upd_same
    have nB1 : B1 ≠ p := P12.ne hB1
    generalize (upd G12 B1 (.lst [.non, .int 0, .int 1, .bl true, .str "", .str "a", .str "ab", .ref A1, .ref A2, .ref A3, .ref A4, .ref A6, .ref A7, .ref A8, .ref A9, .ref Aa, .ref Ab])) = G13 at t13 kB1
    have P13 := P12.same t13
    have e12 := t13
    have e11 := t12.trans e12
    have e10 := t11.trans e11
    have e9 := t10.trans e10
    have e8 := t9.trans e9
    have e7 := t8.trans e8
    have e6 := t7.trans e7
    have e5 := t6.trans e6
    have e4 := t5.trans e5
    have e3 := t4.trans e4
    have e2 := t3.trans e3
    have e1 := t2.trans e2
    have e0 := t1.trans e1
    have rr : ∀ {a : Addr}, a ≠ p → V.ref a ≠ .ref p := fun n z => n (by cases z; rfl)
    have o1 : ∀ v ∈ ([.non, .int 0, .int 1, .bl true, .str "", .str "a", .str "ab", .ref A1, .ref A2, .ref A3, .ref A4, .ref A6, .ref A7, .ref A8, .ref A9, .ref Aa, .ref Ab] : List V), Unf K p G13 v := fun v hv => by
      simp only [List.mem_cons, List.not_mem_nil, or_false] at hv
      rcases hv with rfl | rfl | rfl | rfl | rfl | rfl | rfl | rfl | rfl | rfl | rfl | rfl | rfl | rfl | rfl | rfl | rfl
      · exact .ty _ (fun z => nomatch z) .non rfl
      · exact .ty _ (fun z => nomatch z) (.s (.int _)) rfl
      · exact .ty _ (fun z => nomatch z) (.s (.int _)) rfl
      · exact .ty _ (fun z => nomatch z) (.s (.bl _)) rfl
      · exact .ty _ (fun z => nomatch z) (.str _) rfl
      · exact .ty _ (fun z => nomatch z) (.str _) rfl
      · exact .ty _ (fun z => nomatch z) (.str _) rfl
      · exact .len A1 _ [] rfl nA1 (e2 _ _ kA1) (.inl rfl) (.inl rfl)
      · exact .len A2 _ [] rfl nA2 (e3 _ _ kA2) (.inr rfl) (.inl rfl)
      · exact .ty _ (rr nA3) (.dK (e4 _ _ kA3)) rfl
      · exact .ty _ (rr nA4) (.lit (e5 _ _ kA4)) rfl
      · exact .el A6 _ [.ref A5] [false] rfl nA6 (fun x hx => by rw [List.mem_singleton.mp hx]; exact rr nA5) (e7 _ _ kA6) (.inl rfl) (by simp) (by simp) (.cons (.oth _ (.s (.lst (e6 _ _ kA5))) rfl rfl) .nil) rfl
      · exact .el A7 _ [.non] [false] rfl nA7 (fun x hx => by rw [List.mem_singleton.mp hx]; exact fun z => nomatch z) (e8 _ _ kA7) (.inl rfl) (by simp) (by simp) (.cons (.oth _ .non rfl rfl) .nil) rfl
      · exact .el A8 _ [.int 1] [false] rfl nA8 (fun x hx => by rw [List.mem_singleton.mp hx]; exact fun z => nomatch z) (e9 _ _ kA8) (.inl rfl) (by simp) (by simp) (.cons (.oth _ (.s (.int 1)) rfl rfl) .nil) rfl
      · exact .el A9 _ [.ref L] [false] rfl nA9 (fun x hx => by rw [List.mem_singleton.mp hx]; exact rr nL) (e10 _ _ kA9) (.inl rfl) (by simp) (by simp) (.cons (.oth _ (.s (.lst (e0 _ _ hL))) rfl rfl) .nil) rfl
      · exact .dup Aa _ ["a", "a"] rfl nAa (e11 _ _ kAa) (.inl rfl) (by simp) (by simp) (fun z hz => by simp at hz; rw [hz]; exact src_a) (by decide)
      · exact .dup Ab _ ["b", "b"] rfl nAb (e12 _ _ kAb) (.inr rfl) (by simp) (by simp) (fun z hz => by simp at hz; rw [hz]; exact src_b) (by decide)
    have kM13 := e1 _ _ kM
    have hL13 := e0 _ _ hL
    generalize hm1 : ([.non, .int 0, .int 1, .bl true, .str "", .str "a", .str "ab", .ref A1, .ref A2, .ref A3, .ref A4, .ref A6, .ref A7, .ref A8, .ref A9, .ref Aa, .ref Ab] : List V) = m1 at kB1 o1
    have m1l : m1.length = 17 := by rw [← hm1]; rfl
    refine ⟨_, rfl, _, rfl, _, rfl, M, _, _, rfl, kM13, .inl rfl, fun tm G14 t14 ktm => ?_⟩
    have P14 := P13.same t14
    refine ⟨_, rfl, _, rfl, _, rfl, _, rfl, L, _, rfl, .inl (.of (t14 _ _ hL13)), p, _, rfl, P14, by rw [List.length_map]; omega, by rw [List.length_map]; omega, fun d G15 g0 g1 c15 P15 => ?_⟩
    rw [List.length_map] at g1
    obtain ⟨n, rfl⟩ : ∃ n : Nat, d = n := ⟨d.toNat, by omega⟩
    have hn : n < zs.length := by omega
    have hz : zs[n]? = some zs[n] := List.getElem?_eq_getElem hn
    generalize zs[n] = z at hz
    have hzm : z ∈ zs := List.mem_of_getElem? hz
    have c13 : But p G13 G15 := t14.but.trans c15
    have hL15 := c13 _ _ hL13 nL
    have ntm : tm ≠ p := fun z => by
      obtain ⟨x1, y1, h⟩ := P14
      rw [z, h] at ktm; cases ktm
    refine ⟨L, _, _, _, rfl, rfl, .of hL15, atI_nat (by rw [List.getElem?_map, hz]; rfl), one_line, fun D1 hD1 => ?_⟩
    have t16 := Same.upd (H := G15) (o := .lst [.str z]) hD1
    refine ⟨L, D1, _, _, rfl, rfl, t16 _ _ hL15, upd_same, by rw [List.length_map, List.length_singleton, hsz]; omega, fun D2 hD2 => ?_⟩
    have t17 := Same.upd (H := upd G15 D1 (.lst [.str z])) (o := .lst (zs.map V.str ++ [.str z])) hD2
    have kD2 : (upd (upd G15 D1 (.lst [.str z])) D2 (.lst (zs.map V.str ++ [.str z]))) D2 = some (.lst ((zs ++ [z]).map V.str)) := by rw [upd_same, List.map_append]; rfl
    have t167 := t16.trans t17
    have nD2 : D2 ≠ p := (P15.same t16).ne hD2
    generalize (upd (upd G15 D1 (.lst [.str z])) D2 (.lst (zs.map V.str ++ [.str z]))) = G17 at t167 kD2
    have P17 := P15.same t167
    intro D3 hD3
    refine ⟨upd_same, [(some (.inr "a"), .int 1), (some (.inr "b"), .int 2)], [(.str "a", .int 1), (.str "b", .int 2)], rfl, by decide, .cons ⟨rfl, rfl⟩ (.cons ⟨rfl, rfl⟩ .nil), ?_⟩
    have t18 : Same G17 (upd (upd G17 D3 (.dK [])) D3 (LitO D3 [(.str "a", .int 1), (.str "b", .int 2)])) := fun bb oo e => by rw [upd_ne (ne_of_none e hD3), upd_ne (ne_of_none e hD3)]; exact e
    have kD3 : (upd (upd G17 D3 (.dK [])) D3 (LitO D3 [(.str "a", .int 1), (.str "b", .int 2)])) D3 = some (LitO D3 [(.str "a", .int 1), (.str "b", .int 2)]) := upd_same
    have nD3 : D3 ≠ p := P17.ne hD3
    generalize (upd (upd G17 D3 (.dK [])) D3 (LitO D3 [(.str "a", .int 1), (.str "b", .int 2)])) = G18 at t18 kD3
    have P18 := P17.same t18
    refine ⟨by rw [hsz]; simp, fun D4 hD4 => ?_⟩
    have t19 := Same.upd (H := G18) (o := .lst [.ref M, .ref tm, .ref D2, .ref D3]) hD4
    have c1319 : But p G13 (upd G18 D4 (.lst [.ref M, .ref tm, .ref D2, .ref D3])) := c13.trans ((t167.trans (t18.trans t19)).but)
    have o2 : ∀ v ∈ ([.ref M, .ref tm, .ref D2, .ref D3] : List V), Unf K p (upd G18 D4 (.lst [.ref M, .ref tm, .ref D2, .ref D3])) v := fun v hv => by
      simp only [List.mem_cons, List.not_mem_nil, or_false] at hv
      rcases hv with rfl | rfl | rfl | rfl
      · exact .len M _ _ rfl nM (c1319 _ _ kM13 nM) (.inl rfl) (.inr (by simp))
      · exact .len tm _ _ rfl ntm (t19 _ _ (t18 _ _ (t167 _ _ (c15 _ _ ktm ntm)))) (.inr rfl) (.inr (by simp))
      · by_cases h : zs.length = 6
        · exact .len D2 _ _ rfl nD2 (t19 _ _ (t18 _ _ kD2)) (.inl rfl) (.inr (by rw [List.length_map, List.length_append]; simp; omega))
        · refine .dup D2 _ (zs ++ [z]) rfl nD2 (t19 _ _ (t18 _ _ kD2)) (.inl rfl) (by simp) (by simp; omega) (fun y hy => ?_) ?_
          · rcases List.mem_append.mp hy with hy | hy
            · exact ok.s y hy
            · rw [List.mem_singleton.mp hy]; exact ok.s z hzm
          · rw [List.map_append, List.map_singleton, allK_snoc, addK_in (mem_allK.mpr (List.mem_map_of_mem hzm)), allK_nodup (nd_inr ok.nd), List.length_map, List.length_append]
            simp
      · exact .ty _ (rr nD3) (.lit (t19 _ _ kD3)) rfl
    have nB1 := nB1
    refine ⟨B1, D4, m1, _, rfl, rfl, c1319 _ _ kB1 nB1, upd_same, by rw [m1l, hsz]; simp, fun D5 hD5 => ?_⟩
    have t20 := Same.upd (H := upd G18 D4 (.lst [.ref M, .ref tm, .ref D2, .ref D3])) (o := .lst (m1 ++ [.ref M, .ref tm, .ref D2, .ref D3])) hD5
    have kD5 : (upd (upd G18 D4 (.lst [.ref M, .ref tm, .ref D2, .ref D3])) D5 (.lst (m1 ++ [.ref M, .ref tm, .ref D2, .ref D3]))) D5 = some (.lst (m1 ++ [.ref M, .ref tm, .ref D2, .ref D3])) := upd_same
    have c1320 := c1319.trans t20.but
    have P20 := (P18.same t19).same t20
    have nD5 : D5 ≠ p := (P18.same t19).ne hD5
    have o3 : ∀ v ∈ m1 ++ [.ref M, .ref tm, .ref D2, .ref D3], Unf K p (upd (upd G18 D4 (.lst [.ref M, .ref tm, .ref D2, .ref D3])) D5 (.lst (m1 ++ [.ref M, .ref tm, .ref D2, .ref D3]))) v := fun v hv => by
      rcases List.mem_append.mp hv with hv | hv
      · exact (o1 v hv).but c1320
      · exact (o2 v hv).same t20
    have ml : (m1 ++ [V.ref M, .ref tm, .ref D2, .ref D3]).length = 21 := by rw [List.length_append, m1l]; rfl
    generalize (m1 ++ [V.ref M, .ref tm, .ref D2, .ref D3]) = m3 at *
    generalize (upd (upd G18 D4 (.lst [.ref M, .ref tm, .ref D2, .ref D3])) D5 (.lst m3)) = G20 at *
    refine ⟨_, rfl, _, rfl, D5, _, rfl, .inl (.of kD5), _, _, rfl, rfl, .inl ⟨by decide, by decide⟩, p, _, rfl, P20, by rw [ml]; decide, by rw [ml]; decide +kernel, fun way G21 w0 w1 c21 P21 => ?_⟩
    have kD51 := c21 _ _ kD5 nD5
    have cH : But p H G21 := e0.but.trans (c1320.trans c21)
    refine ⟨_, rfl, _, rfl, D5, _, rfl, .inl (.of kD51), _, _, rfl, rfl, _, rfl, iteB (fun h => ?_) (fun h => ?_)⟩
    · obtain ⟨v, hv, ev⟩ := atI_mem (xs := m3) w0 (of_decide_eq_true h)
      exact ⟨_, rfl, _, rfl, D5, _, _, v, rfl, rfl, .of kD51, ev, q v _ cH P21 ((o3 v hv).but c21)⟩
    · exact ⟨_, rfl, _, rfl, p, L, zs, rfl, P21, cH _ _ hL nL, nL, ok, fun v G22 c22 P22 u => q v _ (cH.trans c22) P22 u⟩
end
end Pr
set_option Elab.async false
set_option linter.all false
set_option maxRecDepth 100000
/-! orders that are others -/
namespace Pr
open PySem L2 PyProof.Rows Ent
abbrev L7 : List Str := ["a", "b", "c", "d", "e", "f", "g"]
theorem l7_src : ∀ z ∈ L7, Src z := fun z hz => by
  simp only [List.mem_cons, List.not_mem_nil, or_false] at hz
  rcases hz with rfl | rfl | rfl | rfl | rfl | rfl | rfl <;> exact ⟨by decide, by decide, by decide⟩
theorem l7_nd : L7.Nodup := by decide
theorem l7_new {zs : List Str} (h : zs.length ≤ 6) : ∃ z r, L7.filter (fun x => decide (x ∉ zs)) = z :: r := by
  cases e : L7.filter (fun x => decide (x ∉ zs)) with
  | cons z r => exact ⟨z, r, rfl⟩
  | nil =>
    have : ∀ x ∈ L7, x ∈ zs := fun x hx => by
      have := List.filter_eq_nil_iff.mp e x hx
      simpa using this
    have := few l7_nd this
    exact absurd this (by show ¬ 7 ≤ _; omega)
/-- an order that is another -/
inductive Oth (K : PySem.W.Frag) (p : Addr) (zs : List Str) (H : Hp) (v : V) : Prop
  | unf (h : Unf K p H v) : Oth K p zs H v
  | oth (a : Addr) (ys : List Str) (e : v = .ref a) (n : a ≠ p) (h : H a = some (.lst (ys.map V.str))) (ok : Srcs ys) (np : ¬ ys.Perm zs) : Oth K p zs H v
theorem Oth.same {K : PySem.W.Frag} {p : Addr} {zs : List Str} {H H' : Hp} (s : Same H H') {v : V} (h : Oth K p zs H v) : Oth K p zs H' v := by
  cases h with
  | unf h => exact .unf (h.same s)
  | oth a ys e n h ok np => exact .oth a ys e n (s _ _ h) ok np
theorem Oth.but {K : PySem.W.Frag} {p : Addr} {zs : List Str} {H H' : Hp} (c : But p H H') {v : V} (h : Oth K p zs H v) : Oth K p zs H' v := by
  cases h with
  | unf h => exact .unf (h.but c)
  | oth a ys e n h ok np => exact .oth a ys e n (c _ _ h n) ok np
theorem oth_less {K : PySem.W.Frag} {p R : Addr} {zs : List Str} {H : Hp} {n : Nat} (ok : Srcs zs) (hn : n < zs.length) (nR : R ≠ p) (h : H R = some (.lst ((zs.take n ++ zs.drop (n + 1)).map V.str))) : Oth K p zs H (.ref R) := by
  have hl : (zs.take n ++ zs.drop (n + 1)).length = zs.length - 1 := by rw [List.length_append, List.length_take, List.length_drop]; omega
  have h6 := ok.h
  have e := List.eraseIdx_eq_take_drop_succ zs n
  by_cases z : zs.length = 1
  · exact .unf (.len R _ _ rfl nR h (.inl rfl) (.inl (by rw [List.length_map, hl]; omega)))
  · refine .oth R _ rfl nR h ⟨by omega, by omega, ?_, fun y hy => ok.s y ?_⟩ fun p => ?_
    · rw [← e]; exact List.Sublist.nodup (List.eraseIdx_sublist ..) ok.nd
    · rw [← e] at hy; exact (List.eraseIdx_sublist ..).subset hy
    · have := p.length_eq
      omega
theorem oth_more {K : PySem.W.Frag} {p R : Addr} {zs : List Str} {H : Hp} {w : Str} (ok : Srcs zs) (hw : Src w) (nw : w ∉ zs) (nR : R ≠ p) (h : H R = some (.lst ((zs ++ [w]).map V.str))) : Oth K p zs H (.ref R) := by
  have h6 := ok.h
  by_cases z : zs.length = 6
  · exact .unf (.len R _ _ rfl nR h (.inl rfl) (.inr (by rw [List.length_map, List.length_append, z, List.length_singleton]; decide)))
  · refine .oth R _ rfl nR h ⟨by simp, by simp; omega, ?_, fun y hy => ?_⟩ fun p => ?_
    · exact List.nodup_append.mpr ⟨ok.nd, List.pairwise_singleton _ _, fun a ha b hb e => nw (by rw [List.mem_singleton.mp hb] at e; exact e ▸ ha)⟩
    · rcases List.mem_append.mp hy with hy | hy
      · exact ok.s y hy
      · rw [List.mem_singleton.mp hy]; exact hw
    · have := p.length_eq
      simp at this
theorem oth_twice {K : PySem.W.Frag} {p R : Addr} {zs : List Str} {H : Hp} {w : Str} (ok : Srcs zs) (hw : w ∈ zs) (nR : R ≠ p) (h : H R = some (.lst ((zs ++ [w]).map V.str))) : Oth K p zs H (.ref R) := by
  have h6 := ok.h
  by_cases z : zs.length = 6
  · exact .unf (.len R _ _ rfl nR h (.inl rfl) (.inr (by rw [List.length_map, List.length_append, z, List.length_singleton]; decide)))
  · refine .unf (.dup R _ (zs ++ [w]) rfl nR h (.inl rfl) (by simp) (by simp; omega) (fun y hy => ?_) ?_)
    · rcases List.mem_append.mp hy with hy | hy
      · exact ok.s y hy
      · rw [List.mem_singleton.mp hy]; exact ok.s w hw
    · rw [List.map_append, List.map_singleton, allK_snoc, addK_in (mem_allK.mpr (List.mem_map_of_mem hw)), allK_nodup (nd_inr ok.nd), List.length_map, List.length_append]
      simp
theorem oth_put {K : PySem.W.Frag} {p R : Addr} {zs : List Str} {H : Hp} {n : Nat} {w : Str} (ok : Srcs zs) (hn : n < zs.length) (hw : Src w) (nw : w ∉ zs) (nR : R ≠ p) (h : H R = some (.lst ((zs.take n ++ [w] ++ zs.drop (n + 1)).map V.str))) : Oth K p zs H (.ref R) := by
  have h6 := ok.h
  have e := List.eraseIdx_eq_take_drop_succ zs n
  have pm : (zs.take n ++ [w] ++ zs.drop (n + 1)).Perm (w :: (zs.take n ++ zs.drop (n + 1))) := by rw [List.append_assoc]; exact List.perm_middle
  have sub : ∀ y ∈ zs.take n ++ zs.drop (n + 1), y ∈ zs := fun y hy => by rw [← e] at hy; exact (List.eraseIdx_sublist ..).subset hy
  have hl : (zs.take n ++ [w] ++ zs.drop (n + 1)).length = zs.length := by rw [List.length_append, List.length_append, List.length_take, List.length_drop, List.length_singleton]; omega
  refine .oth R _ rfl nR h ⟨by omega, by omega, ?_, fun y hy => ?_⟩ fun p => nw (p.mem_iff.mp (by simp))
  · rw [pm.nodup_iff, List.nodup_cons]
    refine ⟨fun z => nw (sub w z), ?_⟩
    rw [← e]; exact List.Sublist.nodup (List.eraseIdx_sublist ..) ok.nd
  · rcases List.mem_cons.mp (pm.mem_iff.mp hy) with rfl | hy
    · exact hw
    · exact ok.s y (sub y hy)
theorem bad_z7 : Bad (("zzzzzzz" : String) : Str) := ⟨fun c (hc : c ∈ [122, 122, 122, 122, 122, 122, 122]) => by simp at hc; omega, by decide, by decide⟩
theorem oth_long {K : PySem.W.Frag} {p R : Addr} {zs : List Str} {H : Hp} {w : Str} (ok : Srcs zs) (hw : w ∈ zs) (nR : R ≠ p) (h : H R = some (.lst (V.str w :: ((zs.drop 1).map V.str ++ [.str "zzzzzzz"])))) : Oth K p zs H (.ref R) := by
  have h1 := ok.l
  have h6 := ok.h
  have hl : (V.str w :: ((zs.drop 1).map V.str ++ [V.str "zzzzzzz"])).length = zs.length + 1 := by rw [List.length_cons, List.length_append, List.length_map, List.length_drop, List.length_singleton]; omega
  by_cases z : zs.length = 6
  · exact .unf (.len R _ _ rfl nR h (.inl rfl) (.inr (by omega)))
  · refine .unf (.el R _ _ (true :: ((zs.drop 1).map (fun _ => true) ++ [false])) rfl nR (fun x hx => ?_) h (.inl rfl) (by omega) (by omega) (.cons (src_el (ok.s w hw)) (paired_app (els_true fun y hy => ok.s y (List.mem_of_mem_drop hy)) (.cons bad_z7.el .nil))) (by simp))
    simp only [List.mem_cons, List.mem_append, List.mem_map, List.not_mem_nil, or_false] at hx
    rcases hx with rfl | ⟨y, _, rfl⟩ | rfl
    · exact fun z => nomatch z
    · exact fun z => nomatch z
    · exact fun z => nomatch z
section
variable {P : Program} {w : World} {K : PySem.W.Frag} {mg : Str → Option Value} {base : Heap} {C : Addr}
inductive sp_other_order (K : PySem.W.Frag) (vs : List V) (H : Hp) (Q : VK) (E : XK) : Prop
  | mk (p L : Addr) (zs : List Str) (e : vs = [.ref p, .ref L]) (hp : PotAt H p) (hL : H L = some (.lst (zs.map V.str))) (nL : L ≠ p) (ok : Srcs zs) (q : ∀ v H', But p H H' → PotAt H' p → Oth K p zs H' v → Q v H') : sp_other_order K vs H Q E
theorem sc_other_order : FnScope ["_law_pot_here", "_law_sources_here", "_law_at", "_law_new", "_law_some"] ["_law_pot_here", "_law_sources_here"] (defScope s_law_other_order) := ⟨rfl, rfl, rfl, by decide +kernel, rfl, by decide +kernel, by decide +kernel⟩
set_option maxHeartbeats 16000000 in
theorem other_order (T : Txt K mg C) : Can P w K mg base 2 "_law_other_order" ["_law_pot_here", "_law_sources_here"] (sp_other_order K) := by
  refine fn_can T.f_law_other_order sc_other_order (fun vs H Q E h => ?_) (fun f cdv A outer s H vs Q E hr h => ?_)
  · obtain ⟨p, L, zs, rfl, _⟩ := h
    rfl
  · obtain ⟨p, L, zs, rfl, hp, hL, nL, ok, q⟩ := h
    refine ⟨_, (pss_cons (ps_set (i := 2) sc_other_order.nd rfl (Or.inl rfl) (pe_can (digit T) hr (pa2 (pv 0) (pe_b (call_lenK K) T.b_len boot_len (pa1 (pv 1))))))
      (pss_cons (ps_set (i := 3) sc_other_order.nd rfl (Or.inl rfl) (pe_ix (ix_listK K) (pe_lc rfl (lcS sc_other_order) (pi_listK K (pe_lst (pa_cons pe_str (pa_cons pe_str (pa_cons pe_str (pa_cons pe_str (pa3 pe_str pe_str pe_str))))))) (fun _ _ _ _ => (pts_one (pt_cmpR (op_notIn_seqK K) (pv 0) (pv 2) rfl))) (fun _ _ _ _ => (pv 0))) pe_int (fun _ _ => rfl)))
      (pss_cons (ps_set (i := 4) sc_other_order.nd rfl (Or.inl rfl) (pe_lst (pa3 (pe_op op_cat (pe_slice (sl_listK K) (pv 1) po_none (po_some (pv 2))) (pe_slice (sl_listK K) (pv 1) (po_some (pe_op op_add (pv 2) pe_int)) po_none)) (pe_op op_cat (pv 1) (pe_lst (pa1 (pv 3)))) (pe_op op_cat (pv 1) (pe_lst (pa1 (pe_ix (ix_listK K) (pv 1) (pv 2) (fun _ _ => rfl))))))))
      (pss_cons (ps_set (i := 4) sc_other_order.nd rfl (Or.inl rfl) (pe_op op_cat (pv 4) (pe_lst (pa2 (pe_op op_cat (pe_op op_cat (pe_slice (sl_listK K) (pv 1) po_none (po_some (pv 2))) (pe_lst (pa1 (pv 3)))) (pe_slice (sl_listK K) (pv 1) (po_some (pe_op op_add (pv 2) pe_int)) po_none)) (pe_op op_cat (pe_op op_cat (pe_lst (pa1 (pe_ix (ix_listK K) (pv 1) (pe_op op_sub (pv 2) pe_int) (fun _ _ => rfl)))) (pe_slice (sl_listK K) (pv 1) (po_some pe_int) po_none)) (pe_lst (pa1 pe_str)))))))
      (pss_one (ps_ret (pe_ix (ix_listK K) (pv 4) (pe_can (digit T) hr (pa2 (pv 0) (pe_b (call_lenK K) T.b_len boot_len (pa1 (pv 4))))) (fun _ _ => rfl)))))))), ?_⟩
    have h1 := ok.l
    have h6 := ok.h
    have hsz := sizeLine_eq
    refine ⟨_, rfl, _, rfl, L, _, rfl, .inl (.of hL), p, _, rfl, hp, by rw [List.length_map]; omega, by rw [List.length_map]; omega, fun at' H1 a0 a1 c1 p1 => ?_⟩
    rw [List.length_map] at a1
    obtain ⟨n, rfl⟩ : ∃ n : Nat, at' = n := ⟨at'.toNat, by omega⟩
    have hn : n < zs.length := by omega
    have hz : zs[n]? = some zs[n] := List.getElem?_eq_getElem hn
    generalize zs[n] = z at hz
    have hzm : z ∈ zs := List.mem_of_getElem? hz
    have hL1 := c1 _ _ hL nL
    refine ⟨by rw [hsz]; simp, fun B0 hB0 => ?_⟩
    have t0 := Same.upd (H := H1) (o := .lst [.str "a", .str "b", .str "c", .str "d", .str "e", .str "f", .str "g"]) hB0
    have kB0 : (upd H1 B0 (.lst [.str "a", .str "b", .str "c", .str "d", .str "e", .str "f", .str "g"])) B0 = some (.lst (L7.map V.str)) := upd_same
    refine ⟨B0, rfl, ⟨L7.map V.str, .of kB0⟩, fun D hD => ?_⟩
    generalize (upd H1 B0 (.lst [.str "a", .str "b", .str "c", .str "d", .str "e", .str "f", .str "g"])) = G0 at t0 kB0 hD ⊢
    have hL0 := t0 _ _ hL1
    refine lc_list (xs := L7.map V.str) (fun i ys G1 => G1 D = some (.lst ys) ∧ ys = ((L7.take i).filter fun x => decide (x ∉ zs)).map V.str ∧ Same G0 G1) ⟨upd_same, rfl, Same.upd hD⟩ (fun i ys G1 h => ⟨h.1, .of (h.2.2 _ _ kB0)⟩) (fun ys G1 h => ?_) fun i x ys G1 hi hx h => ?_
    rotate_left
    · obtain ⟨d1, rfl, d3⟩ := h
      rw [List.getElem?_map] at hx
      obtain ⟨y, hy, rfl⟩ := Option.map_eq_some_iff.mp hx
      have tk : L7.take (i + 1) = L7.take i ++ [y] := by rw [List.take_add_one, hy]; rfl
      have hll : (((L7.take i).filter fun x => decide (x ∉ zs)).map V.str).length ≤ i := by
        rw [List.length_map]
        exact Nat.le_trans (List.length_filter_le _ _) (by rw [List.length_take]; omega)
      refine ⟨_, rfl, _, rfl, L, _, rfl, .inl (.of (d3 _ _ hL0)), rfl, flat_strs zs, _, rfl, ?_⟩
      by_cases h : y ∈ zs
      · refine iteN (by rw [inV_str]; simp [h]) (LcNo.mk hi ⟨d1, ?_, d3⟩)
        rw [tk, List.filter_append]
        simp [h]
      · refine iteC (by rw [inV_str]; simp [h]) ⟨_, rfl, LcNx.mk hi (by rw [List.length_map]; decide) hll d1 ⟨upd_same, ?_, fun bb oo e => ?_⟩⟩
        · rw [tk, List.filter_append, List.map_append]
          simp [h]
        · rw [upd_ne (ne_of_none e hD)]
          exact d3 _ _ e
    obtain ⟨d1, rfl, d3⟩ := h
    rw [List.length_map, List.take_length] at d1
    obtain ⟨nw, rr, hnw⟩ := l7_new h6
    rw [hnw] at d1
    have hnm : nw ∈ L7.filter (fun x => decide (x ∉ zs)) := by rw [hnw]; simp
    have nsrc : Src nw := l7_src nw (List.mem_filter.mp hnm).1
    have nno : nw ∉ zs := of_decide_eq_true (List.mem_filter.mp hnm).2
    refine ⟨D, _, _, _, rfl, rfl, .of d1, atI_nat (j := 0) rfl, ?_⟩
    have g1 := t0.trans d3
    have P0 := p1.same g1
    have k0 := g1 _ _ hL1
    have ct : cutV (zs.map V.str) none (some (n : Int)) = (zs.take n).map V.str := by rw [cut_take _ (by rw [List.length_map]; omega), ← List.map_take]
    have cd : cutV (zs.map V.str) (some ((n : Int) + 1)) none = (zs.drop (n + 1)).map V.str := by rw [show ((n : Int) + 1) = ((n + 1 : Nat) : Int) by omega, cut_drop _ (by rw [List.length_map]; omega), ← List.map_drop]
    have cd1 : cutV (zs.map V.str) (some 1) none = (zs.drop 1).map V.str := by rw [show (1 : Int) = ((1 : Nat) : Int) from rfl, cut_drop _ (by rw [List.length_map]; omega), ← List.map_drop]
    have lt : ((zs.take n).map V.str).length ≤ 6 := by rw [List.length_map, List.length_take]; omega
    have ld : ((zs.drop (n + 1)).map V.str).length ≤ 6 := by rw [List.length_map, List.length_drop]; omega
    have ld1 : ((zs.drop 1).map V.str).length ≤ 6 := by rw [List.length_map, List.length_drop]; omega
    have lz : (zs.map V.str).length ≤ 6 := by rw [List.length_map]; omega
    have atz : atI (zs.map V.str) (n : Int) = some (.str z) := atI_nat (by rw [List.getElem?_map, hz]; rfl)
    obtain ⟨z2, hz2, at2⟩ : ∃ z2, z2 ∈ zs ∧ atI (zs.map V.str) ((n : Int) - 1) = some (.str z2) := by
      by_cases h : n = 0
      · subst h
        rcases List.eq_nil_or_concat zs with e | ⟨r, l, e⟩
        · rw [e] at h1; exact absurd h1 (by simp)
        · rw [List.concat_eq_append] at e
          refine ⟨l, by rw [e]; simp, ?_⟩
          rw [e, List.map_append]
          exact atI_last _ _
      · refine ⟨zs[n - 1], List.getElem_mem _, ?_⟩
        rw [show (n : Int) - 1 = ((n - 1 : Nat) : Int) by omega]
        exact atI_nat (by rw [List.getElem?_map, List.getElem?_eq_getElem (by omega)]; rfl)
    generalize G1 = K0 at *
    refine ⟨_, rfl, _, rfl, _, rfl, L, _, rfl, .of k0, fun S1 hS1 => ?_⟩
    rw [ct]
    skip
    have t1 := Same.upd (H := K0) (o := .lst ((zs.take n).map V.str)) hS1
    have kS1 : (upd K0 S1 (.lst ((zs.take n).map V.str))) S1 = some (.lst ((zs.take n).map V.str)) := upd_same
    have nS1 : S1 ≠ p := P0.ne hS1
    generalize (upd K0 S1 (.lst ((zs.take n).map V.str))) = K1 at t1 kS1
    have P1 := P0.same t1
    have k1 := t1 _ _ k0
    refine ⟨_, rfl, _, rfl, _, _, rfl, rfl, _, rfl, L, _, rfl, .of k1, fun S2 hS2 => ?_⟩
    rw [cd]
    skip
    have t2 := Same.upd (H := K1) (o := .lst ((zs.drop (n + 1)).map V.str)) hS2
    have kS2 : (upd K1 S2 (.lst ((zs.drop (n + 1)).map V.str))) S2 = some (.lst ((zs.drop (n + 1)).map V.str)) := upd_same
    have nS2 : S2 ≠ p := P1.ne hS2
    generalize (upd K1 S2 (.lst ((zs.drop (n + 1)).map V.str))) = K2 at t2 kS2
    have P2 := P1.same t2
    have k2 := t2 _ _ k1
    refine ⟨S1, S2, _, _, rfl, rfl, t2 _ _ kS1, kS2, by rw [hsz]; omega, fun R1 hR1 => ?_⟩
    have t3 := Same.upd (H := K2) (o := .lst ((zs.take n).map V.str ++ (zs.drop (n + 1)).map V.str)) hR1
    have kR1 : (upd K2 R1 (.lst ((zs.take n).map V.str ++ (zs.drop (n + 1)).map V.str))) R1 = some (.lst ((zs.take n).map V.str ++ (zs.drop (n + 1)).map V.str)) := upd_same
    have nR1 : R1 ≠ p := P2.ne hR1
    generalize (upd K2 R1 (.lst ((zs.take n).map V.str ++ (zs.drop (n + 1)).map V.str))) = K3 at t3 kR1
    have P3 := P2.same t3
    have k3 := t3 _ _ k2
    refine ⟨_, rfl, _, rfl, one_line, fun E1 hE1 => ?_⟩
    have t4 := Same.upd (H := K3) (o := .lst [.str nw]) hE1
    have kE1 : (upd K3 E1 (.lst [.str nw])) E1 = some (.lst [.str nw]) := upd_same
    have nE1 : E1 ≠ p := P3.ne hE1
    generalize (upd K3 E1 (.lst [.str nw])) = K4 at t4 kE1
    have P4 := P3.same t4
    have k4 := t4 _ _ k3
    refine ⟨L, E1, _, _, rfl, rfl, k4, kE1, by rw [hsz, List.length_singleton]; omega, fun R2 hR2 => ?_⟩
    have t5 := Same.upd (H := K4) (o := .lst (zs.map V.str ++ [.str nw])) hR2
    have kR2 : (upd K4 R2 (.lst (zs.map V.str ++ [.str nw]))) R2 = some (.lst (zs.map V.str ++ [.str nw])) := upd_same
    have nR2 : R2 ≠ p := P4.ne hR2
    generalize (upd K4 R2 (.lst (zs.map V.str ++ [.str nw]))) = K5 at t5 kR2
    have P5 := P4.same t5
    have k5 := t5 _ _ k4
    refine ⟨_, rfl, _, rfl, _, rfl, L, _, _, _, rfl, rfl, .of k5, atz, one_line, fun E2 hE2 => ?_⟩
    have t6 := Same.upd (H := K5) (o := .lst [.str z]) hE2
    have kE2 : (upd K5 E2 (.lst [.str z])) E2 = some (.lst [.str z]) := upd_same
    have nE2 : E2 ≠ p := P5.ne hE2
    generalize (upd K5 E2 (.lst [.str z])) = K6 at t6 kE2
    have P6 := P5.same t6
    have k6 := t6 _ _ k5
    refine ⟨L, E2, _, _, rfl, rfl, k6, kE2, by rw [hsz, List.length_singleton]; omega, fun R3 hR3 => ?_⟩
    have t7 := Same.upd (H := K6) (o := .lst (zs.map V.str ++ [.str z])) hR3
    have kR3 : (upd K6 R3 (.lst (zs.map V.str ++ [.str z]))) R3 = some (.lst (zs.map V.str ++ [.str z])) := upd_same
    have nR3 : R3 ≠ p := P6.ne hR3
    generalize (upd K6 R3 (.lst (zs.map V.str ++ [.str z]))) = K7 at t7 kR3
    have P7 := P6.same t7
    have k7 := t7 _ _ k6
    refine ⟨by rw [hsz]; simp, fun B1 hB1 => ?_⟩
    have t8 := Same.upd (H := K7) (o := .lst [.ref R1, .ref R2, .ref R3]) hB1
    have kB1 : (upd K7 B1 (.lst [.ref R1, .ref R2, .ref R3])) B1 = some (.lst [.ref R1, .ref R2, .ref R3]) := upd_same
    have nB1 : B1 ≠ p := P7.ne hB1
    generalize (upd K7 B1 (.lst [.ref R1, .ref R2, .ref R3])) = K8 at t8 kB1
    have P8 := P7.same t8
    have k8 := t8 _ _ k7
    refine ⟨_, rfl, ?_⟩
    refine ⟨_, rfl, _, rfl, _, rfl, L, _, rfl, .of k8, fun S3 hS3 => ?_⟩
    rw [ct]
    skip
    have t9 := Same.upd (H := K8) (o := .lst ((zs.take n).map V.str)) hS3
    have kS3 : (upd K8 S3 (.lst ((zs.take n).map V.str))) S3 = some (.lst ((zs.take n).map V.str)) := upd_same
    have nS3 : S3 ≠ p := P8.ne hS3
    generalize (upd K8 S3 (.lst ((zs.take n).map V.str))) = K9 at t9 kS3
    have P9 := P8.same t9
    have k9 := t9 _ _ k8
    refine ⟨_, rfl, one_line, fun E3 hE3 => ?_⟩
    have t10 := Same.upd (H := K9) (o := .lst [.str nw]) hE3
    have kE3 : (upd K9 E3 (.lst [.str nw])) E3 = some (.lst [.str nw]) := upd_same
    have nE3 : E3 ≠ p := P9.ne hE3
    generalize (upd K9 E3 (.lst [.str nw])) = K10 at t10 kE3
    have P10 := P9.same t10
    have k10 := t10 _ _ k9
    refine ⟨S3, E3, _, _, rfl, rfl, t10 _ _ kS3, kE3, by rw [hsz, List.length_singleton]; omega, fun R4 hR4 => ?_⟩
    have t11 := Same.upd (H := K10) (o := .lst ((zs.take n).map V.str ++ [.str nw])) hR4
    have kR4 : (upd K10 R4 (.lst ((zs.take n).map V.str ++ [.str nw]))) R4 = some (.lst ((zs.take n).map V.str ++ [.str nw])) := upd_same
    have nR4 : R4 ≠ p := P10.ne hR4
    generalize (upd K10 R4 (.lst ((zs.take n).map V.str ++ [.str nw]))) = K11 at t11 kR4
    have P11 := P10.same t11
    have k11 := t11 _ _ k10
    refine ⟨_, rfl, _, rfl, _, _, rfl, rfl, _, rfl, L, _, rfl, .of k11, fun S4 hS4 => ?_⟩
    rw [cd]
    skip
    have t12 := Same.upd (H := K11) (o := .lst ((zs.drop (n + 1)).map V.str)) hS4
    have kS4 : (upd K11 S4 (.lst ((zs.drop (n + 1)).map V.str))) S4 = some (.lst ((zs.drop (n + 1)).map V.str)) := upd_same
    have nS4 : S4 ≠ p := P11.ne hS4
    generalize (upd K11 S4 (.lst ((zs.drop (n + 1)).map V.str))) = K12 at t12 kS4
    have P12 := P11.same t12
    have k12 := t12 _ _ k11
    refine ⟨R4, S4, _, _, rfl, rfl, t12 _ _ kR4, kS4, by rw [hsz, List.length_append, List.length_singleton]; omega, fun R5 hR5 => ?_⟩
    have t13 := Same.upd (H := K12) (o := .lst ((zs.take n).map V.str ++ [.str nw] ++ (zs.drop (n + 1)).map V.str)) hR5
    have kR5 : (upd K12 R5 (.lst ((zs.take n).map V.str ++ [.str nw] ++ (zs.drop (n + 1)).map V.str))) R5 = some (.lst ((zs.take n).map V.str ++ [.str nw] ++ (zs.drop (n + 1)).map V.str)) := upd_same
    have nR5 : R5 ≠ p := P12.ne hR5
    generalize (upd K12 R5 (.lst ((zs.take n).map V.str ++ [.str nw] ++ (zs.drop (n + 1)).map V.str))) = K13 at t13 kR5
    have P13 := P12.same t13
    have k13 := t13 _ _ k12
    refine ⟨_, rfl, _, rfl, _, _, rfl, rfl, L, _, _, _, rfl, rfl, .of k13, at2, one_line, fun E4 hE4 => ?_⟩
    have t14 := Same.upd (H := K13) (o := .lst [.str z2]) hE4
    have kE4 : (upd K13 E4 (.lst [.str z2])) E4 = some (.lst [.str z2]) := upd_same
    have nE4 : E4 ≠ p := P13.ne hE4
    generalize (upd K13 E4 (.lst [.str z2])) = K14 at t14 kE4
    have P14 := P13.same t14
    have k14 := t14 _ _ k13
    refine ⟨_, rfl, _, rfl, L, _, rfl, .of k14, fun S5 hS5 => ?_⟩
    rw [cd1]
    skip
    have t15 := Same.upd (H := K14) (o := .lst ((zs.drop 1).map V.str)) hS5
    have kS5 : (upd K14 S5 (.lst ((zs.drop 1).map V.str))) S5 = some (.lst ((zs.drop 1).map V.str)) := upd_same
    have nS5 : S5 ≠ p := P14.ne hS5
    generalize (upd K14 S5 (.lst ((zs.drop 1).map V.str))) = K15 at t15 kS5
    have P15 := P14.same t15
    have k15 := t15 _ _ k14
    refine ⟨E4, S5, _, _, rfl, rfl, t15 _ _ kE4, kS5, by rw [hsz, List.length_singleton]; omega, fun R6 hR6 => ?_⟩
    have t16 := Same.upd (H := K15) (o := .lst ([.str z2] ++ (zs.drop 1).map V.str)) hR6
    have kR6 : (upd K15 R6 (.lst ([.str z2] ++ (zs.drop 1).map V.str))) R6 = some (.lst ([.str z2] ++ (zs.drop 1).map V.str)) := upd_same
    have nR6 : R6 ≠ p := P15.ne hR6
    generalize (upd K15 R6 (.lst ([.str z2] ++ (zs.drop 1).map V.str))) = K16 at t16 kR6
    have P16 := P15.same t16
    have k16 := t16 _ _ k15
    refine ⟨one_line, fun E5 hE5 => ?_⟩
    have t17 := Same.upd (H := K16) (o := .lst [.str "zzzzzzz"]) hE5
    have kE5 : (upd K16 E5 (.lst [.str "zzzzzzz"])) E5 = some (.lst [.str "zzzzzzz"]) := upd_same
    have nE5 : E5 ≠ p := P16.ne hE5
    generalize (upd K16 E5 (.lst [.str "zzzzzzz"])) = K17 at t17 kE5
    have P17 := P16.same t17
    have k17 := t17 _ _ k16
    refine ⟨R6, E5, _, _, rfl, rfl, t17 _ _ kR6, kE5, by rw [hsz, List.length_append, List.length_singleton, List.length_singleton]; omega, fun R7 hR7 => ?_⟩
    have t18 := Same.upd (H := K17) (o := .lst ([.str z2] ++ (zs.drop 1).map V.str ++ [.str "zzzzzzz"])) hR7
    have kR7 : (upd K17 R7 (.lst ([.str z2] ++ (zs.drop 1).map V.str ++ [.str "zzzzzzz"]))) R7 = some (.lst ([.str z2] ++ (zs.drop 1).map V.str ++ [.str "zzzzzzz"])) := upd_same
    have nR7 : R7 ≠ p := P17.ne hR7
    generalize (upd K17 R7 (.lst ([.str z2] ++ (zs.drop 1).map V.str ++ [.str "zzzzzzz"]))) = K18 at t18 kR7
    have P18 := P17.same t18
    have k18 := t18 _ _ k17
    refine ⟨two_line', fun B2 hB2 => ?_⟩
    have t19 := Same.upd (H := K18) (o := .lst [.ref R5, .ref R7]) hB2
    have kB2 : (upd K18 B2 (.lst [.ref R5, .ref R7])) B2 = some (.lst [.ref R5, .ref R7]) := upd_same
    have nB2 : B2 ≠ p := P18.ne hB2
    generalize (upd K18 B2 (.lst [.ref R5, .ref R7])) = K19 at t19 kB2
    have P19 := P18.same t19
    have k19 := t19 _ _ k18
    have e18 := t19
    have e17 := t18.trans e18
    have e16 := t17.trans e17
    have e15 := t16.trans e16
    have e14 := t15.trans e15
    have e13 := t14.trans e14
    have e12 := t13.trans e13
    have e11 := t12.trans e12
    have e10 := t11.trans e11
    have e9 := t10.trans e10
    have e8 := t9.trans e9
    have e7 := t8.trans e8
    have e6 := t7.trans e7
    have e5 := t6.trans e6
    have e4 := t5.trans e5
    have e3 := t4.trans e4
    refine ⟨B1, B2, _, _, rfl, rfl, e8 _ _ kB1, kB2, by rw [hsz]; simp, fun B3 hB3 => ?_⟩
    have t20 := Same.upd (H := K19) (o := .lst ([.ref R1, .ref R2, .ref R3] ++ [.ref R5, .ref R7])) hB3
    have kB3 : (upd K19 B3 (.lst ([.ref R1, .ref R2, .ref R3] ++ [.ref R5, .ref R7]))) B3 = some (.lst ([.ref R1, .ref R2, .ref R3] ++ [.ref R5, .ref R7])) := upd_same
    have nB3 : B3 ≠ p := P19.ne hB3
    have o1 : ∀ v ∈ ([.ref R1, .ref R2, .ref R3] ++ [.ref R5, .ref R7] : List V), Oth K p zs K19 v := fun v hv => by
      simp only [List.mem_append, List.mem_cons, List.not_mem_nil, or_false] at hv
      rcases hv with (rfl | rfl | rfl) | rfl | rfl
      · exact oth_less ok hn nR1 (by rw [List.map_append]; exact e3 _ _ kR1)
      · exact oth_more ok nsrc nno nR2 (by rw [List.map_append]; exact e5 _ _ kR2)
      · exact oth_twice ok hzm nR3 (by rw [List.map_append]; exact e7 _ _ kR3)
      · exact oth_put ok hn nsrc nno nR5 (by rw [List.map_append, List.map_append]; exact e13 _ _ kR5)
      · exact oth_long ok hz2 nR7 (e18 _ _ kR7)
    generalize (upd K19 B3 (.lst ([.ref R1, .ref R2, .ref R3] ++ [.ref R5, .ref R7]))) = K20 at t20 kB3
    have P20 := P19.same t20
    have sK : Same H1 K20 := g1.trans ((t1.trans (t2.trans (t3.trans e3))).trans t20)
    refine ⟨_, rfl, _, rfl, _, rfl, B3, _, rfl, .inl (.of kB3), p, _, rfl, P20, by simp, by show (5 : Int) < _; decide +kernel, fun d K21 w0 w1 c21 P21 => ?_⟩
    obtain ⟨v, hv, ev⟩ := atI_mem (xs := [V.ref R1, .ref R2, .ref R3] ++ [.ref R5, .ref R7]) w0 w1
    exact ⟨B3, _, _, v, rfl, rfl, .of (c21 _ _ kB3 nB3), ev, q v _ (c1.trans (sK.but.trans c21)) P21 (((o1 v hv).same t20).but c21)⟩
end
end Pr
set_option Elab.async false
set_option linter.all false
set_option maxRecDepth 100000
/-! a book's state -/
namespace Pr
open PySem L2 PyProof.Rows Ent
/-- what is kept: all but the pot, what is told, tables -/
def K3 (p d : Addr) (H H' : Hp) : Prop := ∀ b o, H b = some o → b ≠ p → b ≠ d → (∀ ps, o ≠ .tbl ps) → H' b = some o
inductive CntV (H : Hp) (v : V) (c : Option En) : Prop
  | non (e : v = .non) (h : c = none) : CntV H v c
  | some (x : En) (e : EntT H v x) (h : c = some x) : CntV H v c
/-- a state that was told -/
structure StV (p d : Addr) (H : Hp) (t : Addr) (os : List Str) (es : List En) (rs : List (Str × Int × Int)) (c : Option En) : Prop where
  ex : ∃ D1 D2 D3 ys2 ys3 v4, H t = some (.tup [.ref D1, .ref D2, .ref D3, v4]) ∧ H D1 = some (.lst (os.map V.str)) ∧ H D2 = some (.lst ys2) ∧ Paired (EntT H) ys2 es ∧ H D3 = some (.lst ys3) ∧ Paired (RowT H) ys3 rs ∧ CntV H v4 c ∧ (D1 ≠ p ∧ D2 ≠ p ∧ D3 ≠ p)
theorem StV.keep {p d : Addr} {H H' : Hp} {t : Addr} {os : List Str} {es : List En} {rs : List (Str × Int × Int)} {c : Option En} {kvs : List (List Key × V)} (hp : PotAt H p) (hd : H d = some (.dT kvs)) (k : K3 p d H H') (h : StV p d H t os es rs c) : StV p d H' t os es rs c := by
  obtain ⟨D1, D2, D3, ys2, ys3, v4, h0, h1, h2, h3, h4, h5, h6, n1, n2, n3⟩ := h.ex
  have kt : ∀ b xs, H b = some (.tup xs) → H' b = some (.tup xs) := fun b xs e => k _ _ e (fun z => by
      obtain ⟨x, y, hp⟩ := hp
      rw [z, hp] at e; cases e) (fun z => by rw [z, hd] at e; cases e) fun _ z => nomatch z
  have kl : ∀ b xs, H b = some (.lst xs) → b ≠ p → H' b = some (.lst xs) := fun b xs e n => k _ _ e n (fun z => by rw [z, hd] at e; cases e) fun _ z => nomatch z
  have ke : ∀ {x : V} {e : En}, EntT H x e → EntT H' x e := fun ⟨a, e1, e2⟩ => ⟨a, e1, kt _ _ e2⟩
  refine ⟨D1, D2, D3, ys2, ys3, v4, kt _ _ h0, kl _ _ h1 n1, kl _ _ h2 n2, Paired.mapP h3 fun _ _ z => ke z, kl _ _ h4 n3, Paired.mapP h5 fun _ _ ⟨a, e1, e2⟩ => ⟨a, e1, kt _ _ e2⟩, ?_, n1, n2, n3⟩
  cases h6 with
  | non e h => exact .non e h
  | some x e h => exact .some x (ke e) h
def rD (r : Str × Int × Int) : PyData := .tuple [.str r.1, .int r.2.1, .int r.2.2]
def cD : Option En → PyData
  | none => .none
  | some e => eD e
def stD (os : List Str) (es : List En) (rs : List (Str × Int × Int)) (c : Option En) : PyData := .tuple [.list (os.map .str), .list (es.map eD), .list (rs.map rD), cD c]
theorem dat_cons {H : Hp} {d : PyData} {ds : List PyData} {x : V} {xs : List V} (h : Dat H d x) (t : DatAll H ds xs) : DatAll H (d :: ds) (x :: xs) := by
  unfold DatAll
  exact ⟨x, xs, rfl, h, t⟩
theorem dat_nil0 {H : Hp} : DatAll H [] [] := by unfold DatAll; rfl
theorem dat_lst {H : Hp} {a : Addr} {xs : List V} {ds : List PyData} (h : H a = some (.lst xs)) (t : DatAll H ds xs) : Dat H (.list ds) (.ref a) := by unfold Dat; exact ⟨a, xs, rfl, h, t⟩
theorem dat_tup {H : Hp} {a : Addr} {xs : List V} {ds : List PyData} (h : H a = some (.tup xs)) (t : DatAll H ds xs) : Dat H (.tuple ds) (.ref a) := by unfold Dat; exact ⟨a, xs, rfl, h, t⟩
theorem dat_ents {H : Hp} : ∀ {ys : List V} {es : List En}, Paired (EntT H) ys es → DatAll H (es.map eD) ys
  | _, _, .nil => dat_nil0
  | _, _, .cons h t => dat_cons h.dat (dat_ents t)
theorem dat_rows {H : Hp} : ∀ {ys : List V} {rs : List (Str × Int × Int)}, Paired (RowT H) ys rs → DatAll H (rs.map rD) ys
  | _, _, .nil => dat_nil0
  | _, _, .cons h t => by
    obtain ⟨a, rfl, h⟩ := h
    exact dat_cons (dat_tup h (dat_cons (by unfold Dat; rfl) (dat_cons (by unfold Dat; rfl) (dat_cons (by unfold Dat; rfl) dat_nil0)))) (dat_rows t)
theorem StV.dat {p d : Addr} {H : Hp} {t : Addr} {os : List Str} {es : List En} {rs : List (Str × Int × Int)} {c : Option En} (h : StV p d H t os es rs c) : Dat H (stD os es rs c) (.ref t) := by
  obtain ⟨D1, D2, D3, ys2, ys3, v4, h0, h1, h2, h3, h4, h5, h6, _⟩ := h.ex
  refine dat_tup h0 (dat_cons (dat_lst h1 (strs_dat _ _)) (dat_cons (dat_lst h2 (dat_ents h3)) (dat_cons (dat_lst h4 (dat_rows h5)) (dat_cons ?_ dat_nil0))))
  cases h6 with
  | non e h => subst e h; unfold cD Dat; rfl
  | some x e h => subst h; exact e.dat
section
variable {P : Program} {w : World} {K : PySem.W.Frag} {mg : Str → Option Value} {base : Heap} {C : Addr}
inductive sp_state (C : Addr) (vs : List V) (H : Hp) (Q : VK) (E : XK) : Prop
  | mk (b d : Addr) (os : List Str) (m : TM) (k : Str) (p : Addr) (e : vs = [.ref b, .str k]) (h : BookAt C H b d os m) (hp : PotAt H p) (hl : os.length ≤ 6) (hm : m.length < 1000) (hk : (allK (m.map fun q => (Sum.inr q.1.2 : Key))).length < 64) (hs : ∀ q ∈ m, q.1.1 ∈ os)
      (q : ∀ t es H', Same H H' → AllM os m es → StV p d H' t os es (tellsM os m k) (countedM os m k) → Q (.ref t) H') : sp_state C vs H Q E
theorem sc_state : FnScope ["_law_book", "_law_key"] ["_law_book", "_law_key"] (defScope s_law_state) := ⟨rfl, rfl, rfl, by decide +kernel, rfl, by decide +kernel, by decide +kernel⟩
set_option maxHeartbeats 4000000 in
theorem state (T : Txt K mg C) : Can P w K mg base 6 "_law_state" ["_law_book", "_law_key"] (sp_state C) := by
  refine fn_can T.f_law_state sc_state (fun vs H Q E h => ?_) (fun f cdv A outer s H vs Q E hr h => ?_)
  · obtain ⟨b, d, os, m, k, p, rfl, _⟩ := h
    rfl
  · obtain ⟨b, d, os, m, k, p, rfl, hB, hp, hl, hm, hk, hs, q⟩ := h
    refine ⟨_, (pss_one (ps_ret (pe_tup (pa_cons (pe_canM0 (pv 0) T.cl (order T) hr) (pa3 (pe_canM0 (pv 0) T.cl (entries T) hr) (pe_canM (pv 0) T.cl (tells T) hr (pa1 (pv 1))) (pe_canM (pv 0) T.cl (counted T) hr (pa1 (pv 1)))))))), ?_⟩
    have bk : ∀ {H' : Hp}, Same H H' → ∃ dx f, H' b = some (.ins C dx [("best_first", .ref f), ("told", .ref d)]) := fun s => by
      obtain ⟨dx, f, kvs, hb, _⟩ := hB.same s
      exact ⟨dx, f, hb⟩
    obtain ⟨dx, f1, hb⟩ := bk (Same.refl H)
    refine ⟨_, rfl, b, dx, _, rfl, hb, rfl, b, d, os, m, rfl, hB, fun D1 hD1 => ?_⟩
    have s1 := Same.upd (H := H) (o := .lst (os.map V.str)) hD1
    have k1 : (upd H D1 (.lst (os.map V.str))) D1 = some (.lst (os.map V.str)) := upd_same
    generalize (upd H D1 (.lst (os.map V.str))) = H1 at s1 k1
    refine ⟨_, rfl, b, dx, _, rfl, s1 _ _ hb, rfl, b, d, os, m, rfl, hB.same s1, hl, hm, hk, hs, fun D2 ys2 H2 es s2 hD2 k2 pe2 am => ?_⟩
    have s02 := s1.trans s2
    refine ⟨_, rfl, b, dx, _, rfl, s02 _ _ hb, rfl, _, rfl, b, d, os, m, k, rfl, hB.same s02, hl, fun D3 ys3 H3 s3 hD3 k3 pe3 => ?_⟩
    have s03 := s02.trans s3
    have fin : ∀ (v4 : V) (H4 : Hp), Same H3 H4 → CntV H4 v4 (countedM os m k) → 4 ≤ sizeLine ∧ ∀ t, H4 t = none → Q (.ref t) (upd H4 t (.tup [.ref D1, .ref D2, .ref D3, v4])) := fun v4 H4 s4 cv => by
      refine ⟨by decide, fun t ht => ?_⟩
      have s5 := Same.upd (H := H4) (o := .tup [.ref D1, .ref D2, .ref D3, v4]) ht
      have s25 := s3.trans (s4.trans s5)
      refine q t es _ (s02.trans s25) am ⟨D1, D2, D3, ys2, ys3, v4, upd_same, s25 _ _ (s2 _ _ k1), s25 _ _ k2, Paired.mapP pe2 fun _ _ z => z.same s25, (s4.trans s5) _ _ k3, Paired.mapP pe3 fun _ _ z => z.same (s4.trans s5), ?_, hp.ne hD1, (hp.same s1).ne hD2, (hp.same s02).ne hD3⟩
      cases cv with
      | non e h => exact .non e h
      | some x e h => exact .some x (e.same s5) h
    refine ⟨_, rfl, b, dx, _, rfl, s03 _ _ hb, rfl, _, rfl, b, d, os, m, k, rfl, hB.same s03, hl, fun hc H4 s4 => fin _ _ s4 (.non rfl hc), fun e hc x H4 s4 he => fin _ _ s4 (.some e he hc)⟩
end
end Pr
set_option Elab.async false
set_option linter.all false
set_option maxRecDepth 100000
namespace L2
open PySem PyProof.Rows
variable {K : PySem.W.Frag} {x qual : Str} {st : Stmt} {g : Addr} {fd : FuncData} {p q r s t u v : Str}
end L2
set_option Elab.async false
set_option linter.all false
set_option maxRecDepth 100000
/-! the law of sources refused -/
namespace Pr
open PySem L2 PyProof.Rows Ent
abbrev q1 : Str := "law.<locals>.<lambda>"
theorem bp_al {T : Addr} {q : Str} {H H1 : Hp} (t : TabOk H T q) (b : ButP T H H1) : ∀ a o, H a = some o → (∀ ps, o ≠ .tbl ps) → H1 a = some o := fun a o e n => by
  obtain ⟨ps, h, _⟩ := t
  exact b a o e fun z => by rw [z, h] at e; exact n ps (Option.some.inj e).symm
theorem tab_same {T : Addr} {q : Str} {H H1 : Hp} (t : TabOk H T q) (s : Same H H1) : TabOk H1 T q := t.keep fun b o e _ => s b o e
/-- all but tables is kept -/
def KT (H H' : Hp) : Prop := ∀ b o, H b = some o → (∀ ps, o ≠ .tbl ps) → H' b = some o
theorem KT.seq {K : PySem.W.Frag} {H H' : Hp} {a : Addr} {xs : List V} (k : KT H H') (h : SqL K H a xs) : SqL K H' a xs := by
  rcases h with h | h
  · rcases h with h | ⟨o, h⟩
    · exact .inl (.inl (k _ _ h (fun _ z => nomatch z)))
    · exact .inl (.inr ⟨o, k _ _ h (fun _ z => nomatch z)⟩)
  · exact .inr h
theorem tab_keep2 {H H' : Hp} {T : Addr} {q : Str} (t : TabOk H T q) (h1 : ∀ ps, H T = some (.tbl ps) → H' T = some (.tbl ps)) (h2 : ∀ b o u, H b = some (.frz o u) → H' b = some (.frz o u)) : TabOk H' T q := by
  obtain ⟨ps, h, ok, at_⟩ := t
  refine ⟨ps, h1 _ h, ok, fun pos cv e => ?_⟩
  obtain ⟨c, oc, vs, t, e1, e2, e3⟩ := at_ pos cv e
  exact ⟨c, oc, vs, t, e1, h2 _ _ _ e2, e3⟩
theorem tab_but {p : Addr} {H H' : Hp} {T : Addr} {q : Str} (t : TabOk H T q) (hp : PotAt H p) (c : But p H H') : TabOk H' T q := by
  obtain ⟨x, y, hp⟩ := hp
  exact tab_keep2 t (fun ps e => c _ _ e fun z => by rw [z, hp] at e; cases e) fun b o u e => c _ _ e fun z => by rw [z, hp] at e; cases e
theorem KT.trans {H H' H'' : Hp} (a : KT H H') (c : KT H' H'') : KT H H'' := fun b o e n => c _ _ (a _ _ e n) n
theorem KT.same {H H' : Hp} (s : Same H H') : KT H H' := fun b o e _ => s _ _ e
theorem TyW.kt {H H' : Hp} (al : KT H H') {v : V} {t : Value} (h : TyW H v t) : TyW H' v t := by
  cases h with
  | s h =>
    cases h with
    | bl b => exact .s (.bl b)
    | int i => exact .s (.int i)
    | lst e => exact .s (.lst (al _ _ e (fun _ z => nomatch z)))
    | tup e => exact .s (.tup (al _ _ e (fun _ z => nomatch z)))
  | non => exact .non
  | str x => exact .str x
  | dK e => exact .dK (al _ _ e (fun _ z => nomatch z))
  | lit e => exact .lit (al _ _ e (fun _ z => nomatch z))
theorem ob_kt {H H' : Hp} (al : KT H H') {p : Addr} {o : HO} {xs : List V} (h : H p = some o) (ob : Ob o xs) : H' p = some o := by
  rcases ob with rfl | rfl
  · exact al _ _ h (fun _ z => nomatch z)
  · exact al _ _ h (fun _ z => nomatch z)
theorem El.kt {K : PySem.W.Frag} {H H' : Hp} (al : KT H H') {v : V} {b : Bool} (h : El K H v b) : El K H' v b := by
  cases h with
  | str z e asc l eb => exact .str z e asc l eb
  | oth t h k eb => exact .oth t (TyW.kt al h) k eb
theorem Unf.kt {K : PySem.W.Frag} {q : Addr} {H H' : Hp} (al : KT H H') {v : V} (h : Unf K q H v) : Unf K q H' v := by
  cases h with
  | ty t n h k => exact .ty t n (TyW.kt al h) k
  | len p o xs e n h ob l => exact .len p o xs e n (ob_kt al h ob) ob l
  | el p o xs bs e n nx h ob l1 l2 hb no => exact .el p o xs bs e n nx (ob_kt al h ob) ob l1 l2 (Paired.mapP hb fun _ _ z => z.kt al) no
  | dup p o zs e n h ob l1 l2 hs no => exact .dup p o zs e n (ob_kt al h ob) ob l1 l2 hs no
theorem Oth.kt {K : PySem.W.Frag} {p : Addr} {zs : List Str} {H H' : Hp} (al : KT H H') {v : V} (h : Oth K p zs H v) : Oth K p zs H' v := by
  cases h with
  | unf h => exact .unf (h.kt al)
  | oth a ys e n h ok np => exact .oth a ys e n (al _ _ h (fun _ z => nomatch z)) ok np
theorem BookAt.keep {C : Addr} {H H' : Hp} {b d : Addr} {os : List Str} {m : TM} (h : BookAt C H b d os m) (k : ∀ a o, H a = some o → (∀ xs, o ≠ .lst xs) → (∀ ps, o ≠ .tbl ps) → H' a = some o) : BookAt C H' b d os m := by
  obtain ⟨dx, f, kvs, hb, hf, hd, r⟩ := h
  exact ⟨dx, f, kvs, k _ _ hb (fun _ z => nomatch z) (fun _ z => nomatch z), k _ _ hf (fun _ z => nomatch z) (fun _ z => nomatch z), k _ _ hd (fun _ z => nomatch z) (fun _ z => nomatch z), r.same fun b ys e => k _ _ e (fun _ z => nomatch z) (fun _ z => nomatch z)⟩
theorem pick0 {cs : List En} {p : List Nat} (h : p.Perm (List.range cs.length)) (hl : cs.length = 0) : pick cs p = [] := by
  rw [hl] at h
  have : p = [] := h.eq_nil
  rw [this]; rfl
theorem allM_nil {os : List Str} {es : List En} (h : AllM os [] es) : es = [] := by
  obtain ⟨zs, cs, p, nd, mem, hc, rfl, pp, _⟩ := h.ex
  have hz : zs = [] := by
    cases zs with
    | nil => rfl
    | cons a t =>
      obtain ⟨q, hq, _⟩ := (mem a).mp List.mem_cons_self
      cases hq
  subst hz
  have hl : cs.length = 0 := by
    have := congrArg List.length hc
    simpa using this.symm
  exact pick0 pp hl
theorem allM_one {os : List Str} {q : (Str × Str) × (Int × Int)} {es : List En} (h : AllM os [q] es) : es.map some = [countedM os [q] q.1.2] := by
  obtain ⟨zs, cs, p, nd, mem, hc, rfl, pp, _⟩ := h.ex
  have hz : zs = [q.1.2] := by
    have m1 : ∀ z, z ∈ zs ↔ z = q.1.2 := fun z => by
      rw [mem z]
      constructor
      · rintro ⟨r, hr, rfl⟩
        rw [List.mem_singleton.mp hr]
      · rintro rfl
        exact ⟨q, by simp, rfl⟩
    cases zs with
    | nil => exact absurd ((m1 _).mpr rfl) (by simp)
    | cons a t =>
      have ha := (m1 a).mp List.mem_cons_self
      cases t with
      | nil => rw [ha]
      | cons b t =>
        have hb := (m1 b).mp (by simp)
        rw [List.nodup_cons] at nd
        exact absurd (by rw [ha, hb]; simp) nd.1
  subst hz
  have hl : cs.length = 1 := by
    have := congrArg List.length hc
    simpa using this.symm
  obtain ⟨c, rfl⟩ : ∃ c, cs = [c] := by
    cases cs with
    | nil => cases hl
    | cons c t => cases t with
      | nil => exact ⟨c, rfl⟩
      | cons _ _ => simp at hl
  have hp : p = [0] := by
    have := pp
    rw [show List.range [c].length = [0] from rfl] at this
    exact List.perm_singleton.mp this
  subst hp
  simp only [List.map_cons, List.map_nil] at hc
  show [some c] = _
  exact hc.symm
theorem tells_in {os : List Str} {m : TM} {k : Str} : ∀ r ∈ tellsM os m k, r.1 ∈ os := fun r hr => by
  unfold tellsM at hr
  obtain ⟨s, hs, e⟩ := List.mem_filterMap.mp hr
  obtain ⟨x, _, rfl⟩ := Option.map_eq_some_iff.mp e
  exact hs
theorem tells_nil (os : List Str) (k : Str) : tellsM os [] k = [] := by
  unfold tellsM
  rw [List.filterMap_eq_nil_iff]
  intro s _
  rfl
theorem counted_key {os : List Str} {m : TM} {k : Str} {e : En} (h : countedM os m k = some e) : e.2.1 = k := by
  unfold countedM at h
  obtain ⟨r, _, rfl⟩ := Option.map_eq_some_iff.mp h
  rfl
abbrev k0 : Str := (("k0" : String) : Str)
theorem lay_src {z : Str} (h : Src z) : (PyData.str z).canLay0 = true := by
  have := strs_layA (l := [z]) (fun y hy => by rw [List.mem_singleton.mp hy]; exact h)
  unfold PyData.canLayAll0 at this
  exact (Bool.and_eq_true _ _ ▸ this).1
theorem lay_eD {e : En} (h : e.2.1 = k0) : (eD e).canLay0 = true := by
  unfold eD
  simp only [PyData.canLay0, PyData.canLayAll0]
  rw [h]
  decide +kernel
theorem layA {α : Type} {f : α → PyData} : ∀ {l : List α}, (∀ x ∈ l, (f x).canLay0 = true) → PyData.canLayAll0 (l.map f) = true
  | [], _ => rfl
  | x :: t, h => by
    rw [List.map_cons]
    unfold PyData.canLayAll0
    rw [h x List.mem_cons_self, layA fun y hy => h y (List.mem_cons_of_mem _ hy)]
    rfl
theorem depA {α : Type} {f : α → PyData} {n : Nat} : ∀ {l : List α}, (∀ x ∈ l, (f x).depth ≤ n) → PyData.depthAll (l.map f) ≤ n
  | [], _ => by simp [PyData.depthAll]
  | x :: t, h => by
    rw [List.map_cons]
    have h1 := h x List.mem_cons_self
    have h2 := depA (f := f) fun y hy => h y (List.mem_cons_of_mem _ hy)
    simp only [PyData.depthAll]
    omega
theorem stD_lay {os : List Str} {es : List En} {rs : List (Str × Int × Int)} {c : Option En} (h1 : ∀ z ∈ os, Src z) (h2 : ∀ e ∈ es, e.2.1 = k0) (h3 : ∀ r ∈ rs, Src r.1) (h4 : ∀ e, c = some e → e.2.1 = k0) : (stD os es rs c).canLay0 = true ∧ (stD os es rs c).depth ≤ 8 := by
  have l4 : (cD c).canLay0 = true ∧ (cD c).depth ≤ 1 := by
    cases c with
    | none => exact ⟨rfl, by decide⟩
    | some e => exact ⟨lay_eD (h4 e rfl), by show (eD e).depth ≤ 1; rw [depth_eD]; exact Nat.le_refl _⟩
  have r3 : ∀ r ∈ rs, (rD r).canLay0 = true := fun r hr => by
    unfold rD
    simp only [PyData.canLay0, PyData.canLayAll0]
    have := lay_src (h3 r hr)
    simp only [PyData.canLay0] at this
    rw [this]
    rfl
  have d3 : ∀ r : Str × Int × Int, (rD r).depth ≤ 1 := fun r => by unfold rD; simp [PyData.depth, PyData.depthAll]
  have d2 := depA (f := eD) (n := 1) (l := es) fun e _ => by rw [depth_eD]; exact Nat.le_refl _
  have d3' := depA (f := rD) (n := 1) (l := rs) fun r _ => d3 r
  constructor
  · unfold stD
    simp only [PyData.canLay0, PyData.canLayAll0]
    rw [strs_layA h1, layA fun e he => lay_eD (h2 e he), layA r3, l4.1]
    rfl
  · unfold stD
    simp only [PyData.depth, PyData.depthAll, strs_depA]
    have := l4.2
    omega
theorem dat_none0 (H : Hp) : Dat H (cD none) .non := by unfold cD Dat; rfl
theorem dat_two {H : Hp} {D : Addr} {a b : Bool} (h : H D = some (.tup [.bl a, .bl b])) : Dat H (.tuple [.bool a, .bool b]) (.ref D) := dat_tup h (dat_cons (by unfold Dat; rfl) (dat_cons (by unfold Dat; rfl) dat_nil0))
theorem eqv_two (a b : Bool) : PyData.eqv (.tuple [.bool a, .bool b]) (.tuple [.bool a, .bool b]) = true := by cases a <;> cases b <;> decide +kernel
theorem lay_two (a b : Bool) : PyData.canLay0 (.tuple [.bool a, .bool b]) = true := by cases a <;> cases b <;> decide +kernel
theorem dep_two (a b : Bool) : PyData.depth (.tuple [.bool a, .bool b]) ≤ 8 := by cases a <;> cases b <;> decide +kernel
/-- where the law is -/
structure Ss (C P1 : Addr) (H0 H : Hp) (p b d L t : Addr) (zs : List Str) (m : TM) (es : List En) (rs : List (Str × Int × Int)) (c : Option En) : Prop where
  kt : KT H0 H
  hp : PotAt H p
  B : BookAt C H b d zs m
  tb : TabOk H P1 q1
  hL : H L = some (.lst (zs.map V.str))
  st : StV p d H t zs es rs c
section
variable {C P1 : Addr} {H0 H H' : Hp} {p b d L t : Addr} {zs : List Str} {m m' : TM} {es : List En} {rs : List (Str × Int × Int)} {c : Option En}
theorem BookAt.dT {C : Addr} {H : Hp} {b d : Addr} {os : List Str} {m : TM} (h : BookAt C H b d os m) : ∃ kvs, H d = some (.dT kvs) := by
  obtain ⟨dx, f, kvs, hb, hf, hd, r⟩ := h
  exact ⟨kvs, hd⟩
theorem Ss.kt' (h : Ss C P1 H0 H p b d L t zs m es rs c) (k : KT H H') (tb : TabOk H' P1 q1) : Ss C P1 H0 H' p b d L t zs m es rs c := by
  obtain ⟨kvs, hd⟩ := h.B.dT
  obtain ⟨x, y, hp⟩ := h.hp
  exact ⟨h.kt.trans k, ⟨x, y, k _ _ hp (fun _ z => nomatch z)⟩, h.B.keep fun a o e _ n => k _ _ e n, tb, k _ _ h.hL (fun _ z => nomatch z), h.st.keep h.hp hd fun b o e _ _ n => k _ _ e n⟩
theorem Ss.same (h : Ss C P1 H0 H p b d L t zs m es rs c) (s : Same H H') : Ss C P1 H0 H' p b d L t zs m es rs c := h.kt' (KT.same s) (tab_same h.tb s)
theorem Ss.tab (h : Ss C P1 H0 H p b d L t zs m es rs c) (bp : ButP P1 H H') (tb : TabOk H' P1 q1) : Ss C P1 H0 H' p b d L t zs m es rs c := h.kt' (bp_al h.tb bp) tb
theorem Ss.but (h : Ss C P1 H0 H p b d L t zs m es rs c) (np : H0 p = none) (nL : L ≠ p) (cc : But p H H') (hp' : PotAt H' p) : Ss C P1 H0 H' p b d L t zs m es rs c := by
  obtain ⟨kvs, hd⟩ := h.B.dT
  refine ⟨fun a o e n => cc _ _ (h.kt _ _ e n) (ne_of_none e np), hp', h.B.keep fun a o e n _ => cc _ _ e fun z => ?_, tab_but h.tb h.hp cc, cc _ _ h.hL nL, h.st.keep h.hp hd fun b o e n _ _ => cc _ _ e n⟩
  obtain ⟨x, y, hp⟩ := h.hp
  rw [z, hp] at e
  exact n _ (Option.some.inj e).symm
end
section
variable {P : Program} {w : World} {K : PySem.W.Frag} {mg : Str → Option Value} {base : Heap} {C : Addr}
theorem cmp_why {te : XK → TE} {σ : L2.St} {HX : Hp} {P1 : Addr} {R : Bool → Hp → Prop} {cls : Value} {b1 b2 : Bool} (tab : TabOk HX P1 q1) (fl : Flg mg cls b1 b2)
    (go : ∀ HE, ButP P1 HX HE → ∀ Q' E', (∀ H', Same HE H' → E' cls none H') → te E' σ HE Q') (q : ∀ HE HY, ButP P1 HX HE → TabOk HE P1 q1 → Same HE HY → R false HY) :
    tTest (tOp (rEqD true) (tLam P w K mg base 6 P1 q1 te (sp_why P w K mg base)) (tTup (tCons (tC (.bl b1)) (tCons (tC (.bl b2)) tNil)))) σ HX R := by
  refine ⟨tab, fun HE f fo cells c oc bE tE hf LP outer s hin => .mk f fo cells c oc _ cls b1 b2 rfl LP hin fl (fun Q2 E2 er => go HE bE Q2 E2 er) (fun D HF sF kD => ?_)⟩
  refine ⟨two_line', fun D2 hD2 => ?_⟩
  have s2 := Same.upd (H := HF) (o := .tup [.bl b1, .bl b2]) hD2
  refine ⟨_, _, dat_two (s2 _ _ kD), dat_two upd_same, lay_two _ _, lay_two _ _, dep_two _ _, _, rfl, ?_⟩
  rw [eqv_two]
  exact q HE _ bE tE (sF.trans s2)
inductive sp_law (K : PySem.W.Frag) (P1 : Addr) (vs : List V) (H : Hp) (Q : VK) (E : XK) : Prop
  | mk (a : Addr) (ns : List Int) (h0_ : vs = [.ref a]) (h1_ : SqL K H a (ns.map V.int)) (h2_ : ns.length ≤ 63) (t1 : TabOk H P1 q1) (h3_ : ∀ H', Q (.bl true) H') : sp_law K P1 vs H Q E
theorem sc_law : FnScope ["_law_script", "_law_k", "_law_pot_here", "_law_sources_here", "_law_book", "_law_source", "_law_kept", "_law_j", "_law_unfit_here", "_law_order", "_law_other"] ["_law_script"] (defScope s_law) := ⟨rfl, rfl, rfl, by decide +kernel, rfl, by decide +kernel, by decide +kernel⟩
set_option maxHeartbeats 16000000 in
theorem law_ok (T : Txt K mg C) {fa : Addr} {fd : FuncData} (FL : Fun K "law" "law" s_law fa fd) (hm : mg "law" = some (.ref fa)) {c1 P1 : Addr} {h : Heap} (KX : K.In h) (G : h.Ns mainGlobals mg) (ht1 : PySem.W.tabIn K "law" = some (c1, P1)) (LB : LamB mg base c1 P1) : FnOk P w K mg base CX0 11 fa fd ["_law_script"] (sp_law K P1) := by
  obtain ⟨f0, fd0, F0, M, b0⟩ := T.m_init
  refine FL.okL KX G hm ht1 sc_law (fun vs H Q E h => ?_) (fun A outer s H vs Q E hr h => ?_)
  · obtain ⟨a, ns, rfl, _⟩ := h
    rfl
  · obtain ⟨a, ns, rfl, ha, hlen, tb, k⟩ := h
    refine ⟨_, (pss_cons (ps_for PassesOwn.never rfl (pi_range1 rfl T.b_range (pa1 (pe_b (call_max2 rfl) T.b_max boot_max (pa2 pe_int (pe_b (call_min2 rfl) T.b_min boot_min (pa2 (pe_b (call_lenK K) T.b_len boot_len (pa1 (pv 0))) pe_int)))))) (pg_name (i := 1) sc_law.nd rfl (Or.inl rfl))
        (pss_cons (ps_set (i := 2) sc_law.nd rfl (Or.inl rfl) (pe_can (pot T) hr (pa2 (pv 0) (pv 1))))
        (pss_cons (ps_set (i := 3) sc_law.nd rfl (Or.inl rfl) (pe_can (sources T) hr (pa1 (pv 2))))
        (pss_cons (ps_set (i := 4) sc_law.nd rfl (Or.inr rfl) (pe_make M (init_ok T F0) (hr.mono (by decide)) rfl T.mgC b0 .nil pass0 (pa1 (pe_t call_tup_ob T.b_tuple boot_tuple (pa1 (pv 3))))))
        (pss_cons (ps_set (i := 5) sc_law.nd rfl (Or.inr rfl) (pe_ix (ix_listK K) (pv 3) (pe_can (digit T) hr (pa2 (pv 2) (pe_b (call_lenK K) T.b_len boot_len (pa1 (pv 3))))) (fun _ _ => rfl)))
        (pss_cons (ps_expr (pe_canM (pv 4) T.cl (put T) hr (pa_cons (pv 5) (pa3 pe_str (pe_can (digit T) hr (pa2 (pv 2) pe_int)) (pe_can (digit T) hr (pa2 (pv 2) pe_int))))))
        (pss_cons (ps_set (i := 6) sc_law.nd rfl (Or.inl rfl) (pe_can (state T) hr (pa2 (pv 4) pe_str)))
        (pss_cons (ps_for PassesOwn.never rfl (pi_range1 rfl T.b_range (pa1 pe_int)) (pg_name (i := 7) sc_law.nd rfl (Or.inl rfl))
          (pss_cons (ps_set (i := 8) sc_law.nd rfl (Or.inr rfl) (pe_can (unfit T) hr (pa2 (pv 2) (pv 3))))
          (pss_cons (ps_set (i := 9) sc_law.nd rfl (Or.inr rfl) (pe_can (other_order T) hr (pa2 (pv 2) (pv 3))))
          (pss_cons (ps_if (pt_cmpR (op_neD hr) (pe_lam (k := 5) (why T) hr LB rfl (lamS sc_law) (fun A outer s H E f cl cd hr' W' => pe_make M (init_okX T F0) (hr'.mono (by decide)) rfl T.mgC b0 .nil W'.pass (pa1 (pv 8)))) (pe_tup (pa2 pe_bl pe_bl)) (nomark _))
            (pss_one (ps_ret pe_bl))
            pss_nil)
          (pss_cons (ps_if (pt_cmpR (op_neD hr) (pe_lam (k := 5) (why T) hr LB rfl (lamS sc_law) (fun A outer s H E f cl cd hr' W' => pe_canMX (pv 4) T.cl (rankX T) W' hr' (pa1 (pv 8)))) (pe_tup (pa2 pe_bl pe_bl)) (nomark _))
            (pss_one (ps_ret pe_bl))
            pss_nil)
          (pss_one (ps_if (pt_cmpR (op_neD hr) (pe_lam (k := 5) (why T) hr LB rfl (lamS sc_law) (fun A outer s H E f cl cd hr' W' => pe_canMX (pv 4) T.cl (rankX T) W' hr' (pa1 (pv 9)))) (pe_tup (pa2 pe_bl pe_bl)) (nomark _))
            (pss_one (ps_ret pe_bl))
            pss_nil)))))))
        (pss_cons (ps_for PassesOwn.never rfl (pi_listK K (pe_lc rfl (lcS sc_law) (pi_listK K (pv 3)) (fun _ _ _ _ => (pts_one (pt_cmpR op_ne (pv 0) (pv 6) (nomark _)))) (fun _ _ _ _ => (pv 0)))) (pg_name (i := 10) sc_law.nd rfl (Or.inr rfl))
          (pss_one (ps_if (pt_cmpR (op_neD hr) (pe_lam (k := 5) (why T) hr LB rfl (lamS sc_law) (fun A outer s H E f cl cd hr' W' => pe_canMX (pv 4) T.cl (takeX T) W' hr' (pa2 (pv 10) pe_str))) (pe_tup (pa2 pe_bl pe_bl)) (nomark _))
            (pss_one (ps_ret pe_bl))
            pss_nil)))
        (pss_cons (ps_if (PW.pt (pw_or (pt_cmpR (op_neD hr) (pe_lam (k := 5) (why T) hr LB rfl (lamS sc_law) (fun A outer s H E f cl cd hr' W' => pe_canMX (pv 4) T.cl (takeX T) W' hr' (pa2 (pv 5) pe_str))) (pe_tup (pa2 pe_bl pe_bl)) (nomark _)) (pw_or1 (pt_cmpR (op_neD hr) (pe_can (state T) hr (pa2 (pv 4) pe_str)) (pv 6) (nomark _)))))
          (pss_one (ps_ret pe_bl))
          pss_nil)
        (pss_cons (ps_expr (pe_canM (pv 4) T.cl (take T) hr (pa2 (pv 5) pe_str)))
        (pss_cons (ps_if (pt_cmpR (op_neD hr) (pe_lam (k := 5) (why T) hr LB rfl (lamS sc_law) (fun A outer s H E f cl cd hr' W' => pe_canMX (pv 4) T.cl (takeX T) W' hr' (pa2 (pv 5) pe_str))) (pe_tup (pa2 pe_bl pe_bl)) (nomark _))
          (pss_one (ps_ret pe_bl))
          pss_nil)
        (pss_one (ps_if (pt_cmpR (op_neD hr) (pe_can (state T) hr (pa2 (pv 4) pe_str)) (pe_tup (pa_cons (pv 3) (pa3 (pe_lst pa_nil) (pe_lst pa_nil) pe_non))) (nomark _))
          (pss_one (ps_ret pe_bl))
          pss_nil))))))))))))))
      (pss_one (ps_ret pe_bl))), ?_⟩
    refine ⟨_, rfl, a, _, rfl, .inl ha, _, _, rfl, _, _, rfl, _, rfl, by repeat' split <;> omega, by repeat' split <;> omega, ?_⟩
    refine for_range (fun i σ HX => ∃ v1 v2 v3 v4 v5 v6 v7 v8 v9 v10, σ = [some (.ref a), v1, v2, v3, v4, v5, v6, v7, v8, v9, v10] ∧ KT H HX ∧ TabOk HX P1 q1) ⟨_, _, _, _, _, _, _, _, _, _, rfl, fun _ _ h _ => h, tb⟩ ?turn ?fin
    case fin =>
      rintro σ HX ⟨v1, v2, v3, v4, v5, v6, v7, v8, v9, v10, rfl, k8, t8⟩
      exact k _
    case turn =>
      rintro i σ H8 hi ⟨v1, v2, v3, v4, v5, v6, v7, v8, v9, v10, rfl, k8, t8⟩
      refine ⟨_, rfl, _, rfl, a, ns, _, rfl, k8.seq ha, by omega, by omega, fun p H9 s9 hp9 hpot => ?_⟩
      refine ⟨_, rfl, p, rfl, hpot, fun L zs HA ok cA pA hL0 hLA => ?_⟩
      have nL : L ≠ p := hpot.ne hL0
      have s8A : Same H8 HA := fun bb oo e => cA _ _ (s9 _ _ e) (ne_of_none e hp9)
      have z1 := ok.l
      have z6 := ok.h
      refine ⟨_, rfl, L, _, _, rfl, hLA, .inl rfl, fun tt HB sB kt => ?_⟩
      intro b dx hb0 hdx hne
      have sM : Same HB (upd (upd HB dx (.own b)) b (.ins C dx [])) := (Same.upd hdx).trans (Same.upd (by rw [upd_ne (Ne.symm hne)]; exact hb0))
      refine ⟨b, dx, tt, _, zs, rfl, upd_same, sM _ _ kt, .inr rfl, ok, fun d HC cC hd0 hBC => ⟨rfl, ?_⟩⟩
      have sBC : Same HB HC := fun cc oo e => cC _ _ (sM _ _ e) (ne_of_none e hb0)
      have pC := (pA.same sB).same sBC
      have hLC := sBC _ _ (sB _ _ hLA)
      have bkp : ∀ {HX HY : Hp} {m : TM}, BookAt C HX b d zs m → PotAt HX p → But p HX HY → BookAt C HY b d zs m := fun hB hP cc => hB.keep fun a' o e n _ => cc _ _ e fun z => by
        obtain ⟨x, y, hP⟩ := hP
        rw [z, hP] at e
        exact n _ (Option.some.inj e).symm
      have ins : ∀ {HX : Hp} {m : TM}, BookAt C HX b d zs m → ∃ dx f, HX b = some (.ins C dx [("best_first", .ref f), ("told", .ref d)]) := fun h => by
        obtain ⟨dx, f, kvs, hb, _⟩ := h
        exact ⟨dx, f, hb⟩
      refine ⟨_, rfl, _, rfl, _, rfl, L, _, rfl, .inl (.of hLC), p, _, rfl, pC, by rw [List.length_map]; omega, by rw [List.length_map]; omega, fun dg HD g0 g1 cD pD => ?_⟩
      rw [List.length_map] at g1
      obtain ⟨n, rfl⟩ : ∃ n : Nat, dg = n := ⟨dg.toNat, by omega⟩
      have hn : n < zs.length := by omega
      have hz : zs[n]? = some zs[n] := List.getElem?_eq_getElem hn
      generalize zs[n] = sn at hz
      have hsn : sn ∈ zs := List.mem_of_getElem? hz
      have hLD := cD _ _ hLC nL
      have hBD := bkp hBC pC cD
      refine ⟨L, _, _, _, rfl, rfl, .of hLD, atI_nat (by rw [List.getElem?_map, hz]; rfl), ?_⟩
      obtain ⟨dx1, f1, hb1⟩ := ins hBD
      refine ⟨_, rfl, b, dx1, _, rfl, hb1, rfl, _, rfl, _, rfl, p, 9, rfl, pD, by decide, by decide +kernel, fun x HE x0 x1 cE pE => ?_⟩
      refine ⟨_, rfl, p, 9, rfl, pE, by decide, by decide +kernel, fun y HF y0 y1 cF pF => ?_⟩
      have cDF := cE.trans cF
      have hBF := bkp hBD pD cDF
      refine ⟨b, d, zs, [], sn, k0, x, y, rfl, hBF, by simp, fun HG cG hBG => ?_⟩
      have hBG : BookAt C HG b d zs [((sn, k0), (x, y))] := hBG
      have nod : ∀ {a' : Addr} {o : HO}, HF a' = some o → (∀ kvs, o ≠ .dT kvs) → a' ≠ d := fun {a' o} e nn z => by
        obtain ⟨kvs, hd⟩ := hBF.dT
        rw [z, hd] at e
        exact nn _ (Option.some.inj e).symm
      have pG : PotAt HG p := by
        obtain ⟨u, v, h⟩ := pF
        exact ⟨u, v, cG _ _ h (nod h fun _ z => nomatch z)⟩
      have hLG : HG L = some (.lst (zs.map V.str)) := cG _ _ (cDF _ _ hLD nL) (nod (cDF _ _ hLD nL) fun _ z => nomatch z)
      have hdB : HB d = none := sM.free hd0
      have s8C : Same H8 HC := s8A.trans (sB.trans sBC)
      have s8F : Same H8 HF := fun bb oo e => cDF _ _ (cD _ _ (s8C _ _ e) (ne_of_none e hp9)) (ne_of_none e hp9)
      have s8G : Same H8 HG := fun bb oo e => cG _ _ (s8F _ _ e) (ne_of_none e ((s8A.trans sB).free hdB))
      refine ⟨_, rfl, b, d, zs, _, k0, p, rfl, hBG, pG, z6, by simp, by simp [allK, addK], fun q hq => by rw [List.mem_singleton.mp hq]; exact hsn, fun t es HH sH am st => ?_⟩
      have ss0 : Ss C P1 H8 HH p b d L t zs [((sn, k0), (x, y))] es (tellsM zs [((sn, k0), (x, y))] k0) (countedM zs [((sn, k0), (x, y))] k0) := ⟨KT.same (s8G.trans sH), pG.same sH, hBG.same sH, tab_same t8 (s8G.trans sH), sH _ _ hLG, st⟩
      have es1 := allM_one am
      have esk : ∀ e ∈ es, e.2.1 = k0 := fun e he => by
        have : some e ∈ es.map some := List.mem_map_of_mem he
        rw [es1] at this
        exact counted_key (List.mem_singleton.mp this).symm
      have lay := stD_lay (rs := tellsM zs [((sn, k0), (x, y))] k0) (c := countedM zs [((sn, k0), (x, y))] k0) ok.s esk (fun r hr => ok.s _ (tells_in r hr)) (fun e he => counted_key he)
      generalize hmm : ([((sn, k0), (x, y))] : TM) = m at ss0 am lay es1
      clear st sH
      refine ⟨_, rfl, by decide, by decide, for_range (n := 3) (fun j σ HX => ∃ v7 v8 v9 v10, σ = [some (.ref a), some (.int (0 + (i : Int))), some (.ref p), some (.ref L), some (.ref b), some (.str sn), some (.ref t), v7, v8, v9, v10] ∧ Ss C P1 H8 HX p b d L t zs m es (tellsM zs m k0) (countedM zs m k0)) ⟨_, _, _, _, rfl, ss0⟩ ?t1 ?f1⟩
      case t1 =>
        rintro j σ HX hj ⟨v7, v8, v9, v10, rfl, ss⟩
        refine ⟨_, rfl, _, rfl, p, L, zs, rfl, ss.hp, ss.hL, nL, ok, fun v HY cY pY uY => ?_⟩
        have ssY := ss.but hp9 nL cY pY
        refine ⟨_, rfl, _, rfl, p, L, zs, rfl, pY, ssY.hL, nL, ok, fun o HZ cZ pZ oZ => ?_⟩
        have ssZ := ssY.but hp9 nL cZ pZ
        have uZ := uY.but cZ
        refine cmp_why ssZ.tb (.src rfl rfl) (fun HE bE Q' E' er => ?_) (fun HE HU bE tE sU => iteF ?_)
        · refine ⟨_, rfl, fun xx dxx hx hdx hne => .mk xx v p rfl (((uZ.kt (bp_al ssZ.tb bE))).same ((Same.upd hdx).trans (Same.upd (by rw [upd_ne (Ne.symm hne)]; exact hx)))) fun H' s' => er _ (((Same.upd hdx).trans (Same.upd (by rw [upd_ne (Ne.symm hne)]; exact hx))).trans s')⟩
        have ssU := (ssZ.tab bE tE).same sU
        have uU := (uZ.kt (bp_al ssZ.tb bE)).same sU
        have oU := (oZ.kt (bp_al ssZ.tb bE)).same sU
        refine cmp_why ssU.tb (.src rfl rfl) (fun HE bE Q' E' er => ?_) (fun HE HV bV tV sV => iteF ?_)
        · obtain ⟨dx2, f2, hb2⟩ := ins (ssU.B.keep fun a' o e _ n => bp_al ssU.tb bE _ _ e n)
          exact ⟨_, rfl, b, dx2, _, rfl, hb2, rfl, _, rfl, .inl ⟨b, v, p, rfl, uU.kt (bp_al ssU.tb bE), er⟩⟩
        have ssV := (ssU.tab bV tV).same sV
        have oV := (oU.kt (bp_al ssU.tb bV)).same sV
        refine cmp_why ssV.tb (.src rfl rfl) (fun HE bE Q' E' er => ?_) (fun HE HW bW tW sW => iteF ?_)
        · have hBE := ssV.B.keep fun a' o e _ n => bp_al ssV.tb bE _ _ e n
          obtain ⟨dx2, f2, hb2⟩ := ins hBE
          refine ⟨_, rfl, b, dx2, _, rfl, hb2, rfl, _, rfl, ?_⟩
          cases oV.kt (bp_al ssV.tb bE) with
          | unf h => exact .inl ⟨b, o, p, rfl, h, er⟩
          | oth a' ys e n h oky np => exact .inr ⟨b, d, a', _, zs, m, ys, by subst e; rfl, hBE, h, .inl rfl, oky, ok, np, er⟩
        exact ⟨_, _, _, _, rfl, (ssV.tab bW tW).same sW⟩
      case f1 =>
        rintro σ HX ⟨v7, v8, v9, v10, rfl, ss⟩
        refine ⟨_, rfl, L, rfl, ⟨_, .of ss.hL⟩, fun D hD => ?_⟩
        refine lc_list (xs := zs.map V.str) (fun i' ys HY => HY D = some (.lst ys) ∧ ys = ((zs.take i').filter fun x => decide (x ≠ sn)).map V.str ∧ Same HX HY) ⟨upd_same, rfl, Same.upd hD⟩ (fun i' ys HY h => ⟨h.1, .of (h.2.2 _ _ ss.hL)⟩) (fun ys HY h => ?_) fun i' x' ys HY hi' hx' h => ?_
        rotate_left
        · obtain ⟨d1, rfl, d3⟩ := h
          rw [List.length_map] at hi'
          rw [List.getElem?_map] at hx'
          obtain ⟨y', hy', rfl⟩ := Option.map_eq_some_iff.mp hx'
          have tk : zs.take (i' + 1) = zs.take i' ++ [y'] := by rw [List.take_add_one, hy']; rfl
          have hll : (((zs.take i').filter fun x => decide (x ≠ sn)).map V.str).length ≤ i' := by
            rw [List.length_map]
            exact Nat.le_trans (List.length_filter_le _ _) (by rw [List.length_take]; omega)
          refine ⟨_, rfl, _, rfl, rfl, _, rfl, ?_⟩
          by_cases hq : y' = sn
          · refine iteN (by simp [hq]) (LcNo.mk (by rw [List.length_map]; exact hi') ⟨d1, ?_, d3⟩)
            rw [tk, List.filter_append]
            simp [hq]
          · refine iteC (by simp [hq]) ⟨_, rfl, LcNx.mk (by rw [List.length_map]; exact hi') (by rw [List.length_map]; omega) hll d1 ⟨upd_same, ?_, fun bb oo e => ?_⟩⟩
            · rw [tk, List.filter_append, List.map_append]
              simp [hq]
            · rw [upd_ne (ne_of_none e hD)]
              exact d3 _ _ e
        obtain ⟨d1, rfl, d3⟩ := h
        rw [List.length_map, List.take_length] at d1
        have ssY := ss.same d3
        refine ⟨D, rfl, ⟨_, .of d1⟩, for_list (K := K) (a := D) (xs := (zs.filter fun x => decide (x ≠ sn)).map V.str) (fun j σ HZ => ∃ v10, σ = [some (.ref a), some (.int (0 + (i : Int))), some (.ref p), some (.ref L), some (.ref b), some (.str sn), some (.ref t), v7, v8, v9, v10] ∧ Ss C P1 H8 HZ p b d L t zs m es (tellsM zs m k0) (countedM zs m k0) ∧ KT HY HZ) ⟨_, rfl, ssY, fun _ _ h _ => h⟩ (fun j σ HZ _ ⟨_, _, _, kZ⟩ => .of (kZ _ _ d1 (fun _ z => nomatch z))) ?t2 ?f2⟩
        case t2 =>
          rintro j o' σ HZ ho ⟨v10', rfl, ssZ, kZ⟩
          rw [List.getElem?_map] at ho
          obtain ⟨ot, hot, rfl⟩ := Option.map_eq_some_iff.mp ho
          have hne : ot ≠ sn := of_decide_eq_true (List.mem_filter.mp (List.mem_of_getElem? hot)).2
          refine cmp_why ssZ.tb (.tel rfl rfl) (fun HE bE Q' E' er => ?_) (fun HE HU bE tE sU => iteF ?_)
          · have hBE := ssZ.B.keep fun a' o e _ n => bp_al ssZ.tb bE _ _ e n
            obtain ⟨dx2, f2, hb2⟩ := ins hBE
            have hno : look m (ot, k0) = none := by
              rw [← hmm]
              unfold look
              simp [Ne.symm hne]
            exact ⟨_, rfl, b, dx2, _, rfl, hb2, rfl, _, rfl, b, d, zs, m, ot, k0, rfl, hBE, (fun z => by rw [hno] at z; cases z), fun _ => er⟩
          exact ⟨_, rfl, (ssZ.tab bE tE).same sU, KT.trans kZ (KT.trans (bp_al ssZ.tb bE) (KT.same sU))⟩
        case f2 =>
          rintro σ HZ ⟨v10', rfl, ssZ, kZ⟩
          refine cmp_why ssZ.tb (.tel rfl rfl) (fun HE bE Q' E' er => ?_) (fun HE HU bE tE sU => iteF ?_)
          · have hBE := ssZ.B.keep fun a' o e _ n => bp_al ssZ.tb bE _ _ e n
            obtain ⟨dx2, f2, hb2⟩ := ins hBE
            have hno : look m (sn, (("k1" : String) : Str)) = none := by
              rw [← hmm]
              unfold look
              simp
              decide
            exact ⟨_, rfl, b, dx2, _, rfl, hb2, rfl, _, rfl, b, d, zs, m, sn, _, rfl, hBE, (fun z => by rw [hno] at z; cases z), fun _ => er⟩
          have ssU := (ssZ.tab bE tE).same sU
          refine ⟨_, rfl, b, d, zs, m, k0, p, rfl, ssU.B, ssU.hp, z6, by rw [← hmm]; simp, by rw [← hmm]; simp [allK, addK], fun q hq => by rw [← hmm, List.mem_singleton] at hq; rw [hq]; exact hsn, fun t2 es2 HV sV am2 st2 => ?_⟩
          have ssV := ssU.same sV
          have ee : es2 = es := by
            rw [← hmm] at am2 es1
            have := (allM_one am2).trans es1.symm
            have h2 := congrArg (List.filterMap id) this
            simpa using h2
          subst ee
          refine ⟨_, rfl, _, _, st2.dat, ssV.st.dat, lay.1, lay.1, lay.2, _, rfl, ?_⟩
          rw [PySem.SeqAt.eqv_refl _ lay.1]
          refine iteF ?_
          obtain ⟨dx2, f2, hb2⟩ := ins ssV.B
          refine ⟨_, rfl, b, dx2, _, rfl, hb2, rfl, _, rfl, b, d, zs, m, sn, k0, rfl, ssV.B, by rw [← hmm]; unfold look; simp, fun HW cW hBW => ?_⟩
          have hdr : dropM m (sn, k0) = [] := by rw [← hmm]; unfold dropM; simp
          rw [hdr] at hBW
          obtain ⟨kvs, hdV⟩ := ssV.B.dT
          have nodV : ∀ {a' : Addr} {o : HO}, HV a' = some o → (∀ kvs, o ≠ .dT kvs) → a' ≠ d := fun {a' o} e nn z => by
            rw [z, hdV] at e
            exact nn _ (Option.some.inj e).symm
          have h8d : H8 d = none := (s8A.trans sB).free hdB
          have pW : PotAt HW p := by
            obtain ⟨u, v, h⟩ := ssV.hp
            exact ⟨u, v, cW _ _ h (nodV h fun _ z => nomatch z)⟩
          have ssW : Ss C P1 H8 HW p b d L t zs [] es2 (tellsM zs m k0) (countedM zs m k0) := ⟨fun a' o e nn => cW _ _ (ssV.kt _ _ e nn) (ne_of_none e h8d), pW, hBW, tab_keep2 ssV.tb (fun ps e => cW _ _ e (nodV e fun _ z => nomatch z)) (fun bb o u e => cW _ _ e (nodV e fun _ z => nomatch z)), cW _ _ ssV.hL (nodV ssV.hL fun _ z => nomatch z), ssV.st.keep ssV.hp hdV fun bb o e _ nn _ => cW _ _ e nn⟩
          refine cmp_why ssW.tb (.tel rfl rfl) (fun HE bE Q' E' er => ?_) (fun HE HU2 bE tE sU2 => iteF ?_)
          · have hBE := ssW.B.keep fun a' o e _ n => bp_al ssW.tb bE _ _ e n
            obtain ⟨dx3, f3, hb3⟩ := ins hBE
            exact ⟨_, rfl, b, dx3, _, rfl, hb3, rfl, _, rfl, b, d, zs, [], sn, k0, rfl, hBE, (fun z => by cases z), fun _ => er⟩
          have ssU2 := (ssW.tab bE tE).same sU2
          refine ⟨_, rfl, b, d, zs, [], k0, p, rfl, ssU2.B, ssU2.hp, z6, by simp, by simp [allK], (fun q hq => nomatch hq), fun t3 es3 HV3 sV3 am3 st3 => ?_⟩
          have ssV3 := ssU2.same sV3
          have e3 := allM_nil am3
          subst e3
          rw [tells_nil] at st3
          have cn : countedM zs [] k0 = none := by unfold countedM; rw [tells_nil]; rfl
          rw [cn] at st3
          obtain ⟨ly, dp⟩ := stD_lay (os := zs) (es := []) (rs := []) (c := none) ok.s (fun _ z => nomatch z) (fun _ z => nomatch z) (fun _ z => nomatch z)
          refine ⟨_, rfl, Nat.zero_le _, fun E1 hE1 => ⟨Nat.zero_le _, fun E2 hE2 => ⟨by show 4 ≤ sizeLine; decide, fun E3 hE3 => ?_⟩⟩⟩
          have r1 := Same.upd (H := HV3) (o := .lst []) hE1
          have r2 := Same.upd (H := upd HV3 E1 (.lst [])) (o := .lst []) hE2
          have r3 := Same.upd (H := upd (upd HV3 E1 (.lst [])) E2 (.lst [])) (o := .tup [.ref L, .ref E1, .ref E2, .non]) hE3
          have r13 := r1.trans (r2.trans r3)
          refine ⟨stD zs [] [] none, stD zs [] [] none, Dat.same r13 _ _ st3.dat, dat_tup upd_same (dat_cons (dat_lst (r13 _ _ ssV3.hL) (strs_dat _ _)) (dat_cons (dat_lst ((r2.trans r3) _ _ upd_same) dat_nil0) (dat_cons (dat_lst (r3 _ _ upd_same) dat_nil0) (dat_cons (dat_none0 _) dat_nil0)))), ly, ly, dp, _, rfl, ?_⟩
          rw [PySem.SeqAt.eqv_refl _ ly]
          refine iteF ?_
          have ssF := ssV3.same r13
          exact ⟨_, _, _, _, _, _, _, _, _, _, rfl, k8.trans ssF.kt, ssF.tb⟩
end
end Pr
set_option Elab.async false
set_option linter.all false
set_option maxRecDepth 100000
/-! the law, whole -/
namespace Pr
open PySem PySem.Spec PyProof.Rows L2
def spT (K : PySem.W.Frag) : List (Addr × Addr) → Sp
  | [(_, P1)] => sp_law K P1
  | _ => fun _ _ _ _ => True
section
variable {P : Program} {w : World} {K : PySem.W.Frag} {mg : Str → Option Value} {C : Addr}
theorem law_all (T : Txt K mg C) {fa : Addr} {h : Heap} (KX : K.In h) (G : h.Ns mainGlobals mg) (hmg : mg "law" = some (.ref fa)) (T2 : ∃ c1 P1, PySem.W.tabIn K "law" = some (c1, P1) ∧ PySem.W.noTabs K = true) :
    ∃ (fd : FuncData) (tabs : List (Addr × Addr)), PySem.W.noTabs K = true ∧ (∀ t ∈ tabs, ∃ y ∈ (["law"] : List Str), PySem.W.tabIn K y = some t) ∧ (∀ (s : Shared) (u : Value), BindsTo s fd ⟨[u], []⟩ [("_law_script", u)]) ∧
      (∀ base : Heap, K.In base → base.Ns mainGlobals mg → (∀ t ∈ tabs, LamB mg base t.1 t.2) → FnOk P w K mg base CX0 11 fa fd ["_law_script"] (spT K tabs)) := by
  obtain ⟨f, fd, F⟩ := T.f_law
  have e := hmg.symm.trans F.m
  cases e
  obtain ⟨c1, P1, t1, nt⟩ := T2
  obtain ⟨oc, od, kV, doc, pm, an, cdv, ct, osl, rfl, lk, hcd⟩ := F.fn.ex
  refine ⟨_, [(c1, P1)], nt, fun t ht => ?_, fun s u => .of_eq rfl, fun base _ _ LB => law_ok T F.fn hmg KX G t1 (LB (c1, P1) (by simp))⟩
  simp only [List.mem_cons, List.not_mem_nil, or_false] at ht
  subst ht
  exact ⟨"law", by simp, t1⟩
end
theorem walk {l : PySem.W.OpenLaw} {q : Program} {loose : List Str} {XP : (Str → Option Value) → Heap → Prop} {YP : World → Heap → Prop} {d : DefRec} {K : Params → PySem.W.Frag} (hn : l.most = some 63) (hdf : d.params.defaults = [])
    (hY : ∀ (w : World) (h : Heap), YP w h → (K w.params).In h) (hrec : ∀ y ∈ (["law"] : List Str), ((recsOf q).find? (fun e => e.name == y)).isSome = true)
    (F : ∀ (w : World) (mg : Str → Option Value) (fa : Addr) (h : Heap), (K w.params).In h → h.Ns mainGlobals mg → mg d.name = some (.ref fa) →
      ∃ (fd : FuncData) (tabs : List (Addr × Addr)), PySem.W.noTabs (K w.params) = true ∧ (∀ t ∈ tabs, ∃ y ∈ (["law"] : List Str), PySem.W.tabIn (K w.params) y = some t) ∧ (∀ (s : Shared) (u : Value), BindsTo s fd ⟨[u], []⟩ [("_law_script", u)]) ∧
        (∀ base : Heap, (K w.params).In base → base.Ns mainGlobals mg → (∀ t ∈ tabs, LamB mg base t.1 t.2) → FnOk l.prog w (K w.params) mg base CX0 11 fa fd ["_law_script"] (spT (K w.params) tabs))) :
    PySem.W.WalkO q loose XP YP l.row.toRowW d [] (fun f vs => PySem.call f vs) := by
  refine L2.walk_ofT (n := 63) (k := 11) (x := "_law_script") (xs := ["law"]) (sp := fun w tabs => spT (K w.params) tabs) hn (by decide) hdf ⟨rfl, by decide, by decide, rfl⟩ hY hrec F ?_
  intro w tabs H a ns hl hS hT
  unfold spT
  split
  · next c1 P1 => exact ⟨a, ns, rfl, hS, hl, .nil (hT (c1, P1) (by simp)), fun _ => rfl⟩
  · trivial
end Pr
set_option Elab.async false
set_option linter.all false
set_option maxRecDepth 100000
/-! what the head must show of a def, of a method: one fact each -/
namespace L2
open PySem PyProof.Rows
inductive FE (K : PySem.W.Frag) (x : Str) (st : Stmt) : Prop
  | mk {f : Addr} {od an : Option Addr} {sl : Array (Option Value)} {oc kV dc pm cd ct : Value} (a : PySem.W.nsIn K mainGlobals x = some (some (.ref f))) (l : K.lookup f = some ⟨oc, od, .func (PySem.W.fnOf x x (defArgs st) (defBody st) (defScope st) .none kV dc pm an cd ct), sl⟩) (c : PySem.W.codeIn K cd x = true) (k : PySem.W.keepIn K (.ref f) = true) : FE K x st
inductive FM (K : PySem.W.Frag) (C : Addr) (x q : Str) (st : Stmt) : Prop
  | mk {f : Addr} {od an : Option Addr} {sl : Array (Option Value)} {oc kV dc pm cd ct : Value} (a : PySem.W.findIn K (.ref C) x = some (some (.ref f))) (i : PySem.W.isFn K (.ref f) = true) (l : K.lookup f = some ⟨oc, od, .func (PySem.W.fnOf x q (defArgs st) (defBody st) (defScope st) .none kV dc pm an cd ct), sl⟩) (c : PySem.W.codeIn K cd q = true) (k : PySem.W.keepIn K (.ref f) = true) : FM K C x q st
variable {K : PySem.W.Frag} {h : Heap} {mg : Str → Option Value} {x q : Str} {st : Stmt} {ps : List Str} {C : Addr}
theorem FE.fn (X : K.In h) (G : h.Ns mainGlobals mg) (e : FE K x st) (b : ∀ f fd, Fun K x x st f fd → Binds K fd ps []) : ∃ f fd, Fn K mg x st ps f fd := by
  obtain ⟨a, l, c, k⟩ := e
  exact ⟨_, _, fun_mk l c k, PySem.W.mg_of X G a, b _ _ (fun_mk l c k)⟩
theorem FM.fm (e : FM K C x q st) (b : ∀ f fd, Fun K x q st f fd → Binds K fd ps []) : ∃ f fd, Fm K C x q st ps f fd := by
  obtain ⟨a, i, l, c, k⟩ := e
  exact ⟨_, _, fun_mk l c k, ⟨a, i, k⟩, b _ _ (fun_mk l c k)⟩
theorem FM.mk_ (e : FM K C "__init__" q st) (mk : PySem.W.makesIn K C = true) (kc : PySem.W.keepIn K (.ref C) = true) (b : ∀ f fd, Fun K "__init__" q st f fd → Binds K fd ps []) : ∃ f fd, Fun K "__init__" q st f fd ∧ Mk K C f ∧ Binds K fd ps [] := by
  obtain ⟨a, i, l, c, k⟩ := e
  exact ⟨_, _, fun_mk l c k, ⟨mk, a, i, kc⟩, b _ _ (fun_mk l c k)⟩
end L2
set_option Elab.async false
set_option linter.all false
set_option maxRecDepth 100000
namespace Pr
open PySem L2 PyProof.Rows
set_option maxHeartbeats 0 in
theorem txt_mk {K : PySem.W.Frag} {h : Heap} {mg : Str → Option Value} {C : Addr} (X : K.In h) (G : h.Ns mainGlobals mg) {t_LETTERS : Tok} {t_MOST_SOURCE_SIGNS : Tok} {t_MOST_SOURCES : Tok} {c_PeakError : Addr} {cd_PeakError : ClassData} {c_NoSources : Addr} {cd_NoSources : ClassData} {c_NoTell : Addr} {cd_NoTell : ClassData}
    (aC : PySem.W.nsIn K mainGlobals "Book" = some (some (.ref C)))
    (a1 : FE K "in_order" s_in_order)
    (a2 : FE K "place_of" s_place_of)
    (a3 : FE K "is_list" s_is_list)
    (a4 : FE K "is_list_from" s_is_list_from)
    (a5 : FE K "is_word" s_is_word)
    (a6 : FE K "is_source" s_is_source)
    (a7 : FE K "are_sources" s_are_sources)
    (a8 : FE K "_law_pot" s_law_pot)
    (a9 : FE K "_law_digit" s_law_digit)
    (a10 : FE K "_law_sources" s_law_sources)
    (a11 : FE K "_law_odd_names" s_law_odd_names)
    (a12 : FE K "_law_spoilt" s_law_spoilt)
    (a13 : FE K "_law_unfit" s_law_unfit)
    (a14 : FE K "_law_other_order" s_law_other_order)
    (a15 : FE K "_law_why" s_law_why)
    (a16 : FE K "_law_state" s_law_state)
    (a17 : FE K "law" s_law)
    (c_LETTERS : PySem.W.nsIn K mainGlobals "LETTERS" = some (some (.str "abcdefghijklmnopqrstuvwxyz" t_LETTERS)))
    (c_MOST_SOURCE_SIGNS : PySem.W.nsIn K mainGlobals "MOST_SOURCE_SIGNS" = some (some (.int 6 t_MOST_SOURCE_SIGNS)))
    (c_MOST_SOURCES : PySem.W.nsIn K mainGlobals "MOST_SOURCES" = some (some (.int 6 t_MOST_SOURCES)))
    (b_ValueError : PySem.W.nsIn K mainGlobals "ValueError" = some none)
    (b_all : PySem.W.nsIn K mainGlobals "all" = some none)
    (b_int : PySem.W.nsIn K mainGlobals "int" = some none)
    (b_isinstance : PySem.W.nsIn K mainGlobals "isinstance" = some none)
    (b_len : PySem.W.nsIn K mainGlobals "len" = some none)
    (b_list : PySem.W.nsIn K mainGlobals "list" = some none)
    (b_max : PySem.W.nsIn K mainGlobals "max" = some none)
    (b_min : PySem.W.nsIn K mainGlobals "min" = some none)
    (b_range : PySem.W.nsIn K mainGlobals "range" = some none)
    (b_set : PySem.W.nsIn K mainGlobals "set" = some none)
    (b_sorted : PySem.W.nsIn K mainGlobals "sorted" = some none)
    (b_str : PySem.W.nsIn K mainGlobals "str" = some none)
    (b_tuple : PySem.W.nsIn K mainGlobals "tuple" = some none)
    (pg : PySem.W.plainGet K C Str.empty = true)
    (hd : PySem.W.hasDictIn K C = true)
    (po : PySem.W.plainOver K C = true)
    (sa : PySem.W.findIn K (.ref C) "__setattr__" = some (some (.builtin "object.__setattr__")))
    (mk : PySem.W.makesIn K C = true)
    (kc : PySem.W.keepIn K (.ref C) = true)
    (n_best_first : PySem.W.findIn K (.ref C) "best_first" = some none)
    (n_told : PySem.W.findIn K (.ref C) "told" = some none)
    (m1 : FM K C "__init__" "Book.__init__" sm_init)
    (m2 : FM K C "order" "Book.order" sm_order)
    (m3 : FM K C "put" "Book.put" sm_put)
    (m4 : FM K C "take" "Book.take" sm_take)
    (m5 : FM K C "rank" "Book.rank" sm_rank)
    (m6 : FM K C "tells" "Book.tells" sm_tells)
    (m7 : FM K C "counted" "Book.counted" sm_counted)
    (m8 : FM K C "entries" "Book.entries" sm_entries)
    (esp : PySem.W.specialIn K (.builtin "object.__class__") "__get__" = some (some (.builtin "getset_descriptor.__get__")))
    (etk : PySem.W.takesIn K (.builtin "object.__class__") = some true)
    (ea_PeakError : PySem.W.nsIn K mainGlobals "PeakError" = some (some (.ref c_PeakError)))
    (eo_PeakError : PySem.W.excIn K c_PeakError bmV "ValueError.__new__" = true)
    (eg_PeakError : PySem.W.findIn K (.ref c_PeakError) "__getattribute__" = some (some (.builtin "BaseException.__getattribute__")))
    (en_PeakError : PySem.W.findIn K (.ref c_PeakError) "__getattr__" = some none)
    (ef_PeakError : PySem.W.findIn K (.ref c_PeakError) "__class__" = some (some (.builtin "object.__class__")))
    (em_PeakError : PySem.W.mroIn K c_PeakError (.type "object") = some true)
    (es_PeakError : PySem.W.subIn K (.ref c_PeakError) (.type "BaseException") = some true)
    (ec_PeakError : PySem.W.clsIn K c_PeakError = some cd_PeakError)
    (ea_NoSources : PySem.W.nsIn K mainGlobals "NoSources" = some (some (.ref c_NoSources)))
    (eo_NoSources : PySem.W.excIn K c_NoSources bmV "ValueError.__new__" = true)
    (eg_NoSources : PySem.W.findIn K (.ref c_NoSources) "__getattribute__" = some (some (.builtin "BaseException.__getattribute__")))
    (en_NoSources : PySem.W.findIn K (.ref c_NoSources) "__getattr__" = some none)
    (ef_NoSources : PySem.W.findIn K (.ref c_NoSources) "__class__" = some (some (.builtin "object.__class__")))
    (em_NoSources : PySem.W.mroIn K c_NoSources (.type "object") = some true)
    (es_NoSources : PySem.W.subIn K (.ref c_NoSources) (.type "BaseException") = some true)
    (ec_NoSources : PySem.W.clsIn K c_NoSources = some cd_NoSources)
    (ea_NoTell : PySem.W.nsIn K mainGlobals "NoTell" = some (some (.ref c_NoTell)))
    (eo_NoTell : PySem.W.excIn K c_NoTell bmV "ValueError.__new__" = true)
    (eg_NoTell : PySem.W.findIn K (.ref c_NoTell) "__getattribute__" = some (some (.builtin "BaseException.__getattribute__")))
    (en_NoTell : PySem.W.findIn K (.ref c_NoTell) "__getattr__" = some none)
    (ef_NoTell : PySem.W.findIn K (.ref c_NoTell) "__class__" = some (some (.builtin "object.__class__")))
    (em_NoTell : PySem.W.mroIn K c_NoTell (.type "object") = some true)
    (es_NoTell : PySem.W.subIn K (.ref c_NoTell) (.type "BaseException") = some true)
    (ec_NoTell : PySem.W.clsIn K c_NoTell = some cd_NoTell)
    (e_NoSources_PeakError : PySem.W.exmOne K (.ref c_NoSources) (.ref c_PeakError) = some true)
    (k_NoSources_NoSources : PySem.W.kitOne K (.ref c_NoSources) (.ref c_NoSources) = some true)
    (k_NoSources_NoTell : PySem.W.kitOne K (.ref c_NoSources) (.ref c_NoTell) = some false)
    (e_NoTell_PeakError : PySem.W.exmOne K (.ref c_NoTell) (.ref c_PeakError) = some true)
    (k_NoTell_NoSources : PySem.W.kitOne K (.ref c_NoTell) (.ref c_NoSources) = some false)
    (k_NoTell_NoTell : PySem.W.kitOne K (.ref c_NoTell) (.ref c_NoTell) = some true) : Txt K mg C :=
  ⟨a1.fn X G fun _ _ F => F.b1 (by intros; rfl),
   a2.fn X G fun _ _ F => F.b1 (by intros; rfl),
   a3.fn X G fun _ _ F => F.b1 (by intros; rfl),
   a4.fn X G fun _ _ F => F.b3 (by intros; rfl),
   a5.fn X G fun _ _ F => F.b3 (by intros; rfl),
   a6.fn X G fun _ _ F => F.b1 (by intros; rfl),
   a7.fn X G fun _ _ F => F.b1 (by intros; rfl),
   a8.fn X G fun _ _ F => F.b2 (by intros; rfl),
   a9.fn X G fun _ _ F => F.b2 (by intros; rfl),
   a10.fn X G fun _ _ F => F.b1 (by intros; rfl),
   a11.fn X G fun _ _ F => F.b2 (by intros; rfl),
   a12.fn X G fun _ _ F => F.b2 (by intros; rfl),
   a13.fn X G fun _ _ F => F.b2 (by intros; rfl),
   a14.fn X G fun _ _ F => F.b2 (by intros; rfl),
   a15.fn X G fun _ _ F => F.b1 (by intros; rfl),
   a16.fn X G fun _ _ F => F.b2 (by intros; rfl),
   a17.fn X G fun _ _ F => F.b1 (by intros; rfl),
   ⟨_, PySem.W.mg_of X G c_LETTERS⟩,
   ⟨_, PySem.W.mg_of X G c_MOST_SOURCE_SIGNS⟩,
   ⟨_, PySem.W.mg_of X G c_MOST_SOURCES⟩,
   PySem.W.mg_none_of X G b_ValueError,
   PySem.W.mg_none_of X G b_all,
   PySem.W.mg_none_of X G b_int,
   PySem.W.mg_none_of X G b_isinstance,
   PySem.W.mg_none_of X G b_len,
   PySem.W.mg_none_of X G b_list,
   PySem.W.mg_none_of X G b_max,
   PySem.W.mg_none_of X G b_min,
   PySem.W.mg_none_of X G b_range,
   PySem.W.mg_none_of X G b_set,
   PySem.W.mg_none_of X G b_sorted,
   PySem.W.mg_none_of X G b_str,
   PySem.W.mg_none_of X G b_tuple,
   ⟨pg, hd, po, sa⟩,
   PySem.W.mg_of X G aC,
   n_best_first,
   n_told,
   m1.mk_ mk kc (fun _ _ F => F.b2 (by intros; rfl)),
   m2.fm fun _ _ F => F.b1 (by intros; rfl),
   m3.fm fun _ _ F => F.b5 (by intros; rfl),
   m4.fm fun _ _ F => F.b3 (by intros; rfl),
   m5.fm fun _ _ F => F.b2 (by intros; rfl),
   m6.fm fun _ _ F => F.b2 (by intros; rfl),
   m7.fm fun _ _ F => F.b2 (by intros; rfl),
   m8.fm fun _ _ F => F.b1 (by intros; rfl),
   xc_mk (PySem.W.mg_of X G ea_PeakError) eo_PeakError eg_PeakError en_PeakError ef_PeakError esp etk em_PeakError es_PeakError ec_PeakError,
   xc_mk (PySem.W.mg_of X G ea_NoSources) eo_NoSources eg_NoSources en_NoSources ef_NoSources esp etk em_NoSources es_NoSources ec_NoSources,
   xc_mk (PySem.W.mg_of X G ea_NoTell) eo_NoTell eg_NoTell en_NoTell ef_NoTell esp etk em_NoTell es_NoTell ec_NoTell,
   (by rw [cOf_eq (PySem.W.mg_of X G ea_NoSources), cOf_eq (PySem.W.mg_of X G ea_PeakError)]; exact e_NoSources_PeakError),
   (by rw [cOf_eq (PySem.W.mg_of X G ea_NoSources)]; exact k_NoSources_NoSources),
   (by rw [cOf_eq (PySem.W.mg_of X G ea_NoSources), cOf_eq (PySem.W.mg_of X G ea_NoTell)]; exact k_NoSources_NoTell),
   (by rw [cOf_eq (PySem.W.mg_of X G ea_NoTell), cOf_eq (PySem.W.mg_of X G ea_PeakError)]; exact e_NoTell_PeakError),
   (by rw [cOf_eq (PySem.W.mg_of X G ea_NoTell), cOf_eq (PySem.W.mg_of X G ea_NoSources)]; exact k_NoTell_NoSources),
   (by rw [cOf_eq (PySem.W.mg_of X G ea_NoTell)]; exact k_NoTell_NoTell)⟩
end Pr
set_option Elab.async false
set_option linter.all false
set_option maxRecDepth 100000
open PySem PySem.W PyProof.Rows
def PySem.W.Fast.tw861502493610598483 : Nat := 0
def PySem.W.Fast.tw5539490546563695325 : Nat := 0
def PySem.W.Fast.tw8885793448711268800 : Nat := 0
def PySem.W.Fast.tw7774113678449685934 : Nat := 0
def PySem.W.Fast.tw1422820162477861617 : Nat := 0
def PySem.W.Fast.tw13716964437307002972 : Nat := 0
def PySem.W.Fast.tw15793473763280161150 : Nat := 0
def PySem.W.Fast.tw13034982811429478159 : Nat := 0
def PySem.W.Fast.tw12601900475763903673 : Nat := 0
def PySem.W.Fast.tw4480162626587320490 : Nat := 0
def PySem.W.Fast.tw3481832742750146777 : Nat := 0
def PySem.W.Fast.tw8485604247826754651 : Nat := 0
def PySem.W.Fast.tw13953587524928339648 : Nat := 0
def PySem.W.Fast.tw6798380500665416597 : Nat := 0
def PySem.W.Fast.tw443766864951011646 : Nat := 0
def PySem.W.Fast.tw1840220198017710270 : Nat := 0
def PySem.W.Fast.tw9972681490609642005 : Nat := 0
def PySem.W.Fast.tw1205274952441263945 : Nat := 0
def PySem.W.Fast.tw15685335758407661847 : Nat := 0
def PySem.W.Fast.tw12887044766017154078 : Nat := 0
def PySem.W.Fast.tw446995266069924076 : Nat := 0
def PySem.W.Fast.tw6148498323302512570 : Nat := 0
def PySem.W.Fast.tw16298917771340976007 : Nat := 0
def PySem.W.Fast.tw7029441310896991908 : Nat := 0
def PySem.W.Fast.tw3042748168174471775 : Nat := 0
def PySem.W.Fast.tw9784134513789038367 : Nat := 0
set_option maxHeartbeats 0 in
open_top hd for PySem.Challenge.rw_peakroll_k33_sources_refused
set_option maxHeartbeats 0 in
theorem PySem.Challenge.cw_peakroll_k33_sources_refused_holds : PySem.Challenge.rw_peakroll_k33_sources_refused.Holds := by
  refine hd ?_
  k_fill
  refine Pr.walk (l := PySem.Challenge.rw_peakroll_k33_sources_refused) rfl rfl (fun w h Y => PySem.W.km_in_of Y) ?R ?F
  case R =>
    intro y hy
    simp only [List.mem_cons, List.not_mem_nil, or_false] at hy
    rcases hy with rfl <;> rfl
  case F =>
    intro w mg fa h KX G hmg
    have T : ∃ C, Pr.Txt (L2.KOf KX) mg C := by
      dsimp only [L2.KOf]
      refine' ⟨_, Pr.txt_mk KX G ?aC ?a1 ?a2 ?a3 ?a4 ?a5 ?a6 ?a7 ?a8 ?a9 ?a10 ?a11 ?a12 ?a13 ?a14 ?a15 ?a16 ?a17 ?c_LETTERS ?c_MOST_SOURCE_SIGNS ?c_MOST_SOURCES ?b_ValueError ?b_all ?b_int ?b_isinstance ?b_len ?b_list ?b_max ?b_min ?b_range ?b_set ?b_sorted ?b_str ?b_tuple ?pg ?hd ?po ?sa ?mk ?kc ?n_best_first ?n_told ?m1 ?m2 ?m3 ?m4 ?m5 ?m6 ?m7 ?m8 ?esp ?etk ?ea_PeakError ?eo_PeakError ?eg_PeakError ?en_PeakError ?ef_PeakError ?em_PeakError ?es_PeakError ?ec_PeakError ?ea_NoSources ?eo_NoSources ?eg_NoSources ?en_NoSources ?ef_NoSources ?em_NoSources ?es_NoSources ?ec_NoSources ?ea_NoTell ?eo_NoTell ?eg_NoTell ?en_NoTell ?ef_NoTell ?em_NoTell ?es_NoTell ?ec_NoTell ?e_NoSources_PeakError ?k_NoSources_NoSources ?k_NoSources_NoTell ?e_NoTell_PeakError ?k_NoTell_NoSources ?k_NoTell_NoTell⟩
      (case aC => k_is)
      (case a1 | a2 | a3 | a4 | a5 | a6 | a7 | a8 | a9 | a10 | a11 | a12 | a13 | a14 | a15 | a16 | a17 => apply L2.FE.mk; k_is; k_is; k_is; k_is)
      (case c_LETTERS | c_MOST_SOURCE_SIGNS | c_MOST_SOURCES | b_ValueError | b_all | b_int | b_isinstance | b_len | b_list | b_max | b_min | b_range | b_set | b_sorted | b_str | b_tuple | pg | hd | po | sa | mk | kc | n_best_first | n_told => k_is)
      (case m1 | m2 | m3 | m4 | m5 | m6 | m7 | m8 => apply L2.FM.mk; k_is; k_is; k_is; k_is; k_is)
      (case esp | etk => k_is)
      (case ea_PeakError => k_is)
      (case eo_PeakError => k_exc)
      (case eg_PeakError => k_is)
      (case en_PeakError => k_is)
      (case ef_PeakError => k_is)
      (case em_PeakError => k_is)
      (case es_PeakError => k_is)
      (case ec_PeakError => k_is)
      (case ea_NoSources => k_is)
      (case eo_NoSources => k_exc)
      (case eg_NoSources => k_is)
      (case en_NoSources => k_is)
      (case ef_NoSources => k_is)
      (case em_NoSources => k_is)
      (case es_NoSources => k_is)
      (case ec_NoSources => k_is)
      (case ea_NoTell => k_is)
      (case eo_NoTell => k_exc)
      (case eg_NoTell => k_is)
      (case en_NoTell => k_is)
      (case ef_NoTell => k_is)
      (case em_NoTell => k_is)
      (case es_NoTell => k_is)
      (case ec_NoTell => k_is)
      (case e_NoSources_PeakError => kts_exm)
      (case k_NoSources_NoSources => kit_is)
      (case k_NoSources_NoTell => kit_is)
      (case e_NoTell_PeakError => kts_exm)
      (case k_NoTell_NoSources => kit_is)
      (case k_NoTell_NoTell => kit_is)
    have T2 : ∃ c1 P1, PySem.W.tabIn (L2.KOf KX) "law" = some (c1, P1) ∧ PySem.W.noTabs (L2.KOf KX) = true := by
      dsimp only [L2.KOf]
      refine' ⟨_, _, L2.tab_mk ?u1 ?v1 ?w1 ?x1 ?y1, ?nt⟩
      (case u1 => k_is)
      (case v1 => k_is)
      (case w1 => rfl)
      (case x1 => k_is)
      (case y1 => rfl)
      (case nt => first | k_is | rfl)
    obtain ⟨C, T⟩ := T
    exact Pr.law_all T KX G hmg T2
