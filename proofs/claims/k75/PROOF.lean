import PyProof.Rows.All
import Wide.All
import OpenK.AllK
import Wide.FinOn
import Lean
import PyProof.EqAt
import PyProof.EqKinds
import PyProof.TupleCall
import KE.KTryMore
import PyProof.RaisesMany
import PyProof.RulesAs
import PyProof.ExcBaseAll.ValueError
import PyProof.NsDelKeeps
import KE.KIsNot
import PyProof.ExcArgs
import KE.RegKIsAll
import KE.RegKTryMore
import PyProof.FactsAll.NoneType_1
import PyProof.SetRoads
import PyProof.CollectWalk
import PyProof.Walks
import PyProof.Rows.SortShell
import KE.KDictSum
import PyProof.Rows.SortWalk
import PySem.Challenge.RW_peakroll_k75_no_states
set_option Elab.async false
set_option linter.all false
set_option maxRecDepth 100000
/-! THE HAND LAYER, for ints, bools, texts, own classes, LISTS and tuples (index, slices, in, append, pop ..), calls, loops. Paste it whole ahead of your own text; what your proof does not reach may be deleted. -/
namespace L2
open PySem PySem.Spec PyProof.Rows

/-- a key: an int or a str -/
abbrev Key := Sum Int Str
def keyIs : Key → Value → Bool
  | .inl k, v => Value.isInt k v
  | .inr x, v => Value.isStrOf x v
def keyH (w : World) : Key → Int
  | .inl k => hashInt k
  | .inr x => hashStr w x
theorem keyIs_shape : ∀ {k : Key} {v : Value}, keyIs k v = true → (∃ i t, k = Sum.inl i ∧ v = Value.int i t) ∨ (∃ x t, k = Sum.inr x ∧ v = Value.str x t)
  | .inl i, v, h => by
    obtain ⟨t, e⟩ := Value.isInt_shape (k := i) (v := v) h
    exact .inl ⟨i, t, rfl, e⟩
  | .inr x, v, h => by
    obtain ⟨t, e⟩ := Value.isStrOf_shape (x := x) (v := v) h
    exact .inr ⟨x, t, rfl, e⟩
theorem keyIs_int (i : Int) (t : Tok) : keyIs (.inl i) (.int i t) = true := by simp [keyIs, Value.isInt]
theorem keyIs_str (x : Str) (t : Tok) : keyIs (.inr x) (.str x t) = true := by simp [keyIs, Value.isStrOf]
theorem key_ll (a b : Int) : decide ((Sum.inl a : Key) = Sum.inl b) = (a == b) := by
  by_cases e : a = b
  · subst e; simp
  · have h : ¬ (Sum.inl a : Key) = Sum.inl b := fun q => e (Sum.inl.inj q)
    rw [decide_eq_false h]
    exact (beq_eq_false_iff_ne.mpr e).symm
theorem key_rr (a b : Str) : decide ((Sum.inr a : Key) = Sum.inr b) = decide (a = b) := by
  by_cases e : a = b
  · subst e; simp
  · have h : ¬ (Sum.inr a : Key) = Sum.inr b := fun q => e (Sum.inr.inj q)
    rw [decide_eq_false h, decide_eq_false e]
theorem key_lr (a : Int) (b : Str) : decide ((Sum.inl a : Key) = Sum.inr b) = false := decide_eq_false (fun q => nomatch q)
theorem key_rl (a : Str) (b : Int) : decide ((Sum.inr a : Key) = Sum.inl b) = false := decide_eq_false (fun q => nomatch q)

def mixKind (prog : Program) (w : World) : PySem.KeyKind prog w Key where
  is := keyIs
  hash := keyH w
  inj := fun v a b ha hb => by
    rcases keyIs_shape ha with ⟨i, t, rfl, rfl⟩ | ⟨x, t, rfl, rfl⟩
    · rcases keyIs_shape hb with ⟨j, u, rfl, e⟩ | ⟨y, u, rfl, e⟩
      · injection e with e1 _; rw [e1]
      · exact nomatch e
    · rcases keyIs_shape hb with ⟨j, u, rfl, e⟩ | ⟨y, u, rfl, e⟩
      · exact nomatch e
      · injection e with e1 _; rw [e1]
  byValue := fun k v h => by
    rcases keyIs_shape h with ⟨i, t, rfl, rfl⟩ | ⟨x, t, rfl, rfl⟩ <;> rfl
  pyHash := fun hv h => by
    rcases keyIs_shape hv with ⟨i, t, rfl, rfl⟩ | ⟨x, t, rfl, rfl⟩
    · exact wpAny_pyHash_int h
    · exact wpAny_pyHash_str h
  eqBool := fun hu hv h => by
    rcases keyIs_shape hu with ⟨i, t, rfl, rfl⟩ | ⟨x, t, rfl, rfl⟩
    · rcases keyIs_shape hv with ⟨j, u, rfl, rfl⟩ | ⟨y, u, rfl, rfl⟩
      · rw [key_ll] at h; exact wpAny_eqBool_int h
      · rw [key_lr] at h; exact SeqAt.EqAt.int_str i t y u _ _ _ _ h
    · rcases keyIs_shape hv with ⟨j, u, rfl, rfl⟩ | ⟨y, u, rfl, rfl⟩
      · rw [key_rl] at h; exact SeqAt.EqAt.str_int x t j u _ _ _ _ h
      · rw [key_rr] at h; exact wpAny_eqBool_str h
  «strs» := fun k x t v h => by
    rcases keyIs_shape h with ⟨i, u, rfl, e⟩ | ⟨y, u, rfl, e⟩
    · exact nomatch e
    · injection e with e1 _
      subst e1
      cases v <;> rfl

theorem mixKind_int (prog : Program) (w : World) (i : Int) (t : Tok) : (mixKind prog w).is (.inl i) (.int i t) = true := keyIs_int i t
theorem mixKind_str (prog : Program) (w : World) (x : Str) (t : Tok) : (mixKind prog w).is (.inr x) (.str x t) = true := keyIs_str x t
end L2

namespace L2
open PySem PySem.Spec PyProof.Rows

/-- a value, without the heap -/
inductive V where
  | non | bl (b : Bool) | int (i : Int) | str (x : Str) | byt (b : Array UInt8) | flt (b : UInt64) | ref (a : Addr) | ty (n : String)
  deriving DecidableEq

def RelV : V → Value → Prop
  | .non, u => u = Value.none
  | .bl b, u => u = Value.bool b
  | .int i, u => ∃ t, u = Value.int i t
  | .str x, u => ∃ t, u = Value.str x t
  | .byt b, u => ∃ t, u = Value.bytes b t
  | .flt b, u => ∃ t, u = Value.float b t
  | .ref a, u => u = Value.ref a
  | .ty n, u => u = Value.type n

abbrev Vals : List V → List Value → Prop := Paired RelV
theorem Vals.length {xs : List V} {us : List Value} (r : Vals xs us) : xs.length = us.length := Paired.length r
theorem Vals.get : ∀ {xs : List V} {us : List Value} {i : Nat} {x : V}, Vals xs us → xs[i]? = some x → ∃ u, us[i]? = some u ∧ RelV x u
  | _, _, _, _, .nil, e => by simp at e
  | _, _, 0, _, .cons r _, e => by simp at e; subst e; exact ⟨_, rfl, r⟩
  | _, _, i + 1, x, .cons _ t, e => by
    obtain ⟨u, h1, h2⟩ := Vals.get (i := i) (x := x) t (by simpa using e)
    exact ⟨u, by simpa using h1, h2⟩
theorem Vals.set {x : V} {u : Value} (r : RelV x u) : ∀ {xs : List V} {us : List Value} (i : Nat), Vals xs us → Vals (xs.set i x) (us.set i u)
  | _, _, _, .nil => .nil
  | _, _, 0, .cons _ t => .cons r t
  | _, _, i + 1, .cons q t => .cons q (Vals.set r i t)
theorem Vals.append : ∀ {xs ys : List V} {us ws : List Value}, Vals xs us → Vals ys ws → Vals (xs ++ ys) (us ++ ws)
  | _, _, _, _, .nil, s => s
  | _, _, _, _, .cons r t, s => .cons r (Vals.append t s)
theorem Vals.take : ∀ {xs : List V} {us : List Value} (n : Nat), Vals xs us → Vals (xs.take n) (us.take n)
  | _, _, 0, _ => .nil
  | _, _, _ + 1, .nil => .nil
  | _, _, n + 1, .cons r t => .cons r (Vals.take n t)
theorem Vals.drop : ∀ {xs : List V} {us : List Value} (n : Nat), Vals xs us → Vals (xs.drop n) (us.drop n)
  | _, _, 0, r => r
  | _, _, _ + 1, .nil => .nil
  | _, _, n + 1, .cons _ t => Vals.drop n t

def RelO : Option V → Option Value → Prop
  | some v, some u => RelV v u
  | none, none => True
  | _, _ => False
def KV {κ : Type} : List (κ × V) → List (κ × Value) → Prop := Paired fun (p : κ × V) (q : κ × Value) => p.1 = q.1 ∧ RelV p.2 q.2

/-- a key of a dict (00_mix): an int or a text -/
def kV : Key → V
  | .inl i => .int i
  | .inr x => .str x

/-- what stands at a tracked address -/
inductive HO where
  /-- a list -/
  | lst (xs : List V)
  /-- a tuple (never changes) -/
  | tup (xs : List V)
  /-- a dict whose keys are ints and texts; one whose keys are tuples of ints and texts (the empty one is both) -/
  | dK (kvs : List (Key × V)) | dT (kvs : List (List Key × V))
  /-- a set of ints: its members, its size -/
  | set (S : Int → Bool) (n : Nat)
  /-- an instance of the class at C, its dict at dx, its attributes -/
  | ins (C dx : Addr) (fs : List (Str × V))
  /-- the dict of the instance at x -/
  | own (x : Addr)
  /-- the dict of an exception -/
  | xd (fs : List (Str × V))
  /-- a bound method, f of x -/
  | met (f x : Addr)
  /-- a range object lo, lo + 1, .. below hi -/
  | rng (lo hi : Int)
  /-- a thing that is known to the object (the script; a dict while a loop walks it): read, never written while it is so -/
  | frz (o : Obj) (u : HO)
  /-- a code object's table -/
  | tbl (ps : Array Value)
  /-- any other thing, by what is true of its one object (a def of one's own: SetO a S n := HO.ext fun h => ..) -/
  | ext (φ : Heap → Prop)

abbrev Hp := Addr → Option HO
def upd (H : Hp) (a : Addr) (o : HO) : Hp := fun b => if b = a then some o else H b
theorem upd_same {H : Hp} {a : Addr} {o : HO} : upd H a o a = some o := by unfold upd; rw [if_pos rfl]
theorem upd_ne {H : Hp} {a b : Addr} {o : HO} (h : b ≠ a) : upd H a o b = H b := by unfold upd; rw [if_neg h]
theorem ne_of_none {H : Hp} {a b : Addr} {o : HO} (h : H a = some o) (h' : H b = none) : a ≠ b := by
  intro e; subst e; rw [h] at h'; cases h'

section
variable (P : Program) (w : World)
def ObjOk (H : Hp) (h : Heap) (a : Addr) : HO → Prop
  | .lst xs => xs.length ≤ sizeLine ∧ ∃ (its : List Value) (n : Nat), Vals xs its ∧ h.get? a = some { cls := .type "list", data := .seq its.toArray n }
  | .tup xs => xs.length ≤ sizeLine ∧ ∃ its : List Value, Vals xs its ∧ IsTup h a its.toArray
  | .dK kvs => kvs.length ≤ sizeLine ∧ (a == sysModules) = false ∧ ∃ vs, KV kvs vs ∧ h.DictOf (mixKind P w) a vs
  | .dT kvs => kvs.length ≤ sizeLine ∧ (a == sysModules) = false ∧ ∃ xs : List (List Key × Addr × Value),
      Paired (fun (p : List Key × V) (q : List Key × Addr × Value) => p.1 = q.1 ∧ H q.2.1 = some (.tup (p.1.map kV)) ∧ RelV p.2 q.2.2) kvs xs ∧
      ∃ o es ep, h.get? a = some o ∧ o.ExactDict ∧ o.data = .dict es ep ∧ es.toList = xs.map (entryOfKey (tupleKind (mixKind P w))) ∧ (xs.map (·.1)).Nodup
  | .set S n => h.SetOf (intKind P w) a S n
  | .ins C dx fs => H dx = some (.own a) ∧ fs.length ≤ 1000 ∧ dx ≠ a ∧ h.get? a = some (PySem.W.instObj C dx) ∧
      ∃ mA, h.Ns1 dx mA ∧ (∀ f, RelO (fs.lookup f) (mA f)) ∧ PySem.Within mA (fs.map (·.1))
  | .own _ => ∃ o, h.get? a = some o
  | .xd fs => ∃ mA, h.Ns1 a mA ∧ ∀ f, RelO (fs.lookup f) (mA f)
  | .rng lo hi => ∃ t u v, h.get? a = some { cls := .type "range", data := .fields #[.int lo t, .int hi u, .int 1 v] }
  | .frz o u => h.get? a = some o ∧ ObjOk H h a u
  | .tbl ps => h.get? a = some { cls := .none, data := .fields ps }
  | .met f x => h.get? a = some (PySem.W.methodObj (.ref f) (.ref x))
  | .ext φ => φ h ∧ (∃ o, h.get? a = some o) ∧ ∀ h1 h2 : Heap, φ h1 → (∀ o, h1.get? a = some o → h2.get? a = some o) → φ h2
/-- the abstract heap is held -/
def HOk (H : Hp) (h : Heap) : Prop := ∀ a o, H a = some o → ObjOk P w H h a o
end

section
variable {P : Program} {w : World} {H H' : Hp} {h h' : Heap} {a : Addr} {o : HO}
theorem ObjOk.lt (x : ObjOk P w H h a o) : a < h.objs.size := by
  cases o with
  | lst xs => obtain ⟨_, _, _, _, e⟩ := x; exact Heap.lt_size e
  | tup xs => obtain ⟨_, _, _, p⟩ := x; exact p.lt
  | dK kvs => obtain ⟨_, _, _, _, o, _, _, e, _⟩ := x; exact Heap.lt_size e
  | dT kvs => obtain ⟨_, _, _, _, o, _, _, e, _⟩ := x; exact Heap.lt_size e
  | set S n => obtain ⟨o, _, _, _, e, _⟩ := x; exact Heap.lt_size e
  | ins C dx fs => obtain ⟨_, _, _, e, _⟩ := x; exact Heap.lt_size e
  | own y => obtain ⟨_, e⟩ := x; exact Heap.lt_size e
  | xd fs => obtain ⟨_, ⟨_, _, _, e, _⟩, _⟩ := x; exact Heap.lt_size e
  | rng lo hi => obtain ⟨_, _, _, e⟩ := x; exact Heap.lt_size e
  | frz ob u => obtain ⟨e, _⟩ := x; exact Heap.lt_size e
  | tbl ps => exact Heap.lt_size (show h.get? a = some _ from x)
  | met f y => exact Heap.lt_size (show h.get? a = some _ from x)
  | ext φ => obtain ⟨_, ⟨_, e⟩, _⟩ := x; exact Heap.lt_size e
theorem Paired.mapP {α β : Type} {F G : α → β → Prop} : ∀ {l₁ : List α} {l₂ : List β}, Paired F l₁ l₂ → (∀ a b, F a b → G a b) → Paired G l₁ l₂
  | _, _, .nil, _ => .nil
  | _, _, .cons r t, f => .cons (f _ _ r) (Paired.mapP t f)
/-- what an object's description leans on: its own object, its own dict, the tuples -/
theorem ObjOk.stay (x : ObjOk P w H h a o) (k : ∀ b u, (b = a ∨ H b = some (.own a)) → h.get? b = some u → h'.get? b = some u)
    (ho : ∀ b, H b = some (.own a) → H' b = some (.own a)) (ht : ∀ b xs, H b = some (.tup xs) → H' b = some (.tup xs)) : ObjOk P w H' h' a o := by
  induction o with
  | lst xs => obtain ⟨z, its, n, r, e⟩ := x; exact ⟨z, its, n, r, k _ _ (.inl rfl) e⟩
  | tup xs => obtain ⟨z, its, r, ob, e, c⟩ := x; exact ⟨z, its, r, ob, k _ _ (.inl rfl) e, c⟩
  | dK kvs => obtain ⟨z, y, vs, r, ob, es, ep, e, c⟩ := x; exact ⟨z, y, vs, r, ob, es, ep, k _ _ (.inl rfl) e, c⟩
  | dT kvs =>
    obtain ⟨z, y, xs, r, ob, es, ep, e, c⟩ := x
    exact ⟨z, y, xs, Paired.mapP r fun p q z => ⟨z.1, ht _ _ z.2.1, z.2.2⟩, ob, es, ep, k _ _ (.inl rfl) e, c⟩
  | set S n => obtain ⟨ob, es, ep, t, e, c⟩ := x; exact ⟨ob, es, ep, t, k _ _ (.inl rfl) e, c⟩
  | ins C dx fs =>
    obtain ⟨d, z, ne, e, mA, ⟨od, es, ep, e2, c⟩, r⟩ := x
    exact ⟨ho _ d, z, ne, k _ _ (.inl rfl) e, mA, ⟨od, es, ep, k _ _ (.inr d) e2, c⟩, r⟩
  | own y => obtain ⟨ob, e⟩ := x; exact ⟨ob, k _ _ (.inl rfl) e⟩
  | xd fs => obtain ⟨mA, ⟨od, es, ep, e, c⟩, r⟩ := x; exact ⟨mA, ⟨od, es, ep, k _ _ (.inl rfl) e, c⟩, r⟩
  | rng lo hi => obtain ⟨t, u, v, e⟩ := x; exact ⟨t, u, v, k _ _ (.inl rfl) e⟩
  | frz ob u ih => obtain ⟨e, q⟩ := x; exact ⟨k _ _ (.inl rfl) e, ih q⟩
  | tbl ps =>
    have e : h.get? a = some { cls := .none, data := .fields ps } := x
    show h'.get? a = some { cls := .none, data := .fields ps }
    exact k a _ (.inl rfl) e
  | met f y =>
    have e : h.get? a = some (PySem.W.methodObj (.ref f) (.ref y)) := x
    show h'.get? a = some (PySem.W.methodObj (.ref f) (.ref y))
    exact k a _ (.inl rfl) e
  | ext φ => obtain ⟨p, ⟨o, e⟩, st⟩ := x; exact ⟨st _ _ p fun o q => k _ _ (.inl rfl) q, ⟨o, k _ _ (.inl rfl) e⟩, st⟩
theorem HOk.lt (x : HOk P w H h) (e : H a = some o) : a < h.objs.size := (x a o e).lt
theorem HOk.fresh (x : HOk P w H h) (e : h.objs.size ≤ a) : H a = none := by
  cases q : H a with
  | none => rfl
  | some u => exact absurd (Nat.lt_of_lt_of_le (x.lt q) e) (Nat.lt_irrefl _)
/-- every object of the heap is kept -/
theorem HOk.kept (x : HOk P w H h) (k : ∀ b u, h.get? b = some u → h'.get? b = some u) : HOk P w H h' := fun a o e =>
  (x a o e).stay (fun b u _ q => k b u q) (fun _ q => q) fun _ _ q => q
/-- a new object is laid and tracked -/
theorem HOk.laid (x : HOk P w H h) (k : ∀ b u, h.get? b = some u → h'.get? b = some u) (hp : h.objs.size ≤ a) (new : ObjOk P w (upd H a o) h' a o) : HOk P w (upd H a o) h' := fun b u e => by
  have hn := x.fresh hp
  by_cases hb : b = a
  · subst hb; rw [upd_same] at e; cases e; exact new
  · rw [upd_ne hb] at e
    exact (x b u e).stay (fun c v _ q => k c v q) (fun c q => by rw [upd_ne (ne_of_none q hn)]; exact q) fun c xs q => by rw [upd_ne (ne_of_none q hn)]; exact q
end

/-- what may be read as u: it is u, or a known u -/
def Rd (H : Hp) (a : Addr) (u : HO) : Prop := H a = some u ∨ ∃ o, H a = some (.frz o u)
theorem Rd.ok {P : Program} {w : World} {H : Hp} {h : Heap} {a : Addr} {u : HO} (r : Rd H a u) (x : HOk P w H h) : ObjOk P w H h a u := by
  rcases r with r | ⟨o, r⟩
  · exact x a u r
  · obtain ⟨_, q⟩ := x a _ r
    exact q
/-- what may be written -/
def Mut : Option HO → Prop
  | some (.lst _) => True
  | some (.dK _) => True
  | some (.dT _) => True
  | some (.set _ _) => True
  | some (.ins _ _ _) => True
  | some (.ext _) => True
  | _ => False
section
variable {P : Program} {w : World} {H : Hp} {h h' : Heap} {x e : Addr} {o' : HO}
/-- the object at e is changed: x itself, or the dict of the instance x -/
theorem HOk.write (ok : HOk P w H h) (mu : Mut (H x)) (he : e = x ∨ H e = some (.own x)) (k : ∀ b u, b ≠ e → h.get? b = some u → h'.get? b = some u) (heo : ∃ u, h'.get? e = some u)
    (new : ObjOk P w (upd H x o') h' x o') : HOk P w (upd H x o') h' := fun b u q => by
  have nown : ∀ c y, H c = some (.own y) → c ≠ x := fun c y r z => by subst z; rw [r] at mu; exact mu
  have ntup : ∀ c xs, H c = some (.tup xs) → c ≠ x := fun c xs r z => by subst z; rw [r] at mu; exact mu
  by_cases hb : b = x
  · subst hb; rw [upd_same] at q; cases q; exact new
  · rw [upd_ne hb] at q
    by_cases hbe : b = e
    · have q' : H b = some (.own x) := by
        rcases he with z | z
        · exact absurd (hbe.trans z) hb
        · rw [hbe]; exact z
      rw [q] at q'; cases q'
      obtain ⟨v, hv⟩ := heo
      exact ⟨v, by rw [hbe]; exact hv⟩
    · refine (ok b u q).stay (fun c v hc r => k c v ?_ r) (fun c r => by rw [upd_ne (nown c b r)]; exact r) fun c xs r => by rw [upd_ne (ntup c xs r)]; exact r
      rcases hc with rfl | hc
      · exact hbe
      · rintro rfl
        rcases he with z | z
        · exact nown c b hc z
        · rw [hc] at z; cases z; exact hb rfl
end

/-! ### kept unless tracked; of the frames at fs (the callers') the slots may change (an exception that passes writes there); of the records at ex (iterators) nothing is said -/
structure Un (fs ex : List Addr) (H H' : Hp) (h h' : Heap) : Prop where
  keep : ∀ b o, h.get? b = some o → H b = none → b ∉ fs → b ∉ ex → h'.get? b = some o
  slot : ∀ b o, h.get? b = some o → H b = none → b ∈ fs → b ∉ ex → ∃ sl, h'.get? b = some { o with slots := sl }
  free : ∀ b o, h.get? b = some o → H b = none → b ∉ ex → H' b = none
  there : ∀ b o, h.get? b = some o → b ∉ ex → ∃ o', h'.get? b = some o'
  tups : ∀ b xs, H b = some (.tup xs) → H' b = some (.tup xs)
  frzs : ∀ b o u, H b = some (.frz o u) → H' b = some (.frz o u)
  tbls : ∀ b ps, H b = some (.tbl ps) → ∃ more, H' b = some (.tbl (ps ++ more))
section
variable {fs fs' ex ex' : List Addr} {H H1 H2 : Hp} {h h1 h2 h' : Heap} {a x e : Addr} {o : HO}
theorem Un.any (u : Un fs ex H H1 h h1) {b : Addr} {ob : Obj} (q : h.get? b = some ob) (n : H b = none) (hx : b ∉ ex) : ∃ sl, h1.get? b = some { ob with slots := sl } := by
  by_cases hb : b ∈ fs
  · exact u.slot b ob q n hb hx
  · exact ⟨ob.slots, u.keep b ob q n hb hx⟩
theorem Un.kept (k : ∀ b u, h.get? b = some u → h'.get? b = some u) : Un fs ex H H h h' :=
  ⟨fun b ob q _ _ _ => k b ob q, fun b ob q _ _ _ => ⟨ob.slots, k b ob q⟩, fun _ _ _ n _ => n, fun b ob q _ => ⟨ob, k b ob q⟩, fun _ _ q => q, fun _ _ _ q => q, fun _ ps q => ⟨#[], by rw [q]; simp⟩⟩
theorem Un.refl : Un fs ex H H h h := Un.kept fun _ _ q => q
theorem Un.laid (k : ∀ b u, h.get? b = some u → h'.get? b = some u) (hp : h.objs.size ≤ a) (hn : H a = none) : Un fs ex H (upd H a o) h h' where
  keep := fun b u q _ _ _ => k b u q
  slot := fun b u q _ _ _ => ⟨u.slots, k b u q⟩
  free := fun b u q n _ => by rw [upd_ne (Nat.ne_of_lt (Nat.lt_of_lt_of_le (Heap.lt_size q) hp))]; exact n
  there := fun b u q _ => ⟨u, k b u q⟩
  tups := fun b xs q => by rw [upd_ne (ne_of_none q hn)]; exact q
  frzs := fun b u xs q => by rw [upd_ne (ne_of_none q hn)]; exact q
  tbls := fun b ps q => ⟨#[], by rw [upd_ne (ne_of_none q hn), q]; simp⟩
theorem Un.write (mu : Mut (H x)) (he : e = x ∨ H e = some (.own x)) (k : ∀ b u, b ≠ e → h.get? b = some u → h'.get? b = some u) (heo : ∃ u, h'.get? e = some u) : Un fs ex H (upd H x o) h h' := by
  have hx : ∀ b, H b = none → b ≠ x := fun b n z => by subst z; rw [n] at mu; exact mu
  have hb : ∀ b, H b = none → b ≠ e := fun b n z => by
    subst z
    rcases he with r | r
    · exact hx b n r
    · rw [n] at r; cases r
  have hm : ∀ b u, H b = some u → ¬ Mut (some u) → b ≠ x := fun b u q nm z => by subst z; rw [q] at mu; exact nm mu
  refine ⟨fun b u q n _ _ => k b u (hb b n) q, fun b u q n _ _ => ⟨u.slots, k b u (hb b n) q⟩, fun b u q n _ => by rw [upd_ne (hx b n)]; exact n, fun b u q _ => ?_,
    fun b xs q => by rw [upd_ne (hm b _ q fun z => z)]; exact q, fun b u xs q => by rw [upd_ne (hm b _ q fun z => z)]; exact q, fun b ps q => ⟨#[], by rw [upd_ne (hm b _ q fun z => z), q]; simp⟩⟩
  by_cases hbe : b = e
  · subst hbe; exact heo
  · exact ⟨u, k b u hbe q⟩
end

/-! ### the heap without what is tracked -/
def trk (h : Heap) (H : Hp) : List Addr := (List.range h.objs.size).filter fun a => (H a).isSome
def hidT (h : Heap) (H : Hp) : Heap := PySem.W.hideAll h (trk h H)
theorem hidT_size (h : Heap) (H : Hp) : (hidT h H).objs.size = h.objs.size := PySem.W.hideAll_size _ _
theorem hidT_get {h : Heap} {H : Hp} {b : Addr} {o : Obj} (e : h.get? b = some o) (n : H b = none) : (hidT h H).get? b = some o :=
  PySem.W.hideAll_get _ e fun hm => by
    have q : (H b).isSome = true := (List.mem_filter.mp hm).2
    rw [n] at q; simp at q
theorem of_hidT {h : Heap} {H : Hp} {b : Addr} {o : Obj} (e : (hidT h H).get? b = some o) : h.get? b = some o ∧ H b = none := by
  have e' : h.get? b = some o := PySem.W.of_hideAll (trk h H) e
  refine ⟨e', ?_⟩
  cases q : H b with
  | none => rfl
  | some x =>
    have hm : b ∈ trk h H := List.mem_filter.mpr ⟨List.mem_range.mpr (Heap.lt_size e'), by simp [q]⟩
    have z : (hidT h H).get? b = none := PySem.W.hideAll_none (trk h H) hm
    rw [z] at e; cases e

/-! ### OpenK's ledger, filled with every new object but one -/
end L2

namespace L2
open PySem PySem.Spec PyProof.Rows

/-- the module's facts, over the base: the heap at the law's entry without what is tracked there -/
structure Mod (K : PySem.W.Frag) (mg : Str → Option Value) (base : Heap) : Prop where
  kin : K.In base
  glob : base.Ns mainGlobals mg
  blt : ∃ mb, base.Ns builtinsNs mb ∧ ∀ x : Str, x ≠ "__name__" → mb x = bootBuiltins x
  nolimit : base.NoLimit

/-- the context: a def's body (or a comprehension's block) running. base: fixed through the whole law; s₀, H₀: the entry; outer: the frames whose slots others may change (a def's callers); stack: all frames that run;
   ex: iterators that were made ahead of the entry and are walked here (a comprehension's); fn: the names whose cells were made at the entry (a def: all; a comprehension's block: its own); calm: not within an except suite; pn: pins that every state bears; xe: what is wanted of an exception that leaves the code -/
structure Cx where
  prog : Program
  w : World
  K : PySem.W.Frag
  mg : Str → Option Value
  base : Heap
  A : Around
  N : List Str
  s₀ : Shared
  H₀ : Hp
  env : Env
  outer : List Env
  stack : List Env
  ex : List Addr
  fn : Str → Bool
  calm : Bool
  pn : List (Addr × Obj)
  xe : Value → Shared → Prop
/-- the callers' frames -/
def frs (l : List Env) : List Addr := l.filterMap (·.frame)
abbrev Cx.fs (X : Cx) : List Addr := frs X.outer

def Vis (sc : Scope) (x : Str) : Prop := sc.names.lookup x = some .local ∨ sc.names.lookup x = some .cell ∨ sc.names.lookup x = some .free
def Loc (sc : Scope) (x : Str) : Prop := sc.names.lookup x = some .local ∨ sc.names.lookup x = some .cell
def Look (env : Env) (h : Heap) (m : Str → Option Value) (x : Str) (u : Value) : Prop :=
  (env.kindOf x = some .local ∧ m x = some u) ∨ ((env.kindOf x = some .cell ∨ env.kindOf x = some .free) ∧ ∃ c, env.cells.lookup x = some c ∧ h.IsCell c (some u))

structure Cx.Ok (X : Cx) : Prop where
  mod : Mod X.K X.mg X.base
  kind : X.env.scope.kind = .function
  glob : X.env.globals = mainGlobals
  blt : X.env.builtins = builtinsNs
  above : X.s₀.heap.objs.size ≤ X.env.locals
  inj : ∀ x y c, X.env.cells.lookup x = some c → X.env.cells.lookup y = some c → x = y
  has : ∀ x, (X.env.kindOf x = some .cell ∨ X.env.kindOf x = some .free) → ∃ c, X.env.cells.lookup x = some c
  cab : ∀ x c, X.fn x = true → X.env.cells.lookup x = some c → X.s₀.heap.objs.size ≤ c
  hd : X.calm = true → X.A.handled = none
  frames : X.A.frames = some X.stack
  stk : X.stack = X.outer ∨ (X.stack = X.env :: X.outer ∧ X.env.frame = some X.env.locals)
  exf : ∀ b ∈ X.ex, b ≠ X.env.locals ∧ ∀ x c, X.env.cells.lookup x = some c → c ≠ b
  bs : ∀ b o, X.base.get? b = some o → X.s₀.heap.get? b = some o ∧ X.H₀ b = none
  bsz : X.base.objs.size ≤ X.s₀.heap.objs.size
  noex : ∀ b o, X.base.get? b = some o → b ∉ X.ex
  exfs : ∀ b ∈ X.ex, b ∉ X.fs
  funs : X.s₀.heap.FunFrames X.base X.outer
  frf : ∀ b ∈ X.fs, X.H₀ b = none

structure Inv (X : Cx) (pins : List (Addr × Obj)) (σ : List (Option V)) (H : Hp) (s : Shared) : Prop where
  ok : X.Ok
  os : s.os = X.s₀.os
  bare : AllBare s.gens
  base : Un X.fs X.ex X.H₀ H X.s₀.heap s.heap
  loc : ∃ m, s.heap.Ns X.env.locals m ∧ ∀ (i : Nat) (x : Str) (v : V), X.N[i]? = some x → σ[i]? = some (some v) → Vis X.env.scope x → ∃ u, RelV v u ∧ Look X.env s.heap m x u
  cell : ∀ x c, X.env.cells.lookup x = some c → ∃ v, s.heap.IsCell c v
  free : H X.env.locals = none
  freeC : ∀ x c, X.env.cells.lookup x = some c → H c = none
  pin : ∀ p ∈ X.pn ++ pins, s.heap.get? p.1 = some p.2 ∧ H p.1 = none ∧ p.1 ≠ X.env.locals ∧ p.1 ∉ X.fs ∧ ∀ v, p.2.data ≠ .cell v
  hok : HOk X.prog X.w H s.heap
  len : σ.length = X.N.length

section
variable {X : Cx} {pins : List (Addr × Obj)} {σ : List (Option V)} {H H' : Hp} {s : Shared} {h' : Heap}

theorem Cx.Ok.nofr (ok : X.Ok) {b : Addr} {o : Obj} (e : X.base.get? b = some o) : b ∉ X.fs := fun hb => by
  have := (ok.funs.mem hb).1
  rw [e] at this; cases this
theorem Inv.bs (I : Inv X pins σ H s) : ∀ b o, X.base.get? b = some o → s.heap.get? b = some o ∧ H b = none := fun b o e =>
  ⟨I.base.keep b o (I.ok.bs b o e).1 (I.ok.bs b o e).2 (I.ok.nofr e) (I.ok.noex b o e), I.base.free b o (I.ok.bs b o e).1 (I.ok.bs b o e).2 (I.ok.noex b o e)⟩
theorem Inv.bk (I : Inv X pins σ H s) : ∀ b o, X.base.get? b = some o → s.heap.get? b = some o := fun b o e => (I.bs b o e).1
theorem Inv.mod (I : Inv X pins σ H s) : Mod X.K X.mg X.base := I.ok.mod
theorem Inv.kIn (I : Inv X pins σ H s) : X.K.In s.heap := I.ok.mod.kin.keeps I.bk
theorem Inv.lt (I : Inv X pins σ H s) : X.env.locals < s.heap.objs.size := let ⟨_, hn, _⟩ := I.loc; hn.lt
theorem Inv.sz (I : Inv X pins σ H s) : X.s₀.heap.objs.size ≤ s.heap.objs.size := Nat.le_trans I.ok.above (Nat.le_of_lt I.lt)
theorem Inv.nofs (I : Inv X pins σ H s) {a : Addr} (h : s.heap.objs.size ≤ a) : a ∉ X.fs := fun hb => by
  obtain ⟨_, o, ho, _⟩ := I.ok.funs.mem hb
  exact absurd (Nat.lt_of_lt_of_le (Heap.lt_size ho) (Nat.le_trans I.sz h)) (Nat.lt_irrefl _)
theorem Inv.cne (I : Inv X pins σ H s) : ∀ x c, X.env.cells.lookup x = some c → c ≠ X.env.locals := fun x c e z => by
  obtain ⟨v, o, ho, hd⟩ := I.cell x c e
  obtain ⟨m, ⟨o', es, ep, ho', hd', _⟩, _⟩ := I.loc
  rw [z, ho'] at ho; cases ho; rw [hd'] at hd; cases hd
theorem Inv.funs (I : Inv X pins σ H s) : s.heap.FunFrames X.base X.outer := by
  have all : ∀ (l : List Env), (∀ b ∈ frs l, b ∈ X.fs) → X.s₀.heap.FunFrames X.base l → s.heap.FunFrames X.base l := by
    intro l
    induction l with
    | nil => intro _ _; trivial
    | cons env r ih =>
      intro hs hl
      obtain ⟨hk, ⟨L, o, hf, hn, ho, hd⟩, hr⟩ := hl
      have hL : L ∈ X.fs := hs L (by unfold frs; rw [List.filterMap_cons, hf]; exact List.mem_cons_self)
      obtain ⟨sl, e⟩ := I.base.slot L o ho (I.ok.frf L hL) hL fun z => I.ok.exfs L z hL
      exact ⟨hk, ⟨L, _, hf, hn, e, hd⟩, ih (fun b hb => hs b (by unfold frs; rw [List.filterMap_cons, hf]; exact List.mem_cons_of_mem _ hb)) hr⟩
  exact all X.outer (fun _ hb => hb) I.ok.funs

/-- the frames that run, for a call -/
theorem Inv.stack (I : Inv X pins σ H s) : s.heap.FunFrames X.base X.stack := by
  rcases I.ok.stk with e | ⟨e, hf⟩
  · rw [e]; exact I.funs
  · rw [e]
    obtain ⟨m, hn, _⟩ := I.loc
    refine .cons (by rw [I.ok.kind]; decide) hf hn ?_ I.funs
    exact Heap.get?_none_of_le (Nat.le_trans I.ok.bsz I.ok.above)
theorem Inv.stkSub (I : Inv X pins σ H s) : ∀ b ∈ frs X.stack, b ∈ X.env.locals :: X.fs := fun b hb => by
  rcases I.ok.stk with e | ⟨e, hf⟩
  · rw [e] at hb; exact List.mem_cons_of_mem _ hb
  · rw [e] at hb
    unfold frs at hb
    rw [List.filterMap_cons, hf] at hb
    exact hb
theorem Inv.stkFree (I : Inv X pins σ H s) : ∀ b ∈ frs X.stack, H b = none := fun b hb => by
  rcases List.mem_cons.mp (I.stkSub b hb) with e | hb
  · rw [e]; exact I.free
  · obtain ⟨_, o, ho, _⟩ := I.ok.funs.mem hb
    exact I.base.free b o ho (I.ok.frf b hb) fun z => I.ok.exfs b z hb

/-- THE STEP: the untracked objects but the frame and the records at ch are kept (the callers' frames up to slots), the frame's map is kept, the new abstract heap is held -/
theorem Inv.step {g' : Array GenState} {t' : Nat} {d' : Drawn} {ch : List Addr} (I : Inv X pins σ H s)
    (hch : ∀ b ∈ ch, (b ∈ X.ex ∨ X.s₀.heap.objs.size ≤ b) ∧ b ≠ X.env.locals ∧ (∀ x c, X.env.cells.lookup x = some c → c ≠ b) ∧ ∀ p ∈ X.pn ++ pins, p.1 ≠ b)
    (keep : ∀ b o, b ≠ X.env.locals → b ∉ X.fs → b ∉ ch → s.heap.get? b = some o → H b = none → h'.get? b = some o)
    (slot : ∀ b o, b ≠ X.env.locals → b ∈ X.fs → b ∉ ch → s.heap.get? b = some o → H b = none → ∃ sl, h'.get? b = some { o with slots := sl }) (free : ∀ b o, b ∉ ch → s.heap.get? b = some o → H b = none → H' b = none)
    (there : ∀ b o, b ∉ ch → s.heap.get? b = some o → ∃ o', h'.get? b = some o')
    (tups : ∀ b xs, H b = some (.tup xs) → H' b = some (.tup xs)) (frzs : ∀ b o u, H b = some (.frz o u) → H' b = some (.frz o u)) (tbls : ∀ b ps, H b = some (.tbl ps) → ∃ more, H' b = some (.tbl (ps ++ more)))
    (ns : ∀ m, s.heap.Ns X.env.locals m → h'.Ns X.env.locals m) (hok : HOk X.prog X.w H' h') (hg : AllBare g') :
    Inv X pins σ H' { s with heap := h', gens := g', drawn := d', toks := t' } := by
  have neL : ∀ b o, X.s₀.heap.get? b = some o → b ≠ X.env.locals := fun b o e => Nat.ne_of_lt (Nat.lt_of_lt_of_le (Heap.lt_size e) I.ok.above)
  have neC : ∀ b o, X.s₀.heap.get? b = some o → b ∉ X.ex → b ∉ ch := fun b o e hx hb => by
    rcases (hch b hb).1 with z | z
    · exact hx z
    · exact absurd (Nat.lt_of_lt_of_le (Heap.lt_size e) z) (Nat.lt_irrefl _)
  have cellK : ∀ x c, X.env.cells.lookup x = some c → ∀ v, s.heap.IsCell c v → h'.IsCell c v := fun x c e v ⟨o, ho, hd⟩ => by
    have nch : c ∉ ch := fun z => (hch c z).2.2.1 x c e rfl
    by_cases hc : c ∈ X.fs
    · obtain ⟨sl, q⟩ := slot c o (I.cne x c e) hc nch ho (I.freeC x c e)
      exact ⟨_, q, hd⟩
    · exact ⟨o, keep c o (I.cne x c e) hc nch ho (I.freeC x c e), hd⟩
  refine ⟨I.ok, I.os, hg, ⟨fun b o e n hb hx => ?_, fun b o e n hb hx => ?_, fun b o e n hx => ?_, fun b o e hx => ?_, fun b xs e => tups b xs (I.base.tups b xs e), fun b o xs e => frzs b o xs (I.base.frzs b o xs e), fun b ps e => ?_⟩, ?_, fun x c e => ?_, ?_, fun x c e => ?_, fun p hp => ?_, hok, I.len⟩
  · exact keep b o (neL b o e) hb (neC b o e hx) (I.base.keep b o e n hb hx) (I.base.free b o e n hx)
  · obtain ⟨sl, e1⟩ := I.base.slot b o e n hb hx
    obtain ⟨sl', e2⟩ := slot b _ (neL b o e) hb (neC b o e hx) e1 (I.base.free b o e n hx)
    exact ⟨sl', e2⟩
  · obtain ⟨o', e1⟩ := I.base.there b o e hx
    exact free b o' (neC b o e hx) e1 (I.base.free b o e n hx)
  · obtain ⟨o', e1⟩ := I.base.there b o e hx
    exact there b o' (neC b o e hx) e1
  · obtain ⟨m1, e1⟩ := I.base.tbls b ps e
    obtain ⟨m2, e2⟩ := tbls b _ e1
    exact ⟨m1 ++ m2, by rw [e2, Array.append_assoc]⟩
  · obtain ⟨m, hn, hl⟩ := I.loc
    refine ⟨m, ns m hn, fun i x v e1 e2 e3 => ?_⟩
    obtain ⟨u, r, l⟩ := hl i x v e1 e2 e3
    refine ⟨u, r, ?_⟩
    rcases l with l | ⟨k, c, e, z⟩
    · exact .inl l
    · exact .inr ⟨k, c, e, cellK x c e _ z⟩
  · obtain ⟨v, z⟩ := I.cell x c e
    exact ⟨v, cellK x c e v z⟩
  · obtain ⟨m, ⟨o, _, _, ho, _⟩, _⟩ := I.loc
    exact free _ o (fun z => (hch _ z).2.1 rfl) ho I.free
  · obtain ⟨v, o, ho, hd⟩ := I.cell x c e
    exact free c o (fun z => (hch c z).2.2.1 x c e rfl) ho (I.freeC x c e)
  · obtain ⟨e, n, ne, nf, d⟩ := I.pin p hp
    have nch : p.1 ∉ ch := fun z => (hch p.1 z).2.2.2 p hp rfl
    exact ⟨keep p.1 p.2 ne nf nch e n, free p.1 p.2 nch e n, ne, nf, d⟩
/-- .. where the frame's own object is kept too -/
theorem Inv.un {t' : Nat} (I : Inv X pins σ H s) (u : Un X.fs [] H H' s.heap h') (hok : HOk X.prog X.w H' h') : Inv X pins σ H' { s with heap := h', toks := t' } := by
  obtain ⟨m, ⟨o, es, ep, ho, r⟩, _⟩ := id I.loc
  obtain ⟨sl, hL⟩ := u.any ho I.free (by simp)
  exact I.step (g' := s.gens) (d' := s.drawn) (ch := []) (fun _ z => nomatch z) (fun b o _ hb _ e n => u.keep b o e n hb (by simp)) (fun b o _ hb _ e n => u.slot b o e n hb (by simp)) (fun b o _ e n => u.free b o e n (by simp)) (fun b o _ e => u.there b o e (by simp)) u.tups u.frzs u.tbls (fun m' hm => by
    obtain ⟨o', es', ep', ho', r'⟩ := hm
    rw [ho] at ho'; cases ho'
    exact ⟨_, es', ep', hL, r'⟩) hok I.bare
/-- behind a call (or a comprehension's block): the slots of this frame may have changed too, the records at ch may have turned -/
theorem Inv.call {g' : Array GenState} {t' : Nat} {d' : Drawn} {ch : List Addr} (I : Inv X pins σ H s) (u : Un (frs X.stack) ch H H' s.heap h') (hok : HOk X.prog X.w H' h') (hg : AllBare g')
    (hch : ∀ b ∈ ch, (b ∈ X.ex ∨ X.s₀.heap.objs.size ≤ b) ∧ b ≠ X.env.locals ∧ (∀ x c, X.env.cells.lookup x = some c → c ≠ b) ∧ ∀ p ∈ X.pn ++ pins, p.1 ≠ b) :
    Inv X pins σ H' { s with heap := h', gens := g', drawn := d', toks := t' } := by
  obtain ⟨m, ⟨o, es, ep, ho, r⟩, _⟩ := id I.loc
  obtain ⟨sl, hL⟩ := u.any ho I.free fun z => (hch _ z).2.1 rfl
  exact I.step (ch := ch) hch (fun b o hL hb hc e n => u.keep b o e n (fun z => (List.mem_cons.mp (I.stkSub b z)).elim hL hb) hc) (fun b o _ _ hc e n => u.any e n hc) (fun b o hc e n => u.free b o e n hc) (fun b o hc e => u.there b o e hc) u.tups u.frzs u.tbls (fun m' hm => by
    obtain ⟨o', es', ep', ho', r'⟩ := hm
    rw [ho] at ho'; cases ho'
    exact ⟨_, es', ep', hL, r'⟩) hok hg
/-- an untracked record of ours (an iterator) has turned -/
theorem Inv.turned {t' : Nat} {it : Addr} (I : Inv X pins σ H s) (k : ∀ b o, b ≠ it → s.heap.get? b = some o → h'.get? b = some o) (hn : H it = none) (hL : it ≠ X.env.locals)
    (h1 : it ∈ X.ex ∨ X.s₀.heap.objs.size ≤ it) (h2 : ∀ x c, X.env.cells.lookup x = some c → c ≠ it) (h3 : ∀ p ∈ X.pn ++ pins, p.1 ≠ it) : Inv X pins σ H { s with heap := h', toks := t' } := by
  have nit : ∀ b u, H b = some u → b ≠ it := fun b u e z => by rw [z, hn] at e; cases e
  refine I.step (g' := s.gens) (d' := s.drawn) (ch := [it]) (fun b hb => ?_) (fun b o _ _ hc e _ => k b o (fun z => hc (by simp [z])) e) (fun b o _ _ hc e _ => ⟨o.slots, k b o (fun z => hc (by simp [z])) e⟩) (fun _ _ _ _ n => n)
    (fun b o hc e => ⟨o, k b o (fun z => hc (by simp [z])) e⟩) (fun _ _ e => e) (fun _ _ _ e => e) (fun b ps e => ⟨#[], by rw [e]; simp⟩) (fun m hm => ?_) (fun b u e => ?_) I.bare
  · have e : b = it := by simpa using hb
    subst e
    exact ⟨h1, hL, h2, h3⟩
  · obtain ⟨o, es, ep, ho, r⟩ := hm
    exact ⟨o, es, ep, k _ o (Ne.symm hL) ho, r⟩
  · refine (I.hok b u e).stay (fun c v hc q => k c v ?_ q) (fun _ q => q) fun _ _ q => q
    rcases hc with z | z
    · rw [z]; exact nit b u e
    · exact nit c _ z
theorem Inv.tok (I : Inv X pins σ H s) (t : Nat) : Inv X pins σ H { s with toks := t } := I.un (h' := s.heap) (t' := t) Un.refl I.hok
/-- all objects kept -/
theorem Inv.kept {t' : Nat} (I : Inv X pins σ H s) (k : ∀ b u, s.heap.get? b = some u → h'.get? b = some u) : Inv X pins σ H { s with heap := h', toks := t' } := I.un (Un.kept k) (I.hok.kept k)
/-- a new object laid and tracked -/
theorem Inv.laid {a : Addr} {o : HO} {t' : Nat} (I : Inv X pins σ H s) (k : ∀ b u, s.heap.get? b = some u → h'.get? b = some u) (hp : s.heap.objs.size ≤ a) (new : ObjOk X.prog X.w (upd H a o) h' a o) :
    Inv X pins σ (upd H a o) { s with heap := h', toks := t' } := I.un (Un.laid k hp (I.hok.fresh hp)) (I.hok.laid k hp new)
/-- an object written -/
theorem Inv.write {x e : Addr} {o : HO} {t' : Nat} (I : Inv X pins σ H s) (mu : Mut (H x)) (he : e = x ∨ H e = some (.own x)) (k : ∀ b u, b ≠ e → s.heap.get? b = some u → h'.get? b = some u) (heo : ∃ u, h'.get? e = some u)
    (new : ObjOk X.prog X.w (upd H x o) h' x o) : Inv X pins σ (upd H x o) { s with heap := h', toks := t' } := I.un (Un.write mu he k heo) (I.hok.write mu he k heo new)
theorem Inv.pins_of {pins' : List (Addr × Obj)} (I : Inv X pins σ H s) (h : ∀ p ∈ pins', s.heap.get? p.1 = some p.2 ∧ H p.1 = none ∧ p.1 ≠ X.env.locals ∧ p.1 ∉ X.fs ∧ ∀ v, p.2.data ≠ .cell v) : Inv X pins' σ H s :=
  ⟨I.ok, I.os, I.bare, I.base, I.loc, I.cell, I.free, I.freeC, fun p hp => (List.mem_append.mp hp).elim (fun z => I.pin p (List.mem_append_left _ z)) (h p), I.hok, I.len⟩

theorem nodup_ix {N : List Str} (hN : N.Nodup) {i j : Nat} {x : Str} (a : N[i]? = some x) (b : N[j]? = some x) : i = j := by
  obtain ⟨h1, e1⟩ := List.getElem?_eq_some_iff.mp a
  obtain ⟨h2, e2⟩ := List.getElem?_eq_some_iff.mp b
  exact (List.getElem_inj hN).mp (e1.trans e2.symm)

/-- a name is stored; what changed -/
theorem store_ok2 {M : Model} {A : Around} {E : Value → Shared → Prop} {i : Nat} {x : Str} {v : V} {u : Value} {Q : Unit → Shared → Prop} (I : Inv X pins σ H s) (hN : X.N.Nodup) (hi : X.N[i]? = some x) (hx : Loc X.env.scope x) (r : RelV v u)
    (h : ∀ s', Inv X pins (σ.set i (some v)) H s' → (∃ a, Heap.SameBut a s.heap s'.heap ∧ (a = X.env.locals ∨ X.env.cells.lookup x = some a)) → Q () s') (hf : X.fn x = true ∨ X.env.scope.names.lookup x = some .local := by first | exact .inl rfl | exact .inr rfl | assumption) : wpAny M A (storeName X.env x u) Q E s := by
  obtain ⟨m, hn, hl⟩ := id I.loc
  have hcls : (X.env.scope.kind == .class || (X.env.scope.kind == .module && X.env.locals != X.env.globals)) = false := by rw [I.ok.kind]; rfl
  have hiσ : i < σ.length := by rw [I.len]; exact (List.getElem?_eq_some_iff.mp hi).1
  have cne := I.cne
  have tracked : ∀ {a : Addr} {h' : Heap}, (∃ o, s.heap.get? a = some o ∧ H a = none) → Heap.SameBut a s.heap h' → HOk X.prog X.w H h' := fun {a h'} ha hs b ob e => by
    obtain ⟨_, _, hfree⟩ := ha
    refine (I.hok b ob e).stay (fun c w' hc q => (hs.2 c ?_).trans q) (fun _ q => q) fun _ _ q => q
    rintro rfl
    rcases hc with rfl | hc
    · rw [hfree] at e; cases e
    · rw [hfree] at hc; cases hc
  rcases hx with hk | hk
  · refine wpAny_storeName_local hk hn (fun h' hn' hs => ?_) hcls
    obtain ⟨oL, _, _, hoL, _⟩ := id hn
    refine h _ ⟨I.ok, I.os, I.bare, ⟨fun b o e n hb hx => ?_, fun b o e n hb hx => ?_, I.base.free, fun b o e hx => ?_, I.base.tups, I.base.frzs, I.base.tbls⟩, ⟨_, hn', fun j y v' e1 e2 e3 => ?_⟩, fun y c e => ?_, I.free, I.freeC, fun p hp => ?_, tracked ⟨oL, hoL, I.free⟩ hs, by simpa using I.len⟩ ⟨_, hs, .inl rfl⟩
    · exact (hs.2 b (Nat.ne_of_lt (Nat.lt_of_lt_of_le (Heap.lt_size e) I.ok.above))).trans (I.base.keep b o e n hb hx)
    · obtain ⟨sl, e1⟩ := I.base.slot b o e n hb hx
      exact ⟨sl, (hs.2 b (Nat.ne_of_lt (Nat.lt_of_lt_of_le (Heap.lt_size e) I.ok.above))).trans e1⟩
    · obtain ⟨o', e1⟩ := I.base.there b o e hx
      exact ⟨o', (hs.2 b (Nat.ne_of_lt (Nat.lt_of_lt_of_le (Heap.lt_size e) I.ok.above))).trans e1⟩
    · by_cases hj : j = i
      · subst hj
        rw [hi] at e1; cases e1
        rw [List.getElem?_set_self hiσ] at e2
        cases e2
        exact ⟨u, r, .inl ⟨hk, by simp⟩⟩
      · rw [List.getElem?_set_ne (Ne.symm hj)] at e2
        obtain ⟨u', r', q⟩ := hl j y v' e1 e2 e3
        refine ⟨u', r', ?_⟩
        rcases q with ⟨k, e⟩ | ⟨k, c, e, z⟩
        · refine .inl ⟨k, ?_⟩
          have : y ≠ x := fun e => hj (nodup_ix hN e1 (e ▸ hi))
          simp [this, e]
        · exact .inr ⟨k, c, e, z.sameBut hs (cne y c e)⟩
    · obtain ⟨w', z⟩ := I.cell y c e
      exact ⟨w', z.sameBut hs (cne y c e)⟩
    · obtain ⟨e, n, ne, nf, d⟩ := I.pin p hp
      exact ⟨(hs.2 p.1 ne).trans e, n, ne, nf, d⟩
  · have hfn : X.fn x = true := by
      rcases hf with z | z
      · exact z
      · rw [z] at hk; cases hk
    obtain ⟨c, hc⟩ := I.ok.has x (.inl hk)
    obtain ⟨w', z⟩ := I.cell x c hc
    refine wpAny_storeName_cell I.ok.kind hk hc z (fun h' hc' hs => ?_)
    obtain ⟨oc, hoc, hocd⟩ := id z
    refine h { s with heap := h' } ⟨I.ok, I.os, I.bare, ⟨fun b o e n hb hx => ?_, fun b o e n hb hx => ?_, I.base.free, fun b o e hx => ?_, I.base.tups, I.base.frzs, I.base.tbls⟩, ⟨m, hn.sameBut hs (Ne.symm (cne x c hc)), fun j y v' e1 e2 e3 => ?_⟩, fun y c' e => ?_, I.free, I.freeC, fun p hp => ?_, tracked ⟨oc, hoc, I.freeC x c hc⟩ hs, by simpa using I.len⟩ ⟨c, hs, .inr hc⟩
    · exact (hs.2 b (Nat.ne_of_lt (Nat.lt_of_lt_of_le (Heap.lt_size e) (I.ok.cab x c hfn hc)))).trans (I.base.keep b o e n hb hx)
    · obtain ⟨sl, e1⟩ := I.base.slot b o e n hb hx
      exact ⟨sl, (hs.2 b (Nat.ne_of_lt (Nat.lt_of_lt_of_le (Heap.lt_size e) (I.ok.cab x c hfn hc)))).trans e1⟩
    · obtain ⟨o', e1⟩ := I.base.there b o e hx
      exact ⟨o', (hs.2 b (Nat.ne_of_lt (Nat.lt_of_lt_of_le (Heap.lt_size e) (I.ok.cab x c hfn hc)))).trans e1⟩
    · by_cases hj : j = i
      · subst hj
        rw [hi] at e1; cases e1
        rw [List.getElem?_set_self hiσ] at e2
        cases e2
        exact ⟨u, r, .inr ⟨.inl hk, c, hc, hc'⟩⟩
      · rw [List.getElem?_set_ne (Ne.symm hj)] at e2
        obtain ⟨u', r', q⟩ := hl j y v' e1 e2 e3
        refine ⟨u', r', ?_⟩
        rcases q with q | ⟨k, c', e, z'⟩
        · exact .inl q
        · refine .inr ⟨k, c', e, z'.sameBut hs ?_⟩
          rintro rfl
          exact hj (nodup_ix hN e1 (I.ok.inj _ _ _ e hc ▸ hi))
    · by_cases hcc : c' = c
      · subst hcc; exact ⟨_, hc'⟩
      · obtain ⟨w2, z2⟩ := I.cell y c' e
        exact ⟨w2, z2.sameBut hs hcc⟩
    · obtain ⟨e, n, ne, nf, d⟩ := I.pin p hp
      refine ⟨(hs.2 p.1 ?_).trans e, n, ne, nf, d⟩
      intro q
      rw [q, hoc] at e
      have q' : oc = p.2 := Option.some.inj e
      exact d w' (by rw [← q']; exact hocd)
theorem store_ok {M : Model} {A : Around} {E : Value → Shared → Prop} {i : Nat} {x : Str} {v : V} {u : Value} {Q : Unit → Shared → Prop} (I : Inv X pins σ H s) (hN : X.N.Nodup) (hi : X.N[i]? = some x) (hx : Loc X.env.scope x) (r : RelV v u)
    (h : ∀ s', Inv X pins (σ.set i (some v)) H s' → Q () s') (hf : X.fn x = true ∨ X.env.scope.names.lookup x = some .local := by first | exact .inl rfl | exact .inr rfl | assumption) : wpAny M A (storeName X.env x u) Q E s :=
  store_ok2 I hN hi hx r (fun s' I' _ => h s' I') hf
/-- behind a call or a block, the state as it is -/
theorem Inv.call' {s' : Shared} {ch : List Addr} (I : Inv X pins σ H s) (ho : s'.os = s.os) (u : Un (frs X.stack) ch H H' s.heap s'.heap) (hok : HOk X.prog X.w H' s'.heap) (hg : AllBare s'.gens)
    (hch : ∀ b ∈ ch, (b ∈ X.ex ∨ X.s₀.heap.objs.size ≤ b) ∧ b ≠ X.env.locals ∧ (∀ x c, X.env.cells.lookup x = some c → c ≠ b) ∧ ∀ p ∈ X.pn ++ pins, p.1 ≠ b) : Inv X pins σ H' s' := by
  obtain ⟨h', g', d', t', o'⟩ := s'
  have e : o' = s.os := ho
  subst e
  exact I.call (g' := g') (t' := t') (d' := d') u hok hg hch
end

/-! ### the judgements -/
/-- an exception: its class, its own dict's address (where it has one), the abstract heap behind it -/
abbrev XK := Value → Option Addr → Hp → Prop
abbrev St := List (Option V)
abbrev VK := V → Hp → Prop
/-- an expression's reading; a test's; an argument list's -/
abbrev TE := St → Hp → VK → Prop
abbrev TT := St → Hp → (Bool → Hp → Prop) → Prop
abbrev TA := St → Hp → (List V → Hp → Prop) → Prop
/-- what is wanted behind a statement -/
structure Ends where
  nx : St → Hp → Prop
  rt : VK
  bk : St → Hp → Prop := fun _ _ => False
  ct : St → Hp → Prop := fun _ _ => False
abbrev TS := Ends → St → Hp → Prop

def EP (X : Cx) (pins : List (Addr × Obj)) (σ : St) (Q : VK) (u : Value) (s' : Shared) : Prop := ∃ v H', Inv X pins σ H' s' ∧ RelV v u ∧ Q v H'
def TP (X : Cx) (pins : List (Addr × Obj)) (σ : St) (Q : Bool → Hp → Prop) (b : Bool) (s' : Shared) : Prop := ∃ H', Inv X pins σ H' s' ∧ Q b H'
def AP (X : Cx) (pins : List (Addr × Obj)) (σ : St) (Q : List V → Hp → Prop) (us : List Value) (s' : Shared) : Prop := ∃ vs H', Inv X pins σ H' s' ∧ Vals vs us ∧ Q vs H'
def SP (X : Cx) (pins : List (Addr × Obj)) (D : Ends) (f : Flow) (s' : Shared) : Prop :=
  match f with
  | .next => ∃ σ' H', Inv X pins σ' H' s' ∧ D.nx σ' H'
  | .brk => ∃ σ' H', Inv X pins σ' H' s' ∧ D.bk σ' H'
  | .cont => ∃ σ' H', Inv X pins σ' H' s' ∧ D.ct σ' H'
  | .ret u => ∃ v σ' H', Inv X pins σ' H' s' ∧ RelV v u ∧ D.rt v H'

structure PE (X : Cx) (e : Expr) (t : TE) : Prop where
  go : ∀ (pins : List (Addr × Obj)) (s : Shared) (σ : St) (H : Hp) (Q : VK), Inv X pins σ H s → t σ H Q → wpAny (model X.prog X.w) X.A (eval e X.env) (EP X pins σ Q) X.xe s
instance {X : Cx} {e : Expr} {t : TE} : CoeFun (PE X e t) (fun _ => ∀ (pins : List (Addr × Obj)) (s : Shared) (σ : St) (H : Hp) (Q : VK), Inv X pins σ H s → t σ H Q → wpAny (model X.prog X.w) X.A (eval e X.env) (EP X pins σ Q) X.xe s) := ⟨PE.go⟩
structure PT (X : Cx) (e : Expr) (t : TT) : Prop where
  go : ∀ (pins : List (Addr × Obj)) (s : Shared) (σ : St) (H : Hp) (Q : Bool → Hp → Prop), Inv X pins σ H s → t σ H Q → wpAny (model X.prog X.w) X.A (isTrue e X.env (eval e X.env)) (TP X pins σ Q) X.xe s
instance {X : Cx} {e : Expr} {t : TT} : CoeFun (PT X e t) (fun _ => ∀ (pins : List (Addr × Obj)) (s : Shared) (σ : St) (H : Hp) (Q : Bool → Hp → Prop), Inv X pins σ H s → t σ H Q → wpAny (model X.prog X.w) X.A (isTrue e X.env (eval e X.env)) (TP X pins σ Q) X.xe s) := ⟨PT.go⟩
/-- a test whatever its 'whole' is (and, or) -/
structure PW (X : Cx) (e : Expr) (t : TT) : Prop where
  go : ∀ (whole : Sem Value) (pins : List (Addr × Obj)) (s : Shared) (σ : St) (H : Hp) (Q : Bool → Hp → Prop), Inv X pins σ H s → t σ H Q → wpAny (model X.prog X.w) X.A (isTrue e X.env whole) (TP X pins σ Q) X.xe s
instance {X : Cx} {e : Expr} {t : TT} : CoeFun (PW X e t) (fun _ => ∀ (whole : Sem Value) (pins : List (Addr × Obj)) (s : Shared) (σ : St) (H : Hp) (Q : Bool → Hp → Prop), Inv X pins σ H s → t σ H Q → wpAny (model X.prog X.w) X.A (isTrue e X.env whole) (TP X pins σ Q) X.xe s) := ⟨PW.go⟩
theorem PW.pt {X : Cx} {e : Expr} {t : TT} (h : PW X e t) : PT X e t := .mk (h _)
/-- an argument list (no star), from the left -/
structure PA (X : Cx) (es : List Expr) (t : TA) : Prop where
  go : ∀ (pos : Pos) (pins : List (Addr × Obj)) (s : Shared) (σ : St) (H : Hp) (Q : List V → Hp → Prop), Inv X pins σ H s → t σ H Q → wpAny (model X.prog X.w) X.A (spliced (backTo pos (starEach es X.env))) (AP X pins σ Q) X.xe s
instance {X : Cx} {es : List Expr} {t : TA} : CoeFun (PA X es t) (fun _ => ∀ (pos : Pos) (pins : List (Addr × Obj)) (s : Shared) (σ : St) (H : Hp) (Q : List V → Hp → Prop), Inv X pins σ H s → t σ H Q → wpAny (model X.prog X.w) X.A (spliced (backTo pos (starEach es X.env))) (AP X pins σ Q) X.xe s) := ⟨PA.go⟩
structure PS (X : Cx) (st : Stmt) (t : TS) : Prop where
  go : ∀ (pins : List (Addr × Obj)) (s : Shared) (σ : St) (H : Hp) (D : Ends), Inv X pins σ H s → t D σ H → wpAny (model X.prog X.w) X.A (exec st X.env) (SP X pins D) X.xe s
instance {X : Cx} {st : Stmt} {t : TS} : CoeFun (PS X st t) (fun _ => ∀ (pins : List (Addr × Obj)) (s : Shared) (σ : St) (H : Hp) (D : Ends), Inv X pins σ H s → t D σ H → wpAny (model X.prog X.w) X.A (exec st X.env) (SP X pins D) X.xe s) := ⟨PS.go⟩
structure PSs (X : Cx) (st : List Stmt) (t : TS) : Prop where
  go : ∀ (pins : List (Addr × Obj)) (s : Shared) (σ : St) (H : Hp) (D : Ends), Inv X pins σ H s → t D σ H → wpAny (model X.prog X.w) X.A (execs st X.env) (SP X pins D) X.xe s
instance {X : Cx} {st : List Stmt} {t : TS} : CoeFun (PSs X st t) (fun _ => ∀ (pins : List (Addr × Obj)) (s : Shared) (σ : St) (H : Hp) (D : Ends), Inv X pins σ H s → t D σ H → wpAny (model X.prog X.w) X.A (execs st X.env) (SP X pins D) X.xe s) := ⟨PSs.go⟩
/-- weaken the end -/
theorem thn {α : Type} {t : Sem α} {Q Q' : α → Shared → Prop} {M : Model} {A : Around} {E : Value → Shared → Prop} {s : Shared} (h : wpAny M A t Q E s) (hQ : ∀ a s, Q a s → Q' a s) : wpAny M A t Q' E s := wpAny_mono h hQ fun _ _ x => x
end L2

namespace L2
open PySem PySem.Spec PyProof.Rows
section
variable {X : Cx}


/-! ### names and constants -/
inductive tVar (i : Nat) (σ : St) (H : Hp) (Q : VK) : Prop
  | mk (v : V) (e : σ[i]? = some (some v)) (q : Q v H) : tVar i σ H Q
abbrev tC (v : V) : TE := fun _ H Q => Q v H
theorem pe_var {i : Nat} {x : Str} {pos : Pos} (hN : X.N[i]? = some x) (hv : Vis X.env.scope x) (hd : (x == ("__debug__" : Str)) = false := by decide) (hcd : (x == ("__classdict__" : Str)) = false := by decide) : PE X (.Name x pos) (tVar i) := by
  refine ⟨?_⟩
  intro pins s σ H Q I h
  obtain ⟨v, e, h⟩ := h
  obtain ⟨m, hn, hl⟩ := I.loc
  obtain ⟨u, r, l⟩ := hl i x v hN e hv
  have fin : EP X pins σ Q u s := ⟨v, H, I, r, h⟩
  rcases l with ⟨hk, hm⟩ | ⟨hk, c, hc, hcell⟩
  · exact wpAny_Name (wpAny_loadName_local I.ok.kind hk hn hm fin) hd
  · rcases hk with hk | hk
    · exact wpAny_Name (wpAny_loadName_cell I.ok.kind hk hc hcell fin) hd
    · exact wpAny_Name (wpAny_loadName_free I.ok.kind hk hc hcell fin hcd) hd
theorem pe_int {i j pos} : PE X (.Constant (.int i) j pos) (tC (.int i)) := .mk fun _ _ _ H _ I h => wpAny_Constant_int ⟨.int i, H, I.tok _, ⟨_, rfl⟩, h⟩
theorem pe_bl {b j pos} : PE X (.Constant (.bool b) j pos) (tC (.bl b)) := .mk fun _ _ _ H _ I h => Constant_bool ⟨.bl b, H, I, rfl, h⟩
theorem pe_non {j pos} : PE X (.Constant .none j pos) (tC .non) := .mk fun _ _ _ H _ I h => Constant_none ⟨.non, H, I, rfl, h⟩
theorem pe_str {x j pos} : PE X (.Constant (.str x) j pos) (tC (.str x)) := .mk fun _ _ _ H _ I h => Calls.Constant_str ⟨.str x, H, I.tok _, ⟨_, rfl⟩, h⟩

/-- a global name of the def -/
def Gl (X : Cx) (x : Str) : Prop := X.env.kindOf x = some .globalImplicit
theorem ld_glob {E : Value → Shared → Prop} {pins : List (Addr × Obj)} {s : Shared} {σ : St} {H : Hp} {x : Str} {u : Value} {pos : Pos} {Q : Value → Shared → Prop} (I : Inv X pins σ H s) (hg : Gl X x) (hm : X.mg x = some u) (h : Q u s)
    (hd : (x == ("__debug__" : Str)) = false := by decide) : wpAny (model X.prog X.w) X.A (eval (.Name x pos) X.env) Q E s :=
  Calls.Name_function_global I.ok.kind hg (Calls.loadGlobal_global (by rw [I.ok.glob]; exact I.mod.glob.keeps I.bk) hm h) hd
theorem ld_blt {E : Value → Shared → Prop} {pins : List (Addr × Obj)} {s : Shared} {σ : St} {H : Hp} {x : Str} {u : Value} {pos : Pos} {Q : Value → Shared → Prop} (I : Inv X pins σ H s) (hg : Gl X x) (hm : X.mg x = none) (hv : bootBuiltins x = some u) (h : Q u s)
    (hn : x ≠ "__name__" := by decide) (hd : (x == ("__debug__" : Str)) = false := by decide) : wpAny (model X.prog X.w) X.A (eval (.Name x pos) X.env) Q E s := by
  obtain ⟨mb, h1, h2⟩ := I.mod.blt
  exact Calls.Name_function_global I.ok.kind hg (Calls.loadGlobal_builtin (by rw [I.ok.glob]; exact I.mod.glob.keeps I.bk) hm (by rw [I.ok.blt]; exact h1.keeps I.bk) ((h2 x hn).trans hv) h) hd
/-- a module's constant, a class, a function, as a value -/
theorem pe_glob {x : Str} {v : V} {u : Value} {pos : Pos} (hg : Gl X x) (hm : X.mg x = some u) (r : RelV v u) (hd : (x == ("__debug__" : Str)) = false := by decide) : PE X (.Name x pos) (tC v) := .mk
  fun _ _ _ H _ I h => ld_glob I hg hm ⟨v, H, I, r, h⟩ hd
theorem pe_bltn {x : Str} {v : V} {u : Value} {pos : Pos} (hg : Gl X x) (hm : X.mg x = none) (hv : bootBuiltins x = some u) (r : RelV v u) (hn : x ≠ "__name__" := by decide) (hd : (x == ("__debug__" : Str)) = false := by decide) : PE X (.Name x pos) (tC v) := .mk
  fun _ _ _ H _ I h => ld_blt I hg hm hv ⟨v, H, I, r, h⟩ hn hd

/-! ### arithmetic -/
variable {a b : Expr} {ta tb : TE} {pos : Pos}

/-! ### comparisons -/
/-- a comparison as a value, as a test -/
inductive tBx (x : V) (H1 : Hp) (Q : Bool → Hp → Prop) : Prop
  | mk (c : Bool) (e : x = .bl c) (q : Q c H1) : tBx x H1 Q
def tB (t : TE) : TT := fun σ H Q => t σ H fun x H1 => tBx x H1 Q
/-- an expression whose value is a bool, as a test -/
theorem pt_val {e : Expr} {t : TE} (h : PE X e t) (he : ∀ whole, isTrue e X.env whole = (do let v ← whole; standAt e.pos; holding [v] (truthy v)) := by intro _; rfl) : PT X e (tB t) := by
  refine ⟨?_⟩
  intro pins s σ H Q I hw
  refine isTrue_plain (thn (h pins s σ H _ I hw) fun v s1 ⟨x, H1, I1, r1, q1⟩ => ?_) (he _)
  obtain ⟨d, rfl, q⟩ := q1
  cases r1
  exact wpAny_truthy_bool ⟨H1, I1, q⟩

/-! ### and, or, not -/
variable {tA tB' : TT} {rest : List Expr}
def tAnd (t u : TT) : TT := fun σ H Q => t σ H fun c H1 => if c = true then u σ H1 Q else Q false H1
def tOr (t u : TT) : TT := fun σ H Q => t σ H fun c H1 => if c = true then Q true H1 else u σ H1 Q
def tNot (t : TT) : TT := fun σ H Q => t σ H fun c H1 => Q (!c) H1
theorem pw_and1 (ha : PT X a tA) : PW X (.BoolOp .And [a] pos) tA := by
  refine ⟨?_⟩
  intro wh pins s σ H Q I h
  refine isTrue_and (thn (ha pins s σ H Q I h) fun c s1 e => ?_)
  cases c with
  | true => exact isTrue_and_nil e
  | false => exact e
theorem pw_or1 (ha : PT X a tA) : PW X (.BoolOp .Or [a] pos) tA := by
  refine ⟨?_⟩
  intro wh pins s σ H Q I h
  refine isTrue_or (thn (ha pins s σ H Q I h) fun c s1 e => ?_)
  cases c with
  | false => exact isTrue_or_nil e
  | true => exact e
theorem pw_and (ha : PT X a tA) (hb : PW X (.BoolOp .And (b :: rest) pos) tB') : PW X (.BoolOp .And (a :: b :: rest) pos) (tAnd tA tB') := by
  refine ⟨?_⟩
  intro wh pins s σ H Q I h
  refine isTrue_and (thn (ha pins s σ H _ I h) fun c s1 ⟨H1, I1, q1⟩ => ?_)
  cases c with
  | true => exact hb wh pins s1 σ H1 Q I1 q1
  | false => exact ⟨H1, I1, q1⟩
theorem pw_or (ha : PT X a tA) (hb : PW X (.BoolOp .Or (b :: rest) pos) tB') : PW X (.BoolOp .Or (a :: b :: rest) pos) (tOr tA tB') := by
  refine ⟨?_⟩
  intro wh pins s σ H Q I h
  refine isTrue_or (thn (ha pins s σ H _ I h) fun c s1 ⟨H1, I1, q1⟩ => ?_)
  cases c with
  | true => exact ⟨H1, I1, q1⟩
  | false => exact hb wh pins s1 σ H1 Q I1 q1
theorem pt_not (ha : PT X a tA) : PT X (.UnaryOp .Not a pos) (tNot tA) := by
  refine ⟨?_⟩
  intro pins s σ H Q I h
  exact isTrue_not (ha pins s σ H (fun c H1 => Q (!c) H1) I h)
/-- .. as values (bools) -/
inductive tAndX (tb : TE) (σ : St) (x : V) (H1 : Hp) (Q : VK) : Prop
  | mk (c : Bool) (e : x = .bl c) (q : if c = true then tb σ H1 Q else Q (.bl false) H1) : tAndX tb σ x H1 Q
def tAndV (ta tb : TE) : TE := fun σ H Q => ta σ H fun x H1 => tAndX tb σ x H1 Q
inductive tOrX (tb : TE) (σ : St) (x : V) (H1 : Hp) (Q : VK) : Prop
  | mk (c : Bool) (e : x = .bl c) (q : if c = true then Q (.bl true) H1 else tb σ H1 Q) : tOrX tb σ x H1 Q
def tOrV (ta tb : TE) : TE := fun σ H Q => ta σ H fun x H1 => tOrX tb σ x H1 Q
def tNotV (ta : TE) : TE := fun σ H Q => ta σ H fun x H1 => ∃ c, x = .bl c ∧ Q (.bl (!c)) H1
theorem pe_one {op} {t : TE} (h : PE X a t) : PE X (.BoolOp op [a] pos) t := .mk fun pins s σ H Q I hw => BoolOp_one (h pins s σ H Q I hw)
theorem pe_and (ha : PE X a ta) (hb : PE X (.BoolOp .And (b :: rest) pos) tb) : PE X (.BoolOp .And (a :: b :: rest) pos) (tAndV ta tb) := by
  refine ⟨?_⟩
  intro pins s σ H Q I h
  refine BoolOp_and (thn (ha pins s σ H _ I h) fun v s1 ⟨x, H1, I1, r1, q1⟩ => ?_)
  obtain ⟨c, rfl, q1⟩ := q1
  cases r1
  refine wpAny_truthy_bool ?_
  cases c with
  | true => exact hb pins s1 σ H1 Q I1 q1
  | false => exact ⟨.bl false, H1, I1, rfl, q1⟩
theorem pe_or (ha : PE X a ta) (hb : PE X (.BoolOp .Or (b :: rest) pos) tb) : PE X (.BoolOp .Or (a :: b :: rest) pos) (tOrV ta tb) := by
  refine ⟨?_⟩
  intro pins s σ H Q I h
  refine BoolOp_or (thn (ha pins s σ H _ I h) fun v s1 ⟨x, H1, I1, r1, q1⟩ => ?_)
  obtain ⟨c, rfl, q1⟩ := q1
  cases r1
  refine wpAny_truthy_bool ?_
  cases c with
  | false => exact hb pins s1 σ H1 Q I1 q1
  | true => exact ⟨.bl true, H1, I1, rfl, q1⟩
theorem pe_not (ha : PE X a ta) : PE X (.UnaryOp .Not a pos) (tNotV ta) := by
  refine ⟨?_⟩
  intro pins s σ H Q I h
  refine UnaryOp_ (thn (ha pins s σ H _ I h) fun v s1 ⟨x, H1, I1, r1, q1⟩ => ?_)
  obtain ⟨c, rfl, q1⟩ := q1
  cases r1
  exact not_of (wpAny_truthy_bool ⟨.bl (!c), H1, I1, rfl, q1⟩)
/-- a if t else b -/
def tIf (t : TT) (ta tb : TE) : TE := fun σ H Q => t σ H fun c H1 => if c = true then ta σ H1 Q else tb σ H1 Q
theorem pe_ifExp {c : Expr} (hc : PT X c tA) (ha : PE X a ta) (hb : PE X b tb) : PE X (.IfExp c a b pos) (tIf tA ta tb) := by
  refine ⟨?_⟩
  intro pins s σ H Q I h
  refine wpAny_IfExp (thn (hc pins s σ H _ I h) fun d s1 ⟨H1, I1, q1⟩ => ?_)
  cases d with
  | true => exact ha pins s1 σ H1 Q I1 q1
  | false => exact hb pins s1 σ H1 Q I1 q1
end
end L2

namespace L2
open PySem PySem.Spec PyProof.Rows

/-! ### a list, a tuple that is read: tracked, frozen, or an object of the module -/
def SqL (K : PySem.W.Frag) (H : Hp) (a : Addr) (xs : List V) : Prop :=
  Rd H a (.lst xs) ∨
    ∃ (o : Obj) (its : Array Value) (n : Nat), K.lookup a = some o ∧ o.cls = .type "list" ∧ o.dict = none ∧ o.data = .seq its n ∧ its.size ≤ sizeLine ∧ Vals xs its.toList
def SqT (K : PySem.W.Frag) (H : Hp) (a : Addr) (xs : List V) : Prop :=
  Rd H a (.tup xs) ∨
    ∃ (o : Obj) (its : Array Value) (n : Nat), K.lookup a = some o ∧ o.cls = .type "tuple" ∧ o.data = .seq its n ∧ its.size ≤ sizeLine ∧ Vals xs its.toList
def absV : Value → Option V
  | .none => some .non
  | .bool b => some (.bl b)
  | .int i _ => some (.int i)
  | .str x _ => some (.str x)
  | .bytes b _ => some (.byt b)
  | .float b _ => some (.flt b)
  | .ref a => some (.ref a)
  | .type n => some (.ty n)
  | _ => none
theorem RelV.abs {x : V} {u : Value} (r : RelV x u) : absV u = some x := by
  cases x with
  | non => cases r; rfl
  | bl _ => cases r; rfl
  | int _ => obtain ⟨t, rfl⟩ := r; rfl
  | str _ => obtain ⟨t, rfl⟩ := r; rfl
  | byt _ => obtain ⟨t, rfl⟩ := r; rfl
  | flt _ => obtain ⟨t, rfl⟩ := r; rfl
  | ref _ => cases r; rfl
  | ty _ => cases r; rfl
theorem RelV.inj {x y : V} {u : Value} (r : RelV x u) (q : RelV y u) : x = y := Option.some.inj (r.abs.symm.trans q.abs)
theorem Vals.inj : ∀ {xs ys : List V} {us : List Value}, Vals xs us → Vals ys us → xs = ys
  | _, _, _, .nil, .nil => rfl
  | _, _, _, .cons r t, .cons r' t' => by rw [r.inj r', Vals.inj t t']
section
variable {X : Cx} {pins : List (Addr × Obj)} {σ : St} {H : Hp} {s : Shared} {a : Addr} {xs ys : List V}
theorem SqL.of {K : PySem.W.Frag} (h : H a = some (.lst xs)) : SqL K H a xs := .inl (.inl h)
theorem SqT.of {K : PySem.W.Frag} (h : H a = some (.tup xs)) : SqT K H a xs := .inl (.inl h)
theorem Inv.list (I : Inv X pins σ H s) (h : SqL X.K H a xs) : ∃ its : List Value, Vals xs its ∧ PlainL s.heap a its.toArray ∧ xs.length ≤ sizeLine := by
  rcases h with h | ⟨o, its, n, hk, hc, hd, hs, hz, r⟩
  · obtain ⟨z, its, n, r, e⟩ := h.ok I.hok
    exact ⟨its, r, ⟨_, n, e, rfl, rfl, rfl⟩, z⟩
  · refine ⟨its.toList, r, ⟨o, n, I.kIn a o hk, hc, hd, by simpa using hs⟩, ?_⟩
    have e := r.length
    simp only [Array.length_toList] at e
    omega
theorem Inv.tuple (I : Inv X pins σ H s) (h : SqT X.K H a xs) : ∃ its : List Value, Vals xs its ∧ IsTup s.heap a its.toArray ∧ xs.length ≤ sizeLine := by
  rcases h with h | ⟨o, its, n, hk, hc, hs, hz, r⟩
  · obtain ⟨z, its, r, p⟩ := h.ok I.hok
    exact ⟨its, r, p, z⟩
  · refine ⟨its.toList, r, ⟨o, I.kIn a o hk, hc, n, by simpa using hs⟩, ?_⟩
    have e := r.length
    simp only [Array.length_toList] at e
    omega
theorem Inv.list_inj (I : Inv X pins σ H s) (h : SqL X.K H a xs) (h' : SqL X.K H a ys) : xs = ys := by
  obtain ⟨its, r, ⟨o, n, e, _, _, d⟩, _⟩ := I.list h
  obtain ⟨its', r', ⟨o', n', e', _, _, d'⟩, _⟩ := I.list h'
  rw [e] at e'; cases e'
  rw [d] at d'
  injection d' with d1 _
  have : its = its' := by simpa using congrArg Array.toList d1
  subst this
  exact r.inj r'
theorem Inv.tuple_inj (I : Inv X pins σ H s) (h : SqT X.K H a xs) (h' : SqT X.K H a ys) : xs = ys := by
  obtain ⟨its, r, ⟨o, e, _, n, d⟩, _⟩ := I.tuple h
  obtain ⟨its', r', ⟨o', e', _, n', d'⟩, _⟩ := I.tuple h'
  rw [e] at e'; cases e'
  rw [d] at d'
  injection d' with d1 _
  have : its = its' := by simpa using congrArg Array.toList d1
  subst this
  exact r.inj r'
end

/-! ### another wish about exceptions -/
abbrev Cx.wish (X : Cx) (E : Value → Shared → Prop) : Cx := { X with xe := E }
/-- no exception leaves -/
abbrev Cx.nox (X : Cx) : Cx := X.wish fun _ _ => False
theorem Cx.Ok.wish {X : Cx} (ok : X.Ok) (E : Value → Shared → Prop) : (X.wish E).Ok :=
  ⟨ok.mod, ok.kind, ok.glob, ok.blt, ok.above, ok.inj, ok.has, ok.cab, ok.hd, ok.frames, ok.stk, ok.exf, ok.bs, ok.bsz, ok.noex, ok.exfs, ok.funs, ok.frf⟩
theorem Cx.Ok.unwish {X : Cx} {E : Value → Shared → Prop} (ok : (X.wish E).Ok) : X.Ok :=
  ⟨ok.mod, ok.kind, ok.glob, ok.blt, ok.above, ok.inj, ok.has, ok.cab, ok.hd, ok.frames, ok.stk, ok.exf, ok.bs, ok.bsz, ok.noex, ok.exfs, ok.funs, ok.frf⟩
section
variable {X : Cx} {pins : List (Addr × Obj)} {σ : St} {H : Hp} {s : Shared} {E : Value → Shared → Prop}
theorem Inv.wish (I : Inv X pins σ H s) (E : Value → Shared → Prop) : Inv (X.wish E) pins σ H s := ⟨I.ok.wish E, I.os, I.bare, I.base, I.loc, I.cell, I.free, I.freeC, I.pin, I.hok, I.len⟩
theorem Inv.unwish (I : Inv (X.wish E) pins σ H s) : Inv X pins σ H s := ⟨I.ok.unwish, I.os, I.bare, I.base, I.loc, I.cell, I.free, I.freeC, I.pin, I.hok, I.len⟩
theorem SP.unwish {D : Ends} {f : Flow} {s' : Shared} (h : SP (X.wish E) pins D f s') : SP X pins D f s' := by
  cases f with
  | next => obtain ⟨σ', H', I, q⟩ := h; exact ⟨σ', H', I.unwish, q⟩
  | brk => obtain ⟨σ', H', I, q⟩ := h; exact ⟨σ', H', I.unwish, q⟩
  | cont => obtain ⟨σ', H', I, q⟩ := h; exact ⟨σ', H', I.unwish, q⟩
  | ret u => obtain ⟨v, σ', H', I, r, q⟩ := h; exact ⟨v, σ', H', I.unwish, r, q⟩
theorem PSs.nox {st : List Stmt} {t : TS} (h : PSs X.nox st t) : PSs X st t := .mk fun pins s σ H D I hw =>
  wpAny_mono (h pins s σ H D (I.wish _) hw) (fun _ _ q => q.unwish) fun _ _ z => False.elim z
end

/-! ### blocks and small statements -/
section
variable {X : Cx} {st : Stmt} {rest : List Stmt} {t u : TS} {e : Expr} {te : TE} {pos : Pos}
def tNext : TS := fun D σ H => D.nx σ H
def tSeq (t u : TS) : TS := fun D σ H => t { D with nx := u D } σ H
theorem pss_nil : PSs X [] tNext := .mk fun _ _ σ H _ I h => wpAny_execs_nil ⟨σ, H, I, h⟩
theorem pss_cons (h1 : PS X st t) (h2 : PSs X rest u) : PSs X (st :: rest) (tSeq t u) := by
  refine ⟨?_⟩
  intro pins s σ H D I h
  refine wpAny_execs_cons (thn (h1 pins s σ H { D with nx := u D } I h) fun f s1 q => ?_)
  cases f with
  | next =>
    obtain ⟨σ', H', I', q⟩ := q
    exact h2 pins s1 σ' H' D I' q
  | ret v => exact q
  | brk => exact q
  | cont => exact q
theorem pss_one (h1 : PS X st t) : PSs X [st] t := by
  refine ⟨?_⟩
  intro pins s σ H D I h
  refine wpAny_execs_cons (thn (h1 pins s σ H D I h) fun f s1 q => ?_)
  cases f with
  | next => exact wpAny_execs_nil q
  | ret v => exact q
  | brk => exact q
  | cont => exact q
/-- in a def's body nothing is shown -/
theorem Inv.quiet {pins : List (Addr × Obj)} {σ : St} {H : Hp} {s : Shared} (I : Inv X pins σ H s) : interactive X.env = false := by simp [interactive, I.ok.kind]
/-- an expression whose value is dropped -/
def tDrop (te : TE) : TS := fun D σ H => te σ H fun _ H1 => D.nx σ H1
theorem ps_expr (he : PE X e te) (hs : swapsWith e none pos.line X.env = pure false := by rfl) : PS X (.Expr e pos) (tDrop te) := by
  refine ⟨?_⟩
  intro pins s σ H D I h
  exact wpAny_Expr_any (thn (he pins s σ H _ I h) fun v s1 ⟨x, H1, I1, r1, q1⟩ => ⟨σ, H1, I1, q1⟩) I.quiet hs
def tRet (te : TE) : TS := fun D σ H => te σ H D.rt
theorem ps_ret (he : PE X e te) : PS X (.Return (some e) pos) (tRet te) := by
  refine ⟨?_⟩
  intro pins s σ H D I h
  exact wpAny_Return_some (thn (he pins s σ H _ I h) fun v s1 ⟨x, H1, I1, r1, q1⟩ => ⟨x, σ, H1, I1, r1, q1⟩)
def tIfS (c : TT) (t u : TS) : TS := fun D σ H => c σ H fun b H1 => if b = true then t D σ H1 else u D σ H1
theorem ps_if {c : Expr} {a b : List Stmt} {tc : TT} (hc : PT X c tc) (ha : PSs X a t) (hb : PSs X b u) : PS X (.If c a b pos) (tIfS tc t u) := by
  refine ⟨?_⟩
  intro pins s σ H D I h
  refine wpAny_If (thn (hc pins s σ H _ I h) fun d s1 ⟨H1, I1, q1⟩ => ?_)
  cases d with
  | true => exact ha pins s1 σ H1 D I1 q1
  | false => exact hb pins s1 σ H1 D I1 q1
end

/-! ### targets -/
abbrev TG := V → St → Hp → (St → Hp → Prop) → Prop
abbrev TGs := List V → St → Hp → (St → Hp → Prop) → Prop
def PG (X : Cx) (target : Expr) (t : TG) : Prop :=
  ∀ (pins : List (Addr × Obj)) (s : Shared) (σ : St) (H : Hp) (v : V) (u : Value) (Q : St → Hp → Prop), Inv X pins σ H s → RelV v u → t v σ H Q →
    wpAny (model X.prog X.w) X.A (assign target X.env u) (fun _ s' => ∃ σ' H', Inv X pins σ' H' s' ∧ Q σ' H') X.xe s
/-- several targets, one after another -/
def PGs (X : Cx) (ts : List Expr) (t : TGs) : Prop :=
  ∀ (pins : List (Addr × Obj)) (s : Shared) (σ : St) (H : Hp) (vs : List V) (us : List Value) (Q : St → Hp → Prop), Inv X pins σ H s → Vals vs us → t vs σ H Q →
    wpAny (model X.prog X.w) X.A (assignInOrder ((assignEach ts X.env).map (·.2)) us) (fun _ s' => ∃ σ' H', Inv X pins σ' H' s' ∧ Q σ' H') X.xe s
/-- o[i] = v, by values -/
abbrev TSet := V → V → V → Hp → (Hp → Prop) → Prop
def PSet (X : Cx) (t : TSet) : Prop :=
  ∀ (pins : List (Addr × Obj)) (s : Shared) (σ : St) (H : Hp) (o i v : V) (ov iv u : Value) (Q : Hp → Prop), Inv X pins σ H s → RelV o ov → RelV i iv → RelV v u → t o i v H Q →
    wpAny (model X.prog X.w) X.A (setItem ov iv u) (fun _ s' => ∃ H', Inv X pins σ H' s' ∧ Q H') X.xe s
section
variable {X : Cx} {pos : Pos}
def gName (i : Nat) : TG := fun v σ H Q => Q (σ.set i (some v)) H
theorem pg_name {i : Nat} {x : Str} (hN : X.N.Nodup) (hi : X.N[i]? = some x) (hx : Loc X.env.scope x) (hf : X.fn x = true ∨ X.env.scope.names.lookup x = some .local := by first | exact .inl rfl | exact .inr rfl | assumption) : PG X (.Name x pos) (gName i) := by
  intro pins s σ H v u Q I r h
  exact wpAny_assign_Name (store_ok I hN hi hx r (fun s' I' => ⟨_, H, I', h⟩) hf)
def gNil : TGs := fun vs σ H Q => vs = [] ∧ Q σ H
inductive gCons (t : TG) (u : TGs) (vs : List V) (σ : St) (H : Hp) (Q : St → Hp → Prop) : Prop
  | mk (v : V) (r : List V) (e : vs = v :: r) (q : t v σ H fun σ' H' => u r σ' H' Q) : gCons t u vs σ H Q
theorem pgs_nil : PGs X [] gNil := by
  intro pins s σ H vs us Q I r h
  obtain ⟨e, h⟩ := h
  subst e
  cases r
  exact assignInOrder_nil ⟨σ, H, I, h⟩
theorem pgs_cons {e : Expr} {es : List Expr} {t : TG} {u : TGs} (h1 : PG X e t) (h2 : PGs X es u)
    (hs : (assignEach (e :: es) X.env).map (·.2) = assign e X.env :: (assignEach es X.env).map (·.2) := by rfl) : PGs X (e :: es) (gCons t u) := by
  intro pins s σ H vs us Q I r h
  obtain ⟨v, vr, e1, h⟩ := h
  subst e1
  cases r with
  | cons r rr =>
    rw [hs]
    refine assignInOrder_cons (thn (h1 pins s σ H _ _ _ I r h) fun _ s1 ⟨σ1, H1, I1, q1⟩ => ?_)
    exact h2 pins s1 σ1 H1 _ _ Q I1 rr q1
/-- (a, b, ..) = a tuple of that length -/
inductive gTup (K : PySem.W.Frag) (n : Nat) (t : TGs) (v : V) (σ : St) (H : Hp) (Q : St → Hp → Prop) : Prop
  | mk (a : Addr) (xs : List V) (e : v = .ref a) (h : SqT K H a xs) (l : xs.length = n) (q : t xs σ H Q) : gTup K n t v σ H Q
theorem pg_tup {es : List Expr} {k : Nat} {t : TGs} {n : Nat} (hc : X.calm = true) (h : PGs X es t)
    (hn : (assignEach es X.env).length = n := by rfl) (hst : (assignEach es X.env).findIdx? (·.1) = none := by rfl) : PG X (.Tuple es k pos) (gTup X.K n t) := by
  intro pins s σ H v u Q I r hw
  obtain ⟨a, xs, e1, hq, hl, hw⟩ := hw
  subst e1
  cases r
  obtain ⟨its, rv, ht, hz⟩ := I.tuple hq
  refine assign_Tuple_tuple (I.ok.hd hc) ht (by simp [hn, ← hl, rv.length]) hst fun h' hx => ?_
  have I1 : Inv X pins σ H { s with heap := h' } := I.kept (t' := s.toks) fun b o e => hx b o (Nat.ne_of_lt (Heap.lt_size e)) e
  exact h pins _ σ H xs _ Q I1 (by simpa using rv) hw
/-- o[i] = .. -/
def gSub (to ti : TE) (t : TSet) : TG := fun v σ H Q => to σ H fun o H1 => ti σ H1 fun i H2 => t o i v H2 fun H3 => Q σ H3
theorem pg_sub {o i : Expr} {to ti : TE} {t : TSet} (ho : PE X o to) (hi : PE X i ti) (hs : PSet X t)
    (ha : ∀ v, assign (.Subscript o i pos) X.env v = (do
      let ov ← holding [v] (eval o X.env)
      let iv ← holding [v, ov] (eval i X.env)
      standAt pos
      holding [v, ov, iv] (setItem ov iv v)
      release [v, ov, iv] []) := by intro _; rfl) : PG X (.Subscript o i pos) (gSub to ti t) := by
  intro pins s σ H v u Q I r h
  rw [ha]
  refine wpAny_bind (wpAny_holding (thn (ho pins s σ H _ I h) fun ov s1 ⟨x, H1, I1, r1, q1⟩ => ?_))
  refine wpAny_bind (wpAny_holding (thn (hi pins s1 σ H1 _ I1 q1) fun iv s2 ⟨y, H2, I2, r2, q2⟩ => ?_))
  refine wpAny_bind (wpAny_standAt (wpAny_bind (wpAny_holding (thn (hs pins s2 σ H2 x y v ov iv u _ I2 r1 r2 r q2) fun _ s3 ⟨H3, I3, q3⟩ => ?_))))
  exact wpAny_release ⟨σ, H3, I3, q3⟩
/-- target = value -/
def tAsg (te : TE) (g : TG) : TS := fun D σ H => te σ H fun x H1 => g x σ H1 D.nx
theorem ps_asg {tg e : Expr} {te : TE} {g : TG} (he : PE X e te) (hg : PG X tg g) (hs : swapsWithSole [tg] e pos.line X.env = pure false := by rfl) (hw : swappedStores [tg] e X.env = pure none := by rfl)
    (h1 : (assignEach [tg] X.env).map (·.2) = [assign tg X.env] := by rfl) : PS X (.Assign [tg] e pos) (tAsg te g) := by
  refine ⟨?_⟩
  intro pins s σ H D I h
  refine wpAny_Assign_stores (thn (he pins s σ H _ I h) fun v s1 ⟨x, H1, I1, r1, q1⟩ => ?_) hs hw
  rw [h1]
  exact thn (hg pins s1 σ H1 x v _ I1 r1 q1) fun _ s2 q => q
/-- name = value -/
theorem ps_set {i : Nat} {x : Str} {e : Expr} {te : TE} {pos' : Pos} (hN : X.N.Nodup) (hi : X.N[i]? = some x) (hx : Loc X.env.scope x) (he : PE X e te) (hs : swapsWith e (some (.Name x pos')) pos.line X.env = pure false := by rfl) (hf : X.fn x = true ∨ X.env.scope.names.lookup x = some .local := by first | exact .inl rfl | exact .inr rfl | assumption) :
    PS X (.Assign [.Name x pos'] e pos) (tAsg te (gName i)) := by
  refine ⟨?_⟩
  intro pins s σ H D I h
  refine wpAny_Assign_Name (thn (he pins s σ H _ I h) fun v s1 ⟨y, H1, I1, r1, q1⟩ => ?_) hs
  exact store_ok I1 hN hi hx r1 (fun s2 I2 => ⟨_, H1, I2, q1⟩) hf
/-- a, b = x, y with plain local names: stored from the right; the pair itself is not tracked (the opening rows as in PyProof/Rows/TupAssign.lean:23) -/
def tPar (i j : Nat) (ta : TA) : TS := fun D σ H => ta σ H fun vs H1 => ∃ v w, vs = [v, w] ∧ D.nx ((σ.set i (some v)).set j (some w)) H1
theorem ps_par {i j : Nat} {x y : Str} {a b : Expr} {ta : TA} {px py pt : Pos} {kt k2 pt2} (hc : X.calm = true) (hN : X.N.Nodup) (hi : X.N[i]? = some x) (hj : X.N[j]? = some y) (hij : i ≠ j)
    (hx : X.env.scope.names.lookup x = some .local) (hy : X.env.scope.names.lookup y = some .local) (ha : PA X [a, b] ta)
    (hw : swappedStores [.Tuple [.Name x px, .Name y py] kt pt] (.Tuple [a, b] k2 pt2) X.env = pure (some [x, y]))
    (hs : swapsWithSole [.Tuple [.Name x px, .Name y py] kt pt] (.Tuple [a, b] k2 pt2) pos.line X.env = pure false := by rfl) :
    PS X (.Assign [.Tuple [.Name x px, .Name y py] kt pt] (.Tuple [a, b] k2 pt2) pos) (tPar i j ta) := by
  refine ⟨?_⟩
  intro pins s σ H D I h
  rw [exec_Assign_arm]
  refine wpAny_bind (wpAny_standAt ?_)
  rw [hs]
  refine wpAny_bind (wpAny_pure ?_)
  rw [if_neg (by decide)]
  refine wpAny_bind (Tuple_ (thn (ha _ pins s σ H _ I h) fun us s1 ⟨vs, H1, I1, r1, q1⟩ => ?_))
  obtain ⟨v, w, e1, q1⟩ := q1
  subst e1
  obtain ⟨u1, u2, rfl, rv, rw'⟩ : ∃ u1 u2, us = [u1, u2] ∧ RelV v u1 ∧ RelV w u2 := by
    cases r1 with
    | cons p q =>
      cases q with
      | cons p' q' =>
        cases q'
        exact ⟨_, _, rfl, p, p'⟩
  refine wpAny_newObj_type ?_ (by show 2 ≤ sizeLine; decide)
  have I2 : Inv X pins σ H1 { s1 with heap := s1.heap.push { cls := .type "tuple", data := .seq [u1, u2].toArray } } := I1.kept (t' := s1.toks) fun b o e => Heap.get?_push_of_some _ e
  rw [hw]
  refine wpAny_bind (wpAny_pure ?_)
  show wpAny (model X.prog X.w) X.A (do rule "assign.swapped-stores"; let items ← unpackItems (.ref s1.heap.objs.size) 2 none; assignInOrder [fun v => bindName X.env y v, fun v => bindName X.env x v] items.reverse; pure Flow.next) _ _ _
  refine wpAny_bind (wpAny_rule (wpAny_bind (unpackItems_tuple (items := #[u1, u2]) (I.ok.hd hc) (IsTup.new s1.heap _) fun h' hx' => ?_)))
  have I3 := I2.kept (h' := h') (t' := s1.toks) fun b o e => hx' b o (Nat.ne_of_lt (Heap.lt_size e)) e
  show wpAny _ _ (assignInOrder [fun v => bindName X.env y v, fun v => bindName X.env x v] [u2, u1] >>= fun _ => pure Flow.next) _ _ _
  refine wpAny_bind (assignInOrder_cons (wpAny_bindName (store_ok I3 hN hj (.inl hy) rw' (fun s2 I4 => ?_) (.inr hy))))
  refine assignInOrder_cons (wpAny_bindName (store_ok I4 hN hi (.inl hx) rv (fun s3 I5 => assignInOrder_nil (wpAny_pure ?_)) (.inr hx)))
  rw [List.set_comm _ _ (Ne.symm hij)] at I5
  exact ⟨_, H1, I5, q1⟩
end

/-! ### while -/
section
variable {X : Cx} {pos : Pos}
end

/-! ### what a loop or a comprehension walks -/
/-- at turn i: it yields x (the heap may grow), or it stops -/
structure It where
  go : Nat → Hp → Prop
  yld : Nat → Hp → V → Hp → Prop
  stop : Nat → Hp → Prop
/-- the iterator's own objects may turn: they are not the frame's, not pinned, younger than the entry (or a comprehension's own) -/
def FpOk (X : Cx) (pins : List (Addr × Obj)) (H : Hp) (b : Addr) : Prop :=
  H b = none ∧ b ≠ X.env.locals ∧ b ∉ X.fs ∧ (b ∈ X.ex ∨ X.s₀.heap.objs.size ≤ b) ∧ (∀ x c, X.env.cells.lookup x = some c → c ≠ b) ∧ ∀ p ∈ X.pn ++ pins, p.1 ≠ b
theorem Inv.fpOk {X : Cx} {pins : List (Addr × Obj)} {σ : St} {H H' : Hp} {s : Shared} {b : Addr} (I : Inv X pins σ H s) (hb : s.heap.objs.size ≤ b) (hn : H' b = none) : FpOk X pins H' b := by
  refine ⟨hn, Nat.ne_of_gt (Nat.lt_of_lt_of_le I.lt hb), I.nofs hb, .inr (Nat.le_trans I.sz hb), fun x c e z => ?_, fun p hp z => ?_⟩
  · obtain ⟨v, q⟩ := I.cell x c e
    exact absurd (Nat.lt_of_lt_of_le q.lt (by rw [z]; exact hb)) (Nat.lt_irrefl _)
  · exact absurd (Nat.lt_of_lt_of_le (Heap.lt_size (I.pin p hp).1) (by rw [z]; exact hb)) (Nat.lt_irrefl _)
structure Turn (P : Program) (w : World) (K : PySem.W.Frag) (tg : Expr) (J : It) (fp : List Addr) (it : Addr) (tn : Nat → Heap → Prop) : Prop where
  mem : it ∈ fp
  obj : ∀ i h, tn i h → ∀ b ∈ fp, ∃ o, h.get? b = some o ∧ ∀ v, o.data ≠ .cell v
  keep : ∀ i h h', tn i h → (∀ b ∈ fp, ∀ o, h.get? b = some o → h'.get? b = some o) → tn i h'
  item : ∀ (X : Cx), X.prog = P → X.w = w → X.K = K → X.calm = true → ∀ (i : Nat) (pins : List (Addr × Obj)) (s : Shared) (σ : St) (H : Hp) (E : Value → Shared → Prop), Inv X pins σ H s → (∀ b ∈ fp, FpOk X pins H b) → tn i s.heap → J.go i H →
    wpAny (model P w) X.A (pyNext (.ref it)) (fun r s1 => ∃ u, r = some u ∧
      wpAny (model P w) X.A (letOwnedTupleGo tg (.ref it) u) (fun _ s2 => ∃ x H', Inv X pins σ H' s2 ∧ RelV x u ∧ J.yld i H x H' ∧ tn (i + 1) s2.heap ∧ ∀ b ∈ fp, H' b = none) E s1) E s
  done : ∀ (X : Cx), X.prog = P → X.w = w → X.K = K → X.calm = true → ∀ (i : Nat) (pins : List (Addr × Obj)) (s : Shared) (σ : St) (H : Hp) (E : Value → Shared → Prop), Inv X pins σ H s → (∀ b ∈ fp, FpOk X pins H b) → tn i s.heap → J.stop i H →
    wpAny (model P w) X.A (pyNext (.ref it)) (fun r s1 => r = none ∧ Inv X pins σ H s1) E s
  self : ∀ (A : Around) (i : Nat) (s : Shared) (Q : Value → Shared → Prop) (E : Value → Shared → Prop), tn i s.heap → Q (.ref it) s → wpAny (model P w) A (pyIter (.ref it)) Q E s
abbrev TI := St → Hp → (It → Hp → Prop) → Prop
/-- an iterator has come -/
def PIE (X : Cx) (pins : List (Addr × Obj)) (σ : St) (tg : Expr) (R : It → Hp → Prop) (itv : Value) (s2 : Shared) : Prop :=
  ∃ (it : Addr) (fp : List Addr) (tn : Nat → Heap → Prop) (J : It) (H' : Hp), itv = .ref it ∧ Inv X pins σ H' s2 ∧ Turn X.prog X.w X.K tg J fp it tn ∧ tn 0 s2.heap ∧ (∀ b ∈ fp, FpOk X pins H' b) ∧ R J H'
def PI (X : Cx) (tg iter : Expr) (wi : TI) : Prop :=
  ∀ (pins : List (Addr × Obj)) (s : Shared) (σ : St) (H : Hp) (R : It → Hp → Prop), Inv X pins σ H s → wi σ H R →
    wpAny (model X.prog X.w) X.A (eval iter X.env) (fun v s1 => wpAny (model X.prog X.w) X.A (pyIter v) (PIE X pins σ tg R) X.xe s1) X.xe s

/-- the step ahead of the store is nothing for an iterator that keeps no tuple -/
theorem go_of {M : Model} {A : Around} {E : Value → Shared → Prop} {s : Shared} {tg : Expr} {it : Addr} {u : Value} {o : Obj} {n : String} {vs : Array Value} {Q : Unit → Shared → Prop} (ho : s.heap.get? it = some o) (hc : o.cls = .type n) (hd : o.data = .fields vs)
    (hn : ["enumerate", "zip", "dict_itemiterator", "dict_reverseitemiterator", "odict_iterator", "itertools.zip_longest", "itertools.pairwise"].contains n = false) (hQ : Q () s) : wpAny M A (letOwnedTupleGo tg (.ref it) u) Q E s := by
  unfold letOwnedTupleGo
  cases tg <;> first
    | exact wpAny_pure hQ
    | (cases u <;> first
        | exact wpAny_pure hQ
        | (refine wpAny_bind (wpAny_load ho ?_)
           rw [hc, hd]
           show wpAny M A (if (["enumerate", "zip", "dict_itemiterator", "dict_reverseitemiterator", "odict_iterator", "itertools.zip_longest", "itertools.pairwise"].contains n && vs[0]? == some (rawInt _)) = true then _ else _) Q E s
           rw [if_neg (by intro h; rw [hn, Bool.false_and] at h; cases h)]
           exact wpAny_pure hQ))

/-- the list at a, as it stands at each turn (a loop may append to it) -/
def Itl (K : PySem.W.Frag) (a : Addr) : It :=
  ⟨fun i H => ∃ xs x, SqL K H a xs ∧ xs[i]? = some x, fun i H x H' => H' = H ∧ ∀ xs, SqL K H a xs → xs[i]? = some x, fun i H => ∃ xs, SqL K H a xs ∧ xs.length ≤ i⟩
def Itt (K : PySem.W.Frag) (a : Addr) : It :=
  ⟨fun i H => ∃ xs x, SqT K H a xs ∧ xs[i]? = some x, fun i H x H' => H' = H ∧ ∀ xs, SqT K H a xs → xs[i]? = some x, fun i H => ∃ xs, SqT K H a xs ∧ xs.length ≤ i⟩
/-- lo, lo + 1, .. (n of them) -/
def Itr (lo : Int) (n : Nat) : It := ⟨fun i _ => i < n, fun i H x H' => H' = H ∧ x = .int (lo + i), fun i _ => n ≤ i⟩
theorem turn_list {P : Program} {w : World} {K : PySem.W.Frag} {tg : Expr} (a it : Addr) : Turn P w K tg (Itl K a) [it] it (fun i h => h.IsListIter it a i) where
  mem := by simp
  obj := fun i h st b hb => by
    have e : b = it := by simpa using hb
    subst e
    obtain ⟨o, e, c, d⟩ := st
    exact ⟨o, e, fun v z => by rw [d] at z; cases z⟩
  keep := fun i h h' st k => st.at fun o e => k it (by simp) o e
  item := by
    intro X hP hw hK hc i pins s σ H E I hf st hg
    subst hP hw hK
    obtain ⟨xs, x, hq, hx⟩ := hg
    obtain ⟨its, rv, p, hz⟩ := I.list hq
    obtain ⟨u, hu, ru⟩ := rv.get hx
    obtain ⟨f0, f1, f2, f3, f4, f5⟩ := hf it (by simp)
    refine wpAny_pyNext_list_item st p.isList (x := u) (by simpa using hu) fun h' st' sb => ?_
    have I1 : Inv X pins σ H { s with heap := h' } := I.turned (t' := s.toks) (fun b o hb e => (sb.2 b hb).trans e) f0 f1 f3 f4 f5
    obtain ⟨o, e, c, d⟩ := id st'
    exact ⟨u, rfl, go_of (s := { s with heap := h' }) e c d (by decide) ⟨x, H, I1, ru, ⟨rfl, fun ys hy => by rw [I.list_inj hy hq]; exact hx⟩, st', fun b hb => (hf b hb).1⟩⟩
  done := by
    intro X hP hw hK hc i pins s σ H E I hf st hg
    subst hP hw hK
    obtain ⟨xs, hq, hx⟩ := hg
    obtain ⟨its, rv, p, hz⟩ := I.list hq
    obtain ⟨f0, f1, f2, f3, f4, f5⟩ := hf it (by simp)
    have hl := rv.length
    exact wpAny_pyNext_list_end (I.ok.hd hc) st p.isList (by simp; omega) fun h' eb => ⟨rfl, I.turned (t' := s.toks) (fun b o hb e => eb b o hb e) f0 f1 f3 f4 f5⟩
  self := fun _ _ _ _ _ st h => wpAny_pyIter_listiter st h
theorem turn_tuple {P : Program} {w : World} {K : PySem.W.Frag} {tg : Expr} (a it : Addr) : Turn P w K tg (Itt K a) [it] it (fun i h => h.IsTupleIter it a i) where
  mem := by simp
  obj := fun i h st b hb => by
    have e : b = it := by simpa using hb
    subst e
    obtain ⟨o, e, c, d⟩ := st
    exact ⟨o, e, fun v z => by rw [d] at z; cases z⟩
  keep := fun i h h' st k => st.at fun o e => k it (by simp) o e
  item := by
    intro X hP hw hK hc i pins s σ H E I hf st hg
    subst hP hw hK
    obtain ⟨xs, x, hq, hx⟩ := hg
    obtain ⟨its, rv, p, hz⟩ := I.tuple hq
    obtain ⟨u, hu, ru⟩ := rv.get hx
    obtain ⟨f0, f1, f2, f3, f4, f5⟩ := hf it (by simp)
    refine wpAny_pyNext_tuple_item st (show s.heap.IsTuple a its.toArray from p) (x := u) (by simpa using hu) fun h' st' sb => ?_
    have I1 : Inv X pins σ H { s with heap := h' } := I.turned (t' := s.toks) (fun b o hb e => (sb.2 b hb).trans e) f0 f1 f3 f4 f5
    obtain ⟨o, e, c, d⟩ := id st'
    exact ⟨u, rfl, go_of (s := { s with heap := h' }) e c d (by decide) ⟨x, H, I1, ru, ⟨rfl, fun ys hy => by rw [I.tuple_inj hy hq]; exact hx⟩, st', fun b hb => (hf b hb).1⟩⟩
  done := by
    intro X hP hw hK hc i pins s σ H E I hf st hg
    subst hP hw hK
    obtain ⟨xs, hq, hx⟩ := hg
    obtain ⟨its, rv, p, hz⟩ := I.tuple hq
    obtain ⟨f0, f1, f2, f3, f4, f5⟩ := hf it (by simp)
    have hl := rv.length
    exact wpAny_pyNext_tuple_end (I.ok.hd hc) st (show s.heap.IsTuple a its.toArray from p) (by simp; omega) fun h' eb => ⟨rfl, I.turned (t' := s.toks) (fun b o hb e => eb b o hb e) f0 f1 f3 f4 f5⟩
  self := fun _ _ _ _ _ st h => wpAny_pyIter_tupleiter st h
theorem turn_range {P : Program} {w : World} {K : PySem.W.Frag} {tg : Expr} (it : Addr) (lo : Int) (n : Nat) : Turn P w K tg (Itr lo n) [it] it (fun i h => IsRangeIter h it (lo + (i : Nat) * 1) ((n : Int) - (i : Nat)) 1) where
  mem := by simp
  obj := fun i h st b hb => by
    have e : b = it := by simpa using hb
    subst e
    exact ⟨_, st, fun v z => by
      have z' : Data.fields _ = Data.cell v := z
      cases z'⟩
  keep := fun i h h' st k => k it (by simp) _ st
  item := by
    intro X hP hw hK hc i pins s σ H E I hf st hg
    subst hP hw hK
    obtain ⟨f0, f1, f2, f3, f4, f5⟩ := hf it (by simp)
    have W := Walks.range (prog := X.prog) (w := X.w) (I.ok.hd hc) it lo 1 n
    refine W.item i s _ _ hg st fun v h' tk hv st' kk => ?_
    obtain ⟨t, rfl⟩ := hv
    have I1 : Inv X pins σ H { s with heap := h', toks := tk } := I.turned (fun b o hb e => kk b o (by simpa using hb) e) f0 f1 f3 f4 f5
    refine ⟨_, rfl, go_of (s := { s with heap := h', toks := tk }) (n := "range_iterator") st' rfl rfl (by decide) ⟨.int (lo + i), H, I1, ⟨t, ?_⟩, ⟨rfl, rfl⟩, st', fun b hb => (hf b hb).1⟩⟩
    rw [Int.mul_one]
  done := by
    intro X hP hw hK hc i pins s σ H E I hf st hg
    subst hP hw hK
    obtain ⟨f0, f1, f2, f3, f4, f5⟩ := hf it (by simp)
    exact wpAny_pyNext_range_end (I.ok.hd hc) st (by have : n ≤ i := hg; omega) fun h' eb => ⟨rfl, I.turned (t' := s.toks) (fun b o hb e => eb b o hb e) f0 f1 f3 f4 f5⟩
  self := fun _ _ _ _ _ st h => wpAny_pyIter_rangeiter st h
end L2

namespace L2
open PySem PySem.Spec PyProof.Rows
section
variable {X : Cx} {tg : Expr}
inductive iListX (K : PySem.W.Frag) (R : It → Hp → Prop) (x : V) (H1 : Hp) : Prop
  | mk (a : Addr) (e : x = .ref a) (h : ∃ xs, SqL K H1 a xs) (q : R (Itl K a) H1) : iListX K R x H1
def iList (K : PySem.W.Frag) (tl : TE) : TI := fun σ H R => tl σ H fun x H1 => iListX K R x H1
theorem pi_list {l : Expr} {tl : TE} (hl : PE X l tl) : PI X tg l (iList X.K tl) := by
  intro pins s σ H R I h
  refine thn (hl pins s σ H _ I h) fun v s1 ⟨x, H1, I1, r1, q1⟩ => ?_
  obtain ⟨a, e, ⟨xs, hq⟩, q⟩ := q1
  subst e
  cases r1
  obtain ⟨its, rv, p, hz⟩ := I1.list hq
  refine wpAny_pyIter_list p.isList ?_
  refine ⟨s1.heap.objs.size, [s1.heap.objs.size], _, _, H1, rfl, I1.kept (t' := s1.toks) fun b o e => Heap.get?_push_of_some _ e, turn_list a _, ⟨_, Heap.get?_push_size _ rfl, rfl, rfl⟩, fun b hb => ?_, q⟩
  have e : b = s1.heap.objs.size := by simpa using hb
  subst e
  exact I1.fpOk (Nat.le_refl _) (I1.hok.fresh (Nat.le_refl _))
/-- a range object just made, walked -/
theorem range_it {pins : List (Addr × Obj)} {σ : St} {H : Hp} {s : Shared} {R : It → Hp → Prop} {E : Value → Shared → Prop} {lo hi : Int} {t u v : Tok} {tk : Nat} (I : Inv X pins σ H s) (h1 : -(2 ^ 62) ≤ lo) (h2 : lo < 2 ^ 62) (h3 : -(2 ^ 62) ≤ hi) (h4 : hi < 2 ^ 62)
    (q : R (Itr lo (hi - lo).toNat) H) : wpAny (model X.prog X.w) X.A (pyIter (.ref s.heap.objs.size)) (PIE X pins σ tg R) E { s with heap := s.heap.push { cls := .type "range", data := .fields #[.int lo t, .int hi u, .int 1 v] }, toks := tk } := by
  refine wpAny_pyIter_range (IsRange.new ..) (small_one h1 h2 h3 h4) ?_
  have I1 : Inv X pins σ H { s with heap := s.heap.push { cls := .type "range", data := .fields #[.int lo t, .int hi u, .int 1 v] }, toks := tk } := I.kept fun b o e => Heap.get?_push_of_some _ e
  refine ⟨(s.heap.push { cls := .type "range", data := .fields #[.int lo t, .int hi u, .int 1 v] }).objs.size, [(s.heap.push { cls := .type "range", data := .fields #[.int lo t, .int hi u, .int 1 v] }).objs.size], _, _, H, rfl,
    I1.kept (t' := tk) fun b o e => Heap.get?_push_of_some _ e, turn_range _ lo (hi - lo).toNat, ?_, fun b hb => ?_, q⟩
  · have e1 : lo + ((0 : Nat) : Int) * 1 = lo := by simp
    have e2 : (((hi - lo).toNat : Nat) : Int) - ((0 : Nat) : Int) = Builtin.Range.rangeSize lo hi 1 := by rw [rangeSize_one]; split <;> omega
    show IsRangeIter _ _ (lo + ((0 : Nat) : Int) * 1) ((((hi - lo).toNat : Nat) : Int) - ((0 : Nat) : Int)) 1
    rw [e1, e2]
    exact Heap.get?_push_size _ rfl
  · have e : b = (s.heap.push { cls := .type "range", data := .fields #[.int lo t, .int hi u, .int 1 v] }).objs.size := by simpa using hb
    subst e
    exact I1.fpOk (Nat.le_refl _) (I1.hok.fresh (Nat.le_refl _))
inductive iRng1X (R : It → Hp → Prop) (vs : List V) (H1 : Hp) : Prop
  | mk (j : Int) (e : vs = [.int j]) (h1 : -(2 ^ 62) ≤ j) (h2 : j < 2 ^ 62) (q : R (Itr 0 j.toNat) H1) : iRng1X R vs H1
def iRng1 (ta : TA) : TI := fun σ H R => ta σ H fun vs H1 => iRng1X R vs H1
theorem pi_range1 {a : Expr} {ta : TA} {p pos : Pos} (hg : Gl X "range") (hm : X.mg "range" = none) (ha : PA X [a] ta) (hs : starEach [a] X.env = [(false, eval a X.env)] := by rfl) : PI X tg (.Call (.Name "range" p) [a] [] pos) (iRng1 ta) := by
  intro pins s σ H R I h
  refine Call_ (ld_blt I hg hm boot_range (PyProof.Rows.callWith_type1 (thn (ha pos pins s σ H _ I h) fun us s1 ⟨vs, H1, I1, r1, q1⟩ => ?_) hs rfl))
  obtain ⟨j, e, q1, q2, q⟩ := q1
  subst e
  cases r1 with
  | cons r rr =>
    cases rr
    obtain ⟨t, rfl⟩ := r
    exact call_range_1 (range_it I1 (by omega) (by omega) q1 q2 (by simpa using q))

/-! ### for -/
/-- W: the invariant by the turn and a measure; N: what the body is to reach -/
def tFor (wi : TI) (g : TG) (tb : TS) : TS := fun D σ H => wi σ H fun J H1 => ∃ W : Nat → Nat → St → Hp → Prop, (∃ m, W 0 m σ H1) ∧ ∀ i m σ H, W i m σ H →
  (J.stop i H ∧ D.nx σ H) ∨ (J.go i H ∧ ∃ N : St → Hp → Prop, (∀ σ' H', N σ' H' → ∃ m', m' < m ∧ W (i + 1) m' σ' H') ∧ ∀ x H', J.yld i H x H' → g x σ H' fun σ2 H2 => tb { D with nx := N, ct := N, bk := D.nx } σ2 H2)
/-- the records at fp as they stand -/
def pinsAt (fp : List Addr) (h : Heap) : List (Addr × Obj) := fp.filterMap fun b => (h.get? b).map fun o => (b, o)
theorem mem_pinsAt {fp : List Addr} {h : Heap} {b : Addr} {o : Obj} (hb : b ∈ fp) (e : h.get? b = some o) : (b, o) ∈ pinsAt fp h := List.mem_filterMap.mpr ⟨b, hb, by rw [e]; rfl⟩
theorem of_pinsAt {fp : List Addr} {h : Heap} {p : Addr × Obj} (hp : p ∈ pinsAt fp h) : p.1 ∈ fp ∧ h.get? p.1 = some p.2 := by
  obtain ⟨b, hb, e⟩ := List.mem_filterMap.mp hp
  cases q : h.get? b with
  | none => rw [q] at e; cases e
  | some o =>
    rw [q] at e
    have e' : (b, o) = p := Option.some.inj e
    subst e'
    exact ⟨hb, q⟩
theorem Inv.pinned {pins : List (Addr × Obj)} {σ : St} {H : Hp} {s : Shared} {fp : List Addr} (I : Inv X pins σ H s) (hf : ∀ b ∈ fp, FpOk X pins H b) (ho : ∀ b ∈ fp, ∃ o, s.heap.get? b = some o ∧ ∀ v, o.data ≠ .cell v) : Inv X (pins ++ pinsAt fp s.heap) σ H s :=
  I.pins_of fun p hp => (List.mem_append.mp hp).elim (fun z => I.pin p (List.mem_append_right _ z)) fun z => by
    obtain ⟨hb, e⟩ := of_pinsAt z
    obtain ⟨f0, f1, f2, _⟩ := hf p.1 hb
    obtain ⟨o, e', d⟩ := ho p.1 hb
    rw [e] at e'; cases e'
    exact ⟨e, f0, f1, f2, d⟩
theorem Inv.unpinned {pins pl : List (Addr × Obj)} {σ : St} {H : Hp} {s : Shared} (I : Inv X (pins ++ pl) σ H s) : Inv X pins σ H s := I.pins_of fun p hp => I.pin p (List.mem_append_right _ (List.mem_append_left _ hp))
theorem ps_for {iter : Expr} {body : List Stmt} {wi : TI} {g : TG} {tb : TS} {pos : Pos} (hp : PassesOwn (model X.prog X.w) X.A X.env X.xe) (hc : X.calm = true) (hi : PI X tg iter wi) (hg : PG X tg g) (hb : PSs X body tb)
    (hs : ∀ x, foldedSetIterable iter X.env x = pure x := by intro _; rfl) : PS X (.For tg iter body [] pos) (tFor wi g tb) := by
  refine ⟨?_⟩
  intro pins s σ H D I h
  refine wpAny_For (thn (hi pins s σ H _ I h) fun v s1 h1 => thn h1 fun itv s2 h2 => ?_) hs
  obtain ⟨it, fp, tn, J, H2, e, I2, T, st2, f2, W, ⟨m0, w0⟩, turn⟩ := h2
  subst e
  have stat : ∀ {H' : Hp}, (∀ b ∈ fp, H' b = none) → ∀ b ∈ fp, FpOk X pins H' b := fun hn b hb => ⟨hn b hb, (f2 b hb).2⟩
  refine codeAny_forLoop_any (fun n s' => ∃ i σ' H', Inv X pins σ' H' s' ∧ tn i s'.heap ∧ (∀ b ∈ fp, H' b = none) ∧ W i n σ' H') ?_ m0 ⟨0, σ, H2, I2, st2, fun b hb => (f2 b hb).1, w0⟩
  rintro n s3 ⟨i, σ3, H3, I3, st3, fr3, w3⟩
  rcases turn i n σ3 H3 w3 with ⟨stop, qn⟩ | ⟨go, N, hN, step⟩
  · refine wpAny_passesOwn hp (thn (T.done X rfl rfl rfl hc i pins s3 σ3 H3 X.xe I3 (stat fr3) st3 stop) fun r s4 ⟨hr, I4⟩ => ?_)
    subst hr
    exact wpAny_execs_nil ⟨σ3, H3, I4, qn⟩
  · refine wpAny_passesOwn hp (thn (T.item X rfl rfl rfl hc i pins s3 σ3 H3 X.xe I3 (stat fr3) st3 go) fun r s4 ⟨u, hr, h4⟩ => ?_)
    subst hr
    refine wpAny_passesOwn hp (thn h4 fun _ s5 ⟨x, H5, I5, r5, y5, st5, fr5⟩ => ?_)
    have I5' := I5.pinned (stat fr5) (T.obj _ _ st5)
    refine wpAny_passesOwn hp (thn (hg _ s5 σ3 H5 x u _ I5' r5 (step x H5 y5)) fun _ s6 ⟨σ6, H6, I6, q6⟩ => ?_)
    refine wpAny_passesOwn hp (thn (hb _ s6 σ6 H6 _ I6 q6) fun f s7 q7 => ?_)
    have again : ∀ {σ7 : St} {H7 : Hp}, Inv X (pins ++ pinsAt fp s5.heap) σ7 H7 s7 → N σ7 H7 → ∃ m, m < n ∧ ∃ i σ' H', Inv X pins σ' H' s7 ∧ tn i s7.heap ∧ (∀ b ∈ fp, H' b = none) ∧ W i m σ' H' := fun {σ7 H7} I7 n7 => by
      obtain ⟨m', hm, w7⟩ := hN σ7 H7 n7
      refine ⟨m', hm, i + 1, σ7, H7, I7.unpinned, T.keep _ _ _ st5 fun b hb o e => (I7.pin (b, o) (List.mem_append_right _ (List.mem_append_right _ (mem_pinsAt hb e)))).1, fun b hb => ?_, w7⟩
      obtain ⟨o, e, d⟩ := T.obj _ _ st5 b hb
      exact (I7.pin (b, o) (List.mem_append_right _ (List.mem_append_right _ (mem_pinsAt hb e)))).2.1
    cases f with
    | next => obtain ⟨σ7, H7, I7, n7⟩ := q7; exact again I7 n7
    | cont => obtain ⟨σ7, H7, I7, n7⟩ := q7; exact again I7 n7
    | brk => obtain ⟨σ7, H7, I7, q7⟩ := q7; exact ⟨σ7, H7, I7.unpinned, q7⟩
    | ret v => obtain ⟨x7, σ7, H7, I7, r7, q7⟩ := q7; exact ⟨x7, σ7, H7, I7.unpinned, r7, q7⟩
end

/-! ### the forms one uses -/
theorem for_range {lo : Int} {n : Nat} {g : TG} {tb : TS} {D : Ends} {σ : St} {H : Hp} (Pv : Nat → St → Hp → Prop) (h0 : Pv 0 σ H)
    (hs : ∀ i σ H, i < n → Pv i σ H → g (.int (lo + i)) σ H fun σ2 H2 => tb { D with nx := Pv (i + 1), ct := Pv (i + 1), bk := D.nx } σ2 H2) (hd : ∀ σ H, Pv n σ H → D.nx σ H) :
    ∃ W : Nat → Nat → St → Hp → Prop, (∃ m, W 0 m σ H) ∧ ∀ i m σ H, W i m σ H →
      ((Itr lo n).stop i H ∧ D.nx σ H) ∨ ((Itr lo n).go i H ∧ ∃ N : St → Hp → Prop, (∀ σ' H', N σ' H' → ∃ m', m' < m ∧ W (i + 1) m' σ' H') ∧ ∀ x H', (Itr lo n).yld i H x H' → g x σ H' fun σ2 H2 => tb { D with nx := N, ct := N, bk := D.nx } σ2 H2) := by
  refine ⟨fun i m σ H => m = n - i ∧ i ≤ n ∧ Pv i σ H, ⟨n, by simp, Nat.zero_le _, h0⟩, ?_⟩
  rintro i m σ H ⟨rfl, hi, p⟩
  by_cases hlt : i < n
  · refine .inr ⟨hlt, Pv (i + 1), fun σ' H' p' => ⟨n - (i + 1), by omega, rfl, hlt, p'⟩, fun x H' y => ?_⟩
    obtain ⟨e, y⟩ := y
    subst e y
    exact hs i σ _ hlt p
  · have e : i = n := by omega
    subst e
    exact .inl ⟨Nat.le_refl _, hd σ H p⟩
end L2

namespace L2
open PySem PySem.Spec PyProof.Rows

abbrev R2 := V → V → Hp → VK → Prop
/-- a two-place operation on values: f is binaryOp op, inplaceOp op or compareOp op -/
def OpR (X : Cx) (f : Value → Value → Sem Value) (r : R2) : Prop :=
  ∀ (pins : List (Addr × Obj)) (s : Shared) (σ : St) (H : Hp) (x y : V) (v u : Value) (Q : VK), Inv X pins σ H s → RelV x v → RelV y u → r x y H Q →
    wpAny (model X.prog X.w) X.A (f v u) (EP X pins σ Q) X.xe s
/-- a one-place operation -/
def UnR (X : Cx) (f : Value → Sem Value) (r : V → Hp → VK → Prop) : Prop :=
  ∀ (pins : List (Addr × Obj)) (s : Shared) (σ : St) (H : Hp) (x : V) (v : Value) (Q : VK), Inv X pins σ H s → RelV x v → r x H Q →
    wpAny (model X.prog X.w) X.A (f v) (EP X pins σ Q) X.xe s
/-- a call of a value that is known (a builtin, a type) with values -/
def CallR (X : Cx) (f : Value) (r : List V → Hp → VK → Prop) : Prop :=
  ∀ (pins : List (Addr × Obj)) (s : Shared) (σ : St) (H : Hp) (xs : List V) (us : List Value) (Q : VK), Inv X pins σ H s → Vals xs us → r xs H Q →
    wpAny (model X.prog X.w) X.A (call f us) (EP X pins σ Q) X.xe s

def tOp (r : R2) (ta tb : TE) : TE := fun σ H Q => ta σ H fun x H1 => tb σ H1 fun y H2 => r x y H2 Q
def tUn (r : V → Hp → VK → Prop) (ta : TE) : TE := fun σ H Q => ta σ H fun x H1 => r x H1 Q
/-- ints in, under C, and a value out -/
inductive rI (C : Int → Int → Prop) (g : Int → Int → V) (x y : V) (H : Hp) (Q : VK) : Prop
  | mk (i j : Int) (e1 : x = .int i) (e2 : y = .int j) (c : C i j) (q : Q (g i j) H) : rI C g x y H Q
inductive rI0 (g : Int → Int → V) (x y : V) (H : Hp) (Q : VK) : Prop
  | mk (i j : Int) (e1 : x = .int i) (e2 : y = .int j) (q : Q (g i j) H) : rI0 g x y H Q
def rU (g : Int → V) : V → Hp → VK → Prop := fun x H Q => ∃ i, x = .int i ∧ Q (g i) H

section
variable {X : Cx} {a b c : Expr} {ta tb tc : TE} {pos : Pos}

theorem binT (ha : PE X a ta) (hb : PE X b tb) {pins : List (Addr × Obj)} {s : Shared} {σ : St} {H : Hp} {R : V → V → Hp → Prop} (I : Inv X pins σ H s)
    (h : ta σ H fun x H1 => tb σ H1 fun y H2 => R x y H2) {Q : Value → Shared → Prop} {f : Value → Value → Sem Value}
    (hf : ∀ v u s2 x y H2, Inv X pins σ H2 s2 → RelV x v → RelV y u → R x y H2 → wpAny (model X.prog X.w) X.A (f v u) Q X.xe s2) :
    wpAny (model X.prog X.w) X.A (eval a X.env) (fun v s₁ => wpAny (model X.prog X.w) X.A (eval b X.env) (fun u s₂ => wpAny (model X.prog X.w) X.A (f v u) Q X.xe s₂) X.xe s₁) X.xe s := by
  refine thn (ha pins s σ H _ I h) fun v s1 ⟨x, H1, I1, r1, q1⟩ => ?_
  refine thn (hb pins s1 σ H1 _ I1 q1) fun u s2 ⟨y, H2, I2, r2, q2⟩ => ?_
  exact hf v u s2 x y H2 I2 r1 r2 q2

theorem pe_op {op : Operator} {r : R2} (ho : OpR X (binaryOp op) r) (ha : PE X a ta) (hb : PE X b tb) : PE X (.BinOp a op b pos) (tOp r ta tb) := by
  refine ⟨?_⟩
  intro pins s σ H Q I h
  exact wpAny_BinOp (binT ha hb I h fun v u s2 x y H2 I2 rx ry q => ho pins s2 σ H2 x y v u Q I2 rx ry q)
theorem pe_un {op : UnaryOp} {r : V → Hp → VK → Prop} (ho : UnR X (unaryOp op) r) (ha : PE X a ta) : PE X (.UnaryOp op a pos) (tUn r ta) := by
  refine ⟨?_⟩
  intro pins s σ H Q I h
  exact UnaryOp_ (thn (ha pins s σ H _ I h) fun v s1 ⟨x, H1, I1, r1, q1⟩ => ho pins s1 σ H1 x v Q I1 r1 q1)

/-! ### ints -/
theorem opI {f : Value → Value → Sem Value} {C : Int → Int → Prop} {g : Int → Int → Int}
    (rule : ∀ (i j : Int) (t u : Tok) (s : Shared) (Q : Value → Shared → Prop) (E : Value → Shared → Prop), C i j → Q (.int (g i j) s.toks) { s with toks := s.toks + 1 } → wpAny (model X.prog X.w) X.A (f (.int i t) (.int j u)) Q E s) :
    OpR X f (rI C fun i j => .int (g i j)) := by
  intro pins s σ H x y v u Q I rx ry h
  obtain ⟨i, j, rfl, rfl, hc, q⟩ := h
  obtain ⟨t, rfl⟩ := rx
  obtain ⟨t', rfl⟩ := ry
  exact rule i j t t' s _ _ hc ⟨.int (g i j), H, I.tok _, ⟨_, rfl⟩, q⟩
theorem opI0 {f : Value → Value → Sem Value} {g : Int → Int → Int}
    (rule : ∀ (i j : Int) (t u : Tok) (s : Shared) (Q : Value → Shared → Prop) (E : Value → Shared → Prop), Q (.int (g i j) s.toks) { s with toks := s.toks + 1 } → wpAny (model X.prog X.w) X.A (f (.int i t) (.int j u)) Q E s) :
    OpR X f (rI0 fun i j => .int (g i j)) := by
  intro pins s σ H x y v u Q I rx ry h
  obtain ⟨i, j, rfl, rfl, q⟩ := h
  obtain ⟨t, rfl⟩ := rx
  obtain ⟨t', rfl⟩ := ry
  exact rule i j t t' s _ _ ⟨.int (g i j), H, I.tok _, ⟨_, rfl⟩, q⟩
theorem opB0 {f : Value → Value → Sem Value} {g : Int → Int → Bool}
    (rule : ∀ (i j : Int) (t u : Tok) (s : Shared) (Q : Value → Shared → Prop) (E : Value → Shared → Prop), Q (.bool (g i j)) s → wpAny (model X.prog X.w) X.A (f (.int i t) (.int j u)) Q E s) :
    OpR X f (rI0 fun i j => .bl (g i j)) := by
  intro pins s σ H x y v u Q I rx ry h
  obtain ⟨i, j, rfl, rfl, q⟩ := h
  obtain ⟨t, rfl⟩ := rx
  obtain ⟨t', rfl⟩ := ry
  exact rule i j t t' s _ _ ⟨.bl (g i j), H, I, rfl, q⟩

def CPow (i j : Int) : Prop := 0 ≤ j ∧ j ≤ 1000000 ∧ i.natAbs < 2 ^ 64
def CMul (i j : Int) : Prop := (-(2 ^ 64) < i ∧ i < 2 ^ 64) ∨ (-(2 ^ 64) < j ∧ j < 2 ^ 64)
theorem CMul.ok {i j : Int} (h : CMul i j) : IntMulOk i j := by
  rcases h with ⟨h1, h2⟩ | ⟨h1, h2⟩
  · exact .of_left (intBits_le_64 h1 h2)
  · exact .of_right (intBits_le_64 h1 h2)

theorem op_add : OpR X (binaryOp .Add) (rI0 fun i j => .int (i + j)) := opI0 fun _ _ _ _ _ _ _ q => add_int q
theorem op_sub : OpR X (binaryOp .Sub) (rI0 fun i j => .int (i - j)) := opI0 fun _ _ _ _ _ _ _ q => sub_int q
theorem op_mul : OpR X (binaryOp .Mult) (rI CMul fun i j => .int (i * j)) := opI fun _ _ _ _ _ _ _ hc q => mul_int q hc.ok
/-- % by a positive divisor of any size -/
theorem op_mod : OpR X (binaryOp .Mod) (rI (fun _ j => 0 < j) fun i j => .int (i % j)) := opI fun i j _ _ _ _ _ hc q => by
  have h1 : (0 : Int) < j := hc
  exact mod_int' (by omega) (by rw [Int.fmod_eq_emod_of_nonneg i (by omega)]; exact q)
theorem op_pow : OpR X (binaryOp .Pow) (rI CPow fun i j => .int (i ^ j.toNat)) := opI fun _ _ _ _ _ _ _ hc q => pow_int_small hc.1 hc.2.1 hc.2.2 q


theorem unI {f : Value → Sem Value} {g : Int → Int}
    (rule : ∀ (i : Int) (t : Tok) (s : Shared) (Q : Value → Shared → Prop) (E : Value → Shared → Prop), Q (.int (g i) s.toks) { s with toks := s.toks + 1 } → wpAny (model X.prog X.w) X.A (f (.int i t)) Q E s) :
    UnR X f (rU fun i => .int (g i)) := by
  intro pins s σ H x v Q I rx h
  obtain ⟨i, rfl, q⟩ := h
  obtain ⟨t, rfl⟩ := rx
  exact rule i t s _ _ ⟨.int (g i), H, I.tok _, ⟨_, rfl⟩, q⟩
theorem un_neg : UnR X (unaryOp .USub) (rU fun i => .int (-i)) := unI fun _ _ _ _ _ q => neg_int q

/-! ### bools among ints: n += (a < b) -/
end

/-! ### comparisons -/
/-- the scalars that == tells apart as data does -/
def scal : V → V → Bool
  | .non, .non => true | .non, .int _ => true | .int _, .non => true | .non, .bl _ => true | .bl _, .non => true | .non, .str _ => true | .str _, .non => true
  | .int _, .int _ => true | .bl _, .bl _ => true | .str _, .str _ => true | .byt _, .byt _ => true
  | .int _, .str _ => true | .str _, .int _ => true | .bl _, .str _ => true | .str _, .bl _ => true
  | _, _ => false
def rEq : R2 := fun x y H Q => scal x y = true ∧ Q (.bl (decide (x = y))) H
def rNe : R2 := fun x y H Q => scal x y = true ∧ Q (.bl (!decide (x = y))) H

theorem dec_int {i j : Int} : decide (V.int i = V.int j) = (i == j) := by
  rw [Bool.eq_iff_iff]
  simp
theorem dec_bl {i j : Bool} : decide (V.bl i = V.bl j) = (i == j) := by
  rw [Bool.eq_iff_iff]
  simp
theorem dec_str {i j : Str} : decide (V.str i = V.str j) = (i == j) := by
  rw [Bool.eq_iff_iff]
  simp
theorem dec_byt {i j : Array UInt8} : decide (V.byt i = V.byt j) = (i.toList == j.toList) := by
  rw [Bool.eq_iff_iff]
  cases i
  cases j
  simp

section
variable {X : Cx} {a b c : Expr} {ta tb tc : TE} {pos : Pos}
theorem fin_bl {pins : List (Addr × Obj)} {σ : St} {H : Hp} {s : Shared} {Q : VK} {k k' : Bool} (I : Inv X pins σ H s) (q : Q (.bl k) H) (e : k = k') : EP X pins σ Q (.bool k') s := by
  subst e
  exact ⟨.bl k, H, I, rfl, q⟩
theorem op_eq : OpR X (compareOp .Eq) rEq := by
  intro pins s σ H x y v u Q I rx ry h
  obtain ⟨hs, q⟩ := h
  cases x with
  | non =>
    cases rx
    cases y with
    | non => cases ry; exact PySem.EqNone.eq_none_none (fin_bl I q (by simp))
    | bl j => cases ry; exact PySem.EqNone.eq_none_bool (fin_bl I q (by simp))
    | int j => obtain ⟨t', rfl⟩ := ry; exact PySem.EqNone.eq_none_int (fin_bl I q (by simp))
    | str j => obtain ⟨t', rfl⟩ := ry; exact PySem.EqNone.eq_none_str (fin_bl I q (by simp))
    | _ => exact absurd (show false = true from hs) Bool.false_ne_true
  | bl i =>
    cases rx
    cases y with
    | non => cases ry; exact PySem.EqNone.eq_bool_none (fin_bl I q (by simp))
    | bl j => cases ry; exact eq_bool (fin_bl I q dec_bl)
    | str j => obtain ⟨t', rfl⟩ := ry; exact PySem.EqMixed.eq_bool_str (fin_bl I q (by simp))
    | _ => exact absurd (show false = true from hs) Bool.false_ne_true
  | int i =>
    obtain ⟨t, rfl⟩ := rx
    cases y with
    | non => cases ry; exact PySem.EqNone.eq_int_none (fin_bl I q (by simp))
    | int j => obtain ⟨t', rfl⟩ := ry; exact eq_int (fin_bl I q dec_int)
    | str j => obtain ⟨t', rfl⟩ := ry; exact PySem.EqMixed.eq_int_str (fin_bl I q (by simp))
    | _ => exact absurd (show false = true from hs) Bool.false_ne_true
  | str i =>
    obtain ⟨t, rfl⟩ := rx
    cases y with
    | non => cases ry; exact PySem.EqNone.eq_str_none (fin_bl I q (by simp))
    | bl j => cases ry; exact PySem.EqMixed.eq_str_bool (fin_bl I q (by simp))
    | int j => obtain ⟨t', rfl⟩ := ry; exact PySem.EqMixed.eq_str_int (fin_bl I q (by simp))
    | str j => obtain ⟨t', rfl⟩ := ry; exact eq_str (fin_bl I q dec_str)
    | _ => exact absurd (show false = true from hs) Bool.false_ne_true
  | byt i =>
    obtain ⟨t, rfl⟩ := rx
    cases y with
    | byt j => obtain ⟨t', rfl⟩ := ry; exact PySem.W.eq_bytes (fin_bl I q dec_byt)
    | _ => exact absurd (show false = true from hs) Bool.false_ne_true
  | _ => cases y <;> exact absurd (show false = true from hs) Bool.false_ne_true
theorem op_ne : OpR X (compareOp .NotEq) rNe := by
  intro pins s σ H x y v u Q I rx ry h
  obtain ⟨hs, q⟩ := h
  cases x with
  | non =>
    cases rx
    cases y with
    | non => cases ry; exact PySem.EqNone.ne_none_none (fin_bl I q (by simp))
    | bl j => cases ry; exact PySem.EqNone.ne_none_bool (fin_bl I q (by simp))
    | int j => obtain ⟨t', rfl⟩ := ry; exact PySem.EqNone.ne_none_int (fin_bl I q (by simp))
    | str j => obtain ⟨t', rfl⟩ := ry; exact PySem.EqNone.ne_none_str (fin_bl I q (by simp))
    | _ => exact absurd (show false = true from hs) Bool.false_ne_true
  | bl i =>
    cases rx
    cases y with
    | non => cases ry; exact PySem.EqNone.ne_bool_none (fin_bl I q (by simp))
    | bl j => cases ry; exact ne_bool (fin_bl I q (congrArg not dec_bl))
    | str j => obtain ⟨t', rfl⟩ := ry; exact PySem.EqMixed.ne_bool_str (fin_bl I q (by simp))
    | _ => exact absurd (show false = true from hs) Bool.false_ne_true
  | int i =>
    obtain ⟨t, rfl⟩ := rx
    cases y with
    | non => cases ry; exact PySem.EqNone.ne_int_none (fin_bl I q (by simp))
    | int j => obtain ⟨t', rfl⟩ := ry; exact ne_int (fin_bl I q (congrArg not dec_int))
    | str j => obtain ⟨t', rfl⟩ := ry; exact PySem.EqMixed.ne_int_str (fin_bl I q (by simp))
    | _ => exact absurd (show false = true from hs) Bool.false_ne_true
  | str i =>
    obtain ⟨t, rfl⟩ := rx
    cases y with
    | non => cases ry; exact PySem.EqNone.ne_str_none (fin_bl I q (by simp))
    | bl j => cases ry; exact PySem.EqMixed.ne_str_bool (fin_bl I q (by simp))
    | int j => obtain ⟨t', rfl⟩ := ry; exact PySem.EqMixed.ne_str_int (fin_bl I q (by simp))
    | str j => obtain ⟨t', rfl⟩ := ry; exact ne_str (fin_bl I q (congrArg not dec_str))
    | _ => exact absurd (show false = true from hs) Bool.false_ne_true
  | byt i =>
    obtain ⟨t, rfl⟩ := rx
    cases y with
    | byt j => obtain ⟨t', rfl⟩ := ry; exact PySem.W.ne_bytes (fin_bl I q (congrArg not dec_byt))
    | _ => exact absurd (show false = true from hs) Bool.false_ne_true
  | _ => cases y <;> exact absurd (show false = true from hs) Bool.false_ne_true

theorem op_lt : OpR X (compareOp .Lt) (rI0 fun i j => .bl (decide (i < j))) := opB0 fun _ _ _ _ _ _ _ q => lt_int q
theorem op_le : OpR X (compareOp .LtE) (rI0 fun i j => .bl (decide (i ≤ j))) := opB0 fun _ _ _ _ _ _ _ q => le_int q
theorem op_gt : OpR X (compareOp .Gt) (rI0 fun i j => .bl (decide (j < i))) := opB0 fun _ _ _ _ _ _ _ q => gt_int q

/-- is None, is not None: the right side a value none -/
theorem op_isN : OpR X (compareOp .Is) (fun x y H Q => y = .non ∧ Q (.bl (decide (x = .non))) H) := by
  intro pins s σ H x y v u Q I rx ry h
  obtain ⟨rfl, q⟩ := h
  cases ry
  refine is_none_gen (fin_bl I q ?_)
  cases x <;> first
    | (cases rx; rfl)
    | (obtain ⟨t, rfl⟩ := rx; rfl)



theorem nomark (b : Expr) {op : CmpOp} (h : op ≠ .In := by decide) (h2 : op ≠ .NotIn := by decide) : behindInMarks op b = false := by
  have e1 : (op == CmpOp.In) = false := by cases op <;> first | rfl | exact absurd rfl h
  have e2 : (op == CmpOp.NotIn) = false := by cases op <;> first | rfl | exact absurd rfl h2
  cases b <;> simp [behindInMarks, e1, e2]
/-- a comparison as a value; hm: nomark b, or (for in, not in) by with_unfolding_all rfl -/
theorem pe_cmpR {op : CmpOp} {r : R2} (ho : OpR X (compareOp op) r) (ha : PE X a ta) (hb : PE X b tb) (hm : behindInMarks op b = false) : PE X (.Compare a [op] [b] pos) (tOp r ta tb) := by
  refine ⟨?_⟩
  intro pins s σ H Q I h
  exact wpAny_Compare1 (binT ha hb I h fun v u s2 x y H2 I2 rx ry q => ho pins s2 σ H2 x y v u Q I2 rx ry q) hm
/-- a reading of a value as a test -/
def tTest (t : TE) : TT := fun σ H Q => t σ H fun x H' => ∃ k, x = .bl k ∧ Q k H'
theorem pt_cmpR {op : CmpOp} {r : R2} (ho : OpR X (compareOp op) r) (ha : PE X a ta) (hb : PE X b tb) (hm : behindInMarks op b = false) : PT X (.Compare a [op] [b] pos) (tTest (tOp r ta tb)) := by
  refine ⟨?_⟩
  intro pins s σ H Q I h
  refine wpAny_isTrue_Compare1 (thn (ha pins s σ H _ I h) fun v s1 ⟨x, H1, I1, r1, q1⟩ => thn (hb pins s1 σ H1 _ I1 q1) fun u s2 ⟨y, H2, I2, r2, q2⟩ =>
    thn (ho pins s2 σ H2 x y v u _ I2 r1 r2 q2) fun c s3 ⟨z, H3, I3, r3, k, e, q3⟩ => ?_) hm
  subst e
  cases r3
  exact wpAny_truthy_bool ⟨H3, I3, q3⟩
/-- a op1 b op2 c -/
def tChain (r r' : R2) (ta tb tc : TE) : TE := fun σ H Q => ta σ H fun x H1 => tb σ H1 fun y H2 => r x y H2 fun z H3 => ∃ k, z = .bl k ∧
  (if k = true then tc σ H3 fun w' H4 => r' y w' H4 Q else Q (.bl false) H3)
theorem pe_chain {op op' : CmpOp} {r r' : R2} (ho : OpR X (compareOp op) r) (ho' : OpR X (compareOp op') r') (ha : PE X a ta) (hb : PE X b tb) (hc : PE X c tc)
    (hm : lastMarks [op, op'] [b, c] = false := by with_unfolding_all rfl) : PE X (.Compare a [op, op'] [b, c] pos) (tChain r r' ta tb tc) := by
  refine ⟨?_⟩
  intro pins s σ H Q I h
  refine Compare_chain (thn (ha pins s σ H _ I h) fun v s1 ⟨x, H1, I1, r1, q1⟩ => chain_link (thn (hb pins s1 σ H1 _ I1 q1) fun u s2 ⟨y, H2, I2, r2, q2⟩ =>
    thn (ho pins s2 σ H2 x y v u _ I2 r1 r2 q2) fun d s3 ⟨z, H3, I3, r3, k, e, q3⟩ => ?_)) hm
  subst e
  cases r3
  refine wpAny_truthy_bool ?_
  cases k with
  | false => exact ite_ff ⟨.bl false, H3, I3, rfl, q3⟩
  | true => exact ite_tt (chain_last (thn (hc pins s3 σ H3 _ I3 q3) fun w' s4 ⟨z', H4, I4, r4, q4⟩ => ho' pins s4 σ H4 y z' u w' Q I4 r2 r4 q4))
theorem pt_chain {op op' : CmpOp} {r r' : R2} (ho : OpR X (compareOp op) r) (ho' : OpR X (compareOp op') r') (ha : PE X a ta) (hb : PE X b tb) (hc : PE X c tc)
    (hm : lastMarks [op, op'] [b, c] = false := by with_unfolding_all rfl) : PT X (.Compare a [op, op'] [b, c] pos) (tTest (tChain r r' ta tb tc)) := by
  refine ⟨?_⟩
  intro pins s σ H Q I h
  refine isTrue_chain (thn (ha pins s σ H _ I h) fun v s1 ⟨x, H1, I1, r1, q1⟩ => test_link (thn (hb pins s1 σ H1 _ I1 q1) fun u s2 ⟨y, H2, I2, r2, q2⟩ =>
    thn (ho pins s2 σ H2 x y v u _ I2 r1 r2 q2) fun d s3 ⟨z, H3, I3, r3, k, e, q3⟩ => ?_)) hm
  subst e
  cases r3
  refine wpAny_truthy_bool ?_
  cases k with
  | false =>
    obtain ⟨k', e', q'⟩ := q3
    cases e'
    exact ite_ff ⟨H3, I3, q'⟩
  | true =>
    refine ite_tt (test_last (thn (hc pins s3 σ H3 _ I3 q3) fun w' s4 ⟨z', H4, I4, r4, q4⟩ => thn (ho' pins s4 σ H4 y z' u w' _ I4 r2 r4 q4) fun d' s5 ⟨z2, H5, I5, r5, k2, e2, q5⟩ => ?_))
    subst e2
    cases r5
    exact wpAny_truthy_bool ⟨H5, I5, q5⟩

/-! ### truth -/
theorem line63 : (sizeLine : Nat) < 2 ^ 63 := by rw [sizeLine_eq]; decide

/-! ### strs and bytes -/


/-! ### scalar builtins, by CallR -/
theorem vals1 {x : V} {us : List Value} (r : Vals [x] us) : ∃ u, us = [u] ∧ RelV x u := by
  cases r with
  | cons r1 r2 => cases r2; exact ⟨_, rfl, r1⟩
theorem vals2 {x y : V} {us : List Value} (r : Vals [x, y] us) : ∃ u w', us = [u, w'] ∧ RelV x u ∧ RelV y w' := by
  cases r with
  | cons r1 r2 =>
    cases r2 with
    | cons r3 r4 => cases r4; exact ⟨_, _, rfl, r1, r3⟩
theorem call_abs : CallR X (.builtin "abs") (fun xs H Q => ∃ i, xs = [.int i] ∧ Q (.int (if i < 0 then -i else i)) H) := by
  intro pins s σ H xs us Q I r h
  obtain ⟨i, rfl, q⟩ := h
  obtain ⟨u, rfl, t, rfl⟩ := vals1 r
  exact call_abs_int fun u tk => ⟨.int (if i < 0 then -i else i), H, I.tok _, ⟨_, rfl⟩, q⟩
theorem call_max2 (hc : X.calm = true) : CallR X (.builtin "max") (fun xs H Q => ∃ i j, xs = [.int i, .int j] ∧ Q (.int (if j > i then j else i)) H) := by
  intro pins s σ H xs us Q I r h
  obtain ⟨i, j, rfl, q⟩ := h
  obtain ⟨u, w', rfl, ⟨t, rfl⟩, ⟨t', rfl⟩⟩ := vals2 r
  refine max_two_ints (I.ok.hd hc) fun h' tk k => ⟨_, H, I.kept k, ?_, q⟩
  by_cases hj : j > i
  · rw [if_pos hj, if_pos hj]; exact ⟨_, rfl⟩
  · rw [if_neg hj, if_neg hj]; exact ⟨_, rfl⟩
theorem call_min2 (hc : X.calm = true) : CallR X (.builtin "min") (fun xs H Q => ∃ i j, xs = [.int i, .int j] ∧ Q (.int (if j < i then j else i)) H) := by
  intro pins s σ H xs us Q I r h
  obtain ⟨i, j, rfl, q⟩ := h
  obtain ⟨u, w', rfl, ⟨t, rfl⟩, ⟨t', rfl⟩⟩ := vals2 r
  refine min_two_ints (I.ok.hd hc) fun h' tk k => ⟨_, H, I.kept k, ?_, q⟩
  by_cases hj : j < i
  · rw [if_pos hj, if_pos hj]; exact ⟨_, rfl⟩
  · rw [if_neg hj, if_neg hj]; exact ⟨_, rfl⟩
theorem call_int1 : CallR X (.type "int") (fun xs H Q => (∃ i, xs = [.int i] ∧ Q (.int i) H) ∨ ∃ k, xs = [.bl k] ∧ Q (.int (if k then 1 else 0)) H) := by
  intro pins s σ H xs us Q I r h
  rcases h with ⟨i, rfl, q⟩ | ⟨k, rfl, q⟩
  · obtain ⟨u, rfl, t, rfl⟩ := vals1 r
    exact call_int_int ⟨.int i, H, I, ⟨_, rfl⟩, q⟩
  · obtain ⟨u, rfl, r1⟩ := vals1 r
    cases r1
    exact call_int_bool ⟨.int (if k then 1 else 0), H, I.tok _, ⟨_, rfl⟩, q⟩
end
end L2

namespace L2
open PySem PySem.Spec PyProof.Rows

/-! ### an instance, its attributes a map -/



section
variable {prog : Program} {w : World} {A : Around} {E : Value → Shared → Prop} {s : Shared} {K : PySem.W.Frag} {x dx C f : Addr} {mA : Str → Option Value} {name : Str} {v : Value}





end

/-! ### the attributes as a list of pairs -/


section
variable {P : Program} {w : World} {H H' : Hp} {h h' : Heap} {a C dx : Addr} {fs fs' : List (Str × V)}
end

/-! ### what of the text a class must have -/

section
variable {X : Cx} {pins : List (Addr × Obj)} {σ : St} {H : Hp} {s : Shared} {a C dx : Addr} {fs : List (Str × V)} {f : Str} {v : V} {A : Around} {E : Value → Shared → Prop}






end

/-! ### readings and rules -/

section
variable {X : Cx} {o e value : Expr} {f : Str} {pos pos' tpos : Pos} {ta tv : TE}

end

/-! ### isinstance -/
section
variable {X : Cx} {pins : List (Addr × Obj)} {σ : St} {H : Hp} {s : Shared} {A : Around} {E : Value → Shared → Prop} {Q : Value → Shared → Prop} {c : Value} {b : Bool}
end
end L2

namespace L2
open PySem PySem.Spec PyProof.Rows

/-! ### room -/
structure Room (k : Nat) (A : Around) : Prop where
  hd : A.handled = none
  dp : A.depth + 3 * k + 5 < recursionLimit
  un : A.units + 16 * k + 200 < cLine
  gd : A.guards = some []
theorem Room.mono {j k : Nat} {A : Around} (r : Room k A) (h : j ≤ k) : Room j A := ⟨r.hd, by have := r.dp; omega, by have := r.un; omega, r.gd⟩
theorem Room.deeper {k : Nat} {A : Around} (r : Room (k + 1) A) (env : Env) : Room k (A.deeper env) :=
  ⟨r.hd, by have := r.dp; show A.depth + 1 + 3 * k + 5 < _; omega, by have := r.un; show A.units + 3 + 16 * k + 200 < _; omega, r.gd⟩
theorem Room.depth {k : Nat} {A : Around} (r : Room k A) : A.depth < recursionLimit := by have := r.dp; omega

/-! ### argument lists and displays -/
abbrev tNil : TA := fun _ H Q => Q [] H
abbrev tCons (ta : TE) (tr : TA) : TA := fun σ H Q => ta σ H fun x H1 => tr σ H1 fun xs H2 => Q (x :: xs) H2
section
variable {X : Cx} {e : Expr} {es : List Expr} {te : TE} {t : TA} {pos : Pos}
theorem pa_nil : PA X [] tNil := .mk fun _ _ _ _ H Q I h => Calls.spliced_nil ⟨[], H, I, .nil, h⟩
theorem pa_cons (ha : PE X e te) (hr : PA X es t) (hs : starEach (e :: es) X.env = (false, eval e X.env) :: starEach es X.env := by rfl) : PA X (e :: es) (tCons te t) := by
  refine ⟨?_⟩
  intro pos pins s σ H Q I h
  rw [hs]
  show wpAny _ _ (spliced ((false, eval e X.env) :: backTo pos (starEach es X.env))) _ _ s
  refine Calls.spliced_cons (thn (ha pins s σ H _ I h) fun u s1 ⟨x, H1, I1, r1, q1⟩ => ?_)
  exact thn (hr pos pins s1 σ H1 _ I1 q1) fun us s2 ⟨xs, H2, I2, r2, q2⟩ => ⟨x :: xs, H2, I2, .cons r1 r2, q2⟩

/-- a tuple, a list of written items -/
def tTup (t : TA) : TE := fun σ H Q => t σ H fun xs H1 => xs.length ≤ sizeLine ∧ ∀ p, H1 p = none → Q (.ref p) (upd H1 p (.tup xs))
def tLst (t : TA) : TE := fun σ H Q => t σ H fun xs H1 => xs.length ≤ sizeLine ∧ ∀ p, H1 p = none → Q (.ref p) (upd H1 p (.lst xs))
theorem pe_tup {x1} (h : PA X es t) : PE X (.Tuple es x1 pos) (tTup t) := by
  refine ⟨?_⟩
  intro pins s σ H Q I hq
  refine wpAny_Tuple_spliced (thn (h pos pins s σ H _ I hq) fun us s1 ⟨xs, H1, I1, r, z, q⟩ => ⟨by rw [← r.length]; exact z, ?_⟩)
  have hf : H1 s1.heap.objs.size = none := I1.hok.fresh (Nat.le_refl _)
  refine ⟨.ref s1.heap.objs.size, upd H1 s1.heap.objs.size (.tup xs), I1.laid (t' := s1.toks) (fun b u e => Heap.get?_push_of_some _ e) (Nat.le_refl _) ?_, rfl, q _ hf⟩
  exact ⟨z, us, r, ⟨_, Heap.get?_push_size _ rfl, rfl, _, rfl⟩⟩
theorem pe_lst (h : PA X es t) : PE X (.List es pos) (tLst t) := by
  refine ⟨?_⟩
  intro pins s σ H Q I hq
  refine wpAny_List_spliced (thn (h pos pins s σ H _ I hq) fun us s1 ⟨xs, H1, I1, r, z, q⟩ => ⟨by rw [← r.length]; exact z, ?_⟩)
  have hf : H1 s1.heap.objs.size = none := I1.hok.fresh (Nat.le_refl _)
  refine ⟨.ref s1.heap.objs.size, upd H1 s1.heap.objs.size (.lst xs), I1.laid (t' := s1.toks) (fun b u e => Heap.get?_push_of_some _ e) (Nat.le_refl _) ?_, rfl, q _ hf⟩
  exact ⟨z, us, 0, r, Heap.get?_push_size _ rfl⟩
end

/-! ### what a def promises -/
/-- a def's promise: the bound arguments in the parameters' order, the heap, the wanted end, the wanted exception -/
abbrev Sp := List V → Hp → VK → XK → Prop
/-- how an exception lies behind a call (file 08 gives it): the callers' frames, abstract heap and state ahead of the call, the wish, the exception, the state -/
abbrev CXT := List Env → Hp → Shared → XK → Value → Shared → Prop

/-- the state at a call -/
structure Env0 (P : Program) (w : World) (K : PySem.W.Frag) (mg : Str → Option Value) (base : Heap) (A : Around) (outer : List Env) (s : Shared) (H : Hp) : Prop where
  frames : A.frames = some outer
  mod : Mod K mg base
  bs : ∀ b o, base.get? b = some o → s.heap.get? b = some o ∧ H b = none
  bsz : base.objs.size ≤ s.heap.objs.size
  funs : s.heap.FunFrames base outer
  frf : ∀ b ∈ frs outer, H b = none
  hok : HOk P w H s.heap
  bare : AllBare s.gens
/-- a call's end -/
def CE (outer : List Env) (P : Program) (w : World) (H : Hp) (s : Shared) (Q : VK) (u : Value) (s' : Shared) : Prop :=
  ∃ v H', s'.os = s.os ∧ AllBare s'.gens ∧ Un (frs outer) [] H H' s.heap s'.heap ∧ HOk P w H' s'.heap ∧ RelV v u ∧ Q v H'
def CR (CX : CXT) (outer : List Env) (P : Program) (w : World) (H : Hp) (s : Shared) (Q : VK) (E : XK) (r : Result) (s' : Shared) : Prop :=
  match r with
  | .ok (.ret u) => CE outer P w H s Q u s'
  | .ok _ => False
  | .error e => CX outer H s E e s'
structure FnOk (P : Program) (w : World) (K : PySem.W.Frag) (mg : Str → Option Value) (base : Heap) (CX : CXT) (k : Nat) (f : Addr) (fd : FuncData) (ps : List Str) (sp : Sp) : Prop where
  len : ∀ vs H Q E, sp vs H Q E → vs.length = ps.length
  run : ∀ (A : Around) (outer : List Env) (s : Shared) (H : Hp) (args : Args) (us : List Value) (vs : List V) (Q : VK) (E : XK), Room k A → Env0 P w K mg base A outer s H → BindsTo s fd args (ps.zip us) → Vals vs us → sp vs H Q E →
    codeAny (model P w) A (.call (.ref f) args) (CR CX outer P w H s Q E) s


section
variable {X : Cx} {pins : List (Addr × Obj)} {σ : St} {H : Hp} {s s' : Shared}
/-- from a body: what a callee wants -/
theorem Inv.env0 (I : Inv X pins σ H s) : Env0 X.prog X.w X.K X.mg X.base X.A X.stack s H :=
  ⟨I.ok.frames, I.ok.mod, I.bs, Nat.le_trans I.ok.bsz I.sz, I.stack, I.stkFree, I.hok, I.bare⟩
/-- behind a call -/
theorem Inv.after {Q : VK} {u : Value} (I : Inv X pins σ H s) (h : CE X.stack X.prog X.w H s Q u s') : EP X pins σ Q u s' := by
  obtain ⟨v, H', os, bare, un, hok, r, q⟩ := h
  obtain ⟨hh, g, d, t, os'⟩ := s'
  obtain rfl : os' = s.os := os
  exact ⟨v, H', I.call (h' := hh) (g' := g) (d' := d) (t' := t) (ch := []) un hok bare (fun b z => absurd z (by simp)), r, q⟩
end

/-! ### calls -/
/-- f(..): the written arguments, then the defaults dvs; E: what is wanted of an exception -/
abbrev tCall (sp : Sp) (dvs : List V) (E : XK) (t : TA) : TE := fun σ H Q => t σ H fun vs H1 => sp (vs ++ dvs) H1 Q E

/-- how the parameters are bound: us the positional arguments, kw the keywords' values by name, ds the defaults that fill up -/
def Binds (K : PySem.W.Frag) (fd : FuncData) (ps : List Str) (ds : List Value) : Prop :=
  ∀ (s : Shared) (us : List Value), K.In s.heap → (us ++ ds).length = ps.length → BindsTo s fd ⟨us, []⟩ (ps.zip (us ++ ds))
/-- every parameter is given -/
theorem Binds.all {K : PySem.W.Frag} {fd : FuncData} {ps : List Str} (h : ∀ us : List Value, us.length = ps.length → bindArgs fd ⟨us, []⟩ = pure (ps.zip us)) : Binds K fd ps [] := fun s us _ hl => by
  rw [List.append_nil] at hl ⊢
  exact .of_eq (h us hl)

/-- an exception of a callee reaches what this body wants of exceptions -/
def Passes (CX : CXT) (X : Cx) (E : XK) : Prop := ∀ (pins : List (Addr × Obj)) (σ : St) (H : Hp) (s : Shared) (e : Value) (s' : Shared), Inv X pins σ H s → CX X.stack H s E e s' → X.xe e s'

section
variable {X : Cx} {CX : CXT} {k : Nat} {f C : Addr} {fd : FuncData} {ps : List Str} {sp : Sp} {dvs : List V} {ds : List Value} {E : XK} {x m : Str} {p pos apos : Pos} {e o : Expr} {es : List Expr} {ta : TE} {t : TA}

/-- the callee runs -/
theorem run_fn {pins : List (Addr × Obj)} {σ : St} {H : Hp} {s : Shared} {Q : VK} {us : List Value} {vs : List V} (F : FnOk X.prog X.w X.K X.mg X.base CX k f fd ps sp) (hr : Room k X.A) (hb : Binds X.K fd ps ds) (hd : Vals dvs ds) (hx : Passes CX X E)
    (I : Inv X pins σ H s) (r : Vals vs us) (h : sp (vs ++ dvs) H Q E) : wpAny (model X.prog X.w) X.A (call (.ref f) us) (EP X pins σ Q) X.xe s := by
  have r2 : Vals (vs ++ dvs) (us ++ ds) := r.append hd
  have hl : (us ++ ds).length = ps.length := by rw [← r2.length]; exact F.len _ _ _ _ h
  refine wpAny_call (codeAny_mono (F.run X.A X.stack s H ⟨us, []⟩ (us ++ ds) (vs ++ dvs) Q E hr I.env0 (hb s us I.kIn hl) r2 h) fun r s' hq => ?_)
  cases r with
  | error e => exact hx pins σ H s e s' I hq
  | ok fl =>
    cases fl with
    | ret u => exact I.after hq
    | next => exact False.elim hq
    | brk => exact False.elim hq
    | cont => exact False.elim hq

theorem pe_call (F : FnOk X.prog X.w X.K X.mg X.base CX k f fd ps sp) (hr : Room k X.A) (hg : Gl X x) (hm : X.mg x = some (.ref f)) (hk : PySem.W.keepIn X.K (.ref f) = true) (hb : Binds X.K fd ps ds) (hd : Vals dvs ds) (hx : Passes CX X E)
    (ha : PA X (e :: es) t) (hdb : (x == ("__debug__" : Str)) = false := by decide) (he : starEach (e :: es) X.env = (false, eval e X.env) :: starEach es X.env := by rfl) (hpl : (backTo pos (starEach es X.env)).any (·.1) = false := by rfl) :
    PE X (.Call (.Name x p) (e :: es) [] pos) (tCall sp dvs E t) := by
  refine ⟨?_⟩
  intro pins s σ H Q I h
  refine wpAny_Call_Name_kw (ld_glob I hg hm ?_ hdb)
  refine PySem.W.callWith_K (h₀ := X.base) I.ok.mod.kin hk (thn (ha pos pins s σ H _ I h) fun us s1 ⟨vs, H1, I1, r, q⟩ => ⟨I1.kIn, ?_⟩) he hpl
  exact run_fn F hr hb hd hx I1 r q



end

/-! ### keywords -/
section
variable {X : Cx} {CX : CXT} {k : Nat} {f C : Addr} {fd : FuncData} {ps ks : List Str} {sp : Sp} {E : XK} {x m : Str} {p pos apos kpos : Pos} {e o : Expr} {es : List Expr} {kws : List Keyword} {te ta : TE} {t tk : TA} {nm : Option Str}

variable {g : List Value → List Value → List Value} {gV : List V → List V → List V}
end

/-! ### a def's body keeps its promise -/
/-- names: the parameters first -/
structure FnScope (N P : List Str) (sc : Scope) : Prop where
  kind : sc.kind = .function
  co : sc.isCoroutine = false
  gen : sc.isGenerator = false
  nd : N.Nodup
  pre : N.take P.length = P
  par : ∀ x ∈ P, sc.names.lookup x = some .local ∨ sc.names.lookup x = some .cell
  nofree : ∀ y ∈ sc.names, y.2 ≠ .free

theorem bindL_out {kindOf : Str → Option NameKind} {x : Str} : ∀ {binds : List (Str × Value)} {m : Str → Option Value}, (∀ v, (x, v) ∉ binds) → bindL kindOf binds m x = m x
  | [], _, _ => rfl
  | (n, v) :: r, m, h => by
    unfold bindL
    rw [bindL_out fun w hw => h w (List.mem_cons_of_mem _ hw)]
    split
    · have : x ≠ n := by rintro rfl; exact h v List.mem_cons_self
      simp [this]
    · rfl
theorem bindC_out {kindOf : Str → Option NameKind} {x : Str} : ∀ {binds : List (Str × Value)} {m : Str → Option Value}, (∀ v, (x, v) ∉ binds) → bindC kindOf binds m x = m x
  | [], _, _ => rfl
  | (n, v) :: r, m, h => by
    unfold bindC
    rw [bindC_out fun w hw => h w (List.mem_cons_of_mem _ hw)]
    split
    · rfl
    · have : x ≠ n := by rintro rfl; exact h v List.mem_cons_self
      simp [this]
theorem bindL_get {kindOf : Str → Option NameKind} {x : Str} {v : Value} : ∀ {P : List Str} {vs : List Value} {i : Nat} {m : Str → Option Value}, P.Nodup → P[i]? = some x → vs[i]? = some v → kindOf x = some .local →
    bindL kindOf (P.zip vs) m x = some v
  | [], _, _, _, _, h, _, _ => by simp at h
  | _ :: _, [], _, _, _, _, h, _ => by simp at h
  | p :: P, w :: vs, 0, m, nd, h1, h2, hk => by
    simp at h1 h2; subst h1; subst h2
    show bindL kindOf ((p, w) :: P.zip vs) m p = _
    unfold bindL
    rw [bindL_out fun v hv => (List.nodup_cons.mp nd).1 (List.of_mem_zip hv).1, if_pos hk]
    simp
  | p :: P, w :: vs, i + 1, m, nd, h1, h2, hk => by
    show bindL kindOf ((p, w) :: P.zip vs) m x = _
    unfold bindL
    exact bindL_get (i := i) (List.nodup_cons.mp nd).2 (by simpa using h1) (by simpa using h2) hk
theorem bindC_get {kindOf : Str → Option NameKind} {x : Str} {v : Value} : ∀ {P : List Str} {vs : List Value} {i : Nat} {m : Str → Option Value}, P.Nodup → P[i]? = some x → vs[i]? = some v → kindOf x ≠ some .local →
    bindC kindOf (P.zip vs) m x = some v
  | [], _, _, _, _, h, _, _ => by simp at h
  | _ :: _, [], _, _, _, _, h, _ => by simp at h
  | p :: P, w :: vs, 0, m, nd, h1, h2, hk => by
    simp at h1 h2; subst h1; subst h2
    show bindC kindOf ((p, w) :: P.zip vs) m p = _
    unfold bindC
    rw [bindC_out fun v hv => (List.nodup_cons.mp nd).1 (List.of_mem_zip hv).1, if_neg hk]
    simp
  | p :: P, w :: vs, i + 1, m, nd, h1, h2, hk => by
    show bindC kindOf ((p, w) :: P.zip vs) m x = _
    unfold bindC
    exact bindC_get (i := i) (List.nodup_cons.mp nd).2 (by simpa using h1) (by simpa using h2) hk

/-- the names' values at the entry -/
def start (N : List Str) (vs : List V) : St := vs.map some ++ List.replicate (N.length - vs.length) none

/-- the context of a def's body, at its entry; an exception leaves the frame, then lies as CX says -/
def cxOf (CX : CXT) (P : Program) (w : World) (K : PySem.W.Frag) (mg : Str → Option Value) (base : Heap) (N : List Str) (qual : Str) (scope : Scope) (f : Addr) (cd : Value) (A : Around) (outer : List Env) (s : Shared) (H : Hp) (E : XK) : Cx where
  prog := P
  w := w
  K := K
  mg := mg
  base := base
  A := A.deeper (envOfC qual scope s.heap.objs.size f cd)
  N := N
  s₀ := s
  H₀ := H
  env := envOfC qual scope s.heap.objs.size f cd
  outer := outer
  stack := envOfC qual scope s.heap.objs.size f cd :: outer
  ex := []
  calm := true
  fn := fun _ => true
  pn := []
  xe := fun e s' => wpAny (model P w) (A.deeper (envOfC qual scope s.heap.objs.size f cd)) (leaving (envOfC qual scope s.heap.objs.size f cd) e) (fun _ s'' => CX outer H s E e s'') (fun e' s'' => CX outer H s E e' s'') s'

theorem cell_has {sc : Scope} {n : Nat} {x : Str} (h : sc.names.lookup x = some .cell) : ∃ c, (cellsFrom n sc.names []).lookup x = some c := by
  have q := PySem.W.cellsFrom_some sc.names n [] (.inl h)
  exact Option.isSome_iff_exists.mp q

theorem inv_start {CX : CXT} {P : Program} {w : World} {K : PySem.W.Frag} {mg : Str → Option Value} {base : Heap} {N ps : List Str} {qual : Str} {scope : Scope} {f : Addr} {cd : Value} {A : Around} {outer : List Env} {s s1 : Shared} {H : Hp} {E : XK} {us : List Value} {vs : List V}
    (S : FnScope N ps scope) (hd : A.handled = none) (e0 : Env0 P w K mg base A outer s H) (hl : vs.length = ps.length) (r : Vals vs us)
    (x : InCallC s s.heap.objs.size (bindL (envOfC qual scope s.heap.objs.size f cd).kindOf (ps.zip us) fun _ => none) (cellsFrom (s.heap.objs.size + 1) scope.names []) (bindC (envOfC qual scope s.heap.objs.size f cd).kindOf (ps.zip us) fun _ => none) s1) :
    Inv (cxOf CX P w K mg base N qual scope f cd A outer s H E) [] (start N vs) H s1 := by
  have hpl : ps.length ≤ N.length := by have := congrArg List.length S.pre; rw [List.length_take] at this; omega
  obtain ⟨h1, tk, rfl, hk⟩ := x.done
  have noA : ∀ b : Addr, b ∉ (cxOf CX P w K mg base N qual scope f cd A outer s H E).ex := fun b z => absurd (show b ∈ ([] : List Addr) from z) (by simp)
  refine ⟨⟨e0.mod, S.kind, rfl, rfl, Nat.le_refl _, fun y z c h1 h2 => ?_, fun y hy => ?_, fun y c _ h => ?_, fun _ => hd, Around.frames_deeper e0.frames, .inr ⟨rfl, rfl⟩, fun b z => absurd z (noA b), e0.bs, e0.bsz, fun b _ _ => noA b, fun b z => absurd z (noA b), e0.funs, e0.frf⟩,
    rfl, e0.bare, Un.kept hk, ⟨_, x.toInCall.ns, fun i y v h1 h2 h3 => ?_⟩, fun y c h => ⟨_, x.cell y c h⟩, e0.hok.fresh (Nat.le_refl _), fun y c h => ?_, fun p hp => absurd (show p ∈ ([] : List (Addr × Obj)) from hp) (by simp), e0.hok.kept hk, ?_⟩
  · exact name_of_addr x.apart (PySem.mem_of_lookup h1) (PySem.mem_of_lookup h2)
  · have hy : scope.names.lookup y = some .cell ∨ scope.names.lookup y = some .free := hy
    rcases hy with hy | hy
    · exact cell_has hy
    · exact absurd rfl (S.nofree _ (PySem.mem_of_lookup hy))
  · exact Nat.le_of_lt (x.above y c (PySem.mem_of_lookup h))
  · have hi : i < vs.length := by
      unfold start at h2
      by_cases hi : i < vs.length
      · exact hi
      · rw [List.getElem?_append_right (by simpa using hi)] at h2
        rw [List.getElem?_replicate] at h2
        split at h2 <;> cases h2
    have ha : vs[i]? = some v := by
      unfold start at h2
      rw [List.getElem?_append_left (by simpa using hi), List.getElem?_map] at h2
      cases e : vs[i]? with
      | none => rw [e] at h2; cases h2
      | some a => rw [e] at h2; cases h2; rfl
    obtain ⟨u, hu, rv⟩ := r.get ha
    have hp : ps[i]? = some y := by
      rw [← S.pre, List.getElem?_take_of_lt (by omega)]; exact h1
    have ndP : ps.Nodup := by rw [← S.pre]; exact S.nd.sublist (List.take_sublist _ _)
    refine ⟨u, rv, ?_⟩
    rcases S.par y (List.mem_of_getElem? hp) with k | k
    · exact .inl ⟨k, bindL_get ndP hp hu k⟩
    · obtain ⟨c, e⟩ := cell_has (n := s.heap.objs.size + 1) k
      refine .inr ⟨.inl k, c, e, ?_⟩
      have q := x.cell y c e
      rw [bindC_get ndP hp hu (by show scope.names.lookup y ≠ _; rw [k]; decide)] at q
      exact q
  · exact e0.hok.fresh (Nat.le_of_lt (x.above y c (PySem.mem_of_lookup h)))
  · unfold start
    show _ = N.length
    rw [List.length_append, List.length_map, List.length_replicate]
    omega

/-- THE RULE: a def (or a method) of the text, by its body. The body's reading t is chosen for each entry; it is run at the parameters' values -/
theorem fn_of {CX : CXT} {P : Program} {w : World} {K : PySem.W.Frag} {mg : Str → Option Value} {base : Heap} {k : Nat} {f : Addr} {name qual : Str} {params : Arguments} {body : List Stmt} {scope : Scope} {dV kV doc pm cdv ct oc : Value} {an od : Option Addr}
    {osl : Array (Option Value)} {N ps : List Str} {sp : Sp} (lk : K.lookup f = some ⟨oc, od, .func (PySem.W.fnOf name qual params body scope dV kV doc pm an cdv ct), osl⟩) (hcd : PySem.W.codeIn K cdv qual = true) (S : FnScope N ps scope)
    (len : ∀ vs H Q E, sp vs H Q E → vs.length = ps.length)
    (hbody : ∀ (A : Around) (outer : List Env) (s : Shared) (H : Hp) (vs : List V) (Q : VK) (E : XK), Room k (A.deeper (envOfC qual scope s.heap.objs.size f cdv)) → sp vs H Q E →
      ∃ t, PSs (cxOf CX P w K mg base N qual scope f cdv A outer s H E) body t ∧ t { nx := fun _ H' => Q .non H', rt := Q } (start N vs) H) :
    FnOk P w K mg base CX (k + 1) f (PySem.W.fnOf name qual params body scope dV kV doc pm an cdv ct) ps sp := by
  refine ⟨len, fun A outer s H args us vs Q E hr e0 hb r hsp => ?_⟩
  have hl := len _ _ _ _ hsp
  have KX : K.In s.heap := e0.mod.kin.keeps fun b o e => (e0.bs b o e).1
  have lim : s.heap.NoLimit := e0.mod.nolimit.keeps fun b o e => (e0.bs b o e).1
  have hkind : ∀ y ∈ ps.zip us, scope.names.lookup y.1 = some .local ∨ (scope.names.lookup y.1 = some .cell ∧ ((cellsFrom (s.heap.objs.size + 1) scope.names []).lookup y.1).isSome = true) := fun ⟨n, v⟩ hy => by
    rcases S.par n (List.of_mem_zip hy).1 with q | q
    · exact .inl q
    · exact .inr ⟨q, PySem.W.cellsFrom_some _ _ _ (.inl q)⟩
  refine codeAny_call_function hr.depth (KX _ _ lk) rfl S.co S.gen rfl (PySem.W.codeRec_of KX hcd) (hb _ _ _ _ ?_)
  refine wpAny_newFunctionEnv_cells S.kind hkind fun env he s1 x => ?_
  subst he
  refine ⟨lim.keeps x.toInCall.keep, codeAny_func ?_⟩
  obtain ⟨t, ht, hq⟩ := hbody A outer s H vs Q E (hr.deeper _) hsp
  have I : Inv (cxOf CX P w K mg base N qual scope f cdv A outer s H E) [] (start N vs) H s1 := inv_start S hr.hd e0 hl r x
  refine wpAny_mono (ht [] s1 (start N vs) H _ I hq) (fun fl s' hs => ?_) fun e s' hs => hs
  have fin : ∀ {σ' : St} {H' : Hp} {v : V} {u : Value}, Inv (cxOf CX P w K mg base N qual scope f cdv A outer s H E) [] σ' H' s' → RelV v u → Q v H' → CE outer P w H s Q u s' :=
    fun {σ' H' v u} J rv q => ⟨v, H', J.os, J.bare, J.base, J.hok, rv, q⟩
  cases fl with
  | ret u =>
    obtain ⟨v, σ', H', J, rv, q⟩ := hs
    exact fin J rv q
  | next =>
    obtain ⟨σ', H', J, q⟩ := hs
    exact fin (v := V.non) (u := Value.none) J rfl q
  | brk =>
    obtain ⟨_, _, _, q⟩ := hs
    exact False.elim q
  | cont =>
    obtain ⟨_, _, _, q⟩ := hs
    exact False.elim q
end L2

namespace L2
open PySem PySem.Spec PyProof.Rows
section
variable {X : Cx} {x : Str} {p pos : Pos} {e : Expr} {es : List Expr} {t : TA} {id T : String} {r : List V → Hp → VK → Prop}

def tCB (r : List V → Hp → VK → Prop) (t : TA) : TE := fun σ H Q => t σ H fun vs H1 => r vs H1 Q
/-- f(e, ..), f a built-in function -/
theorem pe_callB (hc : CallR X (.builtin id) r) (hg : Gl X x) (hm : X.mg x = none) (hv : bootBuiltins x = some (.builtin id)) (ha : PA X (e :: es) t) (hn : x ≠ "__name__" := by decide) (hdb : (x == ("__debug__" : Str)) = false := by decide)
    (he : starEach (e :: es) X.env = (false, eval e X.env) :: starEach es X.env := by rfl) (hpl : (backTo pos (starEach es X.env)).any (·.1) = false := by rfl) : PE X (.Call (.Name x p) (e :: es) [] pos) (tCB r t) := by
  refine ⟨?_⟩
  intro pins s σ H Q I h
  refine wpAny_Call_Name_kw (ld_blt I hg hm hv ?_ hn hdb)
  exact PyProof.Rows.callWith_builtin1 (thn (ha pos pins s σ H _ I h) fun us s1 ⟨vs, H1, I1, r1, q1⟩ => hc pins s1 σ H1 vs us Q I1 r1 q1) he hpl
/-- T(e, ..), T a built-in type -/
theorem pe_callTy (hc : CallR X (.type T) r) (hg : Gl X x) (hm : X.mg x = none) (hv : bootBuiltins x = some (.type T)) (ha : PA X (e :: es) t) (hn : x ≠ "__name__" := by decide) (hdb : (x == ("__debug__" : Str)) = false := by decide)
    (he : starEach (e :: es) X.env = (false, eval e X.env) :: starEach es X.env := by rfl) (hpl : (backTo pos (starEach es X.env)).any (·.1) = false := by rfl) : PE X (.Call (.Name x p) (e :: es) [] pos) (tCB r t) := by
  refine ⟨?_⟩
  intro pins s σ H Q I h
  refine wpAny_Call_Name_kw (ld_blt I hg hm hv ?_ hn hdb)
  exact PyProof.Rows.callWith_type1 (thn (ha pos pins s σ H _ I h) fun us s1 ⟨vs, H1, I1, r1, q1⟩ => hc pins s1 σ H1 vs us Q I1 r1 q1) he hpl
end
end L2

namespace HT
open PySem PyProof.Rows



section
open PySem.SeqAt
open PySem.AutoSeq1 (wpAny_loadPart')
open PySem.MeetsSeq PySem.MeetsSeq2 PySem.MeetsSeq3

end

section
variable {prog : Program} {w : World} {A : Around} {E : Value → Shared → Prop} {s : Shared}



/-! ### t[a:b], not the whole -/
/-- a slice's bound as a place among n (d where it is left out) -/
def sIx (n d : Nat) : Option Int → Nat
  | none => d
  | some v => if v < 0 then (v + (n : Int)).toNat else min v.toNat n
theorem sIx_none (n d : Nat) : sIx n d none = d := rfl
theorem sIx_nat (n d k : Nat) : sIx n d (some (k : Int)) = min k n := by
  show (if (k : Int) < 0 then ((k : Int) + (n : Int)).toNat else min (k : Int).toNat n) = min k n
  rw [if_neg (by omega), Int.toNat_natCast]
theorem sIx_le (n d : Nat) (hd : d ≤ n) (o : Option Int) : sIx n d o ≤ n := by
  cases o with
  | none => exact hd
  | some v =>
    show (if v < 0 then (v + (n : Int)).toNat else min v.toNat n) ≤ n
    by_cases hv : v < 0
    · rw [if_pos hv]; omega
    · rw [if_neg hv]; exact Nat.min_le_right _ _
theorem clip_eq (v : Int) (n d : Nat) : (if v < 0 then max (v + (n : Int)) 0 else min v (n : Int)) = ((sIx n d (some v) : Nat) : Int) := by
  show (if v < 0 then max (v + (n : Int)) 0 else min v (n : Int)) = (((if v < 0 then (v + (n : Int)).toNat else min v.toNat n) : Nat) : Int)
  by_cases hv : v < 0
  · simp only [if_pos hv]; omega
  · simp only [if_neg hv]; omega
theorem adjust_gen (lo hi : Option Int) (n : Nat) : Builtin.Slice.sliceAdjust lo hi 1 (n : Int) = (((sIx n 0 lo : Nat) : Int), ((sIx n n hi : Nat) : Int)) := by
  have h1 : ¬ ((1 : Int) < 0) := by omega
  unfold Builtin.Slice.sliceAdjust
  simp only [h1, if_false]
  refine Prod.ext ?_ ?_
  · cases lo with
    | none => rfl
    | some v => exact clip_eq v n 0
  · cases hi with
    | none => rfl
    | some v => exact clip_eq v n n
theorem places_gen (i j : Nat) : Builtin.Slice.slicePlaces (i : Int) (j : Int) 1 = j - i := by
  unfold Builtin.Slice.slicePlaces
  have h1 : (1 : Int) > 0 := by omega
  simp only [h1, if_true, Int.ediv_one]
  split <;> omega
theorem slicePart_ {v : Value} {o : Option Int} {Q : Option Int → Shared → Prop} (p : IsPart v o) (h : Q o s) : wpAny (model prog w) A (Builtin.Slice.slicePartIndex v) Q E s := by
  cases p with
  | none => exact slicePart_none h
  | int i t => exact slicePart_int h
theorem sliceApplied_gen {sl : Addr} {vl vu : Value} {lo hi : Option Int} {n : Nat} {Q : Int × Int × Nat → Shared → Prop} (hs : s.heap.IsSliceOf sl vl vu .none) (pl : IsPart vl lo) (pu : IsPart vu hi)
    (h : Q (((sIx n 0 lo : Nat) : Int), 1, sIx n n hi - sIx n 0 lo) s) : wpAny (model prog w) A (Builtin.Slice.sliceApplied (.ref sl) (pure (n : Int))) Q E s := by
  obtain ⟨os, hos, hcs, hds⟩ := id hs
  unfold Builtin.Slice.sliceApplied Builtin.Slice.sliceFields
  refine wpAny_bind (wpAny_bind (wpAny_field hos hds (x := vl) rfl (wpAny_bind (wpAny_field hos hds (x := vu) rfl (wpAny_bind (wpAny_field hos hds (x := .none) rfl (wpAny_pure ?_)))))))
  refine wpAny_bind (slicePart_none ?_)
  show wpAny _ _ (if ((1 : Int) == 0) = true then _ else _) _ _ s
  rw [if_neg (by decide)]
  refine wpAny_bind (slicePart_ pl (wpAny_bind (slicePart_ pu (wpAny_bind (wpAny_pure ?_)))))
  show wpAny _ _ (match Builtin.Slice.sliceAdjust lo hi 1 (n : Int) with | (lo, hi) => pure (lo, (1 : Int), Builtin.Slice.slicePlaces lo hi 1)) _ _ s
  rw [adjust_gen lo hi n]
  show wpAny _ _ (pure (((sIx n 0 lo : Nat) : Int), (1 : Int), Builtin.Slice.slicePlaces ((sIx n 0 lo : Nat) : Int) ((sIx n n hi : Nat) : Int) 1)) _ _ s
  rw [places_gen]
  exact wpAny_pure h
theorem pick_gen (xs : Array Value) (i k : Nat) : ((List.range k).filterMap fun (m : Nat) => xs[((i : Int) + (m : Int) * 1).toNat]?).toArray = ((xs.toList.drop i).take k).toArray := by
  have e : (fun (m : Nat) => xs[((i : Int) + (m : Int) * 1).toNat]?) = fun m => xs[i + m]? := by
    funext m
    have : ((i : Int) + (m : Int) * 1).toNat = i + m := by omega
    rw [this]
  rw [e]
  have := pick_run xs i k
  rw [List.filterMap_map] at this
  have e2 : ((fun x => xs[x]?) ∘ fun x => i + x) = fun m => xs[i + m]? := rfl
  rw [e2] at this
  rw [this]

theorem getItem_tuple_cut {t sl : Addr} {items : Array Value} {vl vu : Value} {lo hi : Option Int} {Q : Value → Shared → Prop} (ht : IsTup s.heap t items) (hs : s.heap.IsSliceOf sl vl vu .none) (pl : IsPart vl lo) (pu : IsPart vu hi)
    (hw : ¬ (sIx items.size 0 lo = 0 ∧ sIx items.size items.size hi = items.size))
    (h : Q (.ref s.heap.objs.size) { s with heap := s.heap.push { cls := .type "tuple", data := .seq ((items.toList.drop (sIx items.size 0 lo)).take (sIx items.size items.size hi - sIx items.size 0 lo)).toArray } })
    (hsz : items.size ≤ sizeLine) : wpAny (model prog w) A (getItem (.ref t) (.ref sl)) Q E s := by
  have htake : sizeOk (.seq ((items.toList.drop (sIx items.size 0 lo)).take (sIx items.size items.size hi - sIx items.size 0 lo)).toArray) := by
    show ((items.toList.drop (sIx items.size 0 lo)).take (sIx items.size items.size hi - sIx items.size 0 lo)).toArray.size ≤ sizeLine
    rw [List.size_toArray, List.length_take, List.length_drop, Array.length_toList]
    omega
  have hj : sIx items.size items.size hi ≤ items.size := sIx_le _ _ (Nat.le_refl _) hi
  obtain ⟨os, hos, hcs, hds⟩ := id hs
  have hTs : s.TypeIs (.ref sl) "slice" := ⟨os, hos, hcs⟩
  unfold getItem
  try with_reducible refine wpAny_holding ?_
  first | refine wpAny_bind (wpAny_pure ?_) | skip
  refine wpAny_bind (wpAny_sequenceKey ht.typeIs (by decide) ?_)
  refine wpAny_bind (wpAny_callSpecial?_slot (name := Str.ofString "__getitem__") ht.typeIs PyProof.Rows.slot_tuple_getitem
    (wpAny_call_entry PyProof.Rows.slot_tuple_getitem ht.typeIs entry_tuple_getitem ?_ (args_tuple_getitem _ _)))
  show wpAny _ _ (Builtin.Tuple.tupleItemsOf (.ref t) >>= _) _ _ s
  refine wpAny_bind (tupleItemsOf_ ht ?_)
  refine wpAny_bind (wpAny_typeOf hTs ?_)
  rw [if_pos (by decide)]
  refine wpAny_bind (sliceApplied_gen hs pl pu ?_)
  have hno : ¬ ((((sIx items.size 0 lo : Nat) : Int) == 0 && (1 : Int) == 1 && (sIx items.size items.size hi - sIx items.size 0 lo) == items.size) = true) := by
    intro q
    rw [Bool.and_eq_true, Bool.and_eq_true] at q
    have q1 : ((sIx items.size 0 lo : Nat) : Int) = 0 := eq_of_beq q.1.1
    have q2 : sIx items.size items.size hi - sIx items.size 0 lo = items.size := eq_of_beq q.2
    exact hw ⟨by omega, by omega⟩
  show wpAny _ _ (if (((sIx items.size 0 lo : Nat) : Int) == 0 && (1 : Int) == 1 && (sIx items.size items.size hi - sIx items.size 0 lo) == items.size) = true then _ else _) _ _ s
  rw [if_neg hno, pick_gen]
  first
    | exact wpAny_bind (m := Builtin.Tuple.tupleExact _) (wpAny_newObj_type (wpAny_pure ⟨_, rfl, wpAny_pure h⟩) htake)
    | exact wpAny_bind (m := Builtin.Tuple.tupleExact _) (wpAny_newObj_type (wpAny_bind (wpAny_pure (wpAny_pure ⟨_, rfl, wpAny_pure h⟩))) htake)
    | exact wpAny_bind (wpAny_bind (m := Builtin.Tuple.tupleExact _) (wpAny_newObj_type (wpAny_pure (wpAny_pure ⟨_, rfl, wpAny_pure h⟩)) htake))
    | exact wpAny_bind (wpAny_bind (m := Builtin.Tuple.tupleExact _) (wpAny_newObj_type (wpAny_pure ⟨_, rfl, wpAny_pure h⟩) htake))
end
end HT

namespace L2
open PySem PySem.Spec PyProof.Rows

/-! ### the parts of a slice -/
abbrev TO := St → Hp → (Option Int → Hp → Prop) → Prop
/-- a slice's part (left out, or an int) -/
def PO (X : Cx) (e : Option Expr) (t : TO) : Prop :=
  ∀ (pins : List (Addr × Obj)) (s : Shared) (σ : St) (H : Hp) (Q : Option Int → Hp → Prop), Inv X pins σ H s → t σ H Q →
    wpAny (model X.prog X.w) X.A (evalPart e X.env) (fun u s' => ∃ o H', Inv X pins σ H' s' ∧ IsPart u o ∧ Q o H') X.xe s
def tNoPart : TO := fun _ H Q => Q none H
def tPart (t : TE) : TO := fun σ H Q => t σ H fun x H1 => ∃ i, x = .int i ∧ Q (some i) H1


section
variable {X : Cx} {e : Expr} {te : TE} {lo hi : Option Expr} {tl th : TO} {pos p2 : Pos}

theorem po_none : PO X none tNoPart := by
  intro pins s σ H Q I h
  rw [evalPart_none]
  exact wpAny_pure ⟨none, H, I, .none, h⟩
theorem po_some (h : PE X e te) : PO X (some e) (tPart te) := by
  intro pins s σ H Q I hw
  rw [evalPart_some]
  refine thn (h pins s σ H _ I hw) fun u s1 ⟨x, H1, I1, r1, q1⟩ => ?_
  obtain ⟨i, rfl, q⟩ := q1
  obtain ⟨t, rfl⟩ := r1
  exact ⟨some i, H1, I1, .int i t, q⟩

/-- what a slice of a value is, by values: the slice object stands at sl -/
def SlR (X : Cx) (r : V → Option Int → Option Int → Hp → VK → Prop) : Prop :=
  ∀ (pins : List (Addr × Obj)) (s : Shared) (σ : St) (H : Hp) (x : V) (v vl vu : Value) (lo hi : Option Int) (sl : Addr) (Q : VK), Inv X pins σ H s → RelV x v → s.heap.IsSliceOf sl vl vu .none → IsPart vl lo → IsPart vu hi → r x lo hi H Q →
    ∃ T id, typeLookup (.type T) "__getitem__" = pure (some (.builtin id)) ∧ s.TypeIs v T ∧ wpAny (model X.prog X.w) X.A (getItem v (.ref sl)) (EP X pins σ Q) X.xe s
def tSl (r : V → Option Int → Option Int → Hp → VK → Prop) (te : TE) (tl th : TO) : TE := fun σ H Q => te σ H fun x H1 => tl σ H1 fun l H2 => th σ H2 fun u H3 => r x l u H3 Q
/-- a[lo:hi], any a -/
theorem pe_slice {r : V → Option Int → Option Int → Hp → VK → Prop} (hr : SlR X r) (he : PE X e te) (hl : PO X lo tl) (hu : PO X hi th) : PE X (.Subscript e (.Slice lo hi none p2) pos) (tSl r te tl th) := by
  refine ⟨?_⟩
  intro pins s σ H Q I h
  refine Subscript_ (thn (he pins s σ H _ I h) fun v s1 ⟨x, H1, I1, r1, q1⟩ => ?_)
  refine wpAny_Slice (thn (hl pins s1 σ H1 _ I1 q1) fun vl s2 ⟨l, H2, I2, pl, q2⟩ => thn (hu pins s2 σ H2 _ I2 q2) fun vu s3 ⟨u, H3, I3, pu, q3⟩ => ?_)
  rw [evalPart_none]
  refine wpAny_pure ?_
  have I4 : Inv X pins σ H3 { s3 with heap := s3.heap.push { cls := .type "slice", data := .fields #[vl, vu, .none] } } := I3.kept (t' := s3.toks) fun b ob q => Heap.get?_push_of_some _ q
  obtain ⟨T, id, hT, ht, hg⟩ := hr pins { s3 with heap := s3.heap.push { cls := .type "slice", data := .fields #[vl, vu, .none] } } σ H3 x v vl vu l u s3.heap.objs.size Q I4 r1 (Heap.IsSliceOf.new ..) pl pu q3
  show wpAny (model X.prog X.w) X.A (subscriptTail e (.Slice lo hi none p2) v (.ref s3.heap.objs.size)) (EP X pins σ Q) X.xe { s3 with heap := s3.heap.push { cls := .type "slice", data := .fields #[vl, vu, .none] } }
  exact tail_any (ops := [.ref s3.heap.objs.size, v]) ht hT hg (by with_unfolding_all rfl)

/-- the items of xs[lo:hi] -/
def cutV (xs : List V) (lo hi : Option Int) : List V := (xs.drop (HT.sIx xs.length 0 lo)).take (HT.sIx xs.length xs.length hi - HT.sIx xs.length 0 lo)
theorem cutV_length (xs : List V) (lo hi : Option Int) : (cutV xs lo hi).length ≤ xs.length := by
  unfold cutV
  rw [List.length_take, List.length_drop]
  omega
/-- t[lo:hi], not the whole of it (the whole would be t itself) -/
def rSlT (K : PySem.W.Frag) : V → Option Int → Option Int → Hp → VK → Prop := fun x lo hi H Q => ∃ a xs, x = .ref a ∧ SqT K H a xs ∧
  ¬ (HT.sIx xs.length 0 lo = 0 ∧ HT.sIx xs.length xs.length hi = xs.length) ∧ ∀ p, H p = none → Q (.ref p) (upd H p (.tup (cutV xs lo hi)))
theorem sl_tup : SlR X (rSlT X.K) := by
  intro pins s σ H x v vl vu lo hi sl Q I rx hs pl pu h
  obtain ⟨a, xs, rfl, hx, hw, q⟩ := h
  cases rx
  obtain ⟨its, r, ht, hz⟩ := I.tuple hx
  have hlen : its.toArray.size = xs.length := by rw [List.size_toArray]; exact r.length.symm
  refine ⟨"tuple", _, PyProof.Rows.slot_tuple_getitem.lookup, ht.typeIs, ?_⟩
  refine HT.getItem_tuple_cut ht hs pl pu (by rw [hlen]; exact hw) ?_ (by rw [hlen]; exact hz)
  rw [hlen]
  refine ⟨.ref s.heap.objs.size, _, I.laid (t' := s.toks) (o := .tup (cutV xs lo hi)) (fun b ob q => Heap.get?_push_of_some _ q) (Nat.le_refl _) ?_, rfl, q _ (I.hok.fresh (Nat.le_refl _))⟩
  exact ⟨Nat.le_trans (cutV_length xs lo hi) hz, _, (r.drop (HT.sIx xs.length 0 lo)).take (HT.sIx xs.length xs.length hi - HT.sIx xs.length 0 lo), IsTup.new _ _⟩

/-! ### t < u, t + u -/
end
end L2

namespace L2
open PySem PySem.Spec PyProof.Rows

/-! ### places -/
/-- the place that an index of any sign means -/
def ixN (n : Nat) (i : Int) : Option Nat := if 0 ≤ i then (if i < n then some i.toNat else none) else if -(n : Int) ≤ i then some (i + n).toNat else none
def atI {α : Type} (xs : List α) (i : Int) : Option α := (ixN xs.length i).bind fun j => xs[j]?
theorem ixN_seq {n : Nat} {i : Int} {j : Nat} (h : ixN n i = some j) : seqIndex? i n = some j ∧ j < n ∧ -(n : Int) ≤ i ∧ i < n := by
  unfold ixN at h
  by_cases h0 : 0 ≤ i
  · rw [if_pos h0] at h
    by_cases h1 : i < n
    · rw [if_pos h1] at h
      have e : i.toNat = j := Option.some.inj h
      exact ⟨by rw [seqIndex_of h0 h1, e], by omega, by omega, h1⟩
    · rw [if_neg h1] at h; cases h
  · rw [if_neg h0] at h
    by_cases h1 : -(n : Int) ≤ i
    · rw [if_pos h1] at h
      have e : (i + n).toNat = j := Option.some.inj h
      exact ⟨by rw [seqIndex_neg (by omega) h1, e], by omega, h1, by omega⟩
    · rw [if_neg h1] at h; cases h
theorem atI_get {α : Type} {xs : List α} {i : Int} {v : α} (h : atI xs i = some v) : ∃ j, seqIndex? i xs.length = some j ∧ xs[j]? = some v ∧ j < xs.length ∧ -(xs.length : Int) ≤ i ∧ i < xs.length := by
  unfold atI at h
  cases e : ixN xs.length i with
  | none => rw [e] at h; cases h
  | some j =>
    rw [e] at h
    obtain ⟨h1, h2, h3, h4⟩ := ixN_seq e
    exact ⟨j, h1, h, h2, h3, h4⟩
theorem atI_nat {α : Type} {xs : List α} {j : Nat} {v : α} (h : xs[j]? = some v) : atI xs (j : Int) = some v := by
  have hj : j < xs.length := (List.getElem?_eq_some_iff.mp h).1
  have e : ixN xs.length (j : Int) = some j := by
    unfold ixN
    rw [if_pos (by omega), if_pos (by omega)]; simp
  unfold atI; rw [e]; exact h

/-! ### what may be subscripted -/
/-- what stands as an index of a plain subscript -/
def PlainIx (b : Expr) : Prop := ∀ o i, subscripted b false o i = operate [o, i] (getItem o i)
/-- a subscript by values -/
def IxR (X : Cx) (r : R2) : Prop :=
  ∀ (value slice : Expr) (pins : List (Addr × Obj)) (s : Shared) (σ : St) (H : Hp) (x y : V) (v u : Value) (Q : VK), Inv X pins σ H s → RelV x v → RelV y u → r x y H Q →
    subscripted slice false v u = operate [v, u] (getItem v u) → wpAny (model X.prog X.w) X.A (subscriptTail value slice v u) (EP X pins σ Q) X.xe s
section
variable {X : Cx} {a b : Expr} {ta tb : TE} {pos : Pos}
/-- a[b] -/
theorem pe_ix {r : R2} (hr : IxR X r) (ha : PE X a ta) (hb : PE X b tb) (hs : PlainIx b) : PE X (.Subscript a b pos) (tOp r ta tb) := by
  refine ⟨?_⟩
  intro pins s σ H Q I h
  exact Subscript_ (binT ha hb I h fun v u s2 x y H2 I2 rx ry q => hr a b pins s2 σ H2 x y v u Q I2 rx ry q (hs _ _))

inductive rIxL (K : PySem.W.Frag) (x y : V) (H : Hp) (Q : VK) : Prop
  | mk (p : Addr) (xs : List V) (i : Int) (v : V) (e1 : x = .ref p) (e2 : y = .int i) (h : SqL K H p xs) (e : atI xs i = some v) (q : Q v H) : rIxL K x y H Q
inductive rIxT (K : PySem.W.Frag) (x y : V) (H : Hp) (Q : VK) : Prop
  | mk (p : Addr) (xs : List V) (i : Int) (v : V) (e1 : x = .ref p) (e2 : y = .int i) (h : SqT K H p xs) (e : atI xs i = some v) (q : Q v H) : rIxT K x y H Q
theorem ix_list : IxR X (rIxL X.K) := by
  intro value slice pins s σ H x y v u Q I rx ry h hs
  obtain ⟨p, xs, i, z, rfl, rfl, hq, he, q⟩ := h
  cases rx
  obtain ⟨t, rfl⟩ := ry
  obtain ⟨its, r, pl, hz⟩ := I.list hq
  obtain ⟨j, h1, h2, h3, h4, h5⟩ := atI_get he
  obtain ⟨w, ew, rw'⟩ := r.get h2
  have hl := r.length
  have hn := line63
  have fin : EP X pins σ Q w s := ⟨z, H, I, rw', q⟩
  by_cases h0 : 0 ≤ i
  · have hj : i.toNat = j := by
      rw [seqIndex_of h0 h5] at h1
      exact Option.some.inj h1
    exact item_listR pl.isList h0 (by omega) (by rw [hj]; simpa using ew) fin hs
  · have hj : (i + (its.toArray.size : Int)).toNat = j := by
      rw [seqIndex_neg (by omega) h4] at h1
      rw [List.size_toArray, ← hl]
      exact Option.some.inj h1
    exact subscriptTail_builtinR (x := w) pl.isList.typeIs slot_list_getitem.lookup
      (wpAny_getItem_list_neg (Q := fun r s' => r = w ∧ EP X pins σ Q r s') pl.isList (by omega) (by rw [List.size_toArray] <;> omega) (by omega) (by rw [hj]; simpa using ew) ⟨rfl, fin⟩) hs
theorem ix_tup : IxR X (rIxT X.K) := by
  intro value slice pins s σ H x y v u Q I rx ry h hs
  obtain ⟨p, xs, i, z, rfl, rfl, hq, he, q⟩ := h
  cases rx
  obtain ⟨t, rfl⟩ := ry
  obtain ⟨its, r, pl, hz⟩ := I.tuple hq
  obtain ⟨j, h1, h2, h3, h4, h5⟩ := atI_get he
  obtain ⟨w, ew, rw'⟩ := r.get h2
  have hl := r.length
  have hn := line63
  have fin : EP X pins σ Q w s := ⟨z, H, I, rw', q⟩
  exact subscriptTail_builtinR (x := w) pl.typeIs slot_tuple_getitem.lookup
    (getItem_tuple (j := j) (Q := fun r s' => r = w ∧ EP X pins σ Q r s') pl (by omega) (by omega) (by rw [List.size_toArray, ← hl]; exact h1) (by simpa using ew) ⟨rfl, fin⟩) hs

/-! ### xs[i] = v, any sign -/
/-- the list's object behind a store -/
theorem mapSeq_set (its : List Value) (n j : Nat) (u : Value) : Obj.mapSeq (·.setIfInBounds j u) { cls := .type "list", data := .seq its.toArray n } = { cls := .type "list", data := .seq (its.set j u).toArray n } := by
  simp [Obj.mapSeq]
theorem Inv.lst {pins : List (Addr × Obj)} {σ : St} {H : Hp} {s : Shared} {p : Addr} {xs : List V} (I : Inv X pins σ H s) (h : H p = some (.lst xs)) :
    ∃ (its : List Value) (n : Nat), Vals xs its ∧ s.heap.get? p = some { cls := .type "list", data := .seq its.toArray n } ∧ xs.length ≤ sizeLine := by
  obtain ⟨z, its, n, r, e⟩ := I.hok p _ h
  exact ⟨its, n, r, e, z⟩
/-- the list at p is written by an update of its object -/
theorem Inv.lstUpd {pins : List (Addr × Obj)} {σ : St} {H : Hp} {s : Shared} {p : Addr} {xs ys : List V} {its its' : List Value} {n n' : Nat} {f : Obj → Obj} (I : Inv X pins σ H s) (h : H p = some (.lst xs))
    (ho : s.heap.get? p = some { cls := .type "list", data := .seq its.toArray n }) (hf : f { cls := .type "list", data := .seq its.toArray n } = { cls := .type "list", data := .seq its'.toArray n' }) (r : Vals ys its') (hz : ys.length ≤ sizeLine) (t : Nat) :
    Inv X pins σ (upd H p (.lst ys)) { s with heap := s.heap.update p f, toks := t } := by
  have e : (s.heap.update p f).get? p = some { cls := .type "list", data := .seq its'.toArray n' } := by
    rw [Heap.get?_update_self f ho (by rw [hf] <;> rfl), hf]
  refine I.write (x := p) (e := p) (by rw [h]; trivial) (.inl rfl) (fun b u hb q => (Heap.get?_update_other _ _ (Ne.symm hb)).trans q) ⟨_, e⟩ ?_
  exact ⟨hz, its', n', r, e⟩
def rSetL : V → V → V → Hp → (Hp → Prop) → Prop := fun o i v H Q => ∃ p xs k j, o = .ref p ∧ i = .int k ∧ H p = some (.lst xs) ∧ ixN xs.length k = some j ∧ Q (upd H p (.lst (xs.set j v)))
theorem set_list : PSet X rSetL := by
  intro pins s σ H o i v ov iv u Q I ro ri rv h
  obtain ⟨p, xs, k, j, rfl, rfl, hp, hj, q⟩ := h
  cases ro
  obtain ⟨t, rfl⟩ := ri
  obtain ⟨its, n, r, ho, hz⟩ := I.lst hp
  obtain ⟨h1, h2, h3, h4⟩ := ixN_seq hj
  have hl := r.length
  have hn := line63
  have I' : Inv X pins σ (upd H p (.lst (xs.set j v))) { s with heap := s.heap.update p (Obj.mapSeq (·.setIfInBounds j u)) } :=
    I.lstUpd hp ho (mapSeq_set its n j u) (r.set rv j) (by rw [List.length_set]; exact hz) s.toks
  by_cases h0 : 0 ≤ k
  · have hk : k.toNat = j := by
      rw [seqIndex_of h0 h4] at h1
      exact Option.some.inj h1
    exact PySem.W.ki_setAt ho h0 (by omega) (by rw [List.size_toArray, ← hl]; exact h4) (by rw [hk]; exact ⟨_, I', q⟩)
  · have hk : (k + (its.toArray.size : Int)).toNat = j := by
      rw [seqIndex_neg (by omega) h3] at h1
      rw [List.size_toArray, ← hl]
      exact Option.some.inj h1
    exact PySem.W.ki_setBack ho (by omega) (by rw [List.size_toArray, ← hl]; exact h3) (by omega) (by rw [hk]; exact ⟨_, I', q⟩)

/-! ### slices -/
theorem slice_bounds (lo hi : Option Int) (n : Nat) : (sliceBounds lo hi none n).1 = ((HT.sIx n 0 lo : Nat) : Int) ∧ (sliceBounds lo hi none n).2.1 = ((HT.sIx n n hi : Nat) : Int) ∧ (sliceBounds lo hi none n).2.2 = 1 := by
  refine ⟨?_, ?_, rfl⟩
  · cases lo with
    | none => simp [sliceBounds, HT.sIx]
    | some i =>
      simp only [sliceBounds, HT.sIx, Option.getD_none, show (1 : Int) > 0 by decide, if_true]
      by_cases h : i < 0
      · simp only [h, if_true] <;> omega
      · simp only [h, if_false] <;> omega
  · cases hi with
    | none => simp [sliceBounds, HT.sIx]
    | some i =>
      simp only [sliceBounds, HT.sIx, Option.getD_none, show (1 : Int) > 0 by decide, if_true]
      by_cases h : i < 0
      · simp only [h, if_true] <;> omega
      · simp only [h, if_false] <;> omega
theorem slicePick_cut (its : List Value) (lo hi : Option Int) : slicePick its.toArray lo hi none = ((its.drop (HT.sIx its.length 0 lo)).take (HT.sIx its.length its.length hi - HT.sIx its.length 0 lo)).toArray := by
  obtain ⟨h1, h2, h3⟩ := slice_bounds lo hi its.toArray.size
  unfold slicePick
  rw [h1, h2, h3]
  simp only [sliceRange_one, pick_run, List.size_toArray] <;> rfl
/-- xs[lo:hi] of a list: a new list -/
def rSlL (K : PySem.W.Frag) : V → Option Int → Option Int → Hp → VK → Prop := fun x lo hi H Q => ∃ a xs, x = .ref a ∧ SqL K H a xs ∧ ∀ p, H p = none → Q (.ref p) (upd H p (.lst (cutV xs lo hi)))
theorem sl_list : SlR X (rSlL X.K) := by
  intro pins s σ H x v vl vu lo hi sl Q I rx hs pl pu h
  obtain ⟨a, xs, rfl, hx, q⟩ := h
  cases rx
  obtain ⟨its, r, ht, hz⟩ := I.list hx
  have hlen := r.length
  refine ⟨"list", _, slot_list_getitem.lookup, ht.isList.typeIs, ?_⟩
  refine wpAny_getItem_list_slice ht.isList hs pl pu .none (by simp) ?_ (by rw [List.size_toArray] <;> omega)
  rw [slicePick_cut, ← hlen]
  refine ⟨.ref s.heap.objs.size, _, I.laid (t' := s.toks) (o := .lst (cutV xs lo hi)) (fun b ob q => Heap.get?_push_of_some _ q) (Nat.le_refl _) ?_, rfl, q _ (I.hok.fresh (Nat.le_refl _))⟩
  exact ⟨Nat.le_trans (cutV_length xs lo hi) hz, _, 0, (r.drop (HT.sIx xs.length 0 lo)).take (HT.sIx xs.length xs.length hi - HT.sIx xs.length 0 lo), Heap.get?_push_size _ rfl⟩

/-! ### in, not in: flat items -/
def flatV : V → Bool
  | .non => true
  | .bl _ => true
  | .int _ => true
  | .str _ => true
  | _ => false
/-- == of flat values -/
def eqV : V → V → Bool
  | .non, .non => true
  | .bl a, .bl b => a == b
  | .bl a, .int b => (if a then 1 else 0) == b
  | .int a, .bl b => a == (if b then 1 else 0)
  | .int a, .int b => a == b
  | .str a, .str b => a == b
  | _, _ => false
theorem eqAt_V {A : Around} {s : Shared} {y x : V} {u v : Value} (ry : RelV y u) (rx : RelV x v) (fy : flatV y = true) (fx : flatV x = true) : SeqAt.EqAt A s u v (eqV y x) := by
  cases y with
  | non =>
    cases ry
    cases x with
    | non => cases rx; exact SeqAt.EqAt.same _
    | bl b => cases rx; exact SeqAt.EqAt.none_bool b
    | int b => obtain ⟨t, rfl⟩ := rx; exact SeqAt.EqAt.none_int b t
    | str b => obtain ⟨t, rfl⟩ := rx; exact SeqAt.EqAt.none_str b t
    | _ => exact absurd (show false = true from fx) Bool.false_ne_true
  | bl a =>
    cases ry
    cases x with
    | non => cases rx; exact SeqAt.EqAt.bool_none a
    | bl b => cases rx; exact SeqAt.EqAt.bool_bool a b
    | int b => obtain ⟨t, rfl⟩ := rx; exact SeqAt.EqAt.bool_int a b t
    | str b => obtain ⟨t, rfl⟩ := rx; exact SeqAt.EqAt.bool_str a b t
    | _ => exact absurd (show false = true from fx) Bool.false_ne_true
  | int a =>
    obtain ⟨t', rfl⟩ := ry
    cases x with
    | non => cases rx; exact SeqAt.EqAt.int_none a t'
    | bl b => cases rx; exact SeqAt.EqAt.int_bool a t' b
    | int b => obtain ⟨t, rfl⟩ := rx; exact SeqAt.EqAt.int_int a t' b t
    | str b => obtain ⟨t, rfl⟩ := rx; exact SeqAt.EqAt.int_str a t' b t
    | _ => exact absurd (show false = true from fx) Bool.false_ne_true
  | str a =>
    obtain ⟨t', rfl⟩ := ry
    cases x with
    | non => cases rx; exact SeqAt.EqAt.str_none a t'
    | bl b => cases rx; exact SeqAt.EqAt.str_bool a t' b
    | int b => obtain ⟨t, rfl⟩ := rx; exact SeqAt.EqAt.str_int a t' b t
    | str b => obtain ⟨t, rfl⟩ := rx; exact SeqAt.EqAt.str_str a t' b t
    | _ => exact absurd (show false = true from fx) Bool.false_ne_true
  | _ => exact absurd (show false = true from fy) Bool.false_ne_true
/-- the items' answers, read off the values (a value's own answer does not lean on its token) -/
def eqU (x : V) (u : Value) : Bool := match u with
  | .none => eqV .non x
  | .bool b => eqV (.bl b) x
  | .int i _ => eqV (.int i) x
  | .str z _ => eqV (.str z) x
  | _ => false
theorem eqU_of {x y : V} {u : Value} (r : RelV y u) (f : flatV y = true) : eqU x u = eqV y x := by
  cases y with
  | non => cases r; rfl
  | bl b => cases r; rfl
  | int i => obtain ⟨t, rfl⟩ := r; rfl
  | str z => obtain ⟨t, rfl⟩ := r; rfl
  | _ => exact absurd (show false = true from f) Bool.false_ne_true
theorem any_eqU {x : V} : ∀ {xs : List V} {us : List Value}, Vals xs us → xs.all flatV = true → us.any (eqU x) = xs.any fun y => eqV y x
  | _, _, .nil, _ => rfl
  | y :: xs, u :: us, .cons r t, f => by
    rw [List.all_cons, Bool.and_eq_true] at f
    rw [List.any_cons, List.any_cons, eqU_of r f.1, any_eqU t f.2]
theorem mem_eqAt {A : Around} {s : Shared} {x : V} {v : Value} (rx : RelV x v) (fx : flatV x = true) : ∀ {xs : List V} {us : List Value}, Vals xs us → xs.all flatV = true → ∀ u ∈ us, SeqAt.EqAt A s u v (eqU x u)
  | _, _, .nil, _ => fun u hu => by cases hu
  | y :: xs, u :: us, .cons r t, f => fun u' hu => by
    rw [List.all_cons, Bool.and_eq_true] at f
    rcases List.mem_cons.mp hu with rfl | hu
    · rw [eqU_of r f.1]; exact eqAt_V r rx f.1 fx
    · exact mem_eqAt rx fx t f.2 u' hu
def inV (x : V) (xs : List V) : Bool := xs.any fun y => eqV y x
/-- x in a list or tuple of flat items -/
def rIn (K : PySem.W.Frag) (neg : Bool) : R2 := fun x y H Q => ∃ p xs, y = .ref p ∧ (SqL K H p xs ∨ SqT K H p xs) ∧ flatV x = true ∧ xs.all flatV = true ∧ Q (.bl (if neg then !inV x xs else inV x xs)) H
theorem op_in_seq : OpR X (compareOp .In) (rIn X.K false) := by
  intro pins s σ H x y v u Q I rx ry h
  obtain ⟨p, xs, rfl, hq, fx, fs, q⟩ := h
  cases ry
  rcases hq with hq | hq
  · obtain ⟨its, r, pl, hz⟩ := I.list hq
    refine SeqAt.in_listAt (eqU x) pl.isList (fun w hw => mem_eqAt rx fx r fs w (by simpa using hw)) ⟨.bl _, H, I, rfl, ?_⟩
    rw [show its.toArray.any (eqU x) = its.any (eqU x) by simp, any_eqU r fs]
    exact q
  · obtain ⟨its, r, pl, hz⟩ := I.tuple hq
    refine SeqAt.in_tupleAt (eqU x) pl (fun w hw => mem_eqAt rx fx r fs w (by simpa using hw)) ⟨.bl _, H, I, rfl, ?_⟩
    rw [show its.toArray.any (eqU x) = its.any (eqU x) by simp, any_eqU r fs]
    exact q
theorem op_notIn_seq : OpR X (compareOp .NotIn) (rIn X.K true) := by
  intro pins s σ H x y v u Q I rx ry h
  obtain ⟨p, xs, rfl, hq, fx, fs, q⟩ := h
  cases ry
  rcases hq with hq | hq
  · obtain ⟨its, r, pl, hz⟩ := I.list hq
    refine SeqAt.notIn_listAt (eqU x) pl.isList (fun w hw => mem_eqAt rx fx r fs w (by simpa using hw)) ⟨.bl _, H, I, rfl, ?_⟩
    rw [show its.toArray.any (eqU x) = its.any (eqU x) by simp, any_eqU r fs]
    exact q
  · obtain ⟨its, r, pl, hz⟩ := I.tuple hq
    refine SeqAt.notIn_tupleAt (eqU x) pl (fun w hw => mem_eqAt rx fx r fs w (by simpa using hw)) ⟨.bl _, H, I, rfl, ?_⟩
    rw [show its.toArray.any (eqU x) = its.any (eqU x) by simp, any_eqU r fs]
    exact q

/-! ### len, list(x), tuple(x) of any list or tuple that is read -/
theorem call_len_seq : CallR X (.builtin "len") (fun xs H Q => ∃ p ys, xs = [.ref p] ∧ (SqL X.K H p ys ∨ SqT X.K H p ys) ∧ Q (.int ys.length) H) := by
  intro pins s σ H xs us Q I r h
  obtain ⟨p, ys, rfl, hq, q⟩ := h
  obtain ⟨u, rfl, rx⟩ := vals1 r
  cases rx
  have hn := line63
  rcases hq with hq | hq
  · obtain ⟨its, r', pl, hz⟩ := I.list hq
    have hlen := r'.length
    exact Calls.call_len_list pl.isList (by simp only [List.size_toArray] <;> omega) ⟨.int ys.length, H, I.tok _, ⟨s.toks + 1, by rw [List.size_toArray, hlen]⟩, q⟩
  · obtain ⟨its, r', pl, hz⟩ := I.tuple hq
    have hlen := r'.length
    exact len_tuple pl (by simp only [List.size_toArray] <;> omega) ⟨.int ys.length, H, I.tok _, ⟨s.toks + 1, by rw [List.size_toArray, hlen]⟩, q⟩
theorem call_list_of : CallR X (.type "list") (fun xs H Q => ∃ p ys, xs = [.ref p] ∧ (SqL X.K H p ys ∨ SqT X.K H p ys) ∧ ∀ l, H l = none → Q (.ref l) (upd H l (.lst ys))) := by
  intro pins s σ H xs us Q I r h
  obtain ⟨p, ys, rfl, hq, q⟩ := h
  obtain ⟨u, rfl, rx⟩ := vals1 r
  cases rx
  have fin : ∀ (its : List Value), Vals ys its → ys.length ≤ sizeLine → ∀ (h' : Heap) (c' : Nat), (∀ b o', s.heap.get? b = some o' → h'.get? b = some o') →
      h'.get? s.heap.objs.size = some { cls := .type "list", dict := none, data := .seq its.toArray c', slots := #[] } → EP X pins σ Q (.ref s.heap.objs.size) { s with heap := h' } := fun its r' hz h' c' kp e =>
    ⟨.ref s.heap.objs.size, _, I.laid (t' := s.toks) kp (Nat.le_refl _) (show ObjOk X.prog X.w _ h' _ (.lst ys) from ⟨hz, its, c', r', e⟩), rfl, q _ (I.hok.fresh (Nat.le_refl _))⟩
  rcases hq with hq | hq
  · obtain ⟨its, r', pl, hz⟩ := I.list hq
    have hlen := r'.length
    obtain ⟨o, ho, hc, n, hd⟩ := pl.isList
    exact call_list_seq p (.inl rfl) ho hc hd (fun h' c' kp e => fin its r' hz h' c' kp e) (by simp only [List.size_toArray] <;> omega)
  · obtain ⟨its, r', pl, hz⟩ := I.tuple hq
    have hlen := r'.length
    obtain ⟨o, ho, hc, n, hd⟩ := pl
    exact call_list_seq p (.inr rfl) ho hc hd (fun h' c' kp e => fin its r' hz h' c' kp e) (by simp only [List.size_toArray] <;> omega)

/-! ### the call of a builtin's method: o.m(..) -/
variable {o e : Expr} {es : List Expr} {to : TE} {t : TA} {name : Str} {apos cpos : Pos} {T id : String} {r : V → List V → Hp → VK → Prop}
/- xs.append(e), list.index on a module's tuple .. are MtR facts of 06m -/
end
end L2

namespace L2
open PySem PySem.Spec PyProof.Rows

def MtM (X : Cx) (id : String) (r : V → List V → Hp → VK → Prop) : Prop :=
  ∀ (pins : List (Addr × Obj)) (s : Shared) (σ : St) (H : Hp) (x : V) (xs : List V) (v : Value) (us : List Value) (Q : VK), Inv X pins σ H s → RelV x v → Vals xs us → r x xs H Q →
    wpAny (model X.prog X.w) X.A (call (.builtin id) (v :: us)) (EP X pins σ Q) X.xe s

/-! ### lists of values -/
theorem Vals.one : ∀ {x : V} {us : List Value}, Vals [x] us → ∃ u, us = [u] ∧ RelV x u
  | _, _, .cons r .nil => ⟨_, rfl, r⟩
theorem Vals.two : ∀ {x y : V} {us : List Value}, Vals [x, y] us → ∃ u v, us = [u, v] ∧ RelV x u ∧ RelV y v
  | _, _, _, .cons r (.cons q .nil) => ⟨_, _, rfl, r, q⟩
theorem Vals.rep {xs : List V} {us : List Value} (h : Vals xs us) : ∀ k : Nat, Vals (List.replicate k xs).flatten (List.replicate k us).flatten
  | 0 => .nil
  | k + 1 => by
    rw [List.replicate_succ, List.replicate_succ, List.flatten_cons, List.flatten_cons]
    exact Vals.append h (Vals.rep h k)
theorem foldl_rep (its : List Value) : ∀ (k : Nat) (acc : List Value),
    List.foldl (fun x1 x2 => x1 ++ x2) acc.toArray (List.replicate k its.toArray) = (acc ++ (List.replicate k its).flatten).toArray
  | 0, acc => by simp
  | k + 1, acc => by
    have e : acc.toArray ++ its.toArray = (acc ++ its).toArray := by simp
    have e2 : (acc ++ its) ++ (List.replicate k its).flatten = acc ++ (List.replicate (k + 1) its).flatten := by
      rw [List.replicate_succ, List.flatten_cons, List.append_assoc]
    rw [← e2, ← foldl_rep its k (acc ++ its), ← e, List.replicate_succ, List.foldl_cons]

section
variable {X : Cx} {pins : List (Addr × Obj)} {σ : St} {H : Hp} {s : Shared} {l b : Addr} {xs ys zs : List V}

/-! ### the two steps: a tracked list is rewritten, a new list is laid -/
theorem Inv.lset {its its' : List Value} {n : Nat} {f : Array Value → Array Value} {t' : Nat} (I : Inv X pins σ H s) (hH : H l = some (.lst xs))
    (e : s.heap.get? l = some { cls := .type "list", data := .seq its.toArray n }) (hf : f its.toArray = its'.toArray) (hv : Vals ys its') (hz : ys.length ≤ sizeLine) :
    Inv X pins σ (upd H l (.lst ys)) { s with heap := s.heap.update l (Obj.mapSeq f), toks := t' } := by
  have q := PySem.IsL.update e f
  rw [hf] at q
  refine I.write (x := l) (e := l) (by rw [hH]; exact trivial) (.inl rfl) (fun b' u hb hu => (Heap.get?_update_other s.heap (Obj.mapSeq f) (Ne.symm hb)).trans hu) ⟨_, q⟩ ?_
  exact ⟨hz, its', _, hv, q⟩
theorem Inv.lnew {its : List Value} {t' : Nat} (I : Inv X pins σ H s) (hv : Vals ys its) (hz : ys.length ≤ sizeLine) :
    Inv X pins σ (upd H s.heap.objs.size (.lst ys)) { s with heap := s.heap.push { cls := .type "list", data := .seq its.toArray }, toks := t' } :=
  I.laid (fun _ _ q => Heap.get?_push_of_some _ q) (Nat.le_refl _) ⟨hz, its, 0, hv, Heap.get?_push_size _ rfl⟩
theorem Inv.fresh (I : Inv X pins σ H s) : H s.heap.objs.size = none := I.hok.fresh (Nat.le_refl _)
theorem Inv.lstM (I : Inv X pins σ H s) (hH : H l = some (.lst xs)) : xs.length ≤ sizeLine ∧ ∃ (its : List Value) (n : Nat), Vals xs its ∧ xs.length = its.length ∧ s.heap.get? l = some { cls := .type "list", data := .seq its.toArray n } := by
  obtain ⟨z, its, n, r, e⟩ := I.hok l _ hH
  exact ⟨z, its, n, r, r.length, e⟩

theorem notLongL {n : Nat} (h : n ≤ sizeLine) : Builtin.List.listTooLong n = false := by
  unfold Builtin.List.listTooLong
  exact decide_eq_false (by omega)
end

section
variable {X : Cx}

/-! ### methods -/
def rAppend : V → List V → Hp → VK → Prop := fun x vs H Q => ∃ l xs y, x = .ref l ∧ vs = [y] ∧ H l = some (.lst xs) ∧ xs.length < sizeLine ∧ Q .non (upd H l (.lst (xs ++ [y])))
theorem mt_append : MtM X "list.append" rAppend := by
  intro pins s σ H x vs v us Q I rx rv h
  obtain ⟨l, xs, y, rfl, rfl, hH, hz, q⟩ := h
  cases rx
  obtain ⟨u, rfl, ru⟩ := rv.one
  obtain ⟨z, its, n, r, hl, e⟩ := I.lstM hH
  refine call_meets F.slot_list_append ⟨_, e, rfl⟩ F.entry_list_append (F.args_list_append_2 _ _) (PySem.list_append l its.toArray n u (by rw [List.size_toArray]; omega)) ⟨e, ?_⟩
  refine ⟨.non, _, I.lset (its' := its ++ [u]) hH e (by simp) (r.append (.cons ru .nil)) ?_, rfl, q⟩
  rw [List.length_append, List.length_singleton]
  omega






/-! ### list + list, list += list, list * int -/
def rCat : R2 := fun x y H Q => ∃ l b xs zs, x = .ref l ∧ y = .ref b ∧ H l = some (.lst xs) ∧ H b = some (.lst zs) ∧ xs.length + zs.length ≤ sizeLine ∧ ∀ p, H p = none → Q (.ref p) (upd H p (.lst (xs ++ zs)))
theorem op_cat : OpR X (binaryOp .Add) rCat := by
  intro pins s σ H x y v u Q I rx ry h
  obtain ⟨l, b, xs, zs, rfl, rfl, hH, hB, hz, q⟩ := h
  cases rx
  cases ry
  obtain ⟨z, its, n, r, hl, e⟩ := I.lstM hH
  obtain ⟨z2, its2, n2, r2, hl2, e2⟩ := I.lstM hB
  refine PySem.P.add_list e e2 ?_ (by rw [List.size_toArray, List.size_toArray]; omega)
  have ea : its.toArray ++ its2.toArray = (its ++ its2).toArray := by simp
  rw [ea]
  exact ⟨.ref _, _, I.lnew (t' := s.toks) (r.append r2) (by rw [List.length_append]; omega), rfl, q _ I.fresh⟩
/-- a list times an int (a negative one is nothing) -/
def rRep : R2 := fun x y H Q => ∃ l k xs, x = .ref l ∧ y = .int k ∧ H l = some (.lst xs) ∧ -(2 ^ 63) ≤ k ∧ k < 2 ^ 63 ∧ xs.length * k.toNat ≤ sizeLine ∧
  ∀ p, H p = none → Q (.ref p) (upd H p (.lst (List.replicate k.toNat xs).flatten))
theorem len_rep {α : Type} (xs : List α) (k : Nat) : (List.replicate k xs).flatten.length = k * xs.length := by
  induction k with
  | zero => simp
  | succ k ih => rw [List.replicate_succ, List.flatten_cons, List.length_append, ih, Nat.succ_mul, Nat.add_comm]
theorem op_rep : OpR X (binaryOp .Mult) rRep := by
  intro pins s σ H x y v u Q I rx ry h
  obtain ⟨l, k, xs, rfl, rfl, hH, h1, h2, hz, q⟩ := h
  cases rx
  obtain ⟨t, rfl⟩ := ry
  obtain ⟨z, its, n, r, hl, e⟩ := I.lstM hH
  have hlen : its.toArray.size * k.toNat ≤ sizeLine := by rw [List.size_toArray, ← hl]; exact hz
  have hcap : ¬ its.toArray.size * k.toNat > (2 ^ 63 - 1) / 8 := by
    have : (sizeLine : Nat) ≤ (2 ^ 63 - 1) / 8 := by decide
    omega
  have hfit : ¬ (!Builtin.List.listFitsIndex k) = true := by
    rw [fitsIndex_both h1 h2]
    exact Bool.false_ne_true
  have hlong : ¬ Builtin.List.listTooLong (its.toArray.size * k.toNat) = true := by
    rw [notLongL hlen]
    exact Bool.false_ne_true
  have hnew : List.foldl (fun x1 x2 => x1 ++ x2) #[] (List.replicate (if its.toArray.isEmpty = true then 0 else k.toNat) its.toArray) = (List.replicate k.toNat its).flatten.toArray := by
    have f0 : ∀ m : Nat, List.foldl (fun x1 x2 => x1 ++ x2) #[] (List.replicate m its.toArray) = (List.replicate m its).flatten.toArray := fun m => by
      have := foldl_rep its m []
      rw [List.nil_append] at this
      exact this
    rw [f0]
    cases its with
    | nil => simp
    | cons a r' => rw [if_neg (by simp)]
  refine wpAny_binaryOp_repeat_ref (T := "list") (U := "int") (by decide) ⟨_, e, rfl⟩ (fun s' => typeIs_int s' k t) noFill_list_mul F.fills_int_mul F.slot_int_rmul repeat_list F.slot_int_index.lookup
    (call_meets F.slot_int_rmul (typeIs_int s k t) F.entry_int_rmul (F.args_int_rmul_2 _ _) (int___rmul___int_list k t l its.toArray n)
      ⟨e, rfl, ⟨_, e, rfl⟩, call_meets F.slot_list_mul ⟨_, e, rfl⟩ F.entry_list_mul (F.args_list_mul_2 _ _) (AutoListH.list___mul___list_int_3 l its.toArray n k t hfit hcap hlong) ⟨e, ?_⟩⟩)
  rw [hnew]
  exact ⟨.ref _, _, I.lnew (t' := s.toks) (r.rep k.toNat) (by rw [len_rep, Nat.mul_comm]; exact hz), rfl, q _ I.fresh⟩

/-! ### del xs[i] -/
end

/-! ### xs[a:b] = ys -/
section
variable {prog : Program} {w : World} {A : Around} {E : Value → Shared → Prop} {s : Shared}
end

section
variable {X : Cx}
end
end L2

namespace Att
open PySem PySem.W PySem.Calls PyProof.Rows

/-! ### the script -/
theorem ints_of_wellAll {P : Params} {h : Heap} : ∀ (ns : List Int) (vs : List Value), WellAll P h vs (ns.map WData.int) → IntsAre vs ns := by
  intro ns
  induction ns with
  | nil =>
    intro vs w
    rw [List.map_nil] at w
    cases w
    exact .nil
  | cons n ns ih =>
    intro vs w
    rw [List.map_cons] at w
    cases w with
    | cons a b =>
      cases a
      exact .cons _ _ (ih _ b)

theorem script_of {l : OpenLaw} {n : Nat} (hn : l.most = some n) {P : Params} {h : Heap} {args : List WData} {vals : List Value}
    (hpre : l.row.toRowW.claim.pre args = true) (hwl : WellAll P h vals args) :
    ∃ a vs ns, vals = [Value.ref a] ∧ args = [WData.list (ns.map WData.int)] ∧ h.get? a = some { cls := .type "list", data := .seq vs.toArray } ∧ IntsAre vs ns ∧ ns.length ≤ n := by
  have hsh : WShape.hasAll [] args [.list .int] = true := (pre_splitW hpre).1
  have hc : l.pre.holds [] { args := args } = true := (pre_splitW hpre).2
  obtain ⟨d, r, rfl, h1, h2⟩ := hasAllW_cons hsh
  obtain rfl := hasAllW_nil h2
  obtain ⟨xs, rfl, h3⟩ := hasW_list h1
  obtain ⟨ns, rfl⟩ := items_int h3
  have hlen : ns.length ≤ n := by
    unfold OpenLaw.pre at hc
    have h4 : (WTm.not (.lt (.lit (.int (n : Int))) (.len (.arg 0)))).holds [] { args := [.list (ns.map .int)] } = true := by
      have h4 := (holds_andW hc).1
      rw [hn] at h4
      exact h4
    have h5 := condW_of h4 (w_not (w_lt w_lit (w_len_list (w_arg rfl))))
    rw [List.length_map] at h5
    refine Nat.le_of_not_lt fun q => ?_
    have q' : (n : Int) < ((ns.length : Nat) : Int) := by omega
    first
      | (rw [decide_eq_true q'] at h5; exact absurd h5 (by decide))
      | (simp at h5; omega)
  cases hwl with
  | cons w1 w2 =>
    cases w2
    cases w1 with
    | list ho hall => exact ⟨_, _, ns, rfl, rfl, ho, ints_of_wellAll ns _ hall, hlen⟩

theorem post_true (l : OpenLaw) (args : List WData) : l.row.toRowW.claim.post args (.bool true) args = true :=
  postW_of (r := l.row.toRowW) (X := (true == true))
    (show WShape.has [] (.bool true) .bool = true by first | rfl | decide | simp [WShape.has, WShape.arms, WShape.armsAll])
    (show (WTm.eq .res (.lit (.bool true))).value [] { args := args, res := some (.bool true), after := args } = some (.bool (true == true)) from w_eq_bool (w_res rfl) w_lit) rfl

/-! ### the attachment: holds_open's last premise (the goal 'hc' behind k_head) from a wpAny of the law's body -/

/-- the same from a codeAny of the CALL (for a layer whose function contracts speak of calls) -/
theorem attach_call {l : OpenLaw} {n : Nat} {q : Program} {loose : List Str} {XP : (Str → Option Value) → Heap → Prop} {YP : World → Heap → Prop} {d : DefRec}
    (hn : l.most = some n) (hdf : d.params.defaults = [])
    (call : ∀ (w : World) (s₀ s₁ : Shared) (mg mb : Str → Option Value) (fa : Addr) (o : Obj) (pm cd doc : Value) (a : Addr) (vs : List Value) (ns : List Int),
      Ground q loose [] XP w s₀ mg mb s₁.heap → YP w s₁.heap →
      s₁.heap.get? fa = some o → o.data = .func (docDef d.name d.params d.body d.scope pm cd doc) → s₁.heap.CodeRec cd d.name → mg d.name = some (.ref fa) →
      s₁.heap.get? a = some { cls := .type "list", data := .seq vs.toArray } → IntsAre vs ns → ns.length ≤ n → s₁.gens = #[] →
      codeAny (model l.prog w) callerA (.call (.ref fa) ⟨[.ref a], []⟩) (fun r s' => r = .ok (.ret (.bool true)) ∧ OldK s₁.heap s'.heap ∧ s'.os = s₁.os ∧ AllBare s'.gens) s₁) :
    WalkO q loose XP YP l.row.toRowW d [] (fun f vs => PySem.call f vs) := by
  intro w s₀ s₁ mg mb G Y fa o pm cd doc dV kV ho hd hcd hD hmg hg args vals as hpre hlay hrd hwl hlo
  obtain rfl : dV = .none := Dflts.none hD hdf
  obtain rfl : kV = .none := Dflts.noKw hD
  obtain ⟨a, vs, ns, rfl, rfl, hobj, hints, hlen⟩ := script_of hn hpre hwl
  refine enter_call (codeAny_mono (call w s₀ s₁ mg mb fa o pm cd doc a vs ns G Y ho (fd_plain hd) hcd hmg hobj hints hlen hg) fun r s' hq => ?_)
  obtain ⟨rfl, h2, h3, h4⟩ := hq
  exact ⟨.inl ⟨.bool true, .bool true, [], rfl, fun _ => rfl, .bool true, post_true l _, fun _ => ⟨List.Pairwise.nil, fun _ hm => (nomatch hm)⟩⟩, h2, h3, h4⟩


/-! ### rules over ANY heap (no ledger) from facts about the written part K: the library's own take a ledger (News) for what they write -/
section
variable {prog : Program} {w : World} {A : Around} {E : Value → Shared → Prop} {s : Shared} {K : Frag}





/-! the whole heap as the ledger: makes every rule that writes through a ledger a rule over any heap -/

end
end Att

namespace L2
open PySem PySem.Spec PyProof.Rows

theorem vals_ints : ∀ {vs : List Value} {ns : List Int}, IntsAre vs ns → Vals (ns.map V.int) vs
  | _, _, .nil => .nil
  | _, _, .cons n t h => .cons ⟨t, rfl⟩ (vals_ints h)

/-- nothing is tracked but the script, known to the object (or it is an object of the module) -/
def Only (H : Hp) : Prop := ∀ b, H b = none ∨ ∃ o xs, H b = some (.frz o (.lst xs))

/-- THE HEAD: the law's promise, at the heap behind the top. F, the promise of the law's def, may use that base is part of the heap (so K.In base, base.Ns mainGlobals mg stand in Mod) -/
theorem law_call {P : Program} {w : World} {K : PySem.W.Frag} {mg mb : Str → Option Value} {CX : CXT} {k : Nat} {fa a : Addr} {fd : FuncData} {x : Str} {sp : Sp} {s₁ : Shared} {vs : List Value} {ns : List Int}
    (KX : K.In s₁.heap) (hns : s₁.heap.Ns mainGlobals mg) (hb : s₁.heap.Ns builtinsNs mb) (hbb : ∀ x : Str, x ≠ "__name__" → mb x = bootBuiltins x) (hlim : s₁.heap.NoLimit) (hg : s₁.gens = #[])
    (ha : s₁.heap.get? a = some { cls := .type "list", data := .seq vs.toArray }) (hi : IntsAre vs ns) (hl : ns.length ≤ sizeLine) (hr : Room k callerA)
    (F : ∀ base : Heap, K.In base → base.Ns mainGlobals mg → FnOk P w K mg base CX k fa fd [x] sp) (hbind : ∀ (s : Shared) (u : Value), BindsTo s fd ⟨[u], []⟩ [(x, u)])
    (hsp : ∀ H : Hp, Only H → SqL K H a (ns.map V.int) → sp [.ref a] H (fun v _ => v = .bl true) fun _ _ _ => False)
    (hCX : ∀ H e s', CX [] H s₁ (fun _ _ _ => False) e s' → False) :
    codeAny (model P w) callerA (.call (.ref fa) ⟨[.ref a], []⟩) (fun r s' => r = .ok (.ret (.bool true)) ∧ OldK s₁.heap s'.heap ∧ s'.os = s₁.os ∧ AllBare s'.gens) s₁ := by
  have rv := vals_ints hi
  have lenV := hi.length
  have core : ∀ H : Hp, Only H → SqL K H a (ns.map V.int) → HOk P w H s₁.heap → (∀ b, H b ≠ none → b = a) → (H a ≠ none → K.lookup a = none) →
      codeAny (model P w) callerA (.call (.ref fa) ⟨[.ref a], []⟩) (fun r s' => r = .ok (.ret (.bool true)) ∧ OldK s₁.heap s'.heap ∧ s'.os = s₁.os ∧ AllBare s'.gens) s₁ := by
    intro H hO hS hok hA hK
    have base_of : ∀ {b : Addr} {o : Obj}, s₁.heap.get? b = some o → H b = none → (hidT s₁.heap H).get? b = some o := fun e n => hidT_get e n
    have noA : ∀ {b : Addr} {o : Obj} {es : Array DictEntry} {ep : Nat}, s₁.heap.get? b = some o → o.data = .dict es ep → H b = none := fun {b o es ep} e d => by
      cases q : H b with
      | none => rfl
      | some u =>
        have e' : b = a := hA b (by rw [q]; simp)
        subst e'
        rw [ha] at e; cases e
        have d' : Data.seq vs.toArray _ = Data.dict es ep := d
        cases d'
    have nsK : ∀ {b : Addr} {m : Str → Option Value}, s₁.heap.Ns b m → (hidT s₁.heap H).Ns b m := fun {b m} ⟨o, es, ep, e, d, r⟩ => ⟨o, es, ep, base_of e (noA e d), d, r⟩
    have hKb : K.In (hidT s₁.heap H) := fun b o e => base_of (KX b o e) (by
      cases q : H b with
      | none => rfl
      | some u =>
        have e' : b = a := hA b (by rw [q]; simp)
        subst e'
        rw [hK (by rw [q]; simp)] at e; cases e)
    have hM : Mod K mg (hidT s₁.heap H) := ⟨hKb, nsK hns, ⟨mb, nsK hb, hbb⟩, let ⟨mc, h1, h2⟩ := hlim; ⟨mc, nsK h1, h2⟩⟩
    have e0 : Env0 P w K mg (hidT s₁.heap H) callerA [] s₁ H := ⟨rfl, hM, fun b o e => of_hidT e, Nat.le_of_eq (hidT_size _ _), trivial, fun b hb => absurd (show b ∈ ([] : List Addr) from hb) (by simp), hok, .of_eq hg⟩
    refine codeAny_mono ((F _ hKb (nsK hns)).run callerA [] s₁ H ⟨[.ref a], []⟩ [.ref a] [.ref a] _ _ hr e0 (hbind s₁ (.ref a)) (.cons rfl .nil) (hsp H hO hS)) fun r s' h => ?_
    cases r with
    | error e => exact (hCX H e s' h).elim
    | ok fl =>
      cases fl with
      | next => exact False.elim h
      | brk => exact False.elim h
      | cont => exact False.elim h
      | ret u =>
        obtain ⟨v, H', os, bare, un, hok', r', q⟩ := h
        have q' : v = .bl true := q
        subst q'
        obtain rfl : u = Value.bool true := r'
        refine ⟨rfl, OldK.of_keep fun b o e => ?_, os, bare⟩
        cases q : H b with
        | none => exact un.keep b o e q (by intro z; exact absurd (show b ∈ ([] : List Addr) from z) (by simp)) (by simp)
        | some u =>
          rcases hO b with z | ⟨ob, xs, z⟩
          · rw [q] at z; cases z
          · have z2 := un.frzs b ob _ z
            obtain ⟨e1, _⟩ := hok b _ z
            obtain ⟨e2, _⟩ := hok' b _ z2
            rw [e] at e1; cases e1
            exact e2
  cases hk : K.lookup a with
  | some o =>
    have e := KX a o hk
    rw [ha] at e
    cases e
    refine core (fun _ => none) (fun _ => .inl rfl) (.inr ⟨_, vs.toArray, _, hk, rfl, rfl, rfl, by rw [List.size_toArray, lenV]; exact hl, by simpa using rv⟩) (fun b u z => by have z' : (none : Option HO) = some u := z; cases z') (fun b z => absurd rfl z) fun z => absurd rfl z
  | none =>
    refine core (fun b => if b = a then some (.frz { cls := .type "list", data := .seq vs.toArray } (.lst (ns.map V.int))) else none) (fun b => ?_) (.inl (.inr ⟨{ cls := .type "list", data := .seq vs.toArray }, if_pos rfl⟩)) (fun b u z => ?_) (fun b z => ?_) fun _ => hk
    · by_cases hb : b = a
      · exact .inr ⟨_, _, if_pos hb⟩
      · exact .inl (if_neg hb)
    · by_cases hb : b = a
      · have z' := (if_pos hb).symm.trans z
        cases z'
        subst hb
        exact ⟨ha, by rw [List.length_map]; exact hl, vs, _, rv, ha⟩
      · have z' := (if_neg hb).symm.trans z
        cases z'
    · by_cases hb : b = a
      · exact hb
      · exact absurd (if_neg hb) z
end L2

namespace L2
open PySem PySem.Spec PyProof.Rows

abbrev KOf {K : PySem.W.Frag} {h : Heap} (_ : K.In h) : PySem.W.Frag := K

/-- the goal that k_head leaves (case hc), from the law's promise. F gives the function object fd (K's own) once, then the promise over every base -/
theorem walk_of {l : PySem.W.OpenLaw} {n k : Nat} {q : Program} {loose : List Str} {XP : (Str → Option Value) → Heap → Prop} {YP : World → Heap → Prop} {d : DefRec} {K : Params → PySem.W.Frag} {CX : World → CXT} {sp : World → Sp} {x : Str}
    (hn : l.most = some n) (hn2 : n ≤ sizeLine) (hdf : d.params.defaults = []) (hr : Room k callerA)
    (hY : ∀ (w : World) (h : Heap), YP w h → (K w.params).In h)
    (F : ∀ (w : World) (mg : Str → Option Value) (fa : Addr) (h : Heap), (K w.params).In h → h.Ns mainGlobals mg → mg d.name = some (.ref fa) →
      ∃ fd : FuncData, (∀ (s : Shared) (u : Value), BindsTo s fd ⟨[u], []⟩ [(x, u)]) ∧
        ∀ base : Heap, (K w.params).In base → base.Ns mainGlobals mg → FnOk l.prog w (K w.params) mg base (CX w) k fa fd [x] (sp w))
    (hsp : ∀ (w : World) (H : Hp) (a : Addr) (ns : List Int), ns.length ≤ n → Only H → SqL (K w.params) H a (ns.map V.int) → sp w [.ref a] H (fun v _ => v = .bl true) fun _ _ _ => False)
    (hCX : ∀ (w : World) (H : Hp) (s : Shared) (e : Value) (s' : Shared), CX w [] H s (fun _ _ _ => False) e s' → False) :
    PySem.W.WalkO q loose XP YP l.row.toRowW d [] (fun f vs => PySem.call f vs) := by
  refine Att.attach_call hn hdf fun w s₀ s₁ mg mb fa o pm cd doc a vs ns G Y ho hd hcd hmg hobj hints hlen hg => ?_
  have KX := hY w _ Y
  obtain ⟨fd, hb, hF⟩ := F w mg fa _ KX G.T.g hmg
  exact law_call KX G.T.g G.T.b G.T.builtins G.T.nolimit hg hobj hints (Nat.le_trans hlen hn2) hr hF hb (fun H hO hS => hsp w H a ns hlen hO hS) fun H e s' => hCX w H s₁ e s'
end L2

/- THE LAST THEOREM (shape; LID, My.* are yours):
   My.Adr: a structure of the addresses that your layer names (classes, functions); My.Txt K t: a structure (Prop) of the equations over K;
   My.txt_mk : {K} {implicit addresses ..} (e1 : nsIn K mainGlobals "law" = some (some (.ref f))) (e2 : K.lookup f = some ⟨oc, od, .func (fnOf "law" "law" params body scope dV kV doc pm an cdv ct), sl⟩) (e3 : codeIn K cdv "law" = true) .. : ∃ t, My.Txt K t

set_option maxRecDepth 100000 in
set_option maxHeartbeats 0 in
theorem PySem.Challenge.cw_LID_holds : PySem.Challenge.rw_LID.Holds := by
  w_on; o_law; k_head; (case hw => w_witness2)
  k_fill
  refine L2.walk_of (l := PySem.Challenge.rw_LID) (n := 63) (k := 40) (x := "script") (CX := fun w => ..) (sp := fun _ => My.sp_law) rfl (by decide) rfl ⟨rfl, by decide, by decide⟩ (fun w h Y => PySem.W.kIn_of Y) ?F ?S ?C
  case F =>
    intro w mg fa h KX G hmg
    have T : ∃ t, My.Txt (L2.KOf KX) t := by
      dsimp only [L2.KOf]                          -- K must stand as «<heap const> w.params» for k_is
      refine' My.txt_mk ?e1 ?e2 ?e3 ..
      (case e1 => PySem.W.k_is)                    -- in the order: a name -> its address -> its object -> its parts
      (case e2 => PySem.W.k_is)
      ..
    obtain ⟨t, T⟩ := T
    have e0 := hmg.symm.trans (PySem.W.mg_of KX G T.law)
    cases e0                                       -- fa is the law's own address
    exact ⟨_, fun s u => .of_eq rfl, fun base kb nb => My.law_fn T kb nb⟩     -- if «.of_eq rfl» comes too early: refine' ⟨_, ?b, fun base kb nb => My.law_fn T kb nb⟩; exact fun s u => .of_eq rfl
  case S => exact fun w H a ns hl hO hS => ..
  case C => exact ..
(the tactic k_is has no namespace: write k_is) -/

/-! SHORT WORDS over the layer: a def of the text, its body, what a loop and a test want. -/
namespace L2
open PySem PySem.Spec PyProof.Rows

/-! ### the text by places -/
def defArgs (s : Stmt) : Arguments := match s with
  | .FunctionDef _ a _ _ _ _ _ _ _ _ => a
  | _ => { posonlyargs := [], args := [], vararg := none, kwonlyargs := [], kw_defaults := [], kwarg := none, defaults := [] }
def defBody (s : Stmt) : List Stmt := match s with
  | .FunctionDef _ _ b _ _ _ _ _ _ _ => b
  | _ => []
def defScope (s : Stmt) : Scope := match s with
  | .FunctionDef _ _ _ _ _ _ sc _ _ _ => sc
  | _ => { kind := .function, names := [], isGenerator := false, isCoroutine := false }

/-! ### no exception leaves a def -/
abbrev CX0 : CXT := fun _ _ _ _ _ _ => False
abbrev E0 : XK := fun _ _ _ => False
theorem pass0 {X : Cx} : Passes CX0 X E0 := fun _ _ _ _ _ _ _ h => h.elim

/-! ### a def (or method) of the text as it stands behind the top -/
structure Fun (K : PySem.W.Frag) (x qual : Str) (st : Stmt) (f : Addr) (fd : FuncData) : Prop where
  ex : ∃ (oc : Value) (od : Option Addr) (kV doc pm : Value) (an : Option Addr) (cdv ct : Value) (osl : Array (Option Value)),
    fd = PySem.W.fnOf x qual (defArgs st) (defBody st) (defScope st) .none kV doc pm an cdv ct ∧ K.lookup f = some ⟨oc, od, .func fd, osl⟩ ∧ PySem.W.codeIn K cdv qual = true
  kp : PySem.W.keepIn K (.ref f) = true
section
variable {P : Program} {w : World} {K : PySem.W.Frag} {mg : Str → Option Value} {base : Heap}
/-- THE RULE for a def: its body as a term of rules, and the reading of that term -/
theorem Fun.ok {x qual : Str} {st : Stmt} {f : Addr} {fd : FuncData} {N ps : List Str} {k : Nat} {sp : Sp} (F : Fun K x qual st f fd) (S : FnScope N ps (defScope st)) (len : ∀ vs H Q E, sp vs H Q E → vs.length = ps.length)
    (hbody : ∀ (cdv : Value) (A : Around) (outer : List Env) (s : Shared) (H : Hp) (vs : List V) (Q : VK) (E : XK), Room k (A.deeper (envOfC qual (defScope st) s.heap.objs.size f cdv)) → sp vs H Q E →
      ∃ t, PSs (cxOf CX0 P w K mg base N qual (defScope st) f cdv A outer s H E).nox (defBody st) t ∧ t { nx := fun _ H' => Q .non H', rt := Q } (start N vs) H) : FnOk P w K mg base CX0 (k + 1) f fd ps sp := by
  obtain ⟨oc, od, kV, doc, pm, an, cdv, ct, osl, rfl, lk, hcd⟩ := F.ex
  refine fn_of lk hcd S len fun A outer s H vs Q E hr hsp => ?_
  obtain ⟨t, h, q⟩ := hbody cdv A outer s H vs Q E hr hsp
  exact ⟨t, h.nox, q⟩
/-- how its arguments bind (no defaults): h is «fun _ _ _ _ _ _ us hl => match us, hl with | [_, _], _ => rfl», one _ a parameter -/
theorem Fun.binds {x qual : Str} {st : Stmt} {f : Addr} {fd : FuncData} {ps : List Str} (F : Fun K x qual st f fd)
    (h : ∀ (kV doc pm : Value) (an : Option Addr) (cdv ct : Value) (us : List Value), us.length = ps.length → bindArgs (PySem.W.fnOf x qual (defArgs st) (defBody st) (defScope st) .none kV doc pm an cdv ct) ⟨us, []⟩ = pure (ps.zip us)) : Binds K fd ps [] := by
  obtain ⟨oc, od, kV, doc, pm, an, cdv, ct, osl, rfl, lk, hcd⟩ := F.ex
  exact .all (h kV doc pm an cdv ct)
theorem fun_mk {x qual : Str} {st : Stmt} {f : Addr} {oc : Value} {od an : Option Addr} {osl : Array (Option Value)} {kV doc pm cdv ct : Value} (l : K.lookup f = some ⟨oc, od, .func (PySem.W.fnOf x qual (defArgs st) (defBody st) (defScope st) .none kV doc pm an cdv ct), osl⟩)
    (c : PySem.W.codeIn K cdv qual = true) (k : PySem.W.keepIn K (.ref f) = true) : Fun K x qual st f (PySem.W.fnOf x qual (defArgs st) (defBody st) (defScope st) .none kV doc pm an cdv ct) := ⟨⟨oc, od, kV, doc, pm, an, cdv, ct, osl, rfl, l, c⟩, k⟩
end
theorem small1000 {n : Nat} (h : n ≤ 1000) : n < sizeLine := Nat.lt_of_le_of_lt h (by decide)

/-! ### expressions in short: the name that stands in the i-th slot -/
section
variable {X : Cx}
theorem pv (i : Nat) {x : Str} {pos : Pos} (hN : X.N[i]? = some x := by rfl) (hv : Vis X.env.scope x := by first | exact Or.inl rfl | exact Or.inr (Or.inl rfl) | exact Or.inr (Or.inr rfl)) (hd : (x == ("__debug__" : Str)) = false := by decide)
    (hcd : (x == ("__classdict__" : Str)) = false := by decide) : PE X (.Name x pos) (tVar i) := pe_var hN hv hd hcd
end

/-! ### tests -/
theorem iteF {A B : Prop} (h : B) : if false = true then A else B := by
  rw [if_neg Bool.false_ne_true]
  exact h
theorem iteT {A B : Prop} (h : A) : if true = true then A else B := by
  rw [if_pos rfl]
  exact h
theorem ite2 {c A B : Prop} [Decidable c] (h1 : c → A) (h2 : ¬ c → B) : if c then A else B := by
  by_cases h : c
  · rw [if_pos h]
    exact h1 h
  · rw [if_neg h]
    exact h2 h

/-! ### heaps -/
/-- all that was tracked is as it was -/
def Same (H H' : Hp) : Prop := ∀ b o, H b = some o → H' b = some o
theorem Same.refl (H : Hp) : Same H H := fun _ _ h => h
theorem Same.trans {H H1 H2 : Hp} (a : Same H H1) (b : Same H1 H2) : Same H H2 := fun c o h => b c o (a c o h)
theorem Same.seq {K : PySem.W.Frag} {H H' : Hp} {a : Addr} {xs : List V} (e : Same H H') (h : SqL K H a xs) : SqL K H' a xs := by
  rcases h with (h | ⟨o, h⟩) | h
  · exact .inl (.inl (e _ _ h))
  · exact .inl (.inr ⟨o, e _ _ h⟩)
  · exact .inr h

end L2
set_option Elab.async false
set_option linter.all false
set_option maxRecDepth 100000
/-! MORE CALLS over the hand layer: sum, all, divmod, isinstance, o[i] op= e. -/
namespace L2
open PySem PySem.Spec PyProof.Rows

theorem noPylong_big {x y : Int} (h : y.natAbs < 2 ^ 300) : Builtin.divisionGoesByPylong x y = false := by
  refine PyProof.noPylong_of_log2 ?_
  by_cases h0 : y.natAbs = 0
  · rw [h0]; decide +kernel
  · have h30 : y.natAbs.log2 < 300 := (Nat.log2_lt h0).mpr h
    omega
/-- a divisor from 1 on, of at most sixty figures -/
def CDivB (_i j : Int) : Prop := 0 < j ∧ j < 2 ^ 300
section
variable {X : Cx} {a b : Expr} {ta tb : TE} {pos : Pos}
theorem op_fdivB : OpR X (binaryOp .FloorDiv) (rI CDivB fun i j => .int (i / j)) := opI fun i j _ _ _ _ _ hc q => by
  obtain ⟨h1, h2⟩ := hc
  refine floordiv_int (by omega) ?_ (.inl (noPylong_big (by omega)))
  rw [Int.fdiv_eq_ediv_of_nonneg i (by omega)]
  exact q
inductive cDm (xs : List V) (H : Hp) (Q : VK) : Prop
  | mk (i j : Int) (e : xs = [.int i, .int j]) (c : CDivB i j) (q : ∀ p, H p = none → Q (.ref p) (upd H p (.tup [.int (i / j), .int (i % j)]))) : cDm xs H Q
theorem call_divmodB : CallR X (.builtin "divmod") cDm := by
  intro pins s σ H xs us Q I r h
  obtain ⟨i, j, rfl, ⟨h1, h2⟩, q⟩ := h
  obtain ⟨u, w', rfl, ⟨t, rfl⟩, ⟨t', rfl⟩⟩ := vals2 r
  refine divmod_int (by omega) ?_ (.inl (noPylong_big (by omega)))
  rw [Int.fdiv_eq_ediv_of_nonneg i (by omega), Int.fmod_eq_emod_of_nonneg i (by omega)]
  have hn : H s.heap.objs.size = none := I.hok.fresh (Nat.le_refl _)
  refine ⟨.ref s.heap.objs.size, _, ?_, rfl, q _ hn⟩
  refine I.laid (fun b o e => Heap.get?_push_of_some _ e) (Nat.le_refl _) ⟨by simp only [List.length_cons, List.length_nil]; rw [sizeLine_eq]; decide, [.int (i / j) s.toks, .int (i % j) (s.toks + 1)], .cons ⟨_, rfl⟩ (.cons ⟨_, rfl⟩ .nil), ?_⟩
  exact ⟨_, Heap.get?_push_size s.heap rfl, rfl, 0, rfl⟩

theorem preSum_take (ns : List Int) : ∀ k, preSum (fun i => ns.getD i 0) k = (ns.take k).sum := by
  intro k
  induction k with
  | zero => rfl
  | succ k ih =>
    show preSum (fun i => ns.getD i 0) k + ns.getD k 0 = _
    rw [ih, List.take_add_one, List.sum_append_int]
    cases e : ns[k]? with
    | none => simp [List.getD_eq_getElem?_getD, e]
    | some v => simp [List.getD_eq_getElem?_getD, e]
theorem ints_at {ns : List Int} {its : List Value} (rv : Vals (ns.map V.int) its) {i : Nat} {v : Value} (e : its[i]? = some v) : ∃ t, v = .int (ns.getD i 0) t := by
  have hl := rv.length
  rw [List.length_map] at hl
  have hi : i < its.length := (List.getElem?_eq_some_iff.mp e).1
  have hn : ns[i]? = some (ns[i]'(by omega)) := List.getElem?_eq_getElem (by omega)
  obtain ⟨u, hu, ru⟩ := rv.get (i := i) (x := V.int (ns[i]'(by omega))) (by rw [List.getElem?_map, hn]; rfl)
  rw [e] at hu
  cases hu
  obtain ⟨t, rfl⟩ := ru
  exact ⟨t, by rw [List.getD_eq_getElem?_getD, hn]; rfl⟩
theorem call_sum_seq (hc : X.calm = true) : CallR X (.builtin "sum") (fun xs H Q => ∃ (p : Addr) (ns : List Int), xs = [.ref p] ∧ (SqL X.K H p (ns.map V.int) ∨ SqT X.K H p (ns.map V.int)) ∧ Q (.int ns.sum) H) := by
  intro pins s σ H xs us Q I r h
  obtain ⟨p, ns, rfl, hq, q⟩ := h
  obtain ⟨u, rfl, rx⟩ := vals1 r
  cases rx
  have hh : X.A.in1.handled = none := I.ok.hd hc
  have fin : ∀ (its : List Value) (h' : Heap) (o : Obj) (tk : Nat) (t' : Tok), Vals (ns.map V.int) its → (∀ b ob, b ∉ [s.heap.objs.size] → (s.heap.push o).get? b = some ob → h'.get? b = some ob) → EP X pins σ Q (.int (preSum (fun i => ns.getD i 0) its.toArray.size) t') { s with heap := h', toks := tk } := fun its h' o tk t' rv k => by
    have hl := rv.length
    rw [List.length_map] at hl
    have e : preSum (fun i => ns.getD i 0) its.toArray.size = ns.sum := by
      rw [preSum_take, List.size_toArray, ← hl, List.take_length]
    rw [e]
    exact ⟨.int ns.sum, H, I.kept fun b ob e => k b ob (by simp; exact Nat.ne_of_lt (Heap.lt_size e)) (Heap.get?_push_of_some _ e), ⟨_, rfl⟩, q⟩
  rcases hq with hq | hq
  · obtain ⟨its, rv, pl, hz⟩ := I.list hq
    have hp : p < s.heap.objs.size := by obtain ⟨o, e, _⟩ := pl.isList; exact Heap.lt_size e
    refine call_sum_walkG (wpAny_pyIter_list pl.isList ?_)
    refine ⟨s.heap.objs.size, [s.heap.objs.size, p], [s.heap.objs.size], _, _, _, fun i => ns.getD i 0, rfl, Walks.list hh _ p (Nat.ne_of_lt hp) its.toArray, ⟨⟨_, Heap.get?_push_size _ rfl, rfl, rfl⟩, pl.isList.at fun o e => Heap.get?_push_of_some _ e⟩, ?_, ?_, ?_⟩
    · intro b hb
      show b < (s.heap.push _).objs.size
      rw [Heap.size_push]
      rcases List.mem_cons.mp hb with e | hb
      · rw [e]; exact Nat.lt_succ_self _
      · have e : b = p := by simpa using hb
        rw [e]; exact Nat.lt_succ_of_lt hp
    · intro i v e
      exact ints_at rv (by simpa using e)
    · intro h' tk t' k
      exact fin its h' _ tk t' rv k
  · obtain ⟨its, rv, pl, hz⟩ := I.tuple hq
    have pl' : s.heap.IsTuple p its.toArray := pl
    have hp : p < s.heap.objs.size := by obtain ⟨o, e, _⟩ := pl; exact Heap.lt_size e
    refine call_sum_walkG (wpAny_pyIter_tuple pl' ?_)
    refine ⟨s.heap.objs.size, [s.heap.objs.size, p], [s.heap.objs.size], _, _, _, fun i => ns.getD i 0, rfl, Walks.tuple hh _ p (Nat.ne_of_lt hp) its.toArray, ⟨⟨_, Heap.get?_push_size _ rfl, rfl, rfl⟩, pl'.push _⟩, ?_, ?_, ?_⟩
    · intro b hb
      show b < (s.heap.push _).objs.size
      rw [Heap.size_push]
      rcases List.mem_cons.mp hb with e | hb
      · rw [e]; exact Nat.lt_succ_self _
      · have e : b = p := by simpa using hb
        rw [e]; exact Nat.lt_succ_of_lt hp
    · intro i v e
      exact ints_at rv (by simpa using e)
    · intro h' tk t' k
      exact fin its h' _ tk t' rv k

theorem bools_at {bs : List Bool} {its : List Value} (rv : Vals (bs.map V.bl) its) {i : Nat} {v : Value} (e : its[i]? = some v) : v = .bool (bs.getD i true) := by
  have hl := rv.length
  rw [List.length_map] at hl
  have hi : i < its.length := (List.getElem?_eq_some_iff.mp e).1
  have hn : bs[i]? = some (bs[i]'(by omega)) := List.getElem?_eq_getElem (by omega)
  obtain ⟨u, hu, ru⟩ := rv.get (i := i) (x := V.bl (bs[i]'(by omega))) (by rw [List.getElem?_map, hn]; rfl)
  rw [e] at hu
  cases hu
  rw [List.getD_eq_getElem?_getD, hn]
  exact ru
theorem all_getD (bs : List Bool) : ((List.range bs.length).all fun i => bs.getD i true) = bs.all id := by
  rw [Bool.eq_iff_iff, List.all_eq_true, List.all_eq_true]
  constructor
  · intro h b hb
    obtain ⟨i, hi, e⟩ := List.getElem_of_mem hb
    have := h i (List.mem_range.mpr hi)
    rw [List.getD_eq_getElem?_getD, List.getElem?_eq_getElem hi, e] at this
    exact this
  · intro h i hi
    have hi' := List.mem_range.mp hi
    rw [List.getD_eq_getElem?_getD, List.getElem?_eq_getElem hi']
    exact h _ (List.getElem_mem hi')
theorem call_all_seq (hc : X.calm = true) : CallR X (.builtin "all") (fun xs H Q => ∃ (p : Addr) (bs : List Bool), xs = [.ref p] ∧ SqL X.K H p (bs.map V.bl) ∧ Q (.bl (bs.all id)) H) := by
  intro pins s σ H xs us Q I r h
  obtain ⟨p, bs, rfl, hq, q⟩ := h
  obtain ⟨u, rfl, rx⟩ := vals1 r
  cases rx
  have hh : X.A.in1.handled = none := I.ok.hd hc
  obtain ⟨its, rv, pl, hz⟩ := I.list hq
  have hp : p < s.heap.objs.size := by obtain ⟨o, e, _⟩ := pl.isList; exact Heap.lt_size e
  have hl := rv.length
  rw [List.length_map] at hl
  refine call_all_walk (wpAny_pyIter_list pl.isList ?_)
  refine ⟨s.heap.objs.size, [s.heap.objs.size, p], [s.heap.objs.size], _, _, _, fun i => bs.getD i true, rfl, Walks.list hh _ p (Nat.ne_of_lt hp) its.toArray, ⟨⟨_, Heap.get?_push_size _ rfl, rfl, rfl⟩, pl.isList.at fun o e => Heap.get?_push_of_some _ e⟩, ?_, ?_⟩
  · intro i v s' Q' E' e q'
    have e' : its[i]? = some v := by simpa using e
    rw [bools_at rv e']
    exact wpAny_pure q'
  · intro h' tk k
    have e : ((List.range its.toArray.size).all fun i => bs.getD i true) = bs.all id := by rw [List.size_toArray, ← hl]; exact all_getD bs
    rw [e]
    exact ⟨.bl (bs.all id), H, I.kept fun b ob e => k b ob (by simp; exact Nat.ne_of_lt (Heap.lt_size e)) (Heap.get?_push_of_some _ e), rfl, q⟩

/-! ### isinstance -/
inductive TyS (H : Hp) : V → Value → Prop
  | bl (y : Bool) : TyS H (.bl y) (.type "bool")
  | int (i : Int) : TyS H (.int i) (.type "int")
  | lst {a : Addr} {xs : List V} (ea : H a = some (.lst xs)) : TyS H (.ref a) (.type "list")
  | tup {a : Addr} {xs : List V} (ea : H a = some (.tup xs)) : TyS H (.ref a) (.type "tuple")
theorem ty_kit {pins : List (Addr × Obj)} {σ : St} {H : Hp} {s : Shared} {x : V} {u t : Value} (I : Inv X pins σ H s) (rx : RelV x u) (ty : TyS H x t) : ∃ Hx : Heap → Prop, PySem.W.KitX X.K u t Hx ∧ Hx s.heap ∧ u ≠ .builtin "__main__.__loader__#opaque" := by
  cases ty with
  | bl y => cases (show u = Value.bool y from rx); exact ⟨_, PySem.W.kitx_bool, True.intro, fun z => nomatch z⟩
  | int i => obtain ⟨t, q⟩ := (show ∃ t, u = Value.int i t from rx); cases q; exact ⟨_, PySem.W.kitx_int, True.intro, fun z => nomatch z⟩
  | @lst a xs ea =>
    cases (show u = Value.ref a from rx)
    obtain ⟨_, _, n, _, h1⟩ := (show ObjOk X.prog X.w H s.heap a (.lst xs) from I.hok a _ ea)
    exact ⟨_, PySem.W.kitx_list, ⟨_, h1, rfl⟩, fun z => nomatch z⟩
  | @tup a xs ea =>
    cases (show u = Value.ref a from rx)
    obtain ⟨_, _, _, p⟩ := (show ObjOk X.prog X.w H s.heap a (.tup xs) from I.hok a _ ea)
    obtain ⟨o, h1, h2, _⟩ := p
    exact ⟨_, PySem.W.kitx_tuple, ⟨o, h1, h2⟩, fun z => nomatch z⟩
theorem pe_ty {x : Str} {T : String} (hg : Gl X x) (hm : X.mg x = none) (hv : bootBuiltins x = some (.type T)) (hn : x ≠ "__name__" := by decide) (hd : (x == ("__debug__" : Str)) = false := by decide) : PE X (.Name x pos) (tC (.ty T)) := pe_bltn hg hm hv rfl hn hd

/-! ### o[i] by values -/
end

example (K : PySem.W.Frag) : PySem.W.kitOne K (.type "bool") (.type "int") = some true := by rfl
example (K : PySem.W.Frag) : PySem.W.kitOne K (.type "int") (.type "bool") = some false := by rfl
example (K : PySem.W.Frag) : PySem.W.kitAny K (.type "tuple") [.type "list", .type "tuple"] = some true := by rfl
example (K : PySem.W.Frag) : PySem.W.kitAny K (.type "str") [.type "list", .type "tuple"] = some false := by rfl
end L2
set_option Elab.async false
set_option linter.all false
set_option maxRecDepth 100000
/-! reversed(t) of a tuple, walked by a for. -/
namespace L2
open PySem PySem.Spec PyProof.Rows

namespace RF
end RF



section
variable {prog : Program} {w : World} {A : Around} {E : Value → Shared → Prop} {s : Shared}
end


section
variable {X : Cx} {tg : Expr}
end
end L2
set_option Elab.async false
set_option linter.all false
set_option maxRecDepth 100000
/-! LIST COMPREHENSIONS over the hand layer: one clause, a plain name, none or one test. -/
namespace L2
open PySem PySem.Spec PyProof.Rows

/-! ### the closure -/
def clStep (cells : List (Str × Addr)) (cs : List (Str × Addr)) (p : Str × NameKind) : List (Str × Addr) :=
  if (p.2 == NameKind.free) = true then (match cells.lookup p.1 with | some a => (p.1, a) :: cs | none => cs) else cs
def clOf (sc : Scope) (cells : List (Str × Addr)) : List (Str × Addr) := sc.names.foldl (clStep cells) []

theorem closure_eq {sc : Scope} {env : Env} (h : ∀ p ∈ sc.names, p.2 = .free → ∃ a, env.cells.lookup p.1 = some a) : closureFor sc env = pure (clOf sc env.cells) := by
  have key : ∀ (l : List (Str × NameKind)) (cs : List (Str × Addr)), (∀ p ∈ l, p.2 = .free → ∃ a, env.cells.lookup p.1 = some a) →
      (forIn l cs fun (x : Str × NameKind) (r : List (Str × Addr)) => match x with
        | (name, kind) => if (kind == NameKind.free) = true then (do let a ← cellOf env name; pure (ForInStep.yield ((name, a) :: r))) else (pure (ForInStep.yield r) : Sem (ForInStep (List (Str × Addr))))) = (pure (l.foldl (clStep env.cells) cs) : Sem (List (Str × Addr))) := by
    intro l
    induction l with
    | nil => intro cs _; rfl
    | cons p r ih =>
      intro cs hp
      obtain ⟨n, k⟩ := p
      rw [List.forIn_cons, List.foldl_cons]
      by_cases hk : (k == NameKind.free) = true
      · obtain ⟨a, ea⟩ := hp (n, k) List.mem_cons_self (by simpa using hk)
        have e1 : clStep env.cells cs (n, k) = (n, a) :: cs := by unfold clStep; rw [if_pos hk]; dsimp only; dsimp only at ea; rw [ea]
        rw [e1]
        dsimp only at ea ⊢
        rw [if_pos hk]
        unfold cellOf
        rw [ea]
        simp only [pure_bind]
        exact ih _ fun q hq => hp q (List.mem_cons_of_mem _ hq)
      · have e1 : clStep env.cells cs (n, k) = cs := by unfold clStep; rw [if_neg hk]
        rw [e1]
        dsimp only
        rw [if_neg hk]
        simp only [pure_bind]
        exact ih _ fun q hq => hp q (List.mem_cons_of_mem _ hq)
  unfold closureFor clOf
  rw [← key sc.names [] h]
  simp only [bind_pure]

theorem clOf_sub (sc : Scope) (cells : List (Str × Addr)) {y : Str} {c : Addr} : (clOf sc cells).lookup y = some c → cells.lookup y = some c := by
  have key : ∀ (l : List (Str × NameKind)) (cs : List (Str × Addr)), (∀ y c, cs.lookup y = some c → cells.lookup y = some c) → ∀ y c, (l.foldl (clStep cells) cs).lookup y = some c → cells.lookup y = some c := by
    intro l
    induction l with
    | nil => intro cs h; exact h
    | cons p r ih =>
      intro cs h
      rw [List.foldl_cons]
      refine ih _ ?_
      intro y c e
      unfold clStep at e
      split at e
      · split at e
        · rename_i a ea
          rw [List.lookup_cons] at e
          cases q : y == p.1 with
          | true =>
            rw [q] at e
            cases e
            rw [eq_of_beq q]; exact ea
          | false => rw [q] at e; exact h y c e
        · exact h y c e
      · exact h y c e
  exact key sc.names [] (fun _ _ h => by cases h) y c

theorem clOf_has (sc : Scope) (cells : List (Str × Addr)) (h : ∀ p ∈ sc.names, p.2 = .free → ∃ a, cells.lookup p.1 = some a) {y : Str} (hy : (y, NameKind.free) ∈ sc.names) : ∃ c, (clOf sc cells).lookup y = some c := by
  have mono : ∀ (l : List (Str × NameKind)) (cs : List (Str × Addr)), (∃ c, cs.lookup y = some c) → ∃ c, (l.foldl (clStep cells) cs).lookup y = some c := by
    intro l
    induction l with
    | nil => intro cs h; exact h
    | cons p r ih =>
      intro cs hc
      rw [List.foldl_cons]
      refine ih _ ?_
      unfold clStep
      split
      · split
        · rw [List.lookup_cons]
          cases q : y == p.1 with
          | true => exact ⟨_, rfl⟩
          | false => exact hc
        · exact hc
      · exact hc
  have key : ∀ (l : List (Str × NameKind)) (cs : List (Str × Addr)), (∀ p ∈ l, p.2 = .free → ∃ a, cells.lookup p.1 = some a) → (y, NameKind.free) ∈ l → ∃ c, (l.foldl (clStep cells) cs).lookup y = some c := by
    intro l
    induction l with
    | nil => intro cs _ hm; cases hm
    | cons p r ih =>
      intro cs hp hm
      rw [List.foldl_cons]
      rcases List.mem_cons.mp hm with e | hm
      · subst e
        obtain ⟨a, ea⟩ := hp (y, .free) List.mem_cons_self rfl
        refine mono r _ ⟨a, ?_⟩
        unfold clStep
        rw [if_pos (show (NameKind.free == NameKind.free) = true by decide)]
        dsimp only at ea ⊢
        rw [ea, List.lookup_cons, beq_self_eq_true]
      · exact ih _ (fun q hq => hp q (List.mem_cons_of_mem _ hq)) hm
  exact key sc.names [] h hy

/-! ### the block's context -/
def cxLC (X : Cx) (x : Str) (scope : Scope) (C : Addr) (fp : List Addr) (s : Shared) (H : Hp) : Cx where
  prog := X.prog
  w := X.w
  K := X.K
  mg := X.mg
  base := X.base
  A := X.A
  N := x :: X.N
  s₀ := s
  H₀ := H
  env := compEnvC scope (clOf scope X.env.cells) C X.env
  outer := X.stack
  stack := X.stack
  ex := fp
  fn := fun _ => false
  calm := X.calm
  pn := []
  xe := fun _ _ => False

/-- what a comprehension's scope must be -/
structure LcScope (X : Cx) (x : Str) (sc : Scope) : Prop where
  kind : sc.kind = .function
  nocell : ∀ p ∈ sc.names, p.2 ≠ .cell
  loc : sc.names.lookup x = some .local
  names : ∀ p ∈ sc.names, p.2 = .local → sc.names.lookup p.1 = some .local
  apart : ∀ y ∈ X.N, sc.names.lookup y ≠ some .local
  nd : X.N.Nodup
  free : ∀ p ∈ sc.names, p.2 = .free → X.env.kindOf p.1 = some .cell ∨ X.env.kindOf p.1 = some .free

section
variable {X : Cx} {pins : List (Addr × Obj)} {σ : St} {H : Hp} {s : Shared} {x : Str} {sc : Scope} {C : Addr} {fp : List Addr}

theorem relabel_look {env : Env} : ∀ {names : List (Str × NameKind)} {y : Str} {k : NameKind}, (names.map fun (n, k) => if (k == NameKind.free && env.scope.kind == .function && env.kindOf n == some .cell) then (n, NameKind.cell) else (n, k)).lookup y = some k →
    ∃ k', names.lookup y = some k' ∧ (k = k' ∨ (k' = .free ∧ k = .cell))
  | [], _, _, h => by simp at h
  | (n, k0) :: r, y, k, h => by
    have ih := @relabel_look env r y k
    have h : List.lookup y ((if (k0 == NameKind.free && env.scope.kind == .function && env.kindOf n == some .cell) = true then (n, NameKind.cell) else (n, k0)) :: (r.map _)) = some k := h
    cases hx : y == n with
    | true =>
      refine ⟨k0, by rw [List.lookup_cons, hx], ?_⟩
      by_cases hc : (k0 == NameKind.free && env.scope.kind == .function && env.kindOf n == some .cell) = true
      · rw [if_pos hc, List.lookup_cons, hx] at h
        cases h
        simp only [Bool.and_eq_true, beq_iff_eq] at hc
        exact .inr ⟨hc.1.1, rfl⟩
      · rw [if_neg hc, List.lookup_cons, hx] at h
        cases h
        exact .inl rfl
    | false =>
      by_cases hc : (k0 == NameKind.free && env.scope.kind == .function && env.kindOf n == some .cell) = true
      · rw [if_pos hc, List.lookup_cons, hx] at h
        rw [List.lookup_cons, hx]; exact ih h
      · rw [if_neg hc, List.lookup_cons, hx] at h
        rw [List.lookup_cons, hx]; exact ih h

theorem LcScope.cells (S : LcScope X x sc) (ok : X.Ok) : ∀ p ∈ sc.names, p.2 = .free → ∃ a, X.env.cells.lookup p.1 = some a := fun p hp e => ok.has p.1 (S.free p hp e)

theorem Inv.okLC (I : Inv X pins σ H s) (S : LcScope X x sc) (hC : s.heap.objs.size ≤ C) (hf : ∀ b ∈ fp, FpOk X pins H b) (hlt : ∀ b ∈ fp, b < s.heap.objs.size) : (cxLC X x sc C fp s H).Ok where
  mod := I.ok.mod
  kind := S.kind
  glob := I.ok.glob
  blt := I.ok.blt
  above := hC
  inj := fun y z c e1 e2 => I.ok.inj y z c (clOf_sub sc X.env.cells e1) (clOf_sub sc X.env.cells e2)
  has := fun y hy => by
    have hy' : (relabel sc X.env).names.lookup y = some .cell ∨ (relabel sc X.env).names.lookup y = some .free := hy
    have fr : sc.names.lookup y = some .free := by
      rcases hy' with h | h
      · obtain ⟨k', e, q⟩ := relabel_look h
        rcases q with q | ⟨q, _⟩
        · subst q; exact absurd rfl (S.nocell _ (PySem.mem_of_lookup e))
        · rw [e, q]
      · obtain ⟨k', e, q⟩ := relabel_look h
        rcases q with q | ⟨_, q⟩
        · rw [e, ← q]
        · cases q
    exact clOf_has sc X.env.cells (S.cells I.ok) (PySem.mem_of_lookup fr)
  cab := fun y c e => by cases (show false = true from e)
  hd := I.ok.hd
  frames := I.ok.frames
  stk := .inl rfl
  exf := fun b hb => ⟨Nat.ne_of_lt (Nat.lt_of_lt_of_le (hlt b hb) hC), fun y c e => (hf b hb).2.2.2.2.1 y c (clOf_sub sc X.env.cells e)⟩
  bs := I.bs
  bsz := Nat.le_trans I.ok.bsz I.sz
  noex := fun b o e hb => by
    rcases (hf b hb).2.2.2.1 with q | q
    · exact I.ok.noex b o e q
    · exact absurd (Nat.lt_of_lt_of_le (Heap.lt_size e) (Nat.le_trans I.ok.bsz q)) (Nat.lt_irrefl _)
  exfs := fun b hb z => by
    rcases List.mem_cons.mp (I.stkSub b z) with q | q
    · exact (hf b hb).2.1 q
    · exact (hf b hb).2.2.1 q
  funs := I.stack
  frf := I.stkFree

/-- the block begins: a new list at D, a new frame at C -/
theorem Inv.startLC {D : Addr} {h1 : Heap} {m : Str → Option Value} {tk : Nat} (I : Inv X pins σ H s) (S : LcScope X x sc) (hf : ∀ b ∈ fp, FpOk X pins H b) (hlt : ∀ b ∈ fp, b < s.heap.objs.size)
    (hD : D = s.heap.objs.size) (hC : s.heap.objs.size ≤ C) (hDC : C ≠ D) (hk : ∀ b o, s.heap.get? b = some o → h1.get? b = some o) (hn : h1.Ns C m) (hl : h1.get? D = some { cls := .type "list", data := .seq ([] : List Value).toArray 0 }) :
    Inv (cxLC X x sc C fp s H) [] (none :: σ) (upd H D (.lst [])) { s with heap := h1, toks := tk } := by
  have hDle : s.heap.objs.size ≤ D := by rw [hD]; exact Nat.le_refl _
  have cells : ∀ y c, (clOf sc X.env.cells).lookup y = some c → c < s.heap.objs.size := fun y c e => by
    obtain ⟨v, q⟩ := I.cell y c (clOf_sub sc X.env.cells e)
    exact q.lt
  refine ⟨I.okLC S hC hf hlt, rfl, I.bare, Un.laid hk hDle (I.hok.fresh hDle), ⟨m, hn, fun i y v e1 e2 e3 => ?_⟩, fun y c e => ?_, ?_, fun y c e => ?_, fun p hp => absurd (show p ∈ ([] : List (Addr × Obj)) from hp) (by simp), I.hok.laid hk hDle ⟨Nat.zero_le _, [], 0, .nil, hl⟩, ?_⟩
  · cases i with
    | zero => cases (show some (none : Option V) = some (some v) from e2)
    | succ j =>
      have e1' : X.N[j]? = some y := e1
      have e2' : σ[j]? = some (some v) := e2
      have e3' : Vis (relabel sc X.env) y := e3
      have ny : sc.names.lookup y ≠ some .local := S.apart y (List.mem_of_getElem? e1')
      have fr : sc.names.lookup y = some .free ∧ ((relabel sc X.env).names.lookup y = some .cell ∨ (relabel sc X.env).names.lookup y = some .free) := by
        rcases e3' with h | h | h
        · obtain ⟨k', e, q⟩ := relabel_look h
          rcases q with q | ⟨_, q⟩
          · subst q; exact absurd e ny
          · cases q
        · obtain ⟨k', e, q⟩ := relabel_look h
          rcases q with q | ⟨q, _⟩
          · subst q; exact absurd rfl (S.nocell _ (PySem.mem_of_lookup e))
          · exact ⟨by rw [e, q], .inl h⟩
        · obtain ⟨k', e, q⟩ := relabel_look h
          rcases q with q | ⟨_, q⟩
          · exact ⟨by rw [e, ← q], .inr h⟩
          · cases q
      have ok := S.free (y, .free) (PySem.mem_of_lookup fr.1) rfl
      obtain ⟨m0, hn0, hl0⟩ := I.loc
      obtain ⟨u, r, l⟩ := hl0 j y v e1' e2' (.inr ok)
      refine ⟨u, r, .inr ⟨fr.2, ?_⟩⟩
      rcases l with ⟨k, _⟩ | ⟨_, c, ec, z⟩
      · rcases ok with q | q <;> (rw [show X.env.kindOf y = some .local from k] at q; cases q)
      · obtain ⟨c', ec'⟩ := clOf_has sc X.env.cells (S.cells I.ok) (PySem.mem_of_lookup fr.1)
        have := clOf_sub sc X.env.cells ec'
        rw [ec] at this
        cases this
        obtain ⟨o, ho, hd⟩ := z
        exact ⟨c, ec', o, hk _ _ ho, hd⟩
  · obtain ⟨v, o, ho, hd⟩ := I.cell y c (clOf_sub sc X.env.cells e)
    exact ⟨v, o, hk _ _ ho, hd⟩
  · show upd H D (.lst []) C = none
    rw [upd_ne hDC]
    exact I.hok.fresh hC
  · show upd H D (.lst []) c = none
    rw [upd_ne (Nat.ne_of_lt (Nat.lt_of_lt_of_le (cells y c e) hDle))]
    exact I.freeC y c (clOf_sub sc X.env.cells e)
  · show (none :: σ).length = (x :: X.N).length
    rw [List.length_cons, List.length_cons, I.len]

/-- the frame C of a block let go: nothing of ours stands there -/
theorem Inv.butC {h' : Heap} (I : Inv X pins σ H s) (hs : Heap.SameBut C s.heap h') (hC : X.s₀.heap.objs.size ≤ C) (hn : H C = none) (hL : C ≠ X.env.locals) (hc : ∀ y c, X.env.cells.lookup y = some c → c ≠ C) (hp : ∀ p ∈ X.pn ++ pins, p.1 ≠ C) :
    Inv X pins σ H { s with heap := h' } := I.turned (t' := s.toks) (fun b o hb e => (hs.2 b hb).trans e) hn hL (.inr hC) hc hp

/-- the block is through: back in the context around it -/
theorem Inv.endLC {s2 : Shared} {H2 : Hp} {st : St} {pl : List (Addr × Obj)} (I : Inv X pins σ H s) (J : Inv (cxLC X x sc C fp s H) pl st H2 s2) (hf : ∀ b ∈ fp, FpOk X pins H b) : Inv X pins σ H2 s2 :=
  I.call' (ch := fp) J.os J.base J.hok J.bare fun b hb => ⟨(hf b hb).2.2.2.1, (hf b hb).2.1, (hf b hb).2.2.2.2.1, (hf b hb).2.2.2.2.2⟩
end

/-! ### the tests -/
def PTs (X : Cx) (ifs : List Expr) (t : TT) : Prop :=
  ∀ (pins : List (Addr × Obj)) (s : Shared) (σ : St) (H : Hp) (Q : Bool → Hp → Prop), Inv X pins σ H s → t σ H Q →
    wpAny (model X.prog X.w) X.A (forIn ifs true fun c r => if r = true then do let ok ← isTrue c X.env (eval c X.env); pure (ForInStep.yield ok) else pure (ForInStep.yield r)) (TP X pins σ Q) X.xe s
def tYes : TT := fun _ H Q => Q true H
theorem pts_nil {X : Cx} : PTs X [] tYes := fun _ _ _ H _ I h => wpAny_tests_nil ⟨H, I, h⟩
theorem pts_one {X : Cx} {c : Expr} {t : TT} (h : PT X c t) : PTs X [c] t := fun pins s σ H Q I q => wpAny_tests_one (h pins s σ H Q I q)

/-! ### the loop, the step ahead of the store kept -/
theorem compLoop_own {prog : Program} {w : World} {A : Around} {R : Result → Shared → Prop} {s : Shared} {elt target iter : Expr} {ifs : List Expr} {scope : Scope} {pos : Pos} {it acc : Value} {env : Env} (I : Nat → Shared → Prop)
    (turn : ∀ n s, I n s → wpAny (model prog w) A (pyNext it) (fun r s1 => match r with
      | none => R (.ok .next) s1
      | some v => wpAny (model prog w) A (letOwnedTupleGo target it v) (fun _ s1 => wpAny (model prog w) A (assign target env v) (fun _ s2 =>
          wpAny (model prog w) A (forIn ifs true fun c r => if r = true then do let ok ← isTrue c env (eval c env); pure (ForInStep.yield ok) else pure (ForInStep.yield r)) (fun ok s3 =>
            if ok = true then wpAny (model prog w) A (eval elt env) (fun x s4 =>
              wpAny (model prog w) A (call (.builtin "list.append") [acc, x]) (fun _ s5 => ∃ m, m < n ∧ I m s5) (fun _ _ => False) s4) (fun _ _ => False) s3
            else ∃ m, m < n ∧ I m s3) (fun _ _ => False) s2) (fun _ _ => False) s1) (fun _ _ => False) s1) (fun _ _ => False) s)
    (n : Nat) (h : I n s) :
    codeAny (model prog w) A (.compLoop (.ListComp elt [⟨target, iter, ifs, 0⟩] scope pos) 0 it acc env) R s := by
  refine codeAny_loop rfl I (fun n s hI => ?_) n h
  show wpAny _ A ((compTurn (.ListComp elt [⟨target, iter, ifs, 0⟩] scope pos) 0 it acc env).onRaise (fun x => do noteFrame x env; theTreesLotGoes x)) _ _ s
  refine wpAny_noted ?_
  rw [compTurn_list]
  refine wpAny_bind (wpAny_standAt (wpAny_bind (wpAny_mono (turn n s hI) (fun r s1 h1 => ?_) fun _ _ h' => h'.elim)))
  cases r with
  | none => exact wpAny_pure h1
  | some v =>
    refine wpAny_bind (wpAny_mono h1 (fun _ s1 h1 => ?_) fun _ _ h' => h'.elim)
    refine wpAny_bind (wpAny_mono h1 (fun _ s2 h2 => wpAny_bind (wpAny_mono h2 (fun ok s3 h3 => ?_) fun _ _ h' => h'.elim)) fun _ _ h' => h'.elim)
    cases ok with
    | false => exact wpAny_pure ⟨rfl, h3⟩
    | true =>
      exact wpAny_bind (wpAny_bind (wpAny_mono h3 (fun x s4 h4 => wpAny_bind (wpAny_mono h4 (fun _ s5 h5 => wpAny_pure (wpAny_pure ⟨rfl, h5⟩)) fun _ _ h' => h'.elim)) fun _ _ h' => h'.elim))

/-! ### the reading -/
/-- acc = []; for x in ..: if ..: acc.append(..), the list at D -/
def lcGo (tc : TT) (te : TE) (σ : St) (J : It) (D : Addr) (Fin : Hp → Prop) (H : Hp) : Prop :=
  ∃ W : Nat → Nat → List V → Hp → Prop, (∃ m, W 0 m [] (upd H D (.lst []))) ∧ ∀ i m ys H, W i m ys H → H D = some (.lst ys) ∧
    ((J.stop i H ∧ Fin H) ∨ (J.go i H ∧ ∀ x H', J.yld i H x H' → tc (some x :: σ) H' fun b H2 => if b = true then te (some x :: σ) H2 fun y H3 => H3 D = some (.lst ys) ∧ ys.length < sizeLine ∧ ∃ m', m' < m ∧ W (i + 1) m' (ys ++ [y]) (upd H3 D (.lst (ys ++ [y])))
      else ∃ m', m' < m ∧ W (i + 1) m' ys H2))
def tLC (wi : TI) (tc : TT) (te : TE) : TE := fun σ H Q => wi σ H fun J H1 => ∀ D, H1 D = none → lcGo tc te σ J D (fun H2 => Q (.ref D) H2) H1

section
variable {X : Cx} {x : Str} {sc : Scope} {elt iter : Expr} {ifs : List Expr} {px pos : Pos} {wi : TI} {tc : TT} {te : TE}
/-- from the iterator on -/
theorem lc_block {pins : List (Addr × Obj)} {σ : St} {H : Hp} {s : Shared} {it : Addr} {fp : List Addr} {tn : Nat → Heap → Prop} {J : It} {Fin : Addr → Hp → Prop} {RR : Value → Addr → Result → Shared → Prop} {E : Value → Shared → Prop}
    (hc : X.calm = true) (S : LcScope X x sc) (I : Inv X pins σ H s) (T : Turn X.prog X.w X.K (.Name x px) J fp it tn) (st : tn 0 s.heap) (hf : ∀ b ∈ fp, FpOk X pins H b)
    (ht : ∀ C s0 H0, PTs (cxLC X x sc C fp s0 H0) ifs tc) (he : ∀ C s0 H0, PE (cxLC X x sc C fp s0 H0) elt te) (q : ∀ D, H D = none → lcGo tc te σ J D (Fin D) H)
    (hR : ∀ D C H2 s2 m, s.heap.objs.size ≤ C → Inv X pins σ H2 s2 → H2 C = none → s2.heap.Ns C m → Fin D H2 → RR (.ref D) C (.ok .next) s2) :
    wpAny (model X.prog X.w) X.A (newList []) (fun acc s3 => wpAny (model X.prog X.w) X.A (newFunctionEnv sc X.env.globals (clOf sc X.env.cells) [] X.env.qual none .none (some X.env)) (fun cenv s4 =>
      codeAny (model X.prog X.w) X.A (.compStart (.ListComp elt [⟨.Name x px, iter, ifs, 0⟩] sc pos) 0 (.ref it) acc { cenv with scope := relabel sc X.env }) (RR acc cenv.locals) s4) E s3) E s := by
  have hlt : ∀ b ∈ fp, b < s.heap.objs.size := fun b hb => by
    obtain ⟨o, e, _⟩ := T.obj 0 _ st b hb
    exact Heap.lt_size e
  refine wpAny_newObj_type (wpAny_newFunctionEnv S.nocell (by intro y hy; simp at hy) (fun h1 hns1 hsb1 => ?_) S.kind)
  dsimp only at hns1 hsb1 ⊢
  generalize hH2 : s.heap.push { cls := .type "list", dict := none, data := .seq ([] : List Value).toArray } = G at hns1 hsb1 ⊢
  have hC : G.objs.size = s.heap.objs.size + 1 := by rw [← hH2, Heap.size_push]
  have hCle : s.heap.objs.size ≤ G.objs.size := by rw [hC]; exact Nat.le_succ _
  have hDC : G.objs.size ≠ s.heap.objs.size := by rw [hC]; exact Nat.succ_ne_self _
  have old : ∀ b o, s.heap.get? b = some o → h1.get? b = some o := fun b o e => hsb1.extBut b o (Nat.ne_of_lt (Nat.lt_of_lt_of_le (Heap.lt_size e) hCle)) (Heap.get?_push_of_some _ (hH2 ▸ Heap.get?_push_of_some _ e))
  have hacc : h1.get? s.heap.objs.size = some { cls := .type "list", data := .seq ([] : List Value).toArray 0 } := hsb1.extBut _ _ (Ne.symm hDC) (Heap.get?_push_of_some _ (hH2 ▸ Heap.get?_push_size _ rfl))
  have hDn : H s.heap.objs.size = none := I.hok.fresh (Nat.le_refl _)
  obtain ⟨W, ⟨m0, w0⟩, turn⟩ := q s.heap.objs.size hDn
  have st1 : tn 0 h1 := T.keep _ _ _ st fun b _ o e => old b o e
  have I1 := fun tk => I.startLC (tk := tk) S hf hlt rfl hCle hDC old hns1 hacc
  have fr1 : ∀ b ∈ fp, upd H s.heap.objs.size (.lst []) b = none := fun b hb => by rw [upd_ne (Nat.ne_of_lt (hlt b hb))]; exact (hf b hb).1
  have loop : ∀ s3 : Shared, s3 = { s with heap := h1, toks := s.toks + ([] : List (Str × Value)).length } →
      codeAny (model X.prog X.w) X.A (.compLoop (.ListComp elt [⟨.Name x px, iter, ifs, 0⟩] sc pos) 0 (.ref it) (.ref s.heap.objs.size) (compEnvC sc (clOf sc X.env.cells) G.objs.size X.env))
        (RR (.ref s.heap.objs.size) G.objs.size) s3 := by
    rintro s3 rfl
    have fpk : ∀ {H' : Hp}, (∀ b ∈ fp, H' b = none) → ∀ b ∈ fp, FpOk (cxLC X x sc G.objs.size fp s H) [] H' b := fun hn b hb =>
      ⟨hn b hb, Nat.ne_of_lt (Nat.lt_of_lt_of_le (hlt b hb) hCle), (I.okLC (C := G.objs.size) S hCle hf hlt).exfs b hb, .inl hb, fun y c e => (hf b hb).2.2.2.2.1 y c (clOf_sub sc X.env.cells e), fun p hp => absurd (show p ∈ ([] : List (Addr × Obj)) from hp) (by simp)⟩
    refine compLoop_own (fun n s' => ∃ i w ys H', Inv (cxLC X x sc G.objs.size fp s H) [] (w :: σ) H' s' ∧ tn i s'.heap ∧ (∀ b ∈ fp, H' b = none) ∧ W i n ys H') ?_ m0 ⟨0, none, [], _, I1 _, st1, fr1, w0⟩
    rintro n s3 ⟨i, v0, ys, H3, I3, st3, fr3, w3⟩
    obtain ⟨hD3, turn3⟩ := turn i n ys H3 w3
    rcases turn3 with ⟨stop, fin⟩ | ⟨go, step⟩
    · refine thn (T.done (cxLC X x sc G.objs.size fp s H) rfl rfl rfl hc i [] s3 _ H3 _ I3 (fpk fr3) st3 stop) fun r s4 ⟨hr, I4⟩ => ?_
      subst hr
      obtain ⟨m4, hn4, _⟩ := I4.loc
      exact hR _ _ H3 s4 m4 hCle (I.endLC I4 hf) I4.free hn4 fin
    · refine thn (T.item (cxLC X x sc G.objs.size fp s H) rfl rfl rfl hc i [] s3 _ H3 _ I3 (fpk fr3) st3 go) fun r s4 ⟨u, hr, h4⟩ => ?_
      subst hr
      refine thn h4 fun _ s5 ⟨y, H5, I5, r5, y5, st5, fr5⟩ => ?_
      have I5' := I5.pinned (fpk fr5) (T.obj _ _ st5)
      have hN : (x :: X.N).Nodup := List.nodup_cons.mpr ⟨fun hm => S.apart x hm S.loc, S.nd⟩
      have pg : PG (cxLC X x sc G.objs.size fp s H) (.Name x px) (gName 0) := pg_name hN rfl (.inl (lookup_relabel_local S.loc)) (.inr (lookup_relabel_local S.loc))
      refine thn (pg _ s5 _ H5 y u (fun σ6 H6 => σ6 = some y :: σ ∧ H6 = H5) I5' r5 ⟨rfl, rfl⟩) fun _ s6 ⟨σ6, H6, I6, e6, e6'⟩ => ?_
      subst e6; subst e6'
      refine thn (ht G.objs.size s H _ s6 _ H6 _ I6 (step y H6 y5)) fun ok s7 ⟨H7, I7, q7⟩ => ?_
      have again : ∀ {H8 : Hp} {s8 : Shared} {zs : List V}, Inv (cxLC X x sc G.objs.size fp s H) ([] ++ pinsAt fp s5.heap) (some y :: σ) H8 s8 → (∃ m', m' < n ∧ W (i + 1) m' zs H8) → ∃ m, m < n ∧ ∃ i w ys H', Inv (cxLC X x sc G.objs.size fp s H) [] (w :: σ) H' s8 ∧ tn i s8.heap ∧ (∀ b ∈ fp, H' b = none) ∧ W i m ys H' := fun {H8 s8 zs} I8 ⟨m', hm, w8⟩ => by
        refine ⟨m', hm, i + 1, some y, zs, H8, I8.unpinned, T.keep _ _ _ st5 fun b hb o e => (I8.pin (b, o) (List.mem_append_right _ (List.mem_append_right _ (mem_pinsAt hb e)))).1, fun b hb => ?_, w8⟩
        obtain ⟨o, e, d⟩ := T.obj _ _ st5 b hb
        exact (I8.pin (b, o) (List.mem_append_right _ (List.mem_append_right _ (mem_pinsAt hb e)))).2.1
      cases ok with
      | false =>
        rw [if_neg Bool.false_ne_true] at q7 ⊢
        exact again I7 q7
      | true =>
        rw [if_pos rfl] at q7 ⊢
        refine thn (he G.objs.size s H _ s7 _ H7 _ I7 q7) fun z s8 ⟨zv, H8, I8, r8, hD8, hz8, w8⟩ => ?_
        refine thn (mt_append _ s8 _ H8 (.ref s.heap.objs.size) [zv] (.ref s.heap.objs.size) [z] (fun _ H9 => ∃ m', m' < n ∧ W (i + 1) m' (ys ++ [zv]) H9) I8 rfl (.cons r8 .nil) ⟨_, ys, zv, rfl, rfl, hD8, hz8, w8⟩) fun _ s9 ⟨_, H9, I9, _, w9⟩ => ?_
        exact again I9 w9
  exact codeAny_compStart_list (loop _ rfl) (T.self X.A 0 _ _ _ st1 (loop _ rfl))

theorem pe_lc (hc : X.calm = true) (S : LcScope X x sc) (hi : PI X (.Name x px) iter wi) (ht : ∀ C fp s0 H0, PTs (cxLC X x sc C fp s0 H0) ifs tc) (he : ∀ C fp s0 H0, PE (cxLC X x sc C fp s0 H0) elt te)
    (hs : ∀ v, foldedSetIterable iter X.env v = pure v := by intro _; rfl) : PE X (.ListComp elt [⟨.Name x px, iter, ifs, 0⟩] sc pos) (tLC wi tc te) := by
  refine ⟨?_⟩
  intro pins s σ H Q I h
  rw [eval_ListComp]
  refine wpAny_comprehension_free (use := none) rfl hs (closure_eq (S.cells I.ok)) S.kind S.names (thn (hi pins s σ H _ I h) fun v s1 h1 => thn h1 fun itv s2 h2 => ?_)
  obtain ⟨it, fp, tn, J, H2, e, I2, T, st2, f2, q2⟩ := h2
  subst e
  refine lc_block (RR := fun acc C => compPost (model X.prog X.w) X.A X.xe none (EP X pins σ Q) acc C) (Fin := fun D H3 => Q (.ref D) H3) hc S I2 T st2 f2 (fun C s0 H0 => ht C fp s0 H0) (fun C s0 H0 => he C fp s0 H0) q2 ?_
  intro D C H3 s3 m hC I3 hn hN q3
  refine ⟨m, hN, fun h' hs' => ⟨.ref D, H3, I3.butC hs' (Nat.le_trans I2.sz hC) hn (Nat.ne_of_gt (Nat.lt_of_lt_of_le I2.lt hC)) (fun y c e => ?_) (fun p hp => ?_), rfl, q3⟩⟩
  · obtain ⟨v, z⟩ := I2.cell y c e
    exact Nat.ne_of_lt (Nat.lt_of_lt_of_le z.lt hC)
  · exact Nat.ne_of_lt (Nat.lt_of_lt_of_le (Heap.lt_size (I2.pin p hp).1) hC)

/-- name = [.. for ..]: the name is stored ahead of the block's names' going -/
theorem ps_setLC {i : Nat} {y : Str} {py spos : Pos} (hc : X.calm = true) (hi' : X.N[i]? = some y) (hy : X.env.scope.names.lookup y = some .local) (S : LcScope X x sc) (hi : PI X (.Name x px) iter wi) (ht : ∀ C fp s0 H0, PTs (cxLC X x sc C fp s0 H0) ifs tc) (he : ∀ C fp s0 H0, PE (cxLC X x sc C fp s0 H0) elt te)
    (hsw : swapsWith (.ListComp elt [⟨.Name x px, iter, ifs, 0⟩] sc pos) (some (.Name y py)) spos.line X.env = pure true := by rfl) (hs : ∀ v, foldedSetIterable iter X.env v = pure v := by intro _; rfl) :
    PS X (.Assign [.Name y py] (.ListComp elt [⟨.Name x px, iter, ifs, 0⟩] sc pos) spos) (tAsg (tLC wi tc te) (gName i)) := by
  refine ⟨?_⟩
  intro pins s σ H Dn I h
  rw [exec_Assign_Name_used _ _ _ _ hsw]
  refine wpAny_bind (wpAny_standAt (wpAny_bind ?_))
  show wpAny _ X.A (do let _ ← comprehension (.ListComp elt [⟨.Name x px, iter, ifs, 0⟩] sc pos) sc X.env _ (newList []) false (eval iter X.env) (some (assign (.Name y py) X.env))) _ _ s
  refine wpAny_bind (wpAny_mono (wpAny_comprehension_free (use := some (assign (.Name y py) X.env)) (Q := fun _ s' => SP X pins Dn .next s') rfl hs (closure_eq (S.cells I.ok)) S.kind S.names
    (thn (hi pins s σ H _ I h) fun v s1 h1 => thn h1 fun itv s2 h2 => ?_)) (fun _ s' hq => wpAny_pure (wpAny_pure hq)) fun _ _ e => e)
  obtain ⟨it, fp, tn, J, H2, e, I2, T, st2, f2, q2⟩ := h2
  subst e
  refine lc_block (RR := fun acc C => compPost (model X.prog X.w) X.A X.xe (some (assign (.Name y py) X.env)) (fun _ s' => SP X pins Dn .next s') acc C) (Fin := fun D H3 => gName i (.ref D) σ H3 Dn.nx) hc S I2 T st2 f2 (fun C s0 H0 => ht C fp s0 H0) (fun C s0 H0 => he C fp s0 H0) q2 ?_
  intro D C H3 s3 m hC I3 hn hN q3
  show wpAny _ _ (assign (.Name y py) X.env (.ref D)) _ _ s3
  have cne : ∀ y c, X.env.cells.lookup y = some c → c ≠ C := fun y c e => by
    obtain ⟨v, z⟩ := I2.cell y c e
    exact Nat.ne_of_lt (Nat.lt_of_lt_of_le z.lt hC)
  refine wpAny_assign_Name (store_ok2 I3 S.nd hi' (.inl hy) (show RelV (.ref D) (.ref D) from rfl) (fun s4 I4 ⟨a, hs4, ha⟩ => ?_) (.inr hy))
  have haC : C ≠ a := by
    rcases ha with e | e
    · rw [e]; exact Nat.ne_of_gt (Nat.lt_of_lt_of_le I2.lt hC)
    · exact Ne.symm (cne y a e)
  refine ⟨m, hN.sameBut hs4 haC, fun h' hs' => ⟨_, H3, I4.butC hs' (Nat.le_trans I2.sz hC) hn (Nat.ne_of_gt (Nat.lt_of_lt_of_le I2.lt hC)) cne (fun p hp => ?_), q3⟩⟩
  exact Nat.ne_of_lt (Nat.lt_of_lt_of_le (Heap.lt_size (I2.pin p hp).1) hC)
end

/-! ### the forms one uses -/
end L2
set_option Elab.async false
set_option linter.all false
set_option maxRecDepth 100000
set_option Elab.async false
set_option linter.all false
set_option maxRecDepth 100000
namespace L2
open PySem PySem.Spec PyProof.Rows
/-! ### defs of the text, and what they promise -/
structure Fn (K : PySem.W.Frag) (mg : Str → Option Value) (x : Str) (st : Stmt) (ps : List Str) (f : Addr) (fd : FuncData) : Prop where
  fn : Fun K x x st f fd
  m : mg x = some (.ref f)
  b : Binds K fd ps []
def Can (P : Program) (w : World) (K : PySem.W.Frag) (mg : Str → Option Value) (base : Heap) (k : Nat) (x : Str) (ps : List Str) (sp : Sp) : Prop :=
  ∃ f fd, FnOk P w K mg base CX0 k f fd ps sp ∧ mg x = some (.ref f) ∧ PySem.W.keepIn K (.ref f) = true ∧ Binds K fd ps []
section
variable {P : Program} {w : World} {K : PySem.W.Frag} {mg : Str → Option Value} {base : Heap}
theorem fn_can {x : Str} {st : Stmt} {N ps : List Str} {k : Nat} {sp : Sp} (h : ∃ f fd, Fn K mg x st ps f fd) (S : FnScope N ps (defScope st)) (len : ∀ vs H Q E, sp vs H Q E → vs.length = ps.length)
    (hbody : ∀ (f : Addr) (cdv : Value) (A : Around) (outer : List Env) (s : Shared) (H : Hp) (vs : List V) (Q : VK) (E : XK), Room k (A.deeper (envOfC x (defScope st) s.heap.objs.size f cdv)) → sp vs H Q E →
      ∃ t, PSs (cxOf CX0 P w K mg base N x (defScope st) f cdv A outer s H E).nox (defBody st) t ∧ t { nx := fun _ H' => Q .non H', rt := Q } (start N vs) H) : Can P w K mg base (k + 1) x ps sp := by
  obtain ⟨f, fd, F⟩ := h
  exact ⟨f, fd, F.fn.ok S len fun cdv A outer s H vs Q E hr h => hbody f cdv A outer s H vs Q E hr h, F.m, F.fn.kp, F.b⟩
end
section
variable {X : Cx} {k k' : Nat} {x m : Str} {ps : List Str} {sp : Sp} {p pos apos : Pos} {e o : Expr} {es : List Expr} {ta : TE} {t : TA} {C : Addr}
theorem pe_can (h : Can X.prog X.w X.K X.mg X.base k x ps sp) (hr : Room k' X.A) (ha : PA X (e :: es) t) (hg : Gl X x := by rfl) (hk : k ≤ k' := by decide) (hdb : (x == ("__debug__" : Str)) = false := by decide)
    (hs : starEach (e :: es) X.env = (false, eval e X.env) :: starEach es X.env := by rfl) (hpl : (backTo pos (starEach es X.env)).any (·.1) = false := by rfl) : PE X (.Call (.Name x p) (e :: es) [] pos) (tCall sp [] E0 t) := by
  obtain ⟨f, fd, F, hm, kp, b⟩ := h
  exact pe_call F (hr.mono hk) hg hm kp b .nil pass0 ha hdb hs hpl
theorem pe_gi {n : Int} (h : ∃ t, X.mg x = some (.int n t)) (hg : Gl X x := by rfl) (hd : (x == ("__debug__" : Str)) = false := by decide) : PE X (.Name x pos) (tC (.int n)) := by
  obtain ⟨t, h⟩ := h
  exact pe_glob hg h ⟨t, rfl⟩ hd
/-- T-names, builtins in short -/
theorem pe_b {id : String} {r : List V → Hp → VK → Prop} (hc : CallR X (.builtin id) r) (hm : X.mg x = none) (hv : bootBuiltins x = some (.builtin id)) (ha : PA X (e :: es) t) (hg : Gl X x := by rfl) (hn : x ≠ "__name__" := by decide) (hdb : (x == ("__debug__" : Str)) = false := by decide)
    (he : starEach (e :: es) X.env = (false, eval e X.env) :: starEach es X.env := by rfl) (hpl : (backTo pos (starEach es X.env)).any (·.1) = false := by rfl) : PE X (.Call (.Name x p) (e :: es) [] pos) (tCB r t) := pe_callB hc hg hm hv ha hn hdb he hpl
theorem pe_t {T : String} {r : List V → Hp → VK → Prop} (hc : CallR X (.type T) r) (hm : X.mg x = none) (hv : bootBuiltins x = some (.type T)) (ha : PA X (e :: es) t) (hg : Gl X x := by rfl) (hn : x ≠ "__name__" := by decide) (hdb : (x == ("__debug__" : Str)) = false := by decide)
    (he : starEach (e :: es) X.env = (false, eval e X.env) :: starEach es X.env := by rfl) (hpl : (backTo pos (starEach es X.env)).any (·.1) = false := by rfl) : PE X (.Call (.Name x p) (e :: es) [] pos) (tCB r t) := pe_callTy hc hg hm hv ha hn hdb he hpl
theorem pa1 {a : Expr} {ta : TE} (ha : PE X a ta) (hs : starEach [a] X.env = (false, eval a X.env) :: starEach [] X.env := by rfl) : PA X [a] (tCons ta tNil) := pa_cons ha pa_nil hs
theorem pa2 {a b : Expr} {ta tb : TE} (ha : PE X a ta) (hb : PE X b tb) (hs : starEach [a, b] X.env = (false, eval a X.env) :: starEach [b] X.env := by rfl) (hs2 : starEach [b] X.env = (false, eval b X.env) :: starEach [] X.env := by rfl) : PA X [a, b] (tCons ta (tCons tb tNil)) := pa_cons ha (pa_cons hb pa_nil hs2) hs
theorem pa3 {a b c : Expr} {ta tb tc : TE} (ha : PE X a ta) (hb : PE X b tb) (hc : PE X c tc) (hs : starEach [a, b, c] X.env = (false, eval a X.env) :: starEach [b, c] X.env := by rfl) (hs1 : starEach [b, c] X.env = (false, eval b X.env) :: starEach [c] X.env := by rfl) (hs2 : starEach [c] X.env = (false, eval c X.env) :: starEach [] X.env := by rfl) : PA X [a, b, c] (tCons ta (tCons tb (tCons tc tNil))) := pa_cons ha (pa_cons hb (pa_cons hc pa_nil hs2) hs1) hs
end
/-- all that was tracked but p is as it was -/
def But (p : Addr) (H H' : Hp) : Prop := ∀ b o, H b = some o → b ≠ p → H' b = some o
theorem But.trans {p : Addr} {H H1 H2 : Hp} (a : But p H H1) (b : But p H1 H2) : But p H H2 := fun c o h n => b c o (a c o h n) n
theorem Same.but {p : Addr} {H H' : Hp} (a : Same H H') : But p H H' := fun b o h _ => a b o h
theorem Same.upd {H : Hp} {p : Addr} {o : HO} (h : H p = none) : Same H (upd H p o) := fun b u e => by rw [upd_ne (ne_of_none e h)]; exact e
end L2
set_option Elab.async false
set_option linter.all false
set_option maxRecDepth 100000
namespace L2
open PySem PySem.Spec PyProof.Rows
theorem ul1 : ∀ {us : List Value}, us.length = 1 → ∃ a, us = [a]
  | [a], _ => ⟨a, rfl⟩
theorem ul2 {us : List Value} (h : us.length = 2) : ∃ a b, us = [a, b] := by
  cases us with
  | nil => cases h
  | cons a r => obtain ⟨b, rfl⟩ := ul1 (Nat.succ.inj h); exact ⟨a, b, rfl⟩
theorem ul3 {us : List Value} (h : us.length = 3) : ∃ a b c, us = [a, b, c] := by
  cases us with
  | nil => cases h
  | cons a r => obtain ⟨b, c, rfl⟩ := ul2 (Nat.succ.inj h); exact ⟨a, b, c, rfl⟩
theorem ul4 {us : List Value} (h : us.length = 4) : ∃ a b c d, us = [a, b, c, d] := by
  cases us with
  | nil => cases h
  | cons a r => obtain ⟨b, c, d, rfl⟩ := ul3 (Nat.succ.inj h); exact ⟨a, b, c, d, rfl⟩
section
variable {K : PySem.W.Frag} {x qual p q r s t u : Str} {st : Stmt} {g : Addr} {fd : FuncData}
abbrev fnQ (x qual : Str) (st : Stmt) (kV doc pm : Value) (an : Option Addr) (cdv ct : Value) : FuncData := PySem.W.fnOf x qual (defArgs st) (defBody st) (defScope st) .none kV doc pm an cdv ct
theorem Fun.b1 (F : Fun K x qual st g fd) (h : ∀ kV doc pm an cdv ct a, bindArgs (fnQ x qual st kV doc pm an cdv ct) ⟨[a], []⟩ = pure [(p, a)]) : Binds K fd [p] [] := F.binds fun kV doc pm an cdv ct us hl => by
  obtain ⟨a, rfl⟩ := ul1 hl
  exact h kV doc pm an cdv ct a
theorem Fun.b2 (F : Fun K x qual st g fd) (h : ∀ kV doc pm an cdv ct a b, bindArgs (fnQ x qual st kV doc pm an cdv ct) ⟨[a, b], []⟩ = pure [(p, a), (q, b)]) : Binds K fd [p, q] [] := F.binds fun kV doc pm an cdv ct us hl => by
  obtain ⟨a, b, rfl⟩ := ul2 hl
  exact h kV doc pm an cdv ct a b
theorem Fun.b3 (F : Fun K x qual st g fd) (h : ∀ kV doc pm an cdv ct a b c, bindArgs (fnQ x qual st kV doc pm an cdv ct) ⟨[a, b, c], []⟩ = pure [(p, a), (q, b), (r, c)]) : Binds K fd [p, q, r] [] := F.binds fun kV doc pm an cdv ct us hl => by
  obtain ⟨a, b, c, rfl⟩ := ul3 hl
  exact h kV doc pm an cdv ct a b c
theorem Fun.b4 (F : Fun K x qual st g fd) (h : ∀ kV doc pm an cdv ct a b c d, bindArgs (fnQ x qual st kV doc pm an cdv ct) ⟨[a, b, c, d], []⟩ = pure [(p, a), (q, b), (r, c), (s, d)]) : Binds K fd [p, q, r, s] [] := F.binds fun kV doc pm an cdv ct us hl => by
  obtain ⟨a, b, c, d, rfl⟩ := ul4 hl
  exact h kV doc pm an cdv ct a b c d
end
end L2
set_option Elab.async false
set_option linter.all false
set_option maxRecDepth 100000
/-! errors of own classes: raise, and how they pass through defs -/
namespace L2
open PySem PySem.Spec PyProof.Rows
section
variable {P : Program} {w : World} {H H' : Hp} {h h' : Heap} {a : Addr} {o : HO}
theorem ObjOk.there (x : ObjOk P w H h a o) : ∃ ob, h.get? a = some ob := by
  cases o with
  | lst xs => obtain ⟨_, _, _, _, e⟩ := x; exact ⟨_, e⟩
  | tup xs => obtain ⟨_, _, _, ob, e, _⟩ := x; exact ⟨_, e⟩
  | dK kvs => obtain ⟨_, _, _, _, o, _, _, e, _⟩ := x; exact ⟨_, e⟩
  | dT kvs => obtain ⟨_, _, _, _, o, _, _, e, _⟩ := x; exact ⟨_, e⟩
  | set S n => obtain ⟨o, _, _, _, e, _⟩ := x; exact ⟨_, e⟩
  | ins C dx fs => obtain ⟨_, _, _, e, _⟩ := x; exact ⟨_, e⟩
  | own y => exact x
  | xd fs => obtain ⟨_, ⟨_, _, _, e, _⟩, _⟩ := x; exact ⟨_, e⟩
  | rng lo hi => obtain ⟨_, _, _, e⟩ := x; exact ⟨_, e⟩
  | frz ob u => obtain ⟨e, _⟩ := x; exact ⟨_, e⟩
  | tbl ps => exact ⟨_, x⟩
  | met f y => exact ⟨_, x⟩
  | ext φ => obtain ⟨_, ⟨_, e⟩, _⟩ := x; exact ⟨_, e⟩
theorem HOk.none (x : HOk P w H h) (e : h.get? a = .none) : H a = .none := by
  cases q : H a with
  | none => rfl
  | some u => obtain ⟨_, e'⟩ := (x a u q).there; rw [e] at e'; cases e'
theorem funs_un {base : Heap} {fs : List Addr} (u : Un fs [] H H' h h') : ∀ {l : List Env}, (∀ b ∈ frs l, b ∈ fs ∧ H b = .none) → h.FunFrames base l → h'.FunFrames base l
  | [], _, _ => trivial
  | env :: r, hs, hl => by
    obtain ⟨hk, ⟨L, o, hf, hn, ho, hd⟩, hr⟩ := hl
    have hL := hs L (by unfold frs; rw [List.filterMap_cons, hf]; exact List.mem_cons_self)
    obtain ⟨sl, e⟩ := u.slot L o ho hL.2 hL.1 (by simp)
    exact ⟨hk, ⟨L, _, hf, hn, e, hd⟩, funs_un u (fun b hb => hs b (by unfold frs; rw [List.filterMap_cons, hf]; exact List.mem_cons_of_mem _ hb)) hr⟩
end
/-- how an error's record stands: new, or with its traceback; g: the heap ahead of it -/
inductive XRec (g h : Heap) (H' : Hp) (a : Addr) (cls : Value) : Bool → Prop
  | new (oe : Obj) (vs : Array Value) (he : h.get? a = some oe) (hc : oe.cls = cls) (hd : oe.data = .fields vs) (hdi : oe.dict = none) (hn : H' a = none) (hg : g.get? a = none) (h1 : vs[1]? = some .none) : XRec g h H' a cls true
  | old (oe : Obj) (vs : Array Value) (he : h.get? a = some oe) (hc : oe.cls = cls) (hd : oe.data = .fields vs) (hdi : oe.dict = none) (hn : H' a = none) (hg : g.get? a = none) (T : Addr) (oT : Obj) (ts : Array Value) (h1 : vs[1]? = some (.ref T)) (ht : T ≠ a) (hT : h.get? T = some oT)
      (hdT : oT.data = .fields ts) (h3 : ts[3]? = some .none) (hnT : H' T = none) (hgT : g.get? T = none) : XRec g h H' a cls false
theorem XRec.base {g h : Heap} {H' : Hp} {a : Addr} {cls : Value} {b : Bool} (x : XRec g h H' a cls b) : H' a = none ∧ g.get? a = none := by
  cases x with
  | new oe vs he hc hd hdi hn hg => exact ⟨hn, hg⟩
  | old oe vs he hc hd hdi hn hg => exact ⟨hn, hg⟩
structure EX (P : Program) (w : World) (st : List Env) (H : Hp) (s : Shared) (new : Bool) (cls : Value) (a : Addr) (H' : Hp) (s' : Shared) : Prop where
  os : s'.os = s.os
  bare : AllBare s'.gens
  un : Un (frs st) [] H H' s.heap s'.heap
  hok : HOk P w H' s'.heap
  rc : XRec s.heap s'.heap H' a cls new
def CX1 (P : Program) (w : World) : CXT := fun outer H s E e s' => ∃ a cls H', e = .ref a ∧ EX P w outer H s false cls a H' s' ∧ E cls none H'
section
variable {X : Cx} {pins : List (Addr × Obj)} {σ : St} {H H' : Hp} {s s₁ : Shared} {cls : Value} {a : Addr} {new : Bool}
/-- behind an error, in the same def -/
theorem EX.inv (I : Inv X pins σ H s) (x : EX X.prog X.w X.stack H s new cls a H' s₁) : Inv X pins σ H' s₁ := I.call' x.os x.un x.hok x.bare fun b hb => by simp at hb
/-- what a frame's note leaves -/
structure Noted (fs : List Addr) (e : Addr) (oe : Obj) (h h₃ : Heap) : Prop where
  stay : ∀ b o, b ∉ fs → b ≠ e → h.get? b = some o → h₃.get? b = some o
  slot : ∀ b ∈ fs, ∀ o, h.get? b = some o → ∃ sl, h₃.get? b = some { o with slots := sl }
  tr : ∃ T oT ts, h.objs.size ≤ T ∧ h₃.get? e = some (oe.mapFields fun z => z.setIfInBounds 1 (.ref T)) ∧ h₃.get? T = some oT ∧ oT.data = .fields ts ∧ ts[3]? = some .none
theorem x_entry {M : Model} {A : Around} {E : Value → Shared → Prop} {s : Shared} {base : Heap} {env : Env} {outer : List Env} {L e : Addr} {oe : Obj} {vs : Array Value} {head : Value} {hadNext : Bool} {Q : Unit → Shared → Prop}
    (hfr : A.frames = some (env :: outer)) (hl : s.heap.FunFrames base (env :: outer)) (hf : env.frame = some L) (he : s.heap.get? e = some oe) (hd : oe.data = .fields vs) (hsz : 1 < vs.size) (h : ∀ h₃, Noted (frs (env :: outer)) e oe s.heap h₃ → Q () { s with heap := h₃ }) :
    wpAny M A (do let a ← frameOf env; let pl ← entryPlaceOf L hadNext; let b ← EntryCells.newEntry head a .none (rawInt L) .none pl; setField (.ref e) 1 b) (fun _ s' => wpAny M A (setFlight (.ref e) none) Q E s') E s := by
  have hene : e ∉ frs (env :: outer) := fun hm => by
    obtain ⟨_, o, ho, hnf⟩ := hl.mem hm
    rw [he] at ho; cases ho; exact hnf vs hd
  refine wpAny_bind (wpAny_frameOf_fun hfr hl hf fun h₁ hs₁ => wpAny_bind (wpAny_entryPlaceOf fun pl hpl => ?_))
  unfold EntryCells.newEntry newFields
  refine wpAny_bind (wpAny_newObj_type ?_ (hpl.sizeOk5 _ _ _ _ _))
  generalize htb : ({ cls := .type "traceback", dict := none, data := .fields ([head, .ref L, .none, rawInt L, .none] ++ (if pl.isEmpty then List.replicate 6 Value.none else pl)).toArray } : Obj) = tb
  have he₁ : h₁.get? e = some oe := (hs₁.2.1 e hene).trans he
  have he₂ : (h₁.push tb).get? e = some oe := Heap.get?_push_of_some _ he₁
  refine wpAny_setField he₂ hd hsz ?_
  have nTe : h₁.objs.size ≠ e := Nat.ne_of_gt (Heap.lt_size he₁)
  have hd₃ := Obj.data_mapFields hd fun z => z.setIfInBounds 1 (Value.ref h₁.objs.size)
  have he₃ := Heap.get?_update_self (Obj.mapFields fun z => z.setIfInBounds 1 (Value.ref h₁.objs.size)) he₂ (Obj.isFreed_of_fields hd₃)
  have dtb : tb.data = .fields ([head, .ref L, .none, rawInt L, .none] ++ (if pl.isEmpty then List.replicate 6 Value.none else pl)).toArray := by rw [← htb]
  have htbf : tb.isFreed = false := Obj.isFreed_of_fields dtb
  have hT₃ := (Heap.get?_update_other (h₁.push tb) (Obj.mapFields fun z => z.setIfInBounds 1 (Value.ref h₁.objs.size)) (Ne.symm nTe)).trans (Heap.get?_push_size h₁ htbf)
  unfold setFlight
  refine wpAny_bind (wpAny_field he₃ hd₃ (x := .ref h₁.objs.size) (by simp [hsz]) ?_)
  rw [if_pos (show (Value.ref h₁.objs.size != Value.none) = true by simp)]
  have sz5 : 3 < ([head, .ref L, .none, rawInt L, .none] ++ (if pl.isEmpty then List.replicate 6 Value.none else pl)).toArray.size := by
    rw [List.size_toArray, List.length_append]
    exact Nat.lt_of_lt_of_le (by decide : 3 < 5) (Nat.le_add_right _ _)
  refine wpAny_setField hT₃ dtb sz5 (h _ ⟨fun b o hb hbe hbo => ?_, fun b hb o hbo => ?_, ?_⟩)
  · have hb1 : h₁.get? b = some o := (hs₁.2.1 b hb).trans hbo
    rw [Heap.get?_update_other _ _ (Nat.ne_of_gt (Heap.lt_size hb1)), Heap.get?_update_other _ _ (Ne.symm hbe)]
    exact Heap.get?_push_of_some _ hb1
  · obtain ⟨sl, hb1⟩ := hs₁.2.2 b o hbo
    refine ⟨sl, ?_⟩
    rw [Heap.get?_update_other _ _ (Nat.ne_of_gt (Heap.lt_size hb1)), Heap.get?_update_other _ _ (fun q => hene (by rw [q]; exact hb))]
    exact Heap.get?_push_of_some _ hb1
  · refine ⟨h₁.objs.size, _, _, Nat.le_of_eq hs₁.1.symm, ?_, Heap.get?_update_self _ hT₃ (Obj.isFreed_of_fields (Obj.data_mapFields dtb _)), Obj.data_mapFields dtb _, ?_⟩
    · rw [Heap.get?_update_other _ _ nTe]; exact he₃
    · rw [Array.getElem?_setIfInBounds_self_of_lt sz5]
      rfl
theorem EX.fin (I : Inv X pins σ H s) (x : EX X.prog X.w X.stack H s new cls a H' s₁) {oe : Obj} {vs : Array Value} (he : s₁.heap.get? a = some oe) (hc : oe.cls = cls) (hd : oe.data = .fields vs) (hdi : oe.dict = none) (hv : 1 < vs.size) {T0 : Option Addr}
    (hT0 : ∀ T, T0 = some T → H' T = none ∧ s.heap.get? T = none) {g h₃ : Heap} (hg : ∀ b o, (∀ T, T0 = some T → b ≠ T) → s₁.heap.get? b = some o → g.get? b = some o) (hgf : ∀ b ∈ frs X.stack, ∀ o, s₁.heap.get? b = some o → g.get? b = some o) (hgs : s₁.heap.objs.size ≤ g.objs.size)
    (hge : g.get? a = some oe) (nt : Noted (frs X.stack) a oe g h₃) : EX X.prog X.w X.stack H s false cls a H' { s₁ with heap := h₃ } := by
  obtain ⟨stay, slot, T, oT, ts, hTs, heT, hT, hdT, h3⟩ := nt
  obtain ⟨b1, b2⟩ := x.rc.base
  have frm : ∀ b ∈ frs X.stack, ∀ o, s.heap.get? b = some o → ∃ sl, h₃.get? b = some { o with slots := sl } := fun b hb o e => by
    obtain ⟨sl, e1⟩ := x.un.slot b o e (I.stkFree b hb) hb (by simp)
    obtain ⟨sl', e2⟩ := slot b hb _ (hgf b hb _ e1)
    exact ⟨sl', e2⟩
  have frn : ∀ b ∈ frs X.stack, H' b = none := fun b hb => by
    obtain ⟨_, o, ho, _⟩ := I.stack.mem hb
    exact x.un.free b o ho (I.stkFree b hb) (by simp)
  refine ⟨x.os, x.bare, ⟨fun b o e n hb _ => ?_, fun b o e n hb _ => frm b hb o e, x.un.free, fun b o e _ => ?_, x.un.tups, x.un.frzs, x.un.tbls⟩, fun b ob e => ?_, ?_⟩
  · refine stay b o hb (fun q => by rw [q, b2] at e; cases e) (hg b o (fun T hT q => by rw [q, (hT0 T hT).2] at e; cases e) (x.un.keep b o e n hb (by simp)))
  · by_cases hm : b ∈ frs X.stack
    · obtain ⟨sl, e2⟩ := frm b hm o e
      exact ⟨_, e2⟩
    · obtain ⟨o', e1⟩ := x.un.there b o e (by simp)
      exact ⟨o', stay b o' hm (fun q => by rw [q, b2] at e; cases e) (hg b o' (fun T hT q => by rw [q, (hT0 T hT).2] at e; cases e) e1)⟩
  · refine (x.hok b ob e).stay (fun c u hc q => ?_) (fun _ q => q) fun _ _ q => q
    have tr : ∃ v, H' c = some v := by
      rcases hc with rfl | hc
      · exact ⟨_, e⟩
      · exact ⟨_, hc⟩
    obtain ⟨v, tr⟩ := tr
    refine stay c u (fun hm => ?_) (fun z => ?_) (hg c u (fun T hT z => ?_) q)
    · rw [frn c hm] at tr; cases tr
    · rw [z, b1] at tr; cases tr
    · rw [z, (hT0 T hT).1] at tr; cases tr
  · have hTn : s₁.heap.get? T = none := Heap.get?_none_of_le (Nat.le_trans hgs hTs)
    have hTa : T ≠ a := fun z => by rw [z, he] at hTn; cases hTn
    refine .old _ _ heT ((Obj.cls_mapFields ..).trans hc) (Obj.data_mapFields hd _) ?_ b1 b2 T oT ts (by simp [hv]) hTa hT hdT h3 (x.hok.none hTn) ?_
    · obtain ⟨c0, d0, dt, sl⟩ := oe
      dsimp only at hd hdi
      subst hd hdi
      rfl
    · cases q : s.heap.get? T with
      | none => rfl
      | some o => obtain ⟨o', e2⟩ := x.un.there T o q (by simp); rw [hTn] at e2; cases e2
/-- the frame is noted in the error's traceback -/
theorem note_ex {M : Model} {A : Around} {Q : Unit → Shared → Prop} {E : Value → Shared → Prop} (I : Inv X pins σ H s) (hst : X.stack = X.env :: X.outer) (hf : X.env.frame = some X.env.locals) (hA : A.frames = some X.stack) (x : EX X.prog X.w X.stack H s new cls a H' s₁)
    (h : ∀ h₃, EX X.prog X.w X.stack H s false cls a H' { s₁ with heap := h₃ } → Q () { s₁ with heap := h₃ }) : wpAny M A (noteFrame (.ref a) X.env) (fun _ s₂ => wpAny M A (setFlight (.ref a) none) Q E s₂) E s₁ := by
  have hfun : s₁.heap.FunFrames X.base X.stack := funs_un x.un (fun b hb => ⟨hb, I.stkFree b hb⟩) I.stack
  have rc := x.rc
  cases rc with
  | new oe vs he hc hd hdi hn hg h1 =>
    unfold noteFrame
    simp only [hf]
    refine wpAny_bind (wpAny_field he hd h1 ?_)
    rw [if_neg (by decide)]
    rw [hst] at hA hfun
    refine x_entry hA hfun hf he hd (Array.getElem?_eq_some_iff.mp h1).1 fun h₃ nt => h h₃ (x.fin I he hc hd hdi (Array.getElem?_eq_some_iff.mp h1).1 (T0 := none) (fun _ z => nomatch z) (g := s₁.heap) (fun _ _ _ e => e) (fun _ _ _ e => e) (Nat.le_refl _) he ?_)
    rw [hst]
    exact nt
  | old oe vs he hc hd hdi hn hg T oT ts h1 ht hT hdT h3 hnT hgT =>
    unfold noteFrame
    simp only [hf]
    refine wpAny_bind (wpAny_field he hd h1 ?_)
    rw [if_pos (show (Value.ref T != Value.none) = true by simp)]
    refine wpAny_bind (wpAny_field hT hdT h3 ?_)
    rw [if_neg (show ¬ ((Value.none == rawInt X.env.locals) = true) by simp [rawInt])]
    refine wpAny_bind (wpAny_setField hT hdT (Array.getElem?_eq_some_iff.mp h3).1 ?_)
    have oth : ∀ c, c ≠ T → (s₁.heap.update T (Obj.mapFields fun z => z.setIfInBounds 3 Value.none)).get? c = s₁.heap.get? c := fun c hc => Heap.get?_update_other _ _ (Ne.symm hc)
    have nrec : ∀ c o, s₁.heap.get? c = some o → (∀ z, o.data ≠ .fields z) → c ≠ T := fun c o hc hnf q => by rw [q, hT] at hc; cases hc; exact hnf ts hdT
    have nfr : ∀ c ∈ frs X.stack, c ≠ T := fun c hc q => by
      obtain ⟨_, o, ho, hnf⟩ := hfun.mem hc
      exact nrec c o ho hnf q
    have hfun2 : (s₁.heap.update T (Obj.mapFields fun z => z.setIfInBounds 3 Value.none)).FunFrames X.base X.stack := hfun.of_keeps fun c o hc hnf => ⟨o, (oth c (nrec c o hc hnf)).trans hc, rfl⟩
    rw [hst] at hA hfun2
    have hv := (Array.getElem?_eq_some_iff.mp h1).1
    refine x_entry hA hfun2 hf ((oth a (Ne.symm ht)).trans he) hd hv fun h₃ nt => h h₃ (x.fin I he hc hd hdi hv (T0 := some T) (fun T' z => by cases z; exact ⟨hnT, hgT⟩) (g := s₁.heap.update T (Obj.mapFields fun z => z.setIfInBounds 3 Value.none)) (fun c o n e => (oth c (n T rfl)).trans e) (fun c hc o e => (oth c (nfr c hc)).trans e) (Nat.le_of_eq (Heap.size_after_update ..).symm) ((oth a (Ne.symm ht)).trans he) ?_)
    rw [hst]
    exact nt
/-- an error leaves a def -/
theorem leave_ex {M : Model} {A : Around} {Q : Unit → Shared → Prop} {E : Value → Shared → Prop} (I : Inv X pins σ H s) (hst : X.stack = X.env :: X.outer) (hf : X.env.frame = some X.env.locals) (hA : A.frames = some X.stack) (x : EX X.prog X.w X.stack H s new cls a H' s₁)
    (h : ∀ h₃, EX X.prog X.w X.stack H s false cls a H' { s₁ with heap := h₃ } → Q () { s₁ with heap := h₃ }) : wpAny M A (leaving X.env (.ref a)) Q E s₁ := by
  unfold leaving
  exact wpAny_bind (note_ex I hst hf hA x h)
/-- as the callers see it -/
theorem EX.out (I : Inv X pins σ H s) (hex : X.ex = []) (x : EX X.prog X.w X.stack H s false cls a H' s₁) : EX X.prog X.w X.outer X.H₀ X.s₀ false cls a H' s₁ := by
  have base := I.base
  rw [hex] at base
  have gone : ∀ {b : Addr}, s.heap.get? b = none → X.s₀.heap.get? b = none := fun {b} e => by
    cases q : X.s₀.heap.get? b with
    | none => rfl
    | some o => obtain ⟨o', e2⟩ := base.there b o q (by simp); rw [e] at e2; cases e2
  have nst : ∀ {b : Addr} {o : Obj}, X.s₀.heap.get? b = some o → b ∉ X.fs → b ∉ frs X.stack := fun {b o} e n hm => by
    rcases List.mem_cons.mp (I.stkSub b hm) with z | z
    · exact absurd (Nat.lt_of_lt_of_le (Heap.lt_size e) I.ok.above) (by rw [z]; exact Nat.lt_irrefl _)
    · exact n z
  refine ⟨x.os.trans I.os, x.bare, ⟨fun b o e n hb _ => x.un.keep b o (base.keep b o e n hb (by simp)) (base.free b o e n (by simp)) (nst e hb) (by simp), fun b o e n hb _ => ?_, fun b o e n _ => ?_, fun b o e _ => ?_, fun b xs e => x.un.tups b xs (base.tups b xs e), fun b o u e => x.un.frzs b o u (base.frzs b o u e), fun b ps e => ?_⟩, x.hok, ?_⟩
  · obtain ⟨sl, e1⟩ := base.slot b o e n hb (by simp)
    obtain ⟨sl', e2⟩ := x.un.any e1 (base.free b o e n (by simp)) (by simp)
    exact ⟨sl', e2⟩
  · obtain ⟨sl, e1⟩ := base.any e n (by simp)
    exact x.un.free b _ e1 (base.free b o e n (by simp)) (by simp)
  · obtain ⟨o', e1⟩ := base.there b o e (by simp)
    exact x.un.there b o' e1 (by simp)
  · obtain ⟨m1, e1⟩ := base.tbls b ps e
    obtain ⟨m2, e2⟩ := x.un.tbls b _ e1
    exact ⟨m1 ++ m2, by rw [e2, Array.append_assoc]⟩
  · have rc := x.rc
    cases rc with
    | old oe vs he hc hd hdi hn hg T oT ts h1 ht hT hdT h3 hnT hgT => exact .old oe vs he hc hd hdi hn (gone hg) T oT ts h1 ht hT hdT h3 hnT (gone hgT)
end
/-- what a context wishes of errors -/
structure Wish (X : Cx) (E : XK) : Prop where
  go : ∀ (pins : List (Addr × Obj)) (σ : St) (H : Hp) (s : Shared) (new : Bool) (cls : Value) (a : Addr) (H' : Hp) (s₁ : Shared), Inv X pins σ H s → EX X.prog X.w X.stack H s new cls a H' s₁ → E cls none H' → X.xe (.ref a) s₁
theorem Wish.pass {X : Cx} {E : XK} (W : Wish X E) : Passes (CX1 X.prog X.w) X E := fun pins σ H s e s' I ⟨a, cls, H', e1, x, q⟩ => by
  subst e1
  exact W.go pins σ H s false cls a H' s' I x q
/-- a def's body -/
theorem wish_def {P : Program} {w : World} {K : PySem.W.Frag} {mg : Str → Option Value} {base : Heap} {N : List Str} {qual : Str} {scope : Scope} {f : Addr} {cd : Value} {A : Around} {outer : List Env} {s : Shared} {H : Hp} {E : XK} : Wish (cxOf (CX1 P w) P w K mg base N qual scope f cd A outer s H E) E where
  go := fun pins σ H1 s1 new cls a H' s₁ I x q => by
    show wpAny (model P w) (A.deeper (envOfC qual scope s.heap.objs.size f cd)) (leaving (envOfC qual scope s.heap.objs.size f cd) (.ref a)) _ _ s₁
    refine leave_ex I rfl rfl I.ok.frames x fun h₃ x' => ⟨a, cls, H', rfl, x'.out I rfl, q⟩
end L2
set_option Elab.async false
set_option linter.all false
set_option maxRecDepth 100000
namespace L2
open PySem PySem.Spec PyProof.Rows
/-- an own class of errors, as it lies -/
theorem own_at {K : PySem.W.Frag} {h : Heap} {C : Addr} {bmB : List Value} {newId : String} (X : K.In h) (q : PySem.W.excIn K C bmB newId = true) :
    ∃ bm N nm q bs hdct sn sub ab col dd k0 k1 k2 k3 k5 mN, h.get? C = some (excClassObj nm q C N bs bm hdct sn sub ab col dd k0 k1 k2 k3 k5 newId) ∧ h.Ns N mN ∧ mN "__init__" = none ∧ OwnTail h bmB bm := by
  unfold PySem.W.excIn at q
  split at q
  · rename_i dd cd sl ho
    split at q
    · rename_i C' bm k0 k1 k2 k3 n k5 hm hs
      simp only [Bool.and_eq_true, beq_iff_eq, Bool.not_eq_true'] at q
      obtain ⟨⟨⟨⟨⟨rfl, rfl⟩, hdel⟩, ht⟩, hok⟩, hni⟩ := q
      obtain ⟨nm, bs, mro, ns, qn, hd, sn, sub, ab, col, del⟩ := cd
      dsimp only at hm hdel hok hni
      subst hm hdel
      have hsl : sl = #[k0, k1, k2, k3, some (.builtin n), k5] := by obtain ⟨l⟩ := sl; simp only at hs; rw [hs]
      subst hsl
      exact ⟨bm, ns, nm, qn, bs, hd, sn, sub, ab, col, dd, k0, k1, k2, k3, k5, _, X _ _ ho, .of_isNs (PySem.W.isNs_of_in X hok), PySem.W.nsMap_none_of_in X hok hni, PySem.W.tail_of_in X ht⟩
    · cases q
  · cases q
abbrev bmV : List Value := [.type "ValueError", .type "Exception", .type "BaseException", .type "object"]
/-- an own class of errors over ValueError, by its name -/
structure XCls (K : PySem.W.Frag) (mg : Str → Option Value) (x : Str) (C : Addr) : Prop where
  m : mg x = some (.ref C)
  ok : PySem.W.excIn K C bmV "ValueError.__new__" = true
/-- raise C(..) -/
inductive tRaise (t : TA) (cls : Value) (E : XK) (D : Ends) (σ : St) (H : Hp) : Prop
  | mk (h : t σ H fun vs H1 => vs.length ≤ sizeLine ∧ E cls none H1) : tRaise t cls E D σ H
section
variable {X : Cx} {E : XK} {x : Str} {C : Addr} {e₀ : Expr} {rest : List Expr} {t : TA} {np cpos pos : Pos}
theorem ps_raise (W : Wish X E) (hc : X.calm = true) (hC : XCls X.K X.mg x C) (ha : PA X (e₀ :: rest) t) (hg : Gl X x := by rfl) (he : starEach (e₀ :: rest) X.env = (false, eval e₀ X.env) :: starEach rest X.env := by rfl)
    (hpl : (backTo cpos (starEach rest X.env)).any (·.1) = false := by rfl) (hdb : (x == ("__debug__" : Str)) = false := by decide) : PS X (.Raise (some (.Call (.Name x np) (e₀ :: rest) [] cpos)) none pos) (tRaise t (.ref C) E) := by
  refine ⟨?_⟩
  intro pins s σ H D I h
  obtain ⟨h⟩ := h
  obtain ⟨bm, N, nm, q, bs, hdct, sn, sub, ab, col, dd, k0, k1, k2, k3, k5, mN, hCo, hN, hni, T⟩ := own_at I.mod.kin hC.ok
  refine wpAny_Raise_call_subT (C := C) (nm := nm) (q := q) (N := N) (bs := bs) (bm := bm) (hdct := hdct) (sn := sn) (sub := sub) (ab := ab) (col := col) (dd := dd) (k0 := k0) (k1 := k1) (k2 := k2) (k3 := k3) (k5 := k5) PySem.F.excBase_ValueError (mN := mN)
    (T.hasType PySem.F.excBase_ValueError.hasBase) (I.ok.hd hc) (by rw [he]; show (false || (backTo cpos (starEach rest X.env)).any (·.1)) = false; rw [hpl]; rfl) hni (ld_glob I hg hC.m ⟨rfl, ?_⟩ hdb)
  have hw := ha cpos pins s σ H _ I h
  rw [he] at hw ⊢
  refine Calls.evalArgs_plain (wpAny_mono hw (fun us s₂ h₂ => ?_) fun _ _ y => y)
  obtain ⟨vs, H1, I1, r, hl, qe⟩ := h₂
  refine ⟨rfl, by rw [← r.length]; exact hl, I1.bk _ _ hCo, hN.keeps I1.bk, T.keeps I1.bk, fun h' e hm => ?_⟩
  obtain ⟨tt, he', _, _⟩ := hm.there
  exact W.go pins σ H1 s₂ true (.ref C) e H1 { s₂ with heap := h' } I1 ⟨rfl, I1.bare, Un.kept hm.keeps, I1.hok.kept hm.keeps, .new _ _ he' rfl rfl rfl (I1.hok.none hm.new) hm.new rfl⟩ qe
end
/-- a def from which errors may leave -/
def CanX (P : Program) (w : World) (K : PySem.W.Frag) (mg : Str → Option Value) (base : Heap) (k : Nat) (x : Str) (ps : List Str) (sp : Sp) : Prop :=
  ∃ f fd, FnOk P w K mg base (CX1 P w) k f fd ps sp ∧ mg x = some (.ref f) ∧ PySem.W.keepIn K (.ref f) = true ∧ Binds K fd ps []
section
variable {P : Program} {w : World} {K : PySem.W.Frag} {mg : Str → Option Value} {base : Heap}
theorem fn_canX {x : Str} {st : Stmt} {N ps : List Str} {k : Nat} {sp : Sp} (h : ∃ f fd, Fn K mg x st ps f fd) (S : FnScope N ps (defScope st)) (len : ∀ vs H Q E, sp vs H Q E → vs.length = ps.length)
    (hbody : ∀ (f : Addr) (cdv : Value) (A : Around) (outer : List Env) (s : Shared) (H : Hp) (vs : List V) (Q : VK) (E : XK), Room k (A.deeper (envOfC x (defScope st) s.heap.objs.size f cdv)) → Wish (cxOf (CX1 P w) P w K mg base N x (defScope st) f cdv A outer s H E) E → sp vs H Q E →
      ∃ t, PSs (cxOf (CX1 P w) P w K mg base N x (defScope st) f cdv A outer s H E) (defBody st) t ∧ t { nx := fun _ H' => Q .non H', rt := Q } (start N vs) H) : CanX P w K mg base (k + 1) x ps sp := by
  obtain ⟨f, fd, F⟩ := h
  obtain ⟨oc, od, kV, doc, pm, an, cdv, ct, osl, e, lk, hcd⟩ := F.fn.ex
  refine ⟨f, fd, ?_, F.m, F.fn.kp, F.b⟩
  subst e
  exact fn_of lk hcd S len fun A outer s H vs Q E hr hsp => hbody f cdv A outer s H vs Q E hr wish_def hsp
end
section
variable {X : Cx} {k k' : Nat} {x : Str} {ps : List Str} {sp : Sp} {p pos : Pos} {e : Expr} {es : List Expr} {t : TA} {E : XK}
theorem pe_canX (h : CanX X.prog X.w X.K X.mg X.base k x ps sp) (W : Wish X E) (hr : Room k' X.A) (ha : PA X (e :: es) t) (hg : Gl X x := by rfl) (hk : k ≤ k' := by decide) (hdb : (x == ("__debug__" : Str)) = false := by decide)
    (hs : starEach (e :: es) X.env = (false, eval e X.env) :: starEach es X.env := by rfl) (hpl : (backTo pos (starEach es X.env)).any (·.1) = false := by rfl) : PE X (.Call (.Name x p) (e :: es) [] pos) (tCall sp [] E t) := by
  obtain ⟨f, fd, F, hm, kp, b⟩ := h
  exact pe_call F (hr.mono hk) hg hm kp b .nil W.pass ha hdb hs hpl
end
/-! ### try -/
abbrev Cx.tryC (X : Cx) (pn : List (Addr × Obj)) (xe : Value → Shared → Prop) : Cx := { X with pn := pn, xe := xe }
abbrev Cx.mark (X : Cx) (a : Addr) : Cx := { X with A := X.A.mark (some (.ref a)), calm := false, xe := fun _ _ => False }
section
variable {X : Cx} {pins pins2 : List (Addr × Obj)} {σ : St} {H : Hp} {s : Shared} {xe : Value → Shared → Prop} {a : Addr}
theorem Cx.Ok.tryC (ok : X.Ok) (pn : List (Addr × Obj)) (xe : Value → Shared → Prop) : (X.tryC pn xe).Ok :=
  ⟨ok.mod, ok.kind, ok.glob, ok.blt, ok.above, ok.inj, ok.has, ok.cab, ok.hd, ok.frames, ok.stk, ok.exf, ok.bs, ok.bsz, ok.noex, ok.exfs, ok.funs, ok.frf⟩
theorem Cx.Ok.untry {pn : List (Addr × Obj)} (ok : (X.tryC pn xe).Ok) : X.Ok :=
  ⟨ok.mod, ok.kind, ok.glob, ok.blt, ok.above, ok.inj, ok.has, ok.cab, ok.hd, ok.frames, ok.stk, ok.exf, ok.bs, ok.bsz, ok.noex, ok.exfs, ok.funs, ok.frf⟩
theorem Inv.tryC (I : Inv X pins σ H s) (xe : Value → Shared → Prop) : Inv (X.tryC (X.pn ++ pins) xe) [] σ H s :=
  ⟨I.ok.tryC _ _, I.os, I.bare, I.base, I.loc, I.cell, I.free, I.freeC, fun p hp => I.pin p (by simpa using hp), I.hok, I.len⟩
theorem Inv.untry (I : Inv (X.tryC (X.pn ++ pins) xe) pins2 σ H s) : Inv X pins σ H s :=
  ⟨I.ok.untry, I.os, I.bare, I.base, I.loc, I.cell, I.free, I.freeC, fun p hp => I.pin p (List.mem_append_left _ hp), I.hok, I.len⟩
theorem SP.untry {D : Ends} {f : Flow} {s' : Shared} (h : SP (X.tryC (X.pn ++ pins) xe) pins2 D f s') : SP X pins D f s' := by
  cases f with
  | next => obtain ⟨σ', H', I, q⟩ := h; exact ⟨σ', H', I.untry, q⟩
  | brk => obtain ⟨σ', H', I, q⟩ := h; exact ⟨σ', H', I.untry, q⟩
  | cont => obtain ⟨σ', H', I, q⟩ := h; exact ⟨σ', H', I.untry, q⟩
  | ret u => obtain ⟨v, σ', H', I, r, q⟩ := h; exact ⟨v, σ', H', I.untry, r, q⟩
theorem Inv.mark (I : Inv X pins σ H s) (a : Addr) : Inv (X.mark a) pins σ H s :=
  ⟨⟨I.ok.mod, I.ok.kind, I.ok.glob, I.ok.blt, I.ok.above, I.ok.inj, I.ok.has, I.ok.cab, (fun z => nomatch z), I.ok.frames, I.ok.stk, I.ok.exf, I.ok.bs, I.ok.bsz, I.ok.noex, I.ok.exfs, I.ok.funs, I.ok.frf⟩, I.os, I.bare, I.base, I.loc, I.cell, I.free, I.freeC, I.pin, I.hok, I.len⟩
theorem Inv.unmark (ok : X.Ok) (I : Inv (X.mark a) pins σ H s) : Inv X pins σ H s := ⟨ok, I.os, I.bare, I.base, I.loc, I.cell, I.free, I.freeC, I.pin, I.hok, I.len⟩
end
/-- the clauses of a try, at an error of that class -/
def PHs (X : Cx) (hs : List ExceptHandler) (th : Value → TS) : Prop :=
  ∀ (pins : List (Addr × Obj)) (s : Shared) (σ : St) (H : Hp) (D : Ends) (a : Addr) (cls : Value) (g : Heap), Inv X pins σ H s → XRec g s.heap H a cls false → X.s₀.heap.get? a = none → (∀ p ∈ X.pn ++ pins, p.1 ≠ a) → th cls D σ H → wpAny (model X.prog X.w) X.A (handleBy (.ref a) X.env hs) (SP X pins D) X.xe s
def tTry (n : Nat) (t : XK → TS) (th : Value → TS) : TS := fun D σ H => t (fun cls _ H' => ∀ σ' : St, σ'.length = n → th cls D σ' H') D σ H
section
variable {X : Cx} {body : List Stmt} {h₀ : ExceptHandler} {hs : List ExceptHandler} {t : XK → TS} {th : Value → TS} {pos : Pos}
theorem ps_try {n : Nat} (hb : ∀ (pn : List (Addr × Obj)) (xe : Value → Shared → Prop) (E : XK), Wish (X.tryC pn xe) E → PSs (X.tryC pn xe) body (t E)) (hh : PHs X (h₀ :: hs) th) (hst : X.stack = X.env :: X.outer := by rfl) (hf : X.env.frame = some X.env.locals := by rfl) (hn : X.N.length = n := by rfl) (hex : X.ex = [] := by rfl) :
    PS X (.Try body (h₀ :: hs) [] [] pos) (tTry n t th) := by
  refine ⟨?_⟩
  intro pins s σ H D I h
  refine wpAny_Try_except (wpAny_mono (hb (X.pn ++ pins) (fun e s₁ => wpAny (model X.prog X.w) X.A (noteFrame e X.env) (fun _ s₂ => wpAny (model X.prog X.w) X.A (setFlight e none) (fun _ s₃ => wpAny (model X.prog X.w) X.A (handleBy e X.env (h₀ :: hs)) (SP X pins D) X.xe s₃) X.xe s₂) X.xe s₁) _ ⟨fun pins2 σ2 H2 s2 new cls a H' s₁ I2 x q => ?_⟩ [] s σ H D (I.tryC _) h) (fun f s₁ q => ?_) fun _ _ z => z)
  · have I2' : Inv X pins σ2 H2 s2 := I2.untry
    refine note_ex I2' hst hf I2'.ok.frames x fun h₃ x3 => ?_
    have I3 := x3.inv I2'
    have fr := x3.rc.base.2
    refine hh pins _ σ2 H' D a cls s2.heap I3 x3.rc ?_ (fun p hp z => ?_) (q σ2 (I3.len.trans hn))
    · cases e : X.s₀.heap.get? a with
      | none => rfl
      | some o => obtain ⟨o', e2⟩ := I2'.base.there a o e (by rw [hex]; simp); rw [fr] at e2; cases e2
    · have e := (I2'.pin p hp).1
      rw [z, fr] at e
      cases e
  · cases f with
    | next =>
      obtain ⟨σ', H', I', q'⟩ := q
      exact pss_nil pins s₁ σ' H' D I'.untry q'
    | ret v => exact q.untry
    | brk => exact q.untry
    | cont => exact q.untry
end
end L2
set_option Elab.async false
set_option linter.all false
set_option maxRecDepth 100000
/-! the clauses of a try -/
namespace L2
open PySem PySem.Spec PyProof.Rows
theorem set3 {ts : Array Value} (h : ts[3]? = some Value.none) : ts.setIfInBounds 3 Value.none = ts := by
  obtain ⟨hl, e⟩ := Array.getElem?_eq_some_iff.mp h
  refine Array.ext (by simp) fun i h1 h2 => ?_
  rw [Array.getElem_setIfInBounds h2]
  by_cases hi : 3 = i
  · subst hi; simp [e]
  · simp [hi]
theorem map3 {o : Obj} {ts : Array Value} (hd : o.data = .fields ts) (h : ts[3]? = some Value.none) : Obj.mapFields (fun z => z.setIfInBounds 3 Value.none) o = o := by
  obtain ⟨c, d, dt, sl⟩ := o
  dsimp only at hd
  subst hd
  unfold Obj.mapFields
  simp [set3 h]
theorem keep3 {h : Heap} {T : Addr} {oT : Obj} {ts : Array Value} (hT : h.get? T = some oT) (hd : oT.data = .fields ts) (h3 : ts[3]? = some Value.none) : ∀ b u, h.get? b = some u → (h.update T (Obj.mapFields fun z => z.setIfInBounds 3 Value.none)).get? b = some u := fun b u e => by
  by_cases hb : b = T
  · subst hb
    rw [hT] at e
    cases e
    rw [Heap.get?_update_self _ hT (by rw [map3 hd h3]; exact Obj.isFreed_of_fields hd), map3 hd h3]
  · rw [Heap.get?_update_other _ _ (Ne.symm hb)]; exact e
section
variable {X : Cx} {x n : Str} {C : Addr} {b₀ : Stmt} {suite : List Stmt} {rest : List ExceptHandler} {pos np : Pos} {th : Value → TS}
theorem ph_nil : PHs X [] (fun _ _ _ _ => False) := fun _ _ _ _ _ _ _ _ _ _ _ _ h => h.elim
/-- the match, and the mark set down -/
theorem h_test {pins : List (Addr × Obj)} {σ : St} {H : Hp} {s : Shared} {a : Addr} {cls : Value} {g : Heap} {b : Bool} {name : Option Str} {Q : Flow → Shared → Prop} (I : Inv X pins σ H s) (xr : XRec g s.heap H a cls false) (hC : X.mg x = some (.ref C)) (hg : Gl X x) (hb : PySem.W.exmOne X.K cls (.ref C) = some b) (hdb : (x == ("__debug__" : Str)) = false)
    (h : if b = true then codeAny (model X.prog X.w) (X.A.mark (some (.ref a))) (.handlers (.ref a) [.ExceptHandler none name (b₀ :: suite) pos] X.env) (fun r s₂ => match r with
          | .ok f => (match name with | none => Q f s₂ | some n => wpAny (model X.prog X.w) X.A (do bindName X.env n .none; unbindBehindTheSuite X.env n pos) (fun _ s₃ => Q f s₃) X.xe s₂)
          | .error e => cameBackBy (model X.prog X.w) X.A X.env X.xe e s₂) s
      else wpAny (model X.prog X.w) X.A (handleBy (.ref a) X.env rest) Q X.xe s) :
    wpAny (model X.prog X.w) X.A (handleBy (.ref a) X.env (.ExceptHandler (some (.Name x np)) name (b₀ :: suite) pos :: rest)) Q X.xe s := by
  refine wpAny_handleBy_cons (codeAny_handlers_test (ld_glob (X := X.mark a) (I.mark a) hg hC ?_ hdb)) (by intro z; cases z)
  have LT : PySem.W.Looks (model X.prog X.w) s.heap (typeOf (.ref a)) cls := by
    cases xr with
    | old oe vs he hc => rw [← hc]; exact (PySem.W.Looks.ld he).andThen .now
  refine (PySem.W.exm_one (M := model X.prog X.w) I.kIn LT hb).here ?_
  cases b with
  | true => exact h
  | false => exact h
/-- an error, as it lies -/
def XO (a : Addr) (oe : Obj) : HO := .ext fun h => h.get? a = some oe
theorem Inv.trackX {pins : List (Addr × Obj)} {σ : St} {H : Hp} {s : Shared} {a : Addr} {oe : Obj} {vs : Array Value} (I : Inv X pins σ H s) (he : s.heap.get? a = some oe) (hd : oe.data = .fields vs) (hn : H a = none) (x0 : X.s₀.heap.get? a = none) (xp : ∀ p ∈ X.pn ++ pins, p.1 ≠ a) : Inv X pins σ (upd H a (XO a oe)) s := by
  have na : ∀ {b u}, H b = some u → b ≠ a := fun {b u} e z => by rw [z, hn] at e; cases e
  have nL : X.env.locals ≠ a := fun z => by
    obtain ⟨m, ⟨o, es, ep, ho, hdd, _⟩, _⟩ := I.loc
    rw [z, he] at ho; cases ho; rw [hd] at hdd; cases hdd
  refine ⟨I.ok, I.os, I.bare, ⟨I.base.keep, I.base.slot, fun b o e n hx => ?_, I.base.there, fun b xs e => ?_, fun b o u e => ?_, fun b ps e => ?_⟩, I.loc, I.cell, ?_, fun y c e => ?_, fun p hp => ?_, fun b ob e => ?_, I.len⟩
  · rw [upd_ne (fun z => by rw [z, x0] at e; cases e)]; exact I.base.free b o e n hx
  · have e1 := I.base.tups b xs e
    rw [upd_ne (na e1)]; exact e1
  · have e1 := I.base.frzs b o u e
    rw [upd_ne (na e1)]; exact e1
  · obtain ⟨m, e1⟩ := I.base.tbls b ps e
    exact ⟨m, by rw [upd_ne (na e1)]; exact e1⟩
  · rw [upd_ne nL]; exact I.free
  · have nc : c ≠ a := fun z => by
      obtain ⟨v, o, ho, hdd⟩ := I.cell y c e
      rw [z, he] at ho; cases ho; rw [hd] at hdd; cases hdd
    rw [upd_ne nc]; exact I.freeC y c e
  · obtain ⟨e1, e2, e3⟩ := I.pin p hp
    exact ⟨e1, by rw [upd_ne (xp p hp)]; exact e2, e3⟩
  · by_cases hb : b = a
    · subst hb
      rw [upd_same] at e
      cases e
      exact ⟨he, ⟨_, he⟩, fun h1 h2 z k => k _ z⟩
    · rw [upd_ne hb] at e
      refine (I.hok b ob e).stay (fun c u _ q => q) (fun c q => ?_) fun c xs q => ?_
      · rw [upd_ne (na q)]; exact q
      · rw [upd_ne (na q)]; exact q
/-- a name of ours is forgotten -/
theorem Inv.forget {pins : List (Addr × Obj)} {σ : St} {H : Hp} {s : Shared} {i : Nat} {m : Str → Option Value} {v : Option Value} {h' : Heap} {tk : Nat} (I : Inv X pins σ H s) (hN : X.N.Nodup) (hi : X.N[i]? = some n) (hm : s.heap.Ns X.env.locals m) (hn' : h'.Ns X.env.locals (fun y => if y = n then v else m y)) (hs : Heap.SameBut X.env.locals s.heap h') :
    Inv X pins (σ.set i none) H { s with heap := h', toks := tk } := by
  obtain ⟨m0, hn, hl⟩ := id I.loc
  have em : m0 = m := by
    funext y
    obtain ⟨o, es, ep, ho, hd, hk, hf⟩ := hn
    obtain ⟨o', es', ep', ho', hd', hk', hf'⟩ := hm
    rw [ho] at ho'; cases ho'
    rw [hd] at hd'; cases hd'
    rw [← hf y, ← hf' y]
  subst em
  have low : ∀ {b : Addr} {o : Obj}, X.s₀.heap.get? b = some o → b ≠ X.env.locals := fun e => Nat.ne_of_lt (Nat.lt_of_lt_of_le (Heap.lt_size e) I.ok.above)
  refine ⟨I.ok, I.os, I.bare, ⟨fun b o e n hb hx => (hs.2 b (low e)).trans (I.base.keep b o e n hb hx), fun b o e n hb hx => ?_, I.base.free, fun b o e hx => ?_, I.base.tups, I.base.frzs, I.base.tbls⟩, ⟨_, hn', fun j y v' e1 e2 e3 => ?_⟩, fun y c e => ?_, I.free, I.freeC, fun p hp => ?_, fun b ob e => ?_, by simpa using I.len⟩
  · obtain ⟨sl, e1⟩ := I.base.slot b o e n hb hx
    exact ⟨sl, (hs.2 b (low e)).trans e1⟩
  · obtain ⟨o', e1⟩ := I.base.there b o e hx
    exact ⟨o', (hs.2 b (low e)).trans e1⟩
  · by_cases hj : j = i
    · subst hj
      have hiσ : j < σ.length := by rw [I.len]; exact (List.getElem?_eq_some_iff.mp hi).1
      rw [List.getElem?_set_self hiσ] at e2
      cases e2
    · rw [List.getElem?_set_ne (Ne.symm hj)] at e2
      obtain ⟨u', r', q⟩ := hl j y v' e1 e2 e3
      have ny : y ≠ n := fun z => hj (nodup_ix hN e1 (z ▸ hi))
      refine ⟨u', r', ?_⟩
      rcases q with ⟨k, e⟩ | ⟨k, c, e, z⟩
      · exact .inl ⟨k, by simp [ny, e]⟩
      · exact .inr ⟨k, c, e, z.sameBut hs (I.cne y c e)⟩
  · obtain ⟨w', z⟩ := I.cell y c e
    exact ⟨w', z.sameBut hs (I.cne y c e)⟩
  · obtain ⟨e, n, ne, nf, d⟩ := I.pin p hp
    exact ⟨(hs.2 _ ne).trans e, n, ne, nf, d⟩
  · refine (I.hok b ob e).stay (fun c w' hc q => (hs.2 c ?_).trans q) (fun _ q => q) fun _ _ q => q
    rintro rfl
    rcases hc with rfl | hc
    · rw [I.free] at e; cases e
    · rw [I.free] at hc; cases hc
/-- except C as n: .. -/
inductive tHN (K : PySem.W.Frag) (C : Addr) (i : Nat) (ts : TS) (th : Value → TS) (cls : Value) (D : Ends) (σ : St) (H : Hp) : Prop
  | mk (b : Bool) (e : PySem.W.exmOne K cls (.ref C) = some b)
      (q : if b = true then ∀ a oe, H a = none → oe.cls = cls → oe.dict = none → (∃ vs, oe.data = .fields vs) → ts { nx := fun σ' H' => D.nx (σ'.set i none) H', rt := D.rt, bk := fun σ' H' => D.bk (σ'.set i none) H', ct := fun σ' H' => D.ct (σ'.set i none) H' } (σ.set i (some (.ref a))) (upd H a (XO a oe)) else th cls D σ H) : tHN K C i ts th cls D σ H
theorem phN {i : Nat} {ts : TS} (hC : X.mg x = some (.ref C)) (hN : X.N.Nodup) (hi : X.N[i]? = some n) (hk : X.env.scope.names.lookup n = some .local) (hs : ∀ a : Addr, PSs (X.mark a) (b₀ :: suite) ts) (hr : PHs X rest th) (hg : Gl X x := by rfl) (hdb : (x == ("__debug__" : Str)) = false := by decide) :
    PHs X (.ExceptHandler (some (.Name x np)) (some n) (b₀ :: suite) pos :: rest) (tHN X.K C i ts th) := by
  intro pins s σ H D a cls g I xr x0 xp h
  obtain ⟨b, e, q⟩ := h
  refine h_test I xr hC hg e hdb ?_
  cases b with
  | false => exact hr pins s σ H D a cls g I xr x0 xp q
  | true =>
    refine codeAny_handlers_suite_as ?_
    cases xr with
    | old oe vs he hc hd hdi hn hgg T oT ts' h1 ht hT hdT h3 hnT hgT =>
      refine wpAny_setFlight_none he hd h1 hT hdT (Array.getElem?_eq_some_iff.mp h3).1 ?_
      have kp := keep3 hT hdT h3
      have I' : Inv X pins σ H { s with heap := s.heap.update T (Obj.mapFields fun z => z.setIfInBounds 3 Value.none) } := I.kept (t' := s.toks) kp
      have IT := (I'.trackX (kp _ _ he) hd hn x0 xp).mark a
      refine store_ok (X := X.mark a) IT hN hi (.inl hk) (v := .ref a) rfl (fun s2 I2 => ?_) (.inr hk)
      refine wpAny_mono (hs a pins s2 _ _ _ I2 (q a oe hn hc hdi ⟨vs, hd⟩)) (fun f s3 z => ?_) fun _ _ z => z.elim
      have go : ∀ {σ' H'}, Inv (X.mark a) pins σ' H' s3 → ∀ {Q : Flow → Shared → Prop}, (∀ s5, Inv X pins (σ'.set i none) H' s5 → Q f s5) → wpAny (model X.prog X.w) X.A (do bindName X.env n .none; unbindBehindTheSuite X.env n pos) (fun _ s5 => Q f s5) X.xe s3 := fun {σ' H'} J {Q} hq => by
        have J' := J.unmark I.ok
        obtain ⟨m, hm, _⟩ := id J'.loc
        refine wpAny_nameGoes_keeps hk hm (by rw [I.ok.kind]; rfl) fun h' v hn' hsb => hq _ (J'.forget hN hi hm hn' hsb)
      cases f with
      | next => obtain ⟨σ', H', J, z⟩ := z; exact go J fun s5 J5 => ⟨_, _, J5, z⟩
      | brk => obtain ⟨σ', H', J, z⟩ := z; exact go J fun s5 J5 => ⟨_, _, J5, z⟩
      | cont => obtain ⟨σ', H', J, z⟩ := z; exact go J fun s5 J5 => ⟨_, _, J5, z⟩
      | ret u => obtain ⟨v, σ', H', J, r, z⟩ := z; exact go J fun s5 J5 => ⟨v, _, _, J5, r, z⟩
end
end L2
set_option Elab.async false
set_option linter.all false
set_option maxRecDepth 100000
/-! isinstance of an error -/
namespace L2
open PySem PySem.Spec PySem.W PyProof.Rows
structure XAttr (K : Frag) (C : Addr) : Prop where
  ga : findIn K (.ref C) "__getattribute__" = some (some (.builtin "BaseException.__getattribute__"))
  gn : findIn K (.ref C) "__getattr__" = some none
  fo : findObj K C none "__class__" = some (.bind (.builtin "getset_descriptor.__get__") (.builtin "object.__class__"))
  mo : mroIn K C (.type "object") = some true
  sb : subIn K (.ref C) (.type "BaseException") = some true
section
variable {prog : Program} {w : World} {A : Around} {E : Value → Shared → Prop} {s : Shared} {K : Frag} {a C : Addr} {oe : Obj}
theorem kx_call {tk : Tok} {R : Result → Shared → Prop} (F1 : XAttr K C) (X : K.In s.heap) (I : PySem.W.InstAt s.heap a oe C none) (h : R (.ok (.ret (.ref C))) s) :
    codeAny (model prog w) A (.call (.builtin "BaseException.__getattribute__") ⟨[.ref a, .str "__class__" tk], []⟩) R s := by
  have hk : builtinKind "BaseException.__getattribute__" = some .slot := by decide +kernel
  have hsplit : splitId "BaseException.__getattribute__" = some ("BaseException", "__getattribute__") := by decide +kernel
  have ha := F.args_bexc_ga (.ref a) (.str "__class__" tk)
  have cg := fun (A : Around) (R : Result → Shared → Prop) (hR : R (.ok (.ret (.ref C))) s) => PySem.W.class_get (prog := prog) (w := w) (A := A) (R := R) (tp := .ref C) X I F1.mo hR
  obtain ⟨hh, g, d, t, os⟩ := s
  have L0 := I.type (M := model prog w)
  have L1 := looks_subIn (M := model prog w) X F1.sb
  have L2 := looks_find (M := model prog w) X I F1.fo
  refine codeAny_call_builtin F.excAttr_ValueError.ga.plain F.entry_bexc_ga ?_
  simp only [checkBuiltinCall, hk, hsplit]
  refine wpAny_bind ?_
  unfold isInstance
  repeat (any_goals (first | assumption | (with_reducible refine wpAny_bind (L0.at ?_)) | (with_reducible refine wpAny_bind (L2.at ?_)) | (with_reducible refine L1.at ?_) | wp_step))
  exact cg _ _ (wpAny_pure h)
theorem kx_class {Q : Option Value → Shared → Prop} (F1 : XAttr K C) (X : K.In s.heap) (I : PySem.W.InstAt s.heap a oe C none) (h : Q (some (.ref C)) { s with toks := s.toks + 1 }) : wpAny (model prog w) A (getAttr? (.ref a) "__class__") Q E s := by
  have kc := fun (A : Around) (tk : Tok) (t : Nat) (R : Result → Shared → Prop) (hR : R (.ok (.ret (.ref C))) { s with toks := t }) => kx_call (prog := prog) (w := w) (A := A) (s := { s with toks := t }) (tk := tk) F1 X I hR
  have f3 := F.excAttr_ValueError.ga.bind (.ref a)
  have hx2 : (Value.builtin "BaseException.__getattribute__" == Value.builtin "object.__getattribute__") = false := by decide +kernel
  have hx1 : (onTheHeap (Value.ref C) && Value.builtin "BaseException.__getattribute__" == Value.builtin "object.__getattribute__") = false := by rw [hx2]; rfl
  have hx0 : (false && onTheHeap (Value.builtin "BaseException.__getattribute__")) = false := rfl
  obtain ⟨hh, g, d, t, os⟩ := s
  have L0 := I.type (M := model prog w)
  have L1 := looks_findIn (M := model prog w) X F1.ga
  have L2 := looks_findIn (M := model prog w) X F1.gn
  unfold getAttr? getAttrBy? getAttrBy
  refine wpAny_bind (wpAny_mkText (wpAny_bind (wpAny_attempt (wpAny_holding (wpAny_bind (L0.at (wpAny_bind (L1.at ?_))))))))
  show wpAny _ _ (if (onTheHeap (Value.ref C) && Value.builtin "BaseException.__getattribute__" == Value.builtin "object.__getattribute__") = true then _ else _) _ _ _
  rw [if_neg (by rw [hx1]; simp)]
  unfold getAttrByItsOwn hookBefore
  rw [if_pos (show onTheHeap (Value.ref C) = true by rfl)]
  refine wpAny_bind (L2.at (wpAny_bind (wpAny_attempt (wpAny_holding ?_))))
  unfold callGetattribute boundAndCalled
  rw [if_neg (by simp)]
  rw [f3]
  refine wpAny_bind (wpAny_pure (wpAny_call (kc _ _ _ _ ?_)))
  exact handed_on rfl (wpAny_pure h)
theorem kitx_err (F1 : XAttr K C) (hc : oe.cls = .ref C) (hdi : oe.dict = none) (hd : ∃ vs, oe.data = .fields vs) (hcl : (clsIn K C).isSome = true) : KitX K (.ref a) (.ref C) (fun h => h.get? a = some oe) := by
  have hI : ∀ h : Heap, h.get? a = some oe → PySem.W.InstAt h a oe C none := fun h e => by
    obtain ⟨vs, hd⟩ := hd
    refine ⟨e, hc, ?_, ?_⟩
    · obtain ⟨c0, d0, dt, sl⟩ := oe
      dsimp only at hd
      subst hd
      rfl
    · rw [hdi]; trivial
  refine ⟨fun M h X e => (hI h e).type, fun M h X e => ?_, fun h tp dd its n sl X htp => ?_, fun {_ _ _ _ _ s} X e k => kx_class F1 X (hI _ e) k⟩
  · obtain ⟨cd, hcD⟩ := Option.isSome_iff_exists.mp hcl
    unfold clsIn at hcD
    split at hcD
    · rename_i c' d' cd' sl' ho
      intro A' Q' E' s' k q
      unfold isType loadHead
      exact wpAny_bind (wpAny_loadPart (k _ _ (X _ _ ho)) (wpAny_pure q))
    · cases hcD
  · obtain ⟨cd, hcD⟩ := Option.isSome_iff_exists.mp hcl
    refine Bool.eq_false_iff.mpr fun q => ?_
    have e : C = tp := Value.ref.inj (beq_iff_eq.mp q)
    subst e
    unfold clsIn at hcD
    split at hcD
    · rename_i c' d' cd' sl' ho
      have z := (X _ _ ho).symm.trans htp
      cases z
    · cases hcD
end
end L2
namespace L2
open PySem PySem.Spec PyProof.Rows
/-- an error of an own class -/
structure XErr (K : PySem.W.Frag) (oe : Obj) (C : Addr) : Prop where
  c : oe.cls = .ref C
  d : oe.dict = none
  f : ∃ vs, oe.data = .fields vs
  at_ : XAttr K C
  cl : (PySem.W.clsIn K C).isSome = true
inductive cIsE (K : PySem.W.Frag) (xs : List V) (H : Hp) (Q : VK) : Prop
  | own (a : Addr) (oe : Obj) (C C' : Addr) (b : Bool) (e : xs = [.ref a, .ref C']) (h : H a = some (XO a oe)) (x : XErr K oe C) (k : PySem.W.kitOne K (.ref C) (.ref C') = some b) (q : Q (.bl b) H) : cIsE K xs H Q
  | ty (a : Addr) (oe : Obj) (C : Addr) (T : String) (b : Bool) (e : xs = [.ref a, .ty T]) (h : H a = some (XO a oe)) (x : XErr K oe C) (k : PySem.W.kitOne K (.ref C) (.type T) = some b) (q : Q (.bl b) H) : cIsE K xs H Q
theorem call_isE {X : Cx} (K : PySem.W.Frag) (ek : X.K = K := by rfl) : CallR X (.builtin "isinstance") (cIsE K) := by
  subst ek
  intro pins s σ H xs us Q I r h
  have go : ∀ {a : Addr} {oe : Obj} {C : Addr} {c : Value} {b : Bool}, H a = some (XO a oe) → XErr X.K oe C → PySem.W.kitOne X.K (.ref C) c = some b → Q (.bl b) H → wpAny (model X.prog X.w) X.A (call (.builtin "isinstance") [.ref a, c]) (EP X pins σ Q) X.xe s := fun {a oe C c b} h x k q => by
    have p : s.heap.get? a = some oe := (I.hok a _ h).1
    exact PySem.W.kia_one (kitx_err x.at_ x.c x.d x.f x.cl) I.kIn p k (by intro z; cases z) fun tk => ⟨.bl b, H, I.tok tk, rfl, q⟩
  cases h with
  | own a oe C C' b e h x k q =>
    subst e
    obtain ⟨u, w', rfl, rx, rt⟩ := vals2 r
    cases rx
    cases rt
    exact go h x k q
  | ty a oe C T b e h x k q =>
    subst e
    obtain ⟨u, w', rfl, rx, rt⟩ := vals2 r
    cases rx
    cases rt
    exact go h x k q
end L2
set_option Elab.async false
set_option linter.all false
set_option maxRecDepth 100000
namespace L2
open PySem PySem.Spec PyProof.Rows
structure RoomN (k : Nat) (A : Around) : Prop where
  dp : A.depth + 3 * k + 5 < recursionLimit
  un : A.units + 16 * k + 200 < cLine
  gd : A.guards = some []
theorem RoomN.mono {j k : Nat} {A : Around} (r : RoomN k A) (h : j ≤ k) : RoomN j A := ⟨by have := r.dp; omega, by have := r.un; omega, r.gd⟩
theorem RoomN.deeper {k : Nat} {A : Around} (r : RoomN (k + 1) A) (env : Env) : RoomN k (A.deeper env) := ⟨by have := r.dp; show A.depth + 1 + 3 * k + 5 < _; omega, by have := r.un; show A.units + 3 + 16 * k + 200 < _; omega, r.gd⟩
theorem RoomN.depth {k : Nat} {A : Around} (r : RoomN k A) : A.depth < recursionLimit := by have := r.dp; omega
theorem Room.n {k : Nat} {A : Around} (r : Room k A) (v : Option Value) : RoomN k (A.mark v) := ⟨r.dp, r.un, r.gd⟩
def cxN (CX : CXT) (P : Program) (w : World) (K : PySem.W.Frag) (mg : Str → Option Value) (base : Heap) (N : List Str) (qual : Str) (scope : Scope) (f : Addr) (cd : Value) (A : Around) (outer : List Env) (s : Shared) (H : Hp) (E : XK) : Cx where
  prog := P
  w := w
  K := K
  mg := mg
  base := base
  A := A.deeper (envOfC qual scope s.heap.objs.size f cd)
  N := N
  s₀ := s
  H₀ := H
  env := envOfC qual scope s.heap.objs.size f cd
  outer := outer
  stack := envOfC qual scope s.heap.objs.size f cd :: outer
  ex := []
  calm := false
  fn := fun _ => true
  pn := []
  xe := fun e s' => wpAny (model P w) (A.deeper (envOfC qual scope s.heap.objs.size f cd)) (leaving (envOfC qual scope s.heap.objs.size f cd) e) (fun _ s'' => CX outer H s E e s'') (fun e' s'' => CX outer H s E e' s'') s'
theorem inv_startN {CX : CXT} {P : Program} {w : World} {K : PySem.W.Frag} {mg : Str → Option Value} {base : Heap} {N ps : List Str} {qual : Str} {scope : Scope} {f : Addr} {cd : Value} {A : Around} {outer : List Env} {s s1 : Shared} {H : Hp} {E : XK} {us : List Value} {vs : List V}
    (S : FnScope N ps scope) (e0 : Env0 P w K mg base A outer s H) (hl : vs.length = ps.length) (r : Vals vs us)
    (x : InCallC s s.heap.objs.size (bindL (envOfC qual scope s.heap.objs.size f cd).kindOf (ps.zip us) fun _ => none) (cellsFrom (s.heap.objs.size + 1) scope.names []) (bindC (envOfC qual scope s.heap.objs.size f cd).kindOf (ps.zip us) fun _ => none) s1) :
    Inv (cxN CX P w K mg base N qual scope f cd A outer s H E) [] (start N vs) H s1 := by
  have hpl : ps.length ≤ N.length := by have := congrArg List.length S.pre; rw [List.length_take] at this; omega
  obtain ⟨h1, tk, rfl, hk⟩ := x.done
  have noA : ∀ b : Addr, b ∉ (cxN CX P w K mg base N qual scope f cd A outer s H E).ex := fun b z => absurd (show b ∈ ([] : List Addr) from z) (by simp)
  refine ⟨⟨e0.mod, S.kind, rfl, rfl, Nat.le_refl _, fun y z c h1 h2 => ?_, fun y hy => ?_, fun y c _ h => ?_, (fun z => nomatch z), Around.frames_deeper e0.frames, .inr ⟨rfl, rfl⟩, fun b z => absurd z (noA b), e0.bs, e0.bsz, fun b _ _ => noA b, fun b z => absurd z (noA b), e0.funs, e0.frf⟩,
    rfl, e0.bare, Un.kept hk, ⟨_, x.toInCall.ns, fun i y v h1 h2 h3 => ?_⟩, fun y c h => ⟨_, x.cell y c h⟩, e0.hok.fresh (Nat.le_refl _), fun y c h => ?_, fun p hp => absurd (show p ∈ ([] : List (Addr × Obj)) from hp) (by simp), e0.hok.kept hk, ?_⟩
  · exact name_of_addr x.apart (PySem.mem_of_lookup h1) (PySem.mem_of_lookup h2)
  · have hy : scope.names.lookup y = some .cell ∨ scope.names.lookup y = some .free := hy
    rcases hy with hy | hy
    · exact cell_has hy
    · exact absurd rfl (S.nofree _ (PySem.mem_of_lookup hy))
  · exact Nat.le_of_lt (x.above y c (PySem.mem_of_lookup h))
  · have hi : i < vs.length := by
      unfold start at h2
      by_cases hi : i < vs.length
      · exact hi
      · rw [List.getElem?_append_right (by simpa using hi)] at h2
        rw [List.getElem?_replicate] at h2
        split at h2 <;> cases h2
    have ha : vs[i]? = some v := by
      unfold start at h2
      rw [List.getElem?_append_left (by simpa using hi), List.getElem?_map] at h2
      cases e : vs[i]? with
      | none => rw [e] at h2; cases h2
      | some a => rw [e] at h2; cases h2; rfl
    obtain ⟨u, hu, rv⟩ := r.get ha
    have hp : ps[i]? = some y := by
      rw [← S.pre, List.getElem?_take_of_lt (by omega)]; exact h1
    have ndP : ps.Nodup := by rw [← S.pre]; exact S.nd.sublist (List.take_sublist _ _)
    refine ⟨u, rv, ?_⟩
    rcases S.par y (List.mem_of_getElem? hp) with k | k
    · exact .inl ⟨k, bindL_get ndP hp hu k⟩
    · obtain ⟨c, e⟩ := cell_has (n := s.heap.objs.size + 1) k
      refine .inr ⟨.inl k, c, e, ?_⟩
      have q := x.cell y c e
      rw [bindC_get ndP hp hu (by show scope.names.lookup y ≠ _; rw [k]; decide)] at q
      exact q
  · exact e0.hok.fresh (Nat.le_of_lt (x.above y c (PySem.mem_of_lookup h)))
  · unfold start
    show _ = N.length
    rw [List.length_append, List.length_map, List.length_replicate]
    omega
structure FnOkN (P : Program) (w : World) (K : PySem.W.Frag) (mg : Str → Option Value) (base : Heap) (CX : CXT) (k : Nat) (f : Addr) (fd : FuncData) (ps : List Str) (sp : Sp) : Prop where
  len : ∀ vs H Q E, sp vs H Q E → vs.length = ps.length
  run : ∀ (A : Around) (outer : List Env) (s : Shared) (H : Hp) (args : Args) (us : List Value) (vs : List V) (Q : VK) (E : XK), RoomN k A → Env0 P w K mg base A outer s H → BindsTo s fd args (ps.zip us) → Vals vs us → sp vs H Q E →
    codeAny (model P w) A (.call (.ref f) args) (CR CX outer P w H s Q E) s
theorem fn_ofN {CX : CXT} {P : Program} {w : World} {K : PySem.W.Frag} {mg : Str → Option Value} {base : Heap} {k : Nat} {f : Addr} {name qual : Str} {params : Arguments} {body : List Stmt} {scope : Scope} {dV kV doc pm cdv ct oc : Value} {an od : Option Addr}
    {osl : Array (Option Value)} {N ps : List Str} {sp : Sp} (lk : K.lookup f = some ⟨oc, od, .func (PySem.W.fnOf name qual params body scope dV kV doc pm an cdv ct), osl⟩) (hcd : PySem.W.codeIn K cdv qual = true) (S : FnScope N ps scope)
    (len : ∀ vs H Q E, sp vs H Q E → vs.length = ps.length)
    (hbody : ∀ (A : Around) (outer : List Env) (s : Shared) (H : Hp) (vs : List V) (Q : VK) (E : XK), RoomN k (A.deeper (envOfC qual scope s.heap.objs.size f cdv)) → sp vs H Q E →
      ∃ t, PSs (cxN CX P w K mg base N qual scope f cdv A outer s H E) body t ∧ t { nx := fun _ H' => Q .non H', rt := Q } (start N vs) H) :
    FnOkN P w K mg base CX (k + 1) f (PySem.W.fnOf name qual params body scope dV kV doc pm an cdv ct) ps sp := by
  refine ⟨len, fun A outer s H args us vs Q E hr e0 hb r hsp => ?_⟩
  have hl := len _ _ _ _ hsp
  have KX : K.In s.heap := e0.mod.kin.keeps fun b o e => (e0.bs b o e).1
  have lim : s.heap.NoLimit := e0.mod.nolimit.keeps fun b o e => (e0.bs b o e).1
  have hkind : ∀ y ∈ ps.zip us, scope.names.lookup y.1 = some .local ∨ (scope.names.lookup y.1 = some .cell ∧ ((cellsFrom (s.heap.objs.size + 1) scope.names []).lookup y.1).isSome = true) := fun ⟨n, v⟩ hy => by
    rcases S.par n (List.of_mem_zip hy).1 with q | q
    · exact .inl q
    · exact .inr ⟨q, PySem.W.cellsFrom_some _ _ _ (.inl q)⟩
  refine codeAny_call_function hr.depth (KX _ _ lk) rfl S.co S.gen rfl (PySem.W.codeRec_of KX hcd) (hb _ _ _ _ ?_)
  refine wpAny_newFunctionEnv_cells S.kind hkind fun env he s1 x => ?_
  subst he
  refine ⟨lim.keeps x.toInCall.keep, codeAny_func ?_⟩
  obtain ⟨t, ht, hq⟩ := hbody A outer s H vs Q E (hr.deeper _) hsp
  have I : Inv (cxN CX P w K mg base N qual scope f cdv A outer s H E) [] (start N vs) H s1 := inv_startN S e0 hl r x
  refine wpAny_mono (ht [] s1 (start N vs) H _ I hq) (fun fl s' hs => ?_) fun e s' hs => hs
  have fin : ∀ {σ' : St} {H' : Hp} {v : V} {u : Value}, Inv (cxN CX P w K mg base N qual scope f cdv A outer s H E) [] σ' H' s' → RelV v u → Q v H' → CE outer P w H s Q u s' :=
    fun {σ' H' v u} J rv q => ⟨v, H', J.os, J.bare, J.base, J.hok, rv, q⟩
  cases fl with
  | ret u =>
    obtain ⟨v, σ', H', J, rv, q⟩ := hs
    exact fin J rv q
  | next =>
    obtain ⟨σ', H', J, q⟩ := hs
    exact fin (v := V.non) (u := Value.none) J rfl q
  | brk =>
    obtain ⟨_, _, _, q⟩ := hs
    exact False.elim q
  | cont =>
    obtain ⟨_, _, _, q⟩ := hs
    exact False.elim q
section
variable {X : Cx} {CX : CXT} {k : Nat} {f C : Addr} {fd : FuncData} {ps : List Str} {sp : Sp} {dvs : List V} {ds : List Value} {E : XK} {x m : Str} {p pos apos : Pos} {e o : Expr} {es : List Expr} {ta : TE} {t : TA}
theorem run_fnN {pins : List (Addr × Obj)} {σ : St} {H : Hp} {s : Shared} {Q : VK} {us : List Value} {vs : List V} (F : FnOkN X.prog X.w X.K X.mg X.base CX k f fd ps sp) (hr : RoomN k X.A) (hb : Binds X.K fd ps ds) (hd : Vals dvs ds) (hx : Passes CX X E)
    (I : Inv X pins σ H s) (r : Vals vs us) (h : sp (vs ++ dvs) H Q E) : wpAny (model X.prog X.w) X.A (call (.ref f) us) (EP X pins σ Q) X.xe s := by
  have r2 : Vals (vs ++ dvs) (us ++ ds) := r.append hd
  have hl : (us ++ ds).length = ps.length := by rw [← r2.length]; exact F.len _ _ _ _ h
  refine wpAny_call (codeAny_mono (F.run X.A X.stack s H ⟨us, []⟩ (us ++ ds) (vs ++ dvs) Q E hr I.env0 (hb s us I.kIn hl) r2 h) fun r s' hq => ?_)
  cases r with
  | error e => exact hx pins σ H s e s' I hq
  | ok fl =>
    cases fl with
    | ret u => exact I.after hq
    | next => exact False.elim hq
    | brk => exact False.elim hq
    | cont => exact False.elim hq
theorem pe_callN (F : FnOkN X.prog X.w X.K X.mg X.base CX k f fd ps sp) (hr : RoomN k X.A) (hg : Gl X x) (hm : X.mg x = some (.ref f)) (hk : PySem.W.keepIn X.K (.ref f) = true) (hb : Binds X.K fd ps ds) (hd : Vals dvs ds) (hx : Passes CX X E)
    (ha : PA X (e :: es) t) (hdb : (x == ("__debug__" : Str)) = false := by decide) (he : starEach (e :: es) X.env = (false, eval e X.env) :: starEach es X.env := by rfl) (hpl : (backTo pos (starEach es X.env)).any (·.1) = false := by rfl) :
    PE X (.Call (.Name x p) (e :: es) [] pos) (tCall sp dvs E t) := by
  refine ⟨?_⟩
  intro pins s σ H Q I h
  refine wpAny_Call_Name_kw (ld_glob I hg hm ?_ hdb)
  refine PySem.W.callWith_K (h₀ := X.base) I.ok.mod.kin hk (thn (ha pos pins s σ H _ I h) fun us s1 ⟨vs, H1, I1, r, q⟩ => ⟨I1.kIn, ?_⟩) he hpl
  exact run_fnN F hr hb hd hx I1 r q
end
/-- a def that may be called within an except suite; no error leaves it -/
def CanN (P : Program) (w : World) (K : PySem.W.Frag) (mg : Str → Option Value) (base : Heap) (k : Nat) (x : Str) (ps : List Str) (sp : Sp) : Prop :=
  ∃ f fd, FnOkN P w K mg base CX0 k f fd ps sp ∧ mg x = some (.ref f) ∧ PySem.W.keepIn K (.ref f) = true ∧ Binds K fd ps []
section
variable {P : Program} {w : World} {K : PySem.W.Frag} {mg : Str → Option Value} {base : Heap}
theorem fn_canN {x : Str} {st : Stmt} {N ps : List Str} {k : Nat} {sp : Sp} (h : ∃ f fd, Fn K mg x st ps f fd) (S : FnScope N ps (defScope st)) (len : ∀ vs H Q E, sp vs H Q E → vs.length = ps.length)
    (hbody : ∀ (f : Addr) (cdv : Value) (A : Around) (outer : List Env) (s : Shared) (H : Hp) (vs : List V) (Q : VK) (E : XK), RoomN k (A.deeper (envOfC x (defScope st) s.heap.objs.size f cdv)) → sp vs H Q E →
      ∃ t, PSs (cxN CX0 P w K mg base N x (defScope st) f cdv A outer s H E).nox (defBody st) t ∧ t { nx := fun _ H' => Q .non H', rt := Q } (start N vs) H) : CanN P w K mg base (k + 1) x ps sp := by
  obtain ⟨f, fd, F⟩ := h
  obtain ⟨oc, od, kV, doc, pm, an, cdv, ct, osl, e, lk, hcd⟩ := F.fn.ex
  refine ⟨f, fd, ?_, F.m, F.fn.kp, F.b⟩
  subst e
  refine fn_ofN lk hcd S len fun A outer s H vs Q E hr hsp => ?_
  obtain ⟨t, h, q⟩ := hbody f cdv A outer s H vs Q E hr hsp
  exact ⟨t, h.nox, q⟩
end
section
variable {X : Cx} {k k' : Nat} {x : Str} {ps : List Str} {sp : Sp} {p pos : Pos} {e : Expr} {es : List Expr} {t : TA}
theorem pe_canN (h : CanN X.prog X.w X.K X.mg X.base k x ps sp) (hr : RoomN k' X.A) (ha : PA X (e :: es) t) (hg : Gl X x := by rfl) (hk : k ≤ k' := by decide) (hdb : (x == ("__debug__" : Str)) = false := by decide)
    (hs : starEach (e :: es) X.env = (false, eval e X.env) :: starEach es X.env := by rfl) (hpl : (backTo pos (starEach es X.env)).any (·.1) = false := by rfl) : PE X (.Call (.Name x p) (e :: es) [] pos) (tCall sp [] E0 t) := by
  obtain ⟨f, fd, F, hm, kp, b⟩ := h
  exact pe_callN F (hr.mono hk) hg hm kp b .nil pass0 ha hdb hs hpl
end
end L2
set_option Elab.async false
set_option linter.all false
set_option maxRecDepth 100000
/-! the own classes of errors that a text names -/
namespace L2
open PySem PySem.Spec PyProof.Rows
/-- where the class stands that a name of the module means -/
def cOf (mg : Str → Option Value) (x : Str) : Addr := match mg x with
  | some (.ref C) => C
  | _ => 0
theorem cOf_eq {mg : Str → Option Value} {x : Str} {C : Addr} (h : mg x = some (.ref C)) : cOf mg x = C := by unfold cOf; rw [h]
structure XC (K : PySem.W.Frag) (mg : Str → Option Value) (x : Str) : Prop where
  m : mg x = some (.ref (cOf mg x))
  ok : PySem.W.excIn K (cOf mg x) bmV "ValueError.__new__" = true
  at_ : XAttr K (cOf mg x)
  cl : (PySem.W.clsIn K (cOf mg x)).isSome = true
theorem XC.cls {K : PySem.W.Frag} {mg : Str → Option Value} {x : Str} (h : XC K mg x) : XCls K mg x (cOf mg x) := ⟨h.m, h.ok⟩
theorem XC.err {K : PySem.W.Frag} {mg : Str → Option Value} {x : Str} (h : XC K mg x) {oe : Obj} (c : oe.cls = .ref (cOf mg x)) (d : oe.dict = none) (f : ∃ vs, oe.data = .fields vs) : XErr K oe (cOf mg x) := ⟨c, d, f, h.at_, h.cl⟩
theorem xc_mk {K : PySem.W.Frag} {mg : Str → Option Value} {x : Str} {C : Addr} (m : mg x = some (.ref C)) (ok : PySem.W.excIn K C bmV "ValueError.__new__" = true)
    (ga : PySem.W.findIn K (.ref C) "__getattribute__" = some (some (.builtin "BaseException.__getattribute__"))) (gn : PySem.W.findIn K (.ref C) "__getattr__" = some none)
    (fo : PySem.W.findIn K (.ref C) "__class__" = some (some (.builtin "object.__class__"))) (sp : PySem.W.specialIn K (.builtin "object.__class__") "__get__" = some (some (.builtin "getset_descriptor.__get__"))) (tk : PySem.W.takesIn K (.builtin "object.__class__") = some true) (mo : PySem.W.mroIn K C (.type "object") = some true) (sb : PySem.W.subIn K (.ref C) (.type "BaseException") = some true) {cd : ClassData} (cl : PySem.W.clsIn K C = some cd) : XC K mg x := by
  refine ⟨?_, ?_, ?_, ?_⟩ <;> rw [cOf_eq m]
  · exact m
  · exact ok
  · refine ⟨ga, gn, ?_, mo, sb⟩
    unfold PySem.W.findObj
    rw [cl, Option.bind_some, fo, Option.bind_some]
    simp [sp, tk]
  · rw [cl]; rfl
end L2
set_option Elab.async false
set_option linter.all false
set_option maxRecDepth 100000
namespace Pr
open PySem L2
def top (i : Nat) : Stmt := PySem.Challenge.pw_peakroll_k75_no_states.main.body.getD i (.Pass ⟨0, 0, 0, 0⟩)
abbrev s_is_whole : Stmt := top 9
abbrev s_is_whole_from : Stmt := top 10
abbrev s_is_wide : Stmt := top 11
abbrev s_is_list : Stmt := top 12
abbrev s_is_list_from : Stmt := top 13
abbrev s_is_state : Stmt := top 17
abbrev s_need_state : Stmt := top 18
abbrev s_need_bounds : Stmt := top 19
abbrev s_plan : Stmt := top 20
abbrev s_may_widen : Stmt := top 21
abbrev s_new_ends : Stmt := top 22
abbrev s_even_values : Stmt := top 23
abbrev s_reach : Stmt := top 24
abbrev s_law_cell : Stmt := top 26
abbrev s_law_pot : Stmt := top 27
abbrev s_law_take : Stmt := top 28
abbrev s_law_wide : Stmt := top 29
abbrev s_law_state : Stmt := top 30
abbrev s_law_bounds : Stmt := top 31
abbrev s_law_no_state : Stmt := top 32
abbrev s_law_no_bounds : Stmt := top 33
abbrev s_law_name : Stmt := top 34
abbrev s_law_tried : Stmt := top 35
abbrev s_law : Stmt := top 36
structure Txt (K : PySem.W.Frag) (mg : Str → Option Value) (C : Addr) : Prop where
  f_is_whole : ∃ f fd, Fn K mg "is_whole" s_is_whole ["value"] f fd
  f_is_whole_from : ∃ f fd, Fn K mg "is_whole_from" s_is_whole_from ["value", "least", "greatest"] f fd
  f_is_wide : ∃ f fd, Fn K mg "is_wide" s_is_wide ["value"] f fd
  f_is_list : ∃ f fd, Fn K mg "is_list" s_is_list ["value"] f fd
  f_is_list_from : ∃ f fd, Fn K mg "is_list_from" s_is_list_from ["value", "fewest", "most"] f fd
  f_is_state : ∃ f fd, Fn K mg "is_state" s_is_state ["value"] f fd
  f_need_state : ∃ f fd, Fn K mg "need_state" s_need_state ["value"] f fd
  f_need_bounds : ∃ f fd, Fn K mg "need_bounds" s_need_bounds ["low", "high"] f fd
  f_plan : ∃ f fd, Fn K mg "plan" s_plan ["state", "goal", "low", "high"] f fd
  f_may_widen : ∃ f fd, Fn K mg "may_widen" s_may_widen ["state", "goal"] f fd
  f_new_ends : ∃ f fd, Fn K mg "new_ends" s_new_ends ["state", "goal"] f fd
  f_even_values : ∃ f fd, Fn K mg "even_values" s_even_values ["many", "total", "low", "high"] f fd
  f_reach : ∃ f fd, Fn K mg "reach" s_reach ["state", "many", "low", "high"] f fd
  f_law_cell : ∃ f fd, Fn K mg "_law_cell" s_law_cell ["_law_script", "_law_k"] f fd
  f_law_pot : ∃ f fd, Fn K mg "_law_pot" s_law_pot ["_law_cell_here"] f fd
  f_law_take : ∃ f fd, Fn K mg "_law_take" s_law_take ["_law_pot_here", "_law_many"] f fd
  f_law_wide : ∃ f fd, Fn K mg "_law_wide" s_law_wide ["_law_pot_here"] f fd
  f_law_state : ∃ f fd, Fn K mg "_law_state" s_law_state ["_law_pot_here"] f fd
  f_law_bounds : ∃ f fd, Fn K mg "_law_bounds" s_law_bounds ["_law_pot_here"] f fd
  f_law_no_state : ∃ f fd, Fn K mg "_law_no_state" s_law_no_state ["_law_pot_here", "_law_state_here"] f fd
  f_law_no_bounds : ∃ f fd, Fn K mg "_law_no_bounds" s_law_no_bounds ["_law_pot_here", "_law_low"] f fd
  f_law_name : ∃ f fd, Fn K mg "_law_name" s_law_name ["_law_e"] f fd
  f_law_tried : ∃ f fd, Fn K mg "_law_tried" s_law_tried ["_law_call", "_law_parts"] f fd
  f_law : ∃ f fd, Fn K mg "law" s_law ["_law_script"] f fd
  c_WIDE_END : ∃ t, mg "WIDE_END" = some (.int 1000000000000000000000000000000 t)
  c_MOST_COUNT : ∃ t, mg "MOST_COUNT" = some (.int 1000000000000000000000000000000 t)
  c_MOST_MORE : ∃ t, mg "MOST_MORE" = some (.int 200 t)
  b_ValueError : mg "ValueError" = none
  b_abs : mg "abs" = none
  b_all : mg "all" = none
  b_bool : mg "bool" = none
  b_divmod : mg "divmod" = none
  b_int : mg "int" = none
  b_isinstance : mg "isinstance" = none
  b_len : mg "len" = none
  b_list : mg "list" = none
  b_max : mg "max" = none
  b_min : mg "min" = none
  b_range : mg "range" = none
  b_repr : mg "repr" = none
  b_sorted : mg "sorted" = none
  b_sum : mg "sum" = none
  b_tuple : mg "tuple" = none
  x_PeakError : XC K mg "PeakError"
  x_NoNumber : XC K mg "NoNumber"
  x_NoText : XC K mg "NoText"
  x_NoBounds : XC K mg "NoBounds"
  x_NoState : XC K mg "NoState"
  x_Gone : XC K mg "Gone"
  kv_NoBounds : PySem.W.kitOne K (.ref (cOf mg "NoBounds")) (.type "ValueError") = some true
  k_NoBounds_PeakError : PySem.W.kitOne K (.ref (cOf mg "NoBounds")) (.ref (cOf mg "PeakError")) = some true
  e_NoBounds_PeakError : PySem.W.exmOne K (.ref (cOf mg "NoBounds")) (.ref (cOf mg "PeakError")) = some true
  k_NoBounds_NoNumber : PySem.W.kitOne K (.ref (cOf mg "NoBounds")) (.ref (cOf mg "NoNumber")) = some false
  e_NoBounds_NoNumber : PySem.W.exmOne K (.ref (cOf mg "NoBounds")) (.ref (cOf mg "NoNumber")) = some false
  k_NoBounds_NoText : PySem.W.kitOne K (.ref (cOf mg "NoBounds")) (.ref (cOf mg "NoText")) = some false
  e_NoBounds_NoText : PySem.W.exmOne K (.ref (cOf mg "NoBounds")) (.ref (cOf mg "NoText")) = some false
  k_NoBounds_NoBounds : PySem.W.kitOne K (.ref (cOf mg "NoBounds")) (.ref (cOf mg "NoBounds")) = some true
  e_NoBounds_NoBounds : PySem.W.exmOne K (.ref (cOf mg "NoBounds")) (.ref (cOf mg "NoBounds")) = some true
  k_NoBounds_NoState : PySem.W.kitOne K (.ref (cOf mg "NoBounds")) (.ref (cOf mg "NoState")) = some false
  e_NoBounds_NoState : PySem.W.exmOne K (.ref (cOf mg "NoBounds")) (.ref (cOf mg "NoState")) = some false
  k_NoBounds_Gone : PySem.W.kitOne K (.ref (cOf mg "NoBounds")) (.ref (cOf mg "Gone")) = some false
  e_NoBounds_Gone : PySem.W.exmOne K (.ref (cOf mg "NoBounds")) (.ref (cOf mg "Gone")) = some false
  kv_NoState : PySem.W.kitOne K (.ref (cOf mg "NoState")) (.type "ValueError") = some true
  k_NoState_PeakError : PySem.W.kitOne K (.ref (cOf mg "NoState")) (.ref (cOf mg "PeakError")) = some true
  e_NoState_PeakError : PySem.W.exmOne K (.ref (cOf mg "NoState")) (.ref (cOf mg "PeakError")) = some true
  k_NoState_NoNumber : PySem.W.kitOne K (.ref (cOf mg "NoState")) (.ref (cOf mg "NoNumber")) = some false
  e_NoState_NoNumber : PySem.W.exmOne K (.ref (cOf mg "NoState")) (.ref (cOf mg "NoNumber")) = some false
  k_NoState_NoText : PySem.W.kitOne K (.ref (cOf mg "NoState")) (.ref (cOf mg "NoText")) = some false
  e_NoState_NoText : PySem.W.exmOne K (.ref (cOf mg "NoState")) (.ref (cOf mg "NoText")) = some false
  k_NoState_NoBounds : PySem.W.kitOne K (.ref (cOf mg "NoState")) (.ref (cOf mg "NoBounds")) = some false
  e_NoState_NoBounds : PySem.W.exmOne K (.ref (cOf mg "NoState")) (.ref (cOf mg "NoBounds")) = some false
  k_NoState_NoState : PySem.W.kitOne K (.ref (cOf mg "NoState")) (.ref (cOf mg "NoState")) = some true
  e_NoState_NoState : PySem.W.exmOne K (.ref (cOf mg "NoState")) (.ref (cOf mg "NoState")) = some true
  k_NoState_Gone : PySem.W.kitOne K (.ref (cOf mg "NoState")) (.ref (cOf mg "Gone")) = some false
  e_NoState_Gone : PySem.W.exmOne K (.ref (cOf mg "NoState")) (.ref (cOf mg "Gone")) = some false
end Pr
set_option Elab.async false
set_option linter.all false
set_option maxRecDepth 100000
namespace HT
open PySem PyProof.Rows
section
variable {prog : Program} {w : World} {A : Around} {E : Value → Shared → Prop} {s : Shared}
end
end HT
namespace L2
open PySem PySem.Spec PyProof.Rows
section
variable {X : Cx} {e : Expr} {te : TE} {pos p2 : Pos}
end
end L2
set_option Elab.async false
set_option linter.all false
set_option maxRecDepth 100000
namespace L2
open PySem PySem.Spec PyProof.Rows
/-! ### the forms of a comprehension that one uses -/
/-- an element has come: y goes onto the list at D -/
def LcNx (n i : Nat) (D : Addr) (ys : List V) (Pv : Nat → List V → Hp → Prop) (y : V) (H3 : Hp) : Prop :=
  H3 D = some (.lst ys) ∧ ys.length < sizeLine ∧ ∃ m', m' < n - i ∧ (m' = n - (i + 1) ∧ i + 1 ≤ n ∧ Pv (i + 1) (ys ++ [y]) (upd H3 D (.lst (ys ++ [y]))))
/-- none has come -/
def LcNo (n i : Nat) (ys : List V) (Pv : Nat → List V → Hp → Prop) (H3 : Hp) : Prop := ∃ m', m' < n - i ∧ (m' = n - (i + 1) ∧ i + 1 ≤ n ∧ Pv (i + 1) ys H3)
theorem LcNx.mk {n i : Nat} {D : Addr} {ys : List V} {Pv : Nat → List V → Hp → Prop} {y : V} {H3 : Hp} (hi : i < n) (hn : n ≤ 1000) (hl : ys.length ≤ i) (h : H3 D = some (.lst ys)) (p : Pv (i + 1) (ys ++ [y]) (upd H3 D (.lst (ys ++ [y])))) : LcNx n i D ys Pv y H3 :=
  ⟨h, small1000 (by omega), n - (i + 1), by omega, rfl, hi, p⟩
theorem lc_go {tc : TT} {te : TE} {σ : St} {J : It} {D : Addr} {Fin : Hp → Prop} {H : Hp} {n : Nat} (Pv : Nat → List V → Hp → Prop) (h0 : Pv 0 [] (upd H D (.lst [])))
    (hD : ∀ i ys H, Pv i ys H → H D = some (.lst ys)) (hend : ∀ ys H, Pv n ys H → J.stop n H ∧ Fin H)
    (hgo : ∀ i ys H, i < n → Pv i ys H → J.go i H ∧ ∀ x H', J.yld i H x H' → tc (some x :: σ) H' fun b H2 => if b = true then te (some x :: σ) H2 (LcNx n i D ys Pv) else LcNo n i ys Pv H2) : lcGo tc te σ J D Fin H := by
  refine ⟨fun i m ys H => m = n - i ∧ i ≤ n ∧ Pv i ys H, ⟨n, rfl, Nat.zero_le _, h0⟩, ?_⟩
  rintro i m ys H ⟨rfl, hi, p⟩
  refine ⟨hD i ys H p, ?_⟩
  by_cases hlt : i < n
  · exact .inr (hgo i ys H hlt p)
  · have e : i = n := by omega
    subst e
    exact .inl (hend ys H p)
theorem lc_list {K : PySem.W.Frag} {a : Addr} {xs : List V} {tc : TT} {te : TE} {σ : St} {D : Addr} {Fin : Hp → Prop} {H : Hp} (Pv : Nat → List V → Hp → Prop) (h0 : Pv 0 [] (upd H D (.lst [])))
    (hD : ∀ i ys H, Pv i ys H → H D = some (.lst ys) ∧ SqL K H a xs) (hend : ∀ ys H, Pv xs.length ys H → Fin H)
    (hgo : ∀ i x ys H, i < xs.length → xs[i]? = some x → Pv i ys H → tc (some x :: σ) H fun b H2 => if b = true then te (some x :: σ) H2 (LcNx xs.length i D ys Pv) else LcNo xs.length i ys Pv H2) : lcGo tc te σ (Itl K a) D Fin H := by
  refine lc_go Pv h0 (fun i ys H p => (hD i ys H p).1) (fun ys H p => ⟨⟨xs, (hD _ _ _ p).2, Nat.le_refl _⟩, hend ys H p⟩) fun i ys H hi p => ?_
  refine ⟨⟨xs, xs[i], (hD _ _ _ p).2, List.getElem?_eq_getElem hi⟩, fun x H' y => ?_⟩
  obtain ⟨e, y⟩ := y
  subst e
  exact hgo i x ys _ hi (y xs (hD _ _ _ p).2) p
theorem lc_range {lo : Int} {n : Nat} {tc : TT} {te : TE} {σ : St} {D : Addr} {Fin : Hp → Prop} {H : Hp} (Pv : Nat → List V → Hp → Prop) (h0 : Pv 0 [] (upd H D (.lst [])))
    (hD : ∀ i ys H, Pv i ys H → H D = some (.lst ys)) (hend : ∀ ys H, Pv n ys H → Fin H)
    (hgo : ∀ i ys H, i < n → Pv i ys H → tc (some (.int (lo + i)) :: σ) H fun b H2 => if b = true then te (some (.int (lo + i)) :: σ) H2 (LcNx n i D ys Pv) else LcNo n i ys Pv H2) : lcGo tc te σ (Itr lo n) D Fin H := by
  refine lc_go Pv h0 hD (fun ys H p => ⟨Nat.le_refl _, hend ys H p⟩) fun i ys H hi p => ?_
  refine ⟨hi, fun x H' y => ?_⟩
  obtain ⟨e, y⟩ := y
  subst e y
  exact hgo i ys _ hi p
/-! within a comprehension's block the readings must not name the block's context -/
section
variable {X : Cx}
theorem ix_listK (K : PySem.W.Frag) (e : X.K = K := by rfl) : IxR X (rIxL K) := by rw [← e]; exact ix_list
end
theorem yesI {σ : St} {H : Hp} {A B : Hp → Prop} (h : A H) : tYes σ H (fun b H2 => if b = true then A H2 else B H2) := by
  show if true = true then A H else B H
  rw [if_pos rfl]
  exact h
theorem lcS {X : Cx} {x : Str} {sc scp : Scope} {N ps : List Str} (S : FnScope N ps scp) (hN : X.N = N := by rfl) (hs : X.env.scope = scp := by rfl) (h1 : sc.kind = .function := by rfl) (h2 : ∀ p ∈ sc.names, p.2 ≠ .cell := by decide +kernel) (h3 : sc.names.lookup x = some .local := by rfl)
    (h4 : ∀ p ∈ sc.names, p.2 = .local → sc.names.lookup p.1 = some .local := by decide +kernel) (h5 : ∀ y ∈ N, sc.names.lookup y ≠ some .local := by decide +kernel)
    (h7 : ∀ p ∈ sc.names, p.2 = .free → scp.names.lookup p.1 = some .cell ∨ scp.names.lookup p.1 = some .free := by decide +kernel) : LcScope X x sc :=
  ⟨h1, h2, h3, h4, by rw [hN]; exact h5, by rw [hN]; exact S.nd, fun p hp e => by
    show X.env.scope.names.lookup p.1 = _ ∨ X.env.scope.names.lookup p.1 = _
    rw [hs]
    exact h7 p hp e⟩
end L2
set_option Elab.async false
set_option linter.all false
set_option maxRecDepth 100000
/-! The rules once more, with K named: a reading then does not bear the whole context. -/
namespace L2
open PySem PySem.Spec PyProof.Rows
section
variable {X : Cx} {tg : Expr}
theorem pi_listK (K : PySem.W.Frag) {l : Expr} {tl : TE} (hl : PE X l tl) (e : X.K = K := by rfl) : PI X tg l (iList K tl) := by subst e; exact pi_list hl
inductive cLen (K : PySem.W.Frag) (xs : List V) (H : Hp) (Q : VK) : Prop
  | mk (p : Addr) (ys : List V) (e : xs = [.ref p]) (h : SqL K H p ys ∨ SqT K H p ys) (q : Q (.int ys.length) H) : cLen K xs H Q
theorem call_lenK (K : PySem.W.Frag) (e : X.K = K := by rfl) : CallR X (.builtin "len") (cLen K) := by
  subst e
  intro pins s σ H xs us Q I r h
  obtain ⟨p, ys, e, h, q⟩ := h
  exact call_len_seq pins s σ H xs us Q I r ⟨p, ys, e, h, q⟩
inductive cSum (K : PySem.W.Frag) (xs : List V) (H : Hp) (Q : VK) : Prop
  | mk (p : Addr) (ns : List Int) (e : xs = [.ref p]) (h : SqL K H p (ns.map V.int) ∨ SqT K H p (ns.map V.int)) (q : Q (.int ns.sum) H) : cSum K xs H Q
theorem call_sum_seqK (K : PySem.W.Frag) (hc : X.calm = true) (e : X.K = K := by rfl) : CallR X (.builtin "sum") (cSum K) := by
  subst e
  intro pins s σ H xs us Q I r h
  obtain ⟨p, ns, e, h, q⟩ := h
  exact call_sum_seq hc pins s σ H xs us Q I r ⟨p, ns, e, h, q⟩
theorem call_all_seqK (K : PySem.W.Frag) (hc : X.calm = true) (e : X.K = K := by rfl) : CallR X (.builtin "all") (fun xs H Q => ∃ (p : Addr) (bs : List Bool), xs = [.ref p] ∧ SqL K H p (bs.map V.bl) ∧ Q (.bl (bs.all id)) H) := by subst e; exact call_all_seq hc
theorem pg_tupK (K : PySem.W.Frag) {es : List Expr} {k : Nat} {t : TGs} {n : Nat} {pos : Pos} (hc : X.calm = true) (h : PGs X es t) (hn : (assignEach es X.env).length = n := by rfl) (hst : (assignEach es X.env).findIdx? (·.1) = none := by rfl) (ek : X.K = K := by rfl) : PG X (.Tuple es k pos) (gTup K n t) := by subst ek; exact pg_tup hc h hn hst
end
end L2
set_option Elab.async false
set_option linter.all false
set_option maxRecDepth 100000
/-! repr, ==, != of data (numbers, texts, None, lists and tuples of these), min and max of a list of ints, over the hand layer. -/
namespace L2
open PySem PySem.Spec PyProof.Rows
/-! a thing that is read as that data -/
mutual
def Dat (H : Hp) : PyData → V → Prop
  | .none, v => v = .non
  | .bool b, v => v = .bl b
  | .int i, v => v = .int i
  | .str x, v => v = .str x
  | .list ds, v => ∃ a xs, v = .ref a ∧ H a = some (.lst xs) ∧ DatAll H ds xs
  | .tuple ds, v => ∃ a xs, v = .ref a ∧ H a = some (.tup xs) ∧ DatAll H ds xs
  | .dict _, _ => False
def DatAll (H : Hp) : List PyData → List V → Prop
  | [], xs => xs = []
  | d :: ds, xs => ∃ x r, xs = x :: r ∧ Dat H d x ∧ DatAll H ds r
end
section
variable {X : Cx} {pins : List (Addr × Obj)} {σ : St} {H : Hp} {s : Shared}
mutual
theorem Dat.reads (I : Inv X pins σ H s) : ∀ (d : PyData) (v : V) (u : Value), RelV v u → Dat H d v → ∃ as, Reads s.heap u d as
  | .none, v, u, r, h => by unfold Dat at h; subst h; cases r; exact ⟨_, .none⟩
  | .bool b, v, u, r, h => by unfold Dat at h; subst h; cases r; exact ⟨_, .bool b⟩
  | .int i, v, u, r, h => by unfold Dat at h; subst h; obtain ⟨t, rfl⟩ := r; exact ⟨_, .int i t⟩
  | .str x, v, u, r, h => by unfold Dat at h; subst h; obtain ⟨t, rfl⟩ := r; exact ⟨_, .str x t⟩
  | .list ds, v, u, r, h => by
    unfold Dat at h
    obtain ⟨a, xs, rfl, h1, h2⟩ := h
    cases r
    obtain ⟨_, its, n, rv, e⟩ := I.hok a _ h1
    obtain ⟨as, hr⟩ := DatAll.reads I ds xs its rv h2
    exact ⟨_, .list e rfl rfl (by simpa using hr)⟩
  | .tuple ds, v, u, r, h => by
    unfold Dat at h
    obtain ⟨a, xs, rfl, h1, h2⟩ := h
    cases r
    obtain ⟨_, its, rv, o, ho, hc, n, hd⟩ := I.hok a _ h1
    obtain ⟨as, hr⟩ := DatAll.reads I ds xs its rv h2
    exact ⟨_, .tuple ho hc hd (by simpa using hr)⟩
  | .dict _, v, u, r, h => by unfold Dat at h; exact h.elim
theorem DatAll.reads (I : Inv X pins σ H s) : ∀ (ds : List PyData) (xs : List V) (us : List Value), Vals xs us → DatAll H ds xs → ∃ as, ReadsAll s.heap us ds as
  | [], xs, us, r, h => by unfold DatAll at h; subst h; cases r; exact ⟨_, .nil⟩
  | d :: ds, xs, us, r, h => by
    unfold DatAll at h
    obtain ⟨x, rr, rfl, h1, h2⟩ := h
    cases r with
    | cons rx rt =>
      obtain ⟨as, q1⟩ := Dat.reads I d x _ rx h1
      obtain ⟨bs, q2⟩ := DatAll.reads I ds rr _ rt h2
      exact ⟨_, .cons q1 q2⟩
end
end
section
variable {X : Cx}
inductive rEqD (neg : Bool) (x y : V) (H : Hp) (Q : VK) : Prop
  | mk (d d' : PyData) (h : Dat H d x) (h' : Dat H d' y) (f : d.canLay0 = true) (f' : d'.canLay0 = true) (p : d.depth ≤ 8) (q : Q (.bl (if neg then !PyData.eqv d d' else PyData.eqv d d')) H) : rEqD neg x y H Q
theorem op_eqD {k : Nat} (hr : Room k X.A) : OpR X (compareOp .Eq) (rEqD false) := by
  intro pins s σ H x y v u Q I rx ry h
  obtain ⟨d, d', h1, h2, f, f', p, q⟩ := h
  obtain ⟨as, r1⟩ := Dat.reads I d _ _ rx h1
  obtain ⟨bs, r2⟩ := Dat.reads I d' _ _ ry h2
  exact SeqAt.eqOverData X.prog X.w X.A X.xe s v u d d' as bs _ r1 r2 f f' (by have := hr.un; omega) (fin_bl I q rfl)
end
section
variable {X : Cx}
end
end L2
set_option Elab.async false
set_option linter.all false
set_option maxRecDepth 100000
/-! repr of a list whose things are data or flat dicts, over the hand layer. -/
namespace L2
open PySem PySem.Spec PyProof.Rows
/-- a thing that is no object, as data -/
inductive Flat : Value → PyData → Prop
  | none : Flat .none .none
  | bool (b : Bool) : Flat (.bool b) (.bool b)
  | int (i : Int) (t : Tok) : Flat (.int i t) (.int i)
  | str (x : Str) (t : Tok) : Flat (.str x t) (.str x)
theorem Flat.reads {h : Heap} {v : Value} {d : PyData} (f : Flat v d) : Reads h v d [] := by
  cases f with
  | none => exact .none
  | bool b => exact .bool b
  | int i t => exact .int i t
  | str x t => exact .str x t
theorem flat_readsAll {h : Heap} : ∀ {vs : List Value} {ds : List PyData}, Paired Flat vs ds → ReadsAll h vs ds []
  | _, _, .nil => .nil
  | _, _, .cons f t => .cons (as := []) (bs := []) f.reads (flat_readsAll t)
/-- a dict at a whose keys and values are no objects -/
def LitP (a : Addr) (kvs : List (PyData × PyData)) (h : Heap) : Prop :=
  (a == sysModules) = false ∧ ∃ o es n, h.get? a = some o ∧ o.cls = .type "dict" ∧ o.data = .dict es n ∧ Paired Flat (es.toList.map (·.key)) (kvs.map (·.1)) ∧ Paired Flat (es.toList.map (·.val)) (kvs.map (·.2))
def LitO (a : Addr) (kvs : List (PyData × PyData)) : HO := .ext (LitP a kvs)
theorem litO_ok {P : Program} {w : World} {H : Hp} {h : Heap} {a : Addr} {kvs : List (PyData × PyData)} (x : LitP a kvs h) : ObjOk P w H h a (LitO a kvs) := by
  refine ⟨x, ?_, fun h1 h2 y k => ?_⟩
  · obtain ⟨_, o, _, _, e, _⟩ := x; exact ⟨o, e⟩
  · obtain ⟨s, o, es, n, e, r⟩ := y; exact ⟨s, o, es, n, k o e, r⟩
theorem LitP.reads {a : Addr} {kvs : List (PyData × PyData)} {h : Heap} (x : LitP a kvs h) : ∃ as, Reads h (.ref a) (.dict kvs) as ∧ sysModules ∉ as := by
  obtain ⟨s, o, es, n, e, c, d, k, v⟩ := x
  refine ⟨_, .dict e c d (flat_readsAll k) (flat_readsAll v), ?_⟩
  intro z
  have z' : sysModules = a := by simpa using z
  rw [z'] at s
  simp at s
/-- a key's and a flat value's data -/
def keyD : Key → PyData
  | .inl i => .int i
  | .inr x => .str x
def flatD : V → Option PyData
  | .non => some .none
  | .bl b => some (.bool b)
  | .int i => some (.int i)
  | .str x => some (.str x)
  | _ => none
theorem flat_key {P : Program} {w : World} {k : Key} {v : Value} (h : (mixKind P w).is k v = true) : Flat v (keyD k) := by
  rcases keyIs_shape h with ⟨i, t, rfl, rfl⟩ | ⟨x, t, rfl, rfl⟩
  · exact .int i t
  · exact .str x t
theorem flat_val {x : V} {u : Value} {d : PyData} (e : flatD x = some d) (r : RelV x u) : Flat u d := by
  cases x with
  | non => cases e; cases r; exact .none
  | bl b => cases e; cases r; exact .bool b
  | int i => cases e; obtain ⟨t, rfl⟩ := r; exact .int i t
  | str y => cases e; obtain ⟨t, rfl⟩ := r; exact .str y t
  | _ => cases e
def FlatK : List (Key × V) → List (PyData × PyData) → Prop := Paired fun e p => keyD e.1 = p.1 ∧ flatD e.2 = some p.2
theorem flat_keys {P : Program} {w : World} : ∀ {kvs : List (Key × V)} {ds : List (PyData × PyData)} {vs : List (Key × Value)} {es : List DictEntry}, FlatK kvs ds → KV kvs vs → Pairs (mixKind P w) es vs →
    Paired Flat (es.map (·.key)) (ds.map (·.1)) ∧ Paired Flat (es.map (·.val)) (ds.map (·.2))
  | _, _, _, _, .nil, .nil, .nil => ⟨.nil, .nil⟩
  | _, _, _, _, .cons f fs, .cons r rs, .cons k v ps => by
    obtain ⟨a, b⟩ := flat_keys fs rs ps
    refine ⟨.cons ?_ a, .cons ?_ b⟩
    · exact Eq.mp (congrArg (Flat _) ((congrArg keyD r.1).symm.trans f.1)) (flat_key k)
    · exact Eq.mp (congrArg (fun z => Flat z _) v.symm) (flat_val f.2 r.2)
/-- data without a dict, or a flat dict -/
inductive Dat1 (H : Hp) : PyData → V → Prop
  | dat {d : PyData} {v : V} (h : Dat H d v) (c : d.hasDict = false) : Dat1 H d v
  | lit {a : Addr} {kvs : List (PyData × PyData)} (h : H a = some (LitO a kvs)) : Dat1 H (.dict kvs) (.ref a)
  | dK {a : Addr} {es : List (Key × V)} {kvs : List (PyData × PyData)} (h : H a = some (.dK es)) (f : FlatK es kvs) : Dat1 H (.dict kvs) (.ref a)
section
variable {X : Cx} {pins : List (Addr × Obj)} {σ : St} {H : Hp} {s : Shared}
theorem Dat1.reads (I : Inv X pins σ H s) {d : PyData} {v : V} {u : Value} (r : RelV v u) (x : Dat1 H d v) : ∃ as, Reads s.heap u d as ∧ (d.hasDict = true → sysModules ∉ as) := by
  cases x with
  | dat h c => obtain ⟨as, q⟩ := Dat.reads I d v u r h; exact ⟨as, q, PyData.noDict_hsm c⟩
  | @lit a kvs h =>
    cases r
    obtain ⟨p, _⟩ := (show ObjOk X.prog X.w H s.heap a (LitO a kvs) from I.hok a _ h)
    obtain ⟨as, q, n⟩ := p.reads
    exact ⟨as, q, fun _ => n⟩
  | @dK a es kvs h f =>
    cases r
    obtain ⟨_, z, vs, rv, o, en, ep, e, c, dd, _, ps, _⟩ := (show ObjOk X.prog X.w H s.heap a (.dK es) from I.hok a _ h)
    obtain ⟨k1, k2⟩ := flat_keys f rv ps
    obtain ⟨as, q, n⟩ := LitP.reads (a := a) (kvs := kvs) (h := s.heap) ⟨z, o, en, ep, e, c.1, dd, k1, k2⟩
    exact ⟨as, q, fun _ => n⟩
theorem dat1_all (I : Inv X pins σ H s) : ∀ {ds : List PyData} {xs : List V} {us : List Value}, Vals xs us → Paired (Dat1 H) ds xs → PyData.showableAll ds = true → (∀ t ∈ PyData.shownAll ds, t.length ≤ sizeLine) →
    (∃ as, ReadsAll s.heap us ds as) ∧ ∃ bs, ReadAtMost s.heap (PyData.depthAll ds) bs ∧ ReprAllK X.prog X.w bs s.heap (PyData.depthAll ds) us (PyData.shownAll ds)
  | _, _, _, .nil, .nil, _, _ => ⟨⟨_, .nil⟩, [], (fun _ h => nomatch h), by simp only [PyData.shownAll]; exact .nil⟩
  | _, _, _, .cons rx rt, .cons (a := d) (l₁ := ds) x xt, hs, hz => by
    have hs' : d.showable = true ∧ PyData.showableAll ds = true := by simpa [PyData.showableAll] using hs
    obtain ⟨as, q, n⟩ := x.reads I rx
    obtain ⟨⟨as2, q2⟩, b2, hb2, k2⟩ := dat1_all I rt xt hs'.2 (fun t ht => hz t (by simp only [PyData.shownAll]; exact List.mem_cons_of_mem _ ht))
    obtain ⟨b1, hb1, k1⟩ := ReprK.of_reads (prog := X.prog) (w := X.w) q hs'.1 n (hz _ (by simp only [PyData.shownAll]; exact List.mem_cons_self ..))
    refine ⟨⟨_, .cons q q2⟩, b1 ++ b2, ?_, ?_⟩
    · simp only [PyData.depthAll]
      exact (hb1.mono (Nat.le_max_left _ _)).append (hb2.mono (Nat.le_max_right _ _))
    · simp only [PyData.depthAll, PyData.shownAll]
      exact .cons ((k1.more fun b hb => List.mem_append_left _ hb).level_le (Nat.le_max_left _ _)) (k2.more_le (fun b hb => List.mem_append_right _ hb) (Nat.le_max_right _ _))
end
section
variable {X : Cx}
inductive cReprL (vs : List V) (H : Hp) (Q : VK) : Prop
  | mk (a : Addr) (xs : List V) (ds : List PyData) (e : vs = [.ref a]) (h : H a = some (.lst xs)) (p : Paired (Dat1 H) ds xs) (sh : PyData.showableAll ds = true) (sz : (PyData.list ds).shown.length ≤ sizeLine) (dp : (PyData.list ds).depth ≤ 8)
      (q : Q (.str (PyData.list ds).shown) H) : cReprL vs H Q
theorem call_reprL {k : Nat} (hr : Room k X.A) : CallR X (.builtin "repr") cReprL := by
  intro pins s σ H xs us Q I r h
  obtain ⟨a, ys, ds, rfl, ha, p, sh, sz, dp, q⟩ := h
  obtain ⟨u, rfl, ru⟩ := vals1 r
  cases ru
  obtain ⟨_, its, n, rv, e⟩ := I.hok a _ ha
  have hz' : (listText (PyData.shownAll ds)).length ≤ sizeLine := by simpa only [PyData.shown] using sz
  obtain ⟨⟨as, rd⟩, bs, hb, hk⟩ := dat1_all I rv p sh (fun t ht => Nat.le_trans (listText_mem_le ht) hz')
  have rd' : Reads s.heap (.ref a) (.list ds) (a :: as) := .list e rfl rfl (by simpa using rd)
  have hna : a ∉ bs := not_mem_of_deeper rd' (by simp only [PyData.depth]; omega) hb
  have hun := hr.un
  have hg := hr.gd
  have dp' : PyData.depthAll ds + 1 ≤ 8 := by simpa only [PyData.depth, Nat.add_comm] using dp
  refine call_repr_slot (by omega) (T := "list") ⟨_, e, rfl⟩ F.slot_list_repr.toG ?_
  have fin : ∀ h' u tk, (∀ b o, s.heap.get? b = some o → h'.get? b = some o) → ∃ t y, Value.str (listText (PyData.shownAll ds)) u = Value.str t y ∧ EP X pins σ Q (Value.str (listText (PyData.shownAll ds)) u) { s with heap := h', toks := tk } := fun h' u tk hk' =>
    ⟨_, _, rfl, .str (PyData.list ds).shown, H, I.kept hk', ⟨u, by simp only [PyData.shown]⟩, q⟩
  cases its with
  | nil =>
    cases rd
    simp only [PyData.shownAll, listText_nil] at fin
    exact call_list_repr_empty ⟨_, e, rfl⟩ e rfl (fin s.heap _ _ fun _ _ e => e)
  | cons x l =>
    exact call_list_reprK e rfl rfl hna (by simpa using hk.length_eq) (fun i y e => hk.item i y (by simpa using e)) hg (fun b _ => Clear.nil b) (by show X.A.units + 1 + _ < cLine; omega) (fun _ _ e => e) fin hz'
end
end L2
set_option Elab.async false
set_option linter.all false
set_option maxRecDepth 100000
/-! isinstance of None, texts and dicts, too, over the hand layer. -/
namespace L2
open PySem PySem.Spec PyProof.Rows
inductive TyW (H : Hp) : V → Value → Prop
  | s {x : V} {t : Value} (h : TyS H x t) : TyW H x t
  | non : TyW H .non (.type "NoneType")
  | str (x : Str) : TyW H (.str x) (.type "str")
  | dK {a : Addr} {kvs : List (Key × V)} (h : H a = some (.dK kvs)) : TyW H (.ref a) (.type "dict")
  | lit {a : Addr} {kvs : List (PyData × PyData)} (h : H a = some (LitO a kvs)) : TyW H (.ref a) (.type "dict")
section
variable {X : Cx}
theorem tyw_kit {pins : List (Addr × Obj)} {σ : St} {H : Hp} {s : Shared} {x : V} {u t : Value} (I : Inv X pins σ H s) (rx : RelV x u) (ty : TyW H x t) : ∃ Hx : Heap → Prop, PySem.W.KitX X.K u t Hx ∧ Hx s.heap ∧ u ≠ .builtin "__main__.__loader__#opaque" := by
  cases ty with
  | s h => exact ty_kit I rx h
  | non => cases (show u = Value.none from rx); exact ⟨_, PySem.W.kitx_none, True.intro, fun z => nomatch z⟩
  | str y => obtain ⟨t, q⟩ := (show ∃ t, u = Value.str y t from rx); cases q; exact ⟨_, PySem.W.kitx_str, True.intro, fun z => nomatch z⟩
  | @dK a kvs h =>
    cases (show u = Value.ref a from rx)
    obtain ⟨_, _, _, _, o, _, _, e, c, _⟩ := (show ObjOk X.prog X.w H s.heap a (.dK kvs) from I.hok a _ h)
    exact ⟨_, PySem.W.kitx_dict, ⟨o, e, c.1⟩, fun z => nomatch z⟩
  | @lit a kvs h =>
    cases (show u = Value.ref a from rx)
    obtain ⟨⟨_, o, _, _, e, c, _⟩, _⟩ := (show ObjOk X.prog X.w H s.heap a (LitO a kvs) from I.hok a _ h)
    exact ⟨_, PySem.W.kitx_dict, ⟨o, e, c⟩, fun z => nomatch z⟩
inductive cIsW (K : PySem.W.Frag) (xs : List V) (H : Hp) (Q : VK) : Prop
  | mk (x : V) (t : Value) (T : String) (b : Bool) (e : xs = [x, .ty T]) (h : TyW H x t) (k : PySem.W.kitOne K t (.type T) = some b) (q : Q (.bl b) H) : cIsW K xs H Q
theorem call_isiW (K : PySem.W.Frag) (ek : X.K = K := by rfl) : CallR X (.builtin "isinstance") (cIsW K) := by
  subst ek
  intro pins s σ H xs us Q I r h
  obtain ⟨x, t, T, b, rfl, ty, e, q⟩ := h
  obtain ⟨u, w', rfl, rx, rt⟩ := vals2 r
  cases rt
  obtain ⟨Hx, Z, p, hx⟩ := tyw_kit I rx ty
  exact PySem.W.kia_one Z I.kIn p e hx fun tk => ⟨.bl b, H, I.tok tk, rfl, q⟩
inductive cIsW2 (K : PySem.W.Frag) (xs : List V) (H : Hp) (Q : VK) : Prop
  | mk (x : V) (t : Value) (p : Addr) (T U : String) (b : Bool) (e : xs = [x, .ref p]) (hq : SqT K H p [.ty T, .ty U]) (h : TyW H x t) (k : PySem.W.kitAny K t [.type T, .type U] = some b) (q : Q (.bl b) H) : cIsW2 K xs H Q
theorem call_isiW2 (K : PySem.W.Frag) (ek : X.K = K := by rfl) : CallR X (.builtin "isinstance") (cIsW2 K) := by
  subst ek
  intro pins s σ H xs us Q I r h
  obtain ⟨x, t, tp, T, U, b, rfl, hq, ty, e, q⟩ := h
  obtain ⟨u, w', rfl, rx, rt⟩ := vals2 r
  cases rt
  obtain ⟨Hx, Z, p, hx⟩ := tyw_kit I rx ty
  obtain ⟨its, rv, pl, hz⟩ := I.tuple hq
  obtain ⟨u1, u2, rfl, r1, r2⟩ := rv.two
  cases r1
  cases r2
  obtain ⟨o, ho, hc, n, hd⟩ := pl
  obtain ⟨oc, odd, odt, osl⟩ := o
  dsimp only at hc hd
  subst hc hd
  exact PySem.W.kia_tup Z I.kIn p ho e hx fun tk => ⟨.bl b, H, I.tok tk, rfl, q⟩
end
end L2
set_option Elab.async false
set_option linter.all false
set_option maxRecDepth 100000
namespace L2
open PySem PySem.Spec PyProof.Rows

/-! ### lists of pairs as tables -/
section
variable {κ : Type} [DecidableEq κ]



end


/-! ### a tracked dict, its keys ints and texts or tuples of these -/
theorem kV_is {P : Program} {w : World} {k : Key} {u : Value} (r : RelV (kV k) u) : (mixKind P w).is k u = true := by
  cases k with
  | inl i => obtain ⟨t, e⟩ := (show ∃ t, u = Value.int i t from r); subst e; exact mixKind_int P w i t
  | inr x => obtain ⟨t, e⟩ := (show ∃ t, u = Value.str x t from r); subst e; exact mixKind_str P w x t


section
variable {P : Program} {w : World} {H : Hp} {h : Heap} {a : Addr}
theorem rd_of {u : HO} (ok : HOk P w H h) (e : Rd H a u) : ObjOk P w H h a u := e.ok ok
theorem dk_rd {kvs : List (Key × V)} (ok : HOk P w H h) (e : Rd H a (.dK kvs)) : kvs.length ≤ sizeLine ∧ (a == sysModules) = false ∧ ∃ vs, KV kvs vs ∧ h.DictOf (mixKind P w) a vs :=
  show ObjOk P w H h a (.dK kvs) from rd_of ok e
theorem dk_of {kvs : List (Key × V)} (ok : HOk P w H h) (e : H a = some (.dK kvs)) : kvs.length ≤ sizeLine ∧ (a == sysModules) = false ∧ ∃ vs, KV kvs vs ∧ h.DictOf (mixKind P w) a vs := dk_rd ok (.inl e)
end



section
variable {X : Cx} {pins : List (Addr × Obj)} {σ : St} {H : Hp} {s : Shared} {a : Addr} {y v : V} {u r : Value} {o : Option V} {A : Around} {E : Value → Shared → Prop}

theorem Inv.big (I : Inv X pins σ H s) : sysModules < s.heap.objs.size := by
  have h : mainGlobals < s.heap.objs.size := (I.mod.glob.keeps I.bk).lt
  exact Nat.lt_trans (by decide) h

/-- a dict's object is replaced -/
theorem d_write {h' : Heap} {t' : Nat} {ob : HO} (I : Inv X pins σ H s) (mu : Mut (H a)) (hs : Heap.SameBut a s.heap h') (he : ∃ q, h'.get? a = some q) (new : ObjOk X.prog X.w (upd H a ob) h' a ob) :
    Inv X pins σ (upd H a ob) { s with heap := h', toks := t' } :=
  I.write (x := a) (e := a) mu (.inl rfl) (fun b q hb z => (hs.2 b hb).trans z) he new
end

section
variable {X : Cx} {pins : List (Addr × Obj)} {σ : St} {H : Hp} {s : Shared} {a : Addr} {kvs : List (Key × V)} {k : Key} {u : Value} {A : Around} {E : Value → Shared → Prop}
end


/-! ### readings and rules -/



section
variable {X : Cx} {o i e value : Expr} {pos pos' tpos : Pos} {td ty tv : TE}
end


/-! ### displays -/
theorem dk_empty {P : Program} {w : World} {H : Hp} (h : Heap) (hb : sysModules < h.objs.size) : ObjOk P w H (h.push { cls := .type "dict", data := .dict #[] }) h.objs.size (.dK []) :=
  ⟨Nat.zero_le _, beq_eq_false_iff_ne.mpr (Ne.symm (Nat.ne_of_lt hb)), [], .nil, Heap.DictOf.new h⟩
/-- {}, to be a dict of the kind that is wanted -/
def tDNewK : TE := fun _ H Q => ∀ p, H p = none → Q (.ref p) (upd H p (.dK []))
section
variable {X : Cx} {pos : Pos}
theorem pe_dnewK : PE X (.Dict [] [] pos) tDNewK := .mk fun pins s σ H Q I h =>
  wpAny_Dict_empty ⟨.ref s.heap.objs.size, _, I.laid (a := s.heap.objs.size) (o := .dK []) (t' := s.toks) (fun _ _ q => Heap.get?_push_of_some _ q) (Nat.le_refl _) (dk_empty s.heap I.big), rfl, h _ (I.hok.fresh (Nat.le_refl _))⟩
end

/-- the pairs of a display, from the left -/
def tPairs : List (TE × TE) → St → Hp → (List (V × V) → Hp → Prop) → Prop
  | [], _, H, Q => Q [] H
  | (tk, tv) :: r, σ, H, Q => tk σ H fun x H1 => tv σ H1 fun y H2 => tPairs r σ H2 fun ps H3 => Q ((x, y) :: ps) H3
abbrev VV : List (V × V) → List (Value × Value) → Prop := Paired fun p q => RelV p.1 q.1 ∧ RelV p.2 q.2
def PPs (X : Cx) (pos : Pos) (keys : List (Option Expr)) (values : List Expr) (trs : List (TE × TE)) : Prop :=
  ∀ (pins : List (Addr × Obj)) (s : Shared) (σ : St) (H : Hp) (Q : List (V × V) → Hp → Prop), Inv X pins σ H s → tPairs trs σ H Q →
    wpAny (model X.prog X.w) X.A (evalPairs (pairTrees keys values X.env pos)) (fun vs s' => ∃ ps H', Inv X pins σ H' s' ∧ VV ps vs ∧ Q ps H') X.xe s
theorem pps_nil {X : Cx} {pos : Pos} : PPs X pos [] [] [] := fun pins s σ H Q I h => pairTrees_nil_walk ⟨[], H, I, .nil, h⟩
theorem pps_cons {X : Cx} {pos : Pos} {k v : Expr} {ks : List (Option Expr)} {vs : List Expr} {tk tv : TE} {trs : List (TE × TE)} (hk : PE X k tk) (hv : PE X v tv) (hr : PPs X pos ks vs trs) :
    PPs X pos (some k :: ks) (v :: vs) ((tk, tv) :: trs) := fun pins s σ H Q I h =>
  pairTrees_cons_walk (thn (hk pins s σ H _ I h) fun u s1 ⟨x, H1, I1, rx, q1⟩ => thn (hv pins s1 σ H1 _ I1 q1) fun w2 s2 ⟨y, H2, I2, ry, q2⟩ =>
    thn (hr pins s2 σ H2 _ I2 q2) fun ws s3 ⟨ps, H3, I3, rel, q3⟩ => ⟨(x, y) :: ps, H3, I3, .cons ⟨rx, ry⟩ rel, q3⟩)



/-! ### methods -/


section
variable {X : Cx} {pins : List (Addr × Obj)} {σ : St} {H : Hp} {s : Shared} {a : Addr} {y d : V} {u r : Value} {o : Option V} {A : Around} {E : Value → Shared → Prop}
end

section
variable {X : Cx} {o e f : Expr} {apos cpos : Pos} {td ty tx : TE}
end

/-! ### dict(d): a copy -/
section
variable {X : Cx} {pins : List (Addr × Obj)} {σ : St} {H : Hp} {s : Shared} {a : Addr} {kvs : List (Key × V)} {A : Around} {E : Value → Shared → Prop}
end


section
variable {X : Cx} {pins : List (Addr × Obj)} {σ : St} {H : Hp} {s : Shared} {a : Addr} {y : V} {u : Value} {A : Around} {E : Value → Shared → Prop}
end
end L2
set_option Elab.async false
set_option linter.all false
set_option maxRecDepth 100000
/-! displays of dicts whose keys are ints, texts and None, over the hand layer: flat dicts that are never written. -/
namespace L2
open PySem PySem.Spec PyProof.Rows
abbrev KeyN := Option Key
def keyNIs : KeyN → Value → Bool
  | none, .none => true
  | none, _ => false
  | some k, v => keyIs k v
theorem keyNIs_shape : ∀ {k : KeyN} {v : Value}, keyNIs k v = true → (k = none ∧ v = .none) ∨ ∃ j, k = some j ∧ keyIs j v = true
  | none, v, h => by cases v <;> first | exact .inl ⟨rfl, rfl⟩ | cases h
  | some j, v, h => .inr ⟨j, rfl, h⟩
theorem keyIs_none {j : Key} (h : keyIs j .none = true) : False := by
  rcases keyIs_shape h with ⟨_, _, _, e⟩ | ⟨_, _, _, e⟩ <;> cases e
theorem hash_none {prog : Program} {w : World} {A : Around} {E : Value → Shared → Prop} {s : Shared} {Q : Int → Shared → Prop} (h : Q 0xFCA86420 { s with toks := s.toks + 1 }) : wpAny (model prog w) A (pyHash .none) Q E s := by
  have hT : s.TypeIs .none "NoneType" := rfl
  unfold pyHash
  have hv : [Value.none].any Value.onHeap = false := rfl
  refine wpAny_bind ?_
  rw [cRoomFor, if_neg (by rw [hv]; exact Bool.false_ne_true)]; refine wpAny_pure ?_
  refine wpAny_bind (wpAny_specialOf hT F.slot_NoneType_hash.lookup ?_)
  show wpAny _ _ (if (some (Value.builtin "NoneType.__hash__") == some Value.none) = true then _ else _) Q E s
  rw [if_neg (by rw [beq_builtin_none]; exact Bool.false_ne_true)]
  refine wpAny_bind (wpAny_specialOf hT F.slot_NoneType_hash.lookup ?_)
  show wpAny _ _ (callSpecialIfBoundUnlessNone? .none "__hash__" _ >>= _) Q E s
  refine wpAny_bind (wpAny_callSpecialIfBoundUnlessNone?_slot hT F.slot_NoneType_hash
    (wpAny_call_entry F.slot_NoneType_hash hT F.entry_NoneType_hash
      (show wpAny _ _ (do ret (← mkInt 0xFCA86420)) _ _ s from wpAny_ret_mkInt ?_) (F.args_NoneType_hash_1 _)))
  show wpAny _ _ (if (decide (-(2 : Int) ^ 63 ≤ 0xFCA86420) && decide ((0xFCA86420 : Int) < 2 ^ 63)) = true then _ else _) Q E _
  rw [if_pos (by decide)]
  exact wpAny_pure h
def litKind (prog : Program) (w : World) : PySem.KeyKind prog w KeyN where
  is := keyNIs
  hash := fun k => match k with | none => 0xFCA86420 | some j => keyH w j
  inj := fun v a b ha hb => by
    rcases keyNIs_shape ha with ⟨rfl, rfl⟩ | ⟨i, rfl, ha'⟩
    · rcases keyNIs_shape hb with ⟨rfl, _⟩ | ⟨j, rfl, hb'⟩
      · rfl
      · exact (keyIs_none hb').elim
    · rcases keyNIs_shape hb with ⟨rfl, rfl⟩ | ⟨j, rfl, hb'⟩
      · exact (keyIs_none ha').elim
      · rw [(mixKind prog w).inj v i j ha' hb']
  byValue := fun k v h => by
    rcases keyNIs_shape h with ⟨rfl, rfl⟩ | ⟨i, rfl, h'⟩
    · rfl
    · exact (mixKind prog w).byValue i v h'
  pyHash := fun hv h => by
    rcases keyNIs_shape hv with ⟨rfl, rfl⟩ | ⟨i, rfl, h'⟩
    · exact hash_none h
    · exact (mixKind prog w).pyHash h' h
  eqBool := fun hu hv h => by
    rcases keyNIs_shape hu with ⟨rfl, rfl⟩ | ⟨i, rfl, hu'⟩
    · rcases keyNIs_shape hv with ⟨rfl, rfl⟩ | ⟨j, rfl, hv'⟩
      · exact SeqAt.EqAt.same _ _ _ _ _ h
      · rcases keyIs_shape hv' with ⟨k, t, rfl, rfl⟩ | ⟨x, t, rfl, rfl⟩
        · exact SeqAt.EqAt.none_int k t _ _ _ _ h
        · exact SeqAt.EqAt.none_str x t _ _ _ _ h
    · rcases keyNIs_shape hv with ⟨rfl, rfl⟩ | ⟨j, rfl, hv'⟩
      · rcases keyIs_shape hu' with ⟨k, t, rfl, rfl⟩ | ⟨x, t, rfl, rfl⟩
        · exact SeqAt.EqAt.int_none k t _ _ _ _ h
        · exact SeqAt.EqAt.str_none x t _ _ _ _ h
      · refine (mixKind prog w).eqBool hu' hv' ?_
        have e : decide ((some i : KeyN) = some j) = decide (i = j) := by by_cases z : i = j <;> simp [z]
        rw [e] at h
        exact h
  «strs» := fun k x t v h => by
    rcases keyNIs_shape h with ⟨rfl, e⟩ | ⟨i, rfl, h'⟩
    · cases e
    · exact (mixKind prog w).strs i x t v h'
def kVN : KeyN → V
  | none => .non
  | some k => kV k
def keyDN : KeyN → PyData
  | none => .none
  | some k => keyD k
theorem flat_keyN {P : Program} {w : World} {k : KeyN} {v : Value} (h : (litKind P w).is k v = true) : Flat v (keyDN k) := by
  rcases keyNIs_shape h with ⟨rfl, rfl⟩ | ⟨i, rfl, h'⟩
  · exact .none
  · exact flat_key (P := P) (w := w) h'
theorem kVN_is {P : Program} {w : World} {k : KeyN} {u : Value} (r : RelV (kVN k) u) : (litKind P w).is k u = true := by
  cases k with
  | none => cases (show u = Value.none from r); rfl
  | some j => exact kV_is (P := P) (w := w) r
def FlatN : List (KeyN × V) → List (PyData × PyData) → Prop := Paired fun e p => keyDN e.1 = p.1 ∧ flatD e.2 = some p.2
theorem flat_keysN {P : Program} {w : World} : ∀ {kvs : List (KeyN × V)} {ds : List (PyData × PyData)} {vs : List (KeyN × Value)} {es : List DictEntry}, FlatN kvs ds → KV kvs vs → Pairs (litKind P w) es vs →
    Paired Flat (es.map (·.key)) (ds.map (·.1)) ∧ Paired Flat (es.map (·.val)) (ds.map (·.2))
  | _, _, _, _, .nil, .nil, .nil => ⟨.nil, .nil⟩
  | _, _, _, _, .cons f fs, .cons r rs, .cons k v ps => by
    obtain ⟨a, b⟩ := flat_keysN fs rs ps
    refine ⟨.cons ?_ a, .cons ?_ b⟩
    · exact Eq.mp (congrArg (Flat _) ((congrArg keyDN r.1).symm.trans f.1)) (flat_keyN k)
    · exact Eq.mp (congrArg (fun z => Flat z _) v.symm) (flat_val f.2 r.2)
theorem carriesN {P : Program} {w : World} : ∀ {kvs : List (KeyN × V)} {ws : List (Value × Value)}, VV (kvs.map fun kv => (kVN kv.1, kv.2)) ws → ∃ rs, Carries (litKind P w) ws rs ∧ KV kvs rs
  | [], _, r => by rw [List.map_nil] at r; cases r; exact ⟨[], True.intro, .nil⟩
  | p :: kvs, _, r => by
    rw [List.map_cons] at r
    cases r with
    | @cons a b as bs h t =>
      obtain ⟨rs, c, q⟩ := carriesN (P := P) (w := w) t
      obtain ⟨b1, b2⟩ := b
      exact ⟨(p.1, b2) :: rs, ⟨kVN_is h.1, rfl, c⟩, .cons ⟨rfl, h.2⟩ q⟩
theorem KV.keysR {κ : Type} : ∀ {kvs : List (κ × V)} {rs : List (κ × Value)}, KV kvs rs → rs.map (·.1) = kvs.map (·.1)
  | _, _, .nil => rfl
  | _, _, .cons h t => by rw [List.map_cons, List.map_cons, KV.keysR t, h.1]
theorem merged_new {κ : Type} [DecidableEq κ] : ∀ (more kvs : List (κ × Value)), ((kvs ++ more).map (·.1)).Nodup → merged kvs more = kvs ++ more
  | [], kvs, _ => (List.append_nil kvs).symm
  | p :: r, kvs, h => by
    have e : stored kvs p.1 p.2 = kvs ++ [p] := by
      unfold stored
      rw [if_neg]
      intro z
      obtain ⟨q, hq, e⟩ := List.any_eq_true.mp z
      have e' : q.1 = p.1 := of_decide_eq_true e
      rw [List.map_append, List.map_cons] at h
      exact (List.nodup_append.mp h).2.2 _ (List.mem_map_of_mem (f := fun x : κ × Value => x.1) hq) _ List.mem_cons_self e'
    have h2 : ((kvs ++ [p] ++ r).map (·.1)).Nodup := by rw [List.append_assoc]; exact h
    have := merged_new r (kvs ++ [p]) h2
    show merged (stored kvs p.1 p.2) r = _
    rw [e, this, List.append_assoc]; rfl
/-- {k: v, ..} with keys ints, texts and None, no two alike, and values that are no objects -/
def tLit (trs : List (TE × TE)) : TE := fun σ H Q => ∀ p, H p = none → tPairs trs σ (upd H p (.dK [])) fun ps H2 => H2 p = some (.dK []) ∧ ∃ (kvs : List (KeyN × V)) (ds : List (PyData × PyData)), ps = kvs.map (fun kv => (kVN kv.1, kv.2)) ∧ (kvs.map (·.1)).Nodup ∧ FlatN kvs ds ∧ Q (.ref p) (upd H2 p (LitO p ds))
theorem pe_lit {X : Cx} {pos : Pos} {keys : List (Option Expr)} {values : List Expr} {trs : List (TE × TE)} (h : PPs X pos keys values trs) (hall : keys.all (·.isSome) = true) (hl : keys.length = values.length) (h0 : keys ≠ [])
    (h15 : keys.length ≤ 15) : PE X (.Dict keys values pos) (tLit trs) := by
  refine ⟨?_⟩
  intro pins s σ H Q I q
  have hn := I.hok.fresh (Nat.le_refl s.heap.objs.size)
  have I1 := I.laid (a := s.heap.objs.size) (o := .dK []) (h' := s.heap.push { cls := .type "dict", data := .dict #[] }) (t' := s.toks) (fun _ _ q => Heap.get?_push_of_some _ q) (Nat.le_refl _) (dk_empty s.heap I.big)
  refine wpAny_Dict_walk (knd := litKind X.prog X.w) hall hl h0 h15 (thn (h pins _ σ _ _ I1 (q _ hn)) fun ws s2 ⟨ps, H2, I2, rel, e, kvs, ds, ep, nd, fl, q2⟩ => ?_)
  subst ep
  obtain ⟨rs, c, rk⟩ := carriesN (P := X.prog) (w := X.w) rel
  obtain ⟨z, hd, vs0, r0, dd⟩ := dk_of I2.hok e
  cases r0
  have dd0 : s2.heap.DictOf (litKind X.prog X.w) s.heap.objs.size [] := by
    obtain ⟨o, es, ep, e1, e2, e3, _, e5, _⟩ := dd
    have ee : es.toList = [] := by cases hh : es.toList with
      | nil => rfl
      | cons y ys => rw [hh] at e5; cases e5
    refine ⟨o, es, ep, e1, e2, e3, fun y hy => ?_, by rw [ee]; exact .nil, List.nodup_nil⟩
    rw [← Array.mem_toList_iff, ee] at hy
    cases hy
  refine ⟨rs, c, dd0, fun h' dd' hs => ⟨.ref s.heap.objs.size, _, ?_, rfl, q2⟩⟩
  have em : merged [] rs = rs := merged_new rs [] (by rw [List.nil_append, KV.keysR rk]; exact nd)
  rw [em] at dd'
  have he : ∃ q, h'.get? s.heap.objs.size = some q := let ⟨q, _, _, hq, _⟩ := dd'; ⟨q, hq⟩
  obtain ⟨o, es, ep, e1, e2, e3, _, e5, _⟩ := dd'
  obtain ⟨k1, k2⟩ := flat_keysN fl rk e5
  exact d_write I2 (by rw [e]; exact True.intro) hs he (litO_ok ⟨hd, o, es, ep, e1, e2.1, e3, k1, k2⟩)
end L2
set_option Elab.async false
set_option linter.all false
set_option maxRecDepth 100000
namespace Pr
open PySem L2 PyProof.Rows
/-- a list or a tuple of ours -/
def Sq (H : Hp) (a : Addr) (xs : List V) : Prop := H a = some (.lst xs) ∨ H a = some (.tup xs)
theorem Sq.same {H H' : Hp} {a : Addr} {xs : List V} (h : Sq H a xs) (s : Same H H') : Sq H' a xs := by
  rcases h with h | h
  · exact .inl (s _ _ h)
  · exact .inr (s _ _ h)
theorem Sq.or {K : PySem.W.Frag} {H : Hp} {a : Addr} {xs : List V} (h : Sq H a xs) : SqL K H a xs ∨ SqT K H a xs := by
  rcases h with h | h
  · exact .inl (.of h)
  · exact .inr (.of h)
theorem two_line : 2 ≤ sizeLine := by decide
theorem three_line : 3 ≤ sizeLine := by decide
theorem iteB {c : Bool} {A B : Prop} (h1 : c = true → A) (h2 : c = false → B) : if c = true then A else B := by
  cases c with
  | true => rw [if_pos rfl]; exact h1 rfl
  | false => rw [if_neg Bool.false_ne_true]; exact h2 rfl
section
variable {P : Program} {w : World} {K : PySem.W.Frag} {mg : Str → Option Value} {base : Heap} {C : Addr}
/-! ### checks -/
theorem kit_int (K : PySem.W.Frag) : PySem.W.kitOne K (.type "int") (.type "int") = some true := by rfl
theorem kit_int_bool (K : PySem.W.Frag) : PySem.W.kitOne K (.type "int") (.type "bool") = some false := by rfl
theorem kit_lst (K : PySem.W.Frag) : PySem.W.kitAny K (.type "list") [.type "list", .type "tuple"] = some true := by rfl
theorem kit_tup (K : PySem.W.Frag) : PySem.W.kitAny K (.type "tuple") [.type "list", .type "tuple"] = some true := by rfl
/-- the whole number that a thing is -/
def wh : V → Option Int
  | .int i => some i
  | _ => none
/-- a thing of a known kind -/
def Kd (H : Hp) (v : V) : Prop := ∃ t, TyW H v t
theorem TyS.same {H H' : Hp} (s : Same H H') {v : V} {t : Value} (h : TyS H v t) : TyS H' v t := by
  cases h with
  | bl b => exact .bl b
  | int i => exact .int i
  | lst e => exact .lst (s _ _ e)
  | tup e => exact .tup (s _ _ e)
theorem TyW.same {H H' : Hp} (s : Same H H') {v : V} {t : Value} (h : TyW H v t) : TyW H' v t := by
  cases h with
  | s h => exact .s (TyS.same s h)
  | non => exact .non
  | str x => exact .str x
  | dK e => exact .dK (s _ _ e)
  | lit e => exact .lit (s _ _ e)
theorem Kd.same {H H' : Hp} {v : V} (s : Same H H') (h : Kd H v) : Kd H' v := let ⟨t, h⟩ := h; ⟨t, TyW.same s h⟩
/-- is it an int, is it a bool -/
theorem kd_int {H : Hp} {v : V} {t : Value} (K : PySem.W.Frag) (h : TyW H v t) : (∃ i, v = .int i ∧ t = .type "int") ∨ (∃ b, v = .bl b ∧ t = .type "bool") ∨ (wh v = none ∧ PySem.W.kitOne K t (.type "int") = some false) := by
  cases h with
  | s h =>
    cases h with
    | bl b => exact .inr (.inl ⟨b, rfl, rfl⟩)
    | int i => exact .inl ⟨i, rfl, rfl⟩
    | lst e => exact .inr (.inr ⟨rfl, by rfl⟩)
    | tup e => exact .inr (.inr ⟨rfl, by rfl⟩)
  | non => exact .inr (.inr ⟨rfl, by rfl⟩)
  | str x => exact .inr (.inr ⟨rfl, by rfl⟩)
  | dK e => exact .inr (.inr ⟨rfl, by rfl⟩)
  | lit e => exact .inr (.inr ⟨rfl, by rfl⟩)
theorem kit_bool_int (K : PySem.W.Frag) : PySem.W.kitOne K (.type "bool") (.type "int") = some true := by rfl
theorem kit_bool (K : PySem.W.Frag) : PySem.W.kitOne K (.type "bool") (.type "bool") = some true := by rfl
/-- is_whole -/
inductive sp_is_whole (vs : List V) (H : Hp) (Q : VK) (E : XK) : Prop
  | mk (v : V) (h0_ : vs = [v]) (k : Kd H v) (h1_ : Q (.bl (wh v).isSome) H) : sp_is_whole vs H Q E
theorem sc_is_whole : FnScope ["value"] ["value"] (defScope s_is_whole) := ⟨rfl, rfl, rfl, by decide +kernel, rfl, by decide +kernel, by decide +kernel⟩
theorem is_whole (T : Txt K mg C) : Can P w K mg base 1 "is_whole" ["value"] sp_is_whole := by
  refine fn_can T.f_is_whole sc_is_whole (fun vs H Q E h => ?_) (fun f cdv A outer s H vs Q E hr h => ?_)
  · obtain ⟨i, rfl, _⟩ := h
    rfl
  · obtain ⟨v, rfl, ⟨t, ty⟩, k⟩ := h
    refine ⟨_, pss_one (ps_ret (pe_and (pe_b (call_isiW K) T.b_isinstance boot_isinstance (pa2 (pv 0) (pe_ty rfl T.b_int boot_int))) (pe_one (pe_not (pe_b (call_isiW K) T.b_isinstance boot_isinstance (pa2 (pv 0) (pe_ty rfl T.b_bool boot_bool))))))), ?_⟩
    rcases kd_int K ty with ⟨i, rfl, rfl⟩ | ⟨b, rfl, rfl⟩ | ⟨e, kt⟩
    · exact ⟨_, rfl, ⟨_, _, _, _, rfl, ty, kit_int _, _, rfl, iteT ⟨_, rfl, ⟨_, _, _, _, rfl, ty, kit_int_bool _, _, rfl, k⟩⟩⟩⟩
    · exact ⟨_, rfl, ⟨_, _, _, _, rfl, ty, kit_bool_int _, _, rfl, iteT ⟨_, rfl, ⟨_, _, _, _, rfl, ty, kit_bool _, _, rfl, k⟩⟩⟩⟩
    · rw [e] at k
      exact ⟨_, rfl, ⟨_, _, _, _, rfl, ty, kt, _, rfl, iteF k⟩⟩
/-- is_whole_from -/
def whF (a b : Int) (v : V) : Bool := match wh v with | some i => decide (a ≤ i) && decide (i ≤ b) | none => false
inductive sp_is_whole_from (vs : List V) (H : Hp) (Q : VK) (E : XK) : Prop
  | mk (v : V) (a : Int) (b : Int) (h0_ : vs = [v, .int a, .int b]) (kd : Kd H v) (h1_ : Q (.bl (whF a b v)) H) : sp_is_whole_from vs H Q E
theorem sc_is_whole_from : FnScope ["value", "least", "greatest"] ["value", "least", "greatest"] (defScope s_is_whole_from) := ⟨rfl, rfl, rfl, by decide +kernel, rfl, by decide +kernel, by decide +kernel⟩
theorem wh_some {v : V} {i : Int} (h : wh v = some i) : v = .int i := by
  cases v <;> first | (cases h; rfl) | cases h
theorem is_whole_from (T : Txt K mg C) : Can P w K mg base 2 "is_whole_from" ["value", "least", "greatest"] sp_is_whole_from := by
  refine fn_can T.f_is_whole_from sc_is_whole_from (fun vs H Q E h => ?_) (fun f cdv A outer s H vs Q E hr h => ?_)
  · obtain ⟨i, a, b, rfl, _⟩ := h
    rfl
  · obtain ⟨v, a, b, rfl, kd, k⟩ := h
    refine ⟨_, pss_one (ps_ret (pe_and (pe_can (is_whole T) hr (pa1 (pv 0))) (pe_one (pe_chain op_le op_le (pv 1) (pv 0) (pv 2))))), ?_⟩
    refine ⟨_, rfl, v, rfl, kd, _, rfl, ?_⟩
    unfold whF at k
    cases e : wh v with
    | none => rw [e] at k; exact iteF k
    | some i =>
      rw [e] at k
      cases wh_some e
      refine iteT ?_
      refine ⟨_, rfl, _, rfl, _, _, rfl, rfl, _, rfl, ?_⟩
      refine iteB (fun h => ?_) (fun h => ?_)
      · rw [show (match some i with | some i => decide (a ≤ i) && decide (i ≤ b) | none => false) = (decide (a ≤ i) && decide (i ≤ b)) from rfl, h, Bool.true_and] at k
        exact ⟨_, rfl, _, _, rfl, rfl, k⟩
      · rw [show (match some i with | some i => decide (a ≤ i) && decide (i ≤ b) | none => false) = (decide (a ≤ i) && decide (i ≤ b)) from rfl, h, Bool.false_and] at k
        exact k
/-- is_wide -/
abbrev W30 : Int := 1000000000000000000000000000000
def whW (v : V) : Bool := match wh v with | some i => decide (-W30 < i) && decide (i < W30) | none => false
inductive sp_is_wide (vs : List V) (H : Hp) (Q : VK) (E : XK) : Prop
  | mk (v : V) (h0_ : vs = [v]) (kd : Kd H v) (h1_ : Q (.bl (whW v)) H) : sp_is_wide vs H Q E
theorem sc_is_wide : FnScope ["value"] ["value"] (defScope s_is_wide) := ⟨rfl, rfl, rfl, by decide +kernel, rfl, by decide +kernel, by decide +kernel⟩
theorem is_wide (T : Txt K mg C) : Can P w K mg base 2 "is_wide" ["value"] sp_is_wide := by
  refine fn_can T.f_is_wide sc_is_wide (fun vs H Q E h => ?_) (fun f cdv A outer s H vs Q E hr h => ?_)
  · obtain ⟨i, rfl, _⟩ := h
    rfl
  · obtain ⟨v, rfl, kd, k⟩ := h
    refine ⟨_, pss_one (ps_ret (pe_and (pe_can (is_whole T) hr (pa1 (pv 0))) (pe_one (pe_chain op_lt op_lt (pe_un un_neg (pe_gi T.c_WIDE_END)) (pv 0) (pe_gi T.c_WIDE_END))))), ?_⟩
    refine ⟨_, rfl, v, rfl, kd, _, rfl, ?_⟩
    unfold whW at k
    cases e : wh v with
    | none => rw [e] at k; exact iteF k
    | some i =>
      rw [e] at k
      cases wh_some e
      refine iteT ?_
      refine ⟨_, rfl, _, rfl, _, _, rfl, rfl, _, rfl, ?_⟩
      refine iteB (fun h => ?_) (fun h => ?_)
      · rw [show (match some i with | some i => decide (-W30 < i) && decide (i < W30) | none => false) = (decide (-W30 < i) && decide (i < W30)) from rfl, h, Bool.true_and] at k
        exact ⟨_, _, rfl, rfl, k⟩
      · rw [show (match some i with | some i => decide (-W30 < i) && decide (i < W30) | none => false) = (decide (-W30 < i) && decide (i < W30)) from rfl, h, Bool.false_and] at k
        exact k
/-- a list or a tuple, or no such thing -/
inductive Ls (H : Hp) : V → Option (List V) → Prop
  | sq {a : Addr} {xs : List V} (h : Sq H a xs) : Ls H (.ref a) (some xs)
  | int (i : Int) : Ls H (.int i) none
  | bl (b : Bool) : Ls H (.bl b) none
  | non : Ls H .non none
  | str (x : Str) : Ls H (.str x) none
  | dK {a : Addr} {kvs : List (Key × V)} (h : H a = some (.dK kvs)) : Ls H (.ref a) none
  | lit {a : Addr} {kvs : List (PyData × PyData)} (h : H a = some (LitO a kvs)) : Ls H (.ref a) none
theorem Ls.same {H H' : Hp} (s : Same H H') {v : V} {o : Option (List V)} (h : Ls H v o) : Ls H' v o := by
  cases h with
  | sq h => exact .sq (h.same s)
  | int i => exact .int i
  | bl b => exact .bl b
  | non => exact .non
  | str x => exact .str x
  | dK h => exact .dK (s _ _ h)
  | lit h => exact .lit (s _ _ h)
theorem Ls.ty {H : Hp} (K : PySem.W.Frag) {v : V} {o : Option (List V)} (h : Ls H v o) : ∃ t, TyW H v t ∧ PySem.W.kitAny K t [.type "list", .type "tuple"] = some o.isSome := by
  cases h with
  | sq h =>
    rcases h with h | h
    · exact ⟨_, .s (.lst h), kit_lst _⟩
    · exact ⟨_, .s (.tup h), kit_tup _⟩
  | int i => exact ⟨_, .s (.int i), by rfl⟩
  | bl b => exact ⟨_, .s (.bl b), by rfl⟩
  | non => exact ⟨_, .non, by rfl⟩
  | str x => exact ⟨_, .str x, by rfl⟩
  | dK h => exact ⟨_, .dK h, by rfl⟩
  | lit h => exact ⟨_, .lit h, by rfl⟩
inductive sp_is_list (vs : List V) (H : Hp) (Q : VK) (E : XK) : Prop
  | mk (v : V) (o : Option (List V)) (h0_ : vs = [v]) (h1_ : Ls H v o) (h2_ : ∀ H', Same H H' → Q (.bl o.isSome) H') : sp_is_list vs H Q E
theorem sc_is_list : FnScope ["value"] ["value"] (defScope s_is_list) := ⟨rfl, rfl, rfl, by decide +kernel, rfl, by decide +kernel, by decide +kernel⟩
theorem is_list (T : Txt K mg C) : Can P w K mg base 1 "is_list" ["value"] sp_is_list := by
  refine fn_can T.f_is_list sc_is_list (fun vs H Q E h => ?_) (fun f cdv A outer s H vs Q E hr h => ?_)
  · obtain ⟨a, xs, rfl, _⟩ := h
    rfl
  · obtain ⟨v, o, rfl, hq, k⟩ := h
    refine ⟨_, pss_one (ps_ret (pe_b (call_isiW2 K) T.b_isinstance boot_isinstance (pa2 (pv 0) (pe_tup (pa2 (pe_ty rfl T.b_list boot_list) (pe_ty rfl T.b_tuple boot_tuple)))))), ?_⟩
    refine ⟨_, rfl, two_line, fun p hp => ?_⟩
    have s1 : ∀ o, Same H (upd H p o) := fun o => Same.upd hp
    obtain ⟨t, ty, kt⟩ := (hq.same (s1 _)).ty K
    exact ⟨_, _, p, _, _, _, rfl, .of upd_same, ty, kt, k _ (s1 _)⟩
/-- is_list_from -/
def lsF (lo hi : Int) (o : Option (List V)) : Bool := match o with | some xs => decide (lo ≤ (xs.length : Int)) && decide ((xs.length : Int) ≤ hi) | none => false
inductive sp_is_list_from (vs : List V) (H : Hp) (Q : VK) (E : XK) : Prop
  | mk (v : V) (o : Option (List V)) (lo : Int) (hi : Int) (h0_ : vs = [v, .int lo, .int hi]) (h1_ : Ls H v o) (h2_ : ∀ H', Same H H' → Q (.bl (lsF lo hi o)) H') : sp_is_list_from vs H Q E
theorem sc_is_list_from : FnScope ["value", "fewest", "most"] ["value", "fewest", "most"] (defScope s_is_list_from) := ⟨rfl, rfl, rfl, by decide +kernel, rfl, by decide +kernel, by decide +kernel⟩
theorem Ls.some {H : Hp} {v : V} {xs : List V} (h : Ls H v (some xs)) : ∃ a, v = .ref a ∧ Sq H a xs := by
  cases h with
  | sq h => exact ⟨_, rfl, h⟩
theorem is_list_from (T : Txt K mg C) : Can P w K mg base 2 "is_list_from" ["value", "fewest", "most"] sp_is_list_from := by
  refine fn_can T.f_is_list_from sc_is_list_from (fun vs H Q E h => ?_) (fun f cdv A outer s H vs Q E hr h => ?_)
  · obtain ⟨a, xs, lo, hi, rfl, _⟩ := h
    rfl
  · obtain ⟨v, o, lo, hi, rfl, hq, k⟩ := h
    refine ⟨_, pss_one (ps_ret (pe_and (pe_can (is_list T) hr (pa1 (pv 0))) (pe_one (pe_chain op_le op_le (pv 1) (pe_b call_len_seq T.b_len boot_len (pa1 (pv 0))) (pv 2))))), ?_⟩
    refine ⟨_, rfl, v, o, rfl, hq, fun H1 s1 => ⟨_, rfl, ?_⟩⟩
    have k1 := k H1 s1
    cases o with
    | none => exact iteF k1
    | some xs =>
      obtain ⟨a, rfl, hs⟩ := Ls.some hq
      refine iteT ?_
      refine ⟨_, rfl, _, rfl, a, xs, rfl, (hs.same s1).or, _, _, rfl, rfl, _, rfl, ?_⟩
      unfold lsF at k1
      refine iteB (fun h => ?_) (fun h => ?_)
      · dsimp only at k1
        rw [h, Bool.true_and] at k1
        exact ⟨_, rfl, _, _, rfl, rfl, k1⟩
      · dsimp only at k1
        rw [h, Bool.false_and] at k1
        exact k1
end
end Pr
set_option Elab.async false
set_option linter.all false
set_option maxRecDepth 100000
/-! A list or a tuple alike: walked, indexed, compared. -/
namespace L2
open PySem PySem.Spec PyProof.Rows
/-- the record of a list, or of a tuple -/
def Ob (o : HO) (xs : List V) : Prop := o = .lst xs ∨ o = .tup xs
theorem Ob.sq {K : PySem.W.Frag} {H : Hp} {a : Addr} {o : HO} {xs : List V} (h : Ob o xs) (e : H a = some o) : SqL K H a xs ∨ SqT K H a xs := by
  rcases h with h | h
  · subst h; exact .inl (.of e)
  · subst h; exact .inr (.of e)
/-- what is told of an iterator over it -/
def ItOk (J : It) (a : Addr) (o : HO) (xs : List V) : Prop := ∀ H : Hp, H a = some o → (∀ i x, xs[i]? = some x → J.go i H ∧ ∀ y H', J.yld i H y H' → H' = H ∧ y = x) ∧ J.stop xs.length H
def iSeq (K : PySem.W.Frag) (tl : TE) : TI := fun σ H R => tl σ H fun x H1 => ∃ a o xs, x = .ref a ∧ H1 a = some o ∧ Ob o xs ∧ ∀ J, ItOk J a o xs → R J H1
theorem itl_ok {K : PySem.W.Frag} {a : Addr} {xs : List V} : ItOk (Itl K a) a (.lst xs) xs := fun H e => ⟨fun i x hx => ⟨⟨xs, x, .of e, hx⟩, fun y H' z => ⟨z.1, by
    have := z.2 xs (.of e)
    rw [hx] at this
    exact (Option.some.inj this).symm⟩⟩, ⟨xs, .of e, Nat.le_refl _⟩⟩
theorem itt_ok {K : PySem.W.Frag} {a : Addr} {xs : List V} : ItOk (Itt K a) a (.tup xs) xs := fun H e => ⟨fun i x hx => ⟨⟨xs, x, .of e, hx⟩, fun y H' z => ⟨z.1, by
    have := z.2 xs (.of e)
    rw [hx] at this
    exact (Option.some.inj this).symm⟩⟩, ⟨xs, .of e, Nat.le_refl _⟩⟩
section
variable {X : Cx} {tg : Expr}
theorem pi_seq {l : Expr} {tl : TE} (hl : PE X l tl) : PI X tg l (iSeq X.K tl) := by
  intro pins s σ H R I h
  refine thn (hl pins s σ H _ I h) fun v s1 ⟨x, H1, I1, r1, q1⟩ => ?_
  obtain ⟨a, o, xs, e, ha, ho, q⟩ := q1
  subst e
  cases r1
  have fpk : ∀ b ∈ [s1.heap.objs.size], FpOk X pins H1 b := fun b hb => by
    have e : b = s1.heap.objs.size := by simpa using hb
    subst e
    exact I1.fpOk (Nat.le_refl _) (I1.hok.fresh (Nat.le_refl _))
  rcases ho with ho | ho
  · subst ho
    obtain ⟨its, rv, p, hz⟩ := I1.list (.of ha : SqL X.K H1 a xs)
    refine wpAny_pyIter_list p.isList ?_
    exact ⟨s1.heap.objs.size, [s1.heap.objs.size], _, _, H1, rfl, I1.kept (t' := s1.toks) fun b o e => Heap.get?_push_of_some _ e, turn_list a _, ⟨_, Heap.get?_push_size _ rfl, rfl, rfl⟩, fpk, q _ itl_ok⟩
  · subst ho
    obtain ⟨its, rv, p, hz⟩ := I1.tuple (.of ha : SqT X.K H1 a xs)
    refine wpAny_pyIter_tuple (show s1.heap.IsTuple a its.toArray from p) ?_
    exact ⟨s1.heap.objs.size, [s1.heap.objs.size], _, _, H1, rfl, I1.kept (t' := s1.toks) fun b o e => Heap.get?_push_of_some _ e, turn_tuple a _, ⟨_, Heap.get?_push_size _ rfl, rfl, rfl⟩, fpk, q _ itt_ok⟩
def rIxSq (K : PySem.W.Frag) : R2 := fun x y H Q => ∃ p xs i v, x = .ref p ∧ y = .int i ∧ (SqL K H p xs ∨ SqT K H p xs) ∧ atI xs i = some v ∧ Q v H
theorem ix_sq : IxR X (rIxSq X.K) := by
  intro value slice pins s σ H x y v u Q I rx ry h hs
  obtain ⟨p, xs, i, z, e1, e2, hq, he, q⟩ := h
  rcases hq with hq | hq
  · exact ix_list value slice pins s σ H x y v u Q I rx ry ⟨p, xs, i, z, e1, e2, hq, he, q⟩ hs
  · exact ix_tup value slice pins s σ H x y v u Q I rx ry ⟨p, xs, i, z, e1, e2, hq, he, q⟩ hs
end
/-! ### == and != of lists and tuples of whole numbers -/
section
variable {X : Cx}
end
end L2
set_option Elab.async false
set_option linter.all false
set_option maxRecDepth 100000
/-! LIST COMPREHENSIONS whose target is several names (a, b = each pair). -/
namespace L2
open PySem PySem.Spec PyProof.Rows
def cxLN (X : Cx) (xs Ns : List Str) (scope : Scope) (C : Addr) (fp : List Addr) (s : Shared) (H : Hp) : Cx where
  prog := X.prog
  w := X.w
  K := X.K
  mg := X.mg
  base := X.base
  A := X.A
  N := xs ++ Ns
  s₀ := s
  H₀ := H
  env := compEnvC scope (clOf scope X.env.cells) C X.env
  outer := X.stack
  stack := X.stack
  ex := fp
  fn := fun _ => false
  calm := X.calm
  pn := []
  xe := fun _ _ => False
/-- xs: the block's names; Ns: the names around it, those that the block's names hide put otherwise -/
structure LnScope (X : Cx) (xs Ns : List Str) (sc : Scope) : Prop where
  kind : sc.kind = .function
  nocell : ∀ p ∈ sc.names, p.2 ≠ .cell
  loc : ∀ x ∈ xs, sc.names.lookup x = some .local
  names : ∀ p ∈ sc.names, p.2 = .local → sc.names.lookup p.1 = some .local
  apart : ∀ y ∈ Ns, sc.names.lookup y ≠ some .local
  sub : ∀ (i : Nat) (y : Str), Ns[i]? = some y → sc.names.lookup y = some .free → X.N[i]? = some y
  len : Ns.length = X.N.length
  all : (xs ++ Ns).Nodup
  free : ∀ p ∈ sc.names, p.2 = .free → X.env.kindOf p.1 = some .cell ∨ X.env.kindOf p.1 = some .free
section
variable {X : Cx} {pins : List (Addr × Obj)} {σ : St} {H : Hp} {s : Shared} {xs Ns : List Str} {sc : Scope} {C : Addr} {fp : List Addr}
theorem LnScope.cells (S : LnScope X xs Ns sc) (ok : X.Ok) : ∀ p ∈ sc.names, p.2 = .free → ∃ a, X.env.cells.lookup p.1 = some a := fun p hp e => ok.has p.1 (S.free p hp e)
theorem Inv.okLN (I : Inv X pins σ H s) (S : LnScope X xs Ns sc) (hC : s.heap.objs.size ≤ C) (hf : ∀ b ∈ fp, FpOk X pins H b) (hlt : ∀ b ∈ fp, b < s.heap.objs.size) : (cxLN X xs Ns sc C fp s H).Ok where
  mod := I.ok.mod
  kind := S.kind
  glob := I.ok.glob
  blt := I.ok.blt
  above := hC
  inj := fun y z c e1 e2 => I.ok.inj y z c (clOf_sub sc X.env.cells e1) (clOf_sub sc X.env.cells e2)
  has := fun y hy => by
    have hy' : (relabel sc X.env).names.lookup y = some .cell ∨ (relabel sc X.env).names.lookup y = some .free := hy
    have fr : sc.names.lookup y = some .free := by
      rcases hy' with h | h
      · obtain ⟨k', e, q⟩ := relabel_look h
        rcases q with q | ⟨q, _⟩
        · subst q; exact absurd rfl (S.nocell _ (PySem.mem_of_lookup e))
        · rw [e, q]
      · obtain ⟨k', e, q⟩ := relabel_look h
        rcases q with q | ⟨_, q⟩
        · rw [e, ← q]
        · cases q
    exact clOf_has sc X.env.cells (S.cells I.ok) (PySem.mem_of_lookup fr)
  cab := fun y c e => by cases (show false = true from e)
  hd := I.ok.hd
  frames := I.ok.frames
  stk := .inl rfl
  exf := fun b hb => ⟨Nat.ne_of_lt (Nat.lt_of_lt_of_le (hlt b hb) hC), fun y c e => (hf b hb).2.2.2.2.1 y c (clOf_sub sc X.env.cells e)⟩
  bs := I.bs
  bsz := Nat.le_trans I.ok.bsz I.sz
  noex := fun b o e hb => by
    rcases (hf b hb).2.2.2.1 with q | q
    · exact I.ok.noex b o e q
    · exact absurd (Nat.lt_of_lt_of_le (Heap.lt_size e) (Nat.le_trans I.ok.bsz q)) (Nat.lt_irrefl _)
  exfs := fun b hb z => by
    rcases List.mem_cons.mp (I.stkSub b z) with q | q
    · exact (hf b hb).2.1 q
    · exact (hf b hb).2.2.1 q
  funs := I.stack
  frf := I.stkFree
theorem Inv.endLN {s2 : Shared} {H2 : Hp} {st : St} {pl : List (Addr × Obj)} (I : Inv X pins σ H s) (J : Inv (cxLN X xs Ns sc C fp s H) pl st H2 s2) (hf : ∀ b ∈ fp, FpOk X pins H b) : Inv X pins σ H2 s2 :=
  I.call' (ch := fp) J.os J.base J.hok J.bare fun b hb => ⟨(hf b hb).2.2.2.1, (hf b hb).2.1, (hf b hb).2.2.2.2.1, (hf b hb).2.2.2.2.2⟩
end
section
variable {X : Cx} {xs Ns : List Str} {sc : Scope} {elt iter tg : Expr} {ifs : List Expr} {pos : Pos} {wi : TI} {g : TG} {tc : TT} {te : TE}
/-- the target a -/
theorem pg_one {x : Str} {p1 : Pos} (S : LnScope X [x] Ns sc) : ∀ C fp s0 H0, PG (cxLN X [x] Ns sc C fp s0 H0) (.Name x p1) (gName 0) := fun C fp s0 H0 => by
  have lx : (relabel sc X.env).names.lookup x = some .local := lookup_relabel_local (S.loc x (by simp))
  exact pg_name (X := cxLN X [x] Ns sc C fp s0 H0) (i := 0) S.all rfl (.inl lx) (.inr lx)
end
theorem len1 {α : Type} : ∀ {u : List α}, u.length = 1 → ∃ a, u = [a]
  | [a], _ => ⟨a, rfl⟩
theorem sub_of {N Ns : List Str} {sc : Scope} (h : (Ns.zip N).all (fun p => decide (p.1 = p.2) || !(sc.names.lookup p.1 == some NameKind.free)) = true) (hl : Ns.length = N.length) : ∀ (i : Nat) (y : Str), Ns[i]? = some y → sc.names.lookup y = some .free → N[i]? = some y := fun i y e f => by
  have hi : i < Ns.length := (List.getElem?_eq_some_iff.mp e).1
  have hN : N[i]? = some (N[i]'(by omega)) := List.getElem?_eq_getElem (by omega)
  have hm : (y, N[i]'(by omega)) ∈ Ns.zip N := by
    refine List.mem_of_getElem? (i := i) ?_
    rw [List.getElem?_zip_eq_some]
    exact ⟨e, hN⟩
  have := List.all_eq_true.mp h _ hm
  dsimp only at this
  rw [f] at this
  have z : y = N[i]'(by omega) := by simpa using this
  rw [hN, ← z]
theorem lnS {X : Cx} {xs : List Str} (Ns : List Str) {sc scp : Scope} {N ps : List Str} (S : FnScope N ps scp) (hN : X.N = N := by rfl) (hs : X.env.scope = scp := by rfl) (h1 : sc.kind = .function := by rfl) (h2 : ∀ p ∈ sc.names, p.2 ≠ .cell := by decide +kernel) (h3 : ∀ x ∈ xs, sc.names.lookup x = some .local := by decide +kernel)
    (h4 : ∀ p ∈ sc.names, p.2 = .local → sc.names.lookup p.1 = some .local := by decide +kernel) (h5 : ∀ y ∈ Ns, sc.names.lookup y ≠ some .local := by decide +kernel) (h6 : (Ns.zip N).all (fun p => decide (p.1 = p.2) || !(sc.names.lookup p.1 == some NameKind.free)) = true := by decide +kernel) (hl : Ns.length = N.length := by rfl) (hall : (xs ++ Ns).Nodup := by decide +kernel)
    (h7 : ∀ p ∈ sc.names, p.2 = .free → scp.names.lookup p.1 = some .cell ∨ scp.names.lookup p.1 = some .free := by decide +kernel) : LnScope X xs Ns sc :=
  ⟨h1, h2, h3, h4, h5, by rw [hN]; exact sub_of h6 hl, by rw [hN]; exact hl, hall, fun p hp e => by
    show X.env.scope.names.lookup p.1 = _ ∨ X.env.scope.names.lookup p.1 = _
    rw [hs]
    exact h7 p hp e⟩
end L2
set_option Elab.async false
set_option linter.all false
set_option maxRecDepth 100000
namespace L2
open PySem PySem.Spec PyProof.Rows
section
variable {X : Cx}
/-- o[i] of a list or a tuple -/
def rIxO : R2 := fun x y H Q => ∃ p o xs i v, x = .ref p ∧ y = .int i ∧ H p = some o ∧ Ob o xs ∧ atI xs i = some v ∧ Q v H
theorem ix_ob : IxR X rIxO := by
  intro value slice pins s σ H x y v u Q I rx ry h hs
  obtain ⟨p, o, xs, i, z, e1, e2, hp, ho, he, q⟩ := h
  exact ix_sq value slice pins s σ H x y v u Q I rx ry ⟨p, xs, i, z, e1, e2, ho.sq hp, he, q⟩ hs
end
end L2
set_option Elab.async false
set_option linter.all false
set_option maxRecDepth 100000
/-! more: products of wide numbers, a <= b <= c <= d, slices of a list or a tuple -/
namespace L2
open PySem PySem.Spec PyProof.Rows
def CMulB (i j : Int) : Prop := i.natAbs < 2 ^ 300 ∧ j.natAbs < 2 ^ 300
section
variable {X : Cx} {a b c d : Expr} {ta tb tc td : TE} {pos : Pos}
theorem op_mulB : OpR X (binaryOp .Mult) (rI CMulB fun i j => .int (i * j)) := opI fun _ _ _ _ _ _ _ hc q => mul_int q (.of_bits (Nat.le_trans (intBits_le hc.1) (by decide)) (Nat.le_trans (intBits_le hc.2) (by decide)))
/-- a op1 b op2 c op3 d -/
def tChain3 (r r' r'' : R2) (ta tb tc td : TE) : TE := fun σ H Q => ta σ H fun x H1 => tb σ H1 fun y H2 => r x y H2 fun z H3 => ∃ k, z = .bl k ∧
  (if k = true then tc σ H3 fun w' H4 => r' y w' H4 fun z' H5 => ∃ k', z' = .bl k' ∧ (if k' = true then td σ H5 fun u H6 => r'' w' u H6 Q else Q (.bl false) H5) else Q (.bl false) H3)
theorem pe_chain3 {op op' op'' : CmpOp} {r r' r'' : R2} (ho : OpR X (compareOp op) r) (ho' : OpR X (compareOp op') r') (ho'' : OpR X (compareOp op'') r'') (ha : PE X a ta) (hb : PE X b tb) (hc : PE X c tc) (hd : PE X d td)
    (hm : lastMarks [op, op', op''] [b, c, d] = false := by with_unfolding_all rfl) : PE X (.Compare a [op, op', op''] [b, c, d] pos) (tChain3 r r' r'' ta tb tc td) := by
  refine ⟨?_⟩
  intro pins s σ H Q I h
  refine Compare_chain (thn (ha pins s σ H _ I h) fun v s1 ⟨x, H1, I1, r1, q1⟩ => chain_link (thn (hb pins s1 σ H1 _ I1 q1) fun u s2 ⟨y, H2, I2, r2, q2⟩ =>
    thn (ho pins s2 σ H2 x y v u _ I2 r1 r2 q2) fun e s3 ⟨z, H3, I3, r3, k, ez, q3⟩ => ?_)) hm
  subst ez
  cases r3
  refine wpAny_truthy_bool ?_
  cases k with
  | false => exact ite_ff ⟨.bl false, H3, I3, rfl, q3⟩
  | true =>
    refine ite_tt (chain_link (thn (hc pins s3 σ H3 _ I3 q3) fun u' s4 ⟨w', H4, I4, r4, q4⟩ => thn (ho' pins s4 σ H4 y w' u u' _ I4 r2 r4 q4) fun e' s5 ⟨z', H5, I5, r5, k', ez', q5⟩ => ?_))
    subst ez'
    cases r5
    refine wpAny_truthy_bool ?_
    cases k' with
    | false => exact ite_ff ⟨.bl false, H5, I5, rfl, q5⟩
    | true => exact ite_tt (chain_last (thn (hd pins s5 σ H5 _ I5 q5) fun u2 s6 ⟨w2, H6, I6, r6, q6⟩ => ho'' pins s6 σ H6 w' w2 u' u2 Q I6 r4 r6 q6))
/-- xs[n:] of a list or a tuple of more than n things -/
inductive rSlO (n : Nat) (x : V) (lo hi : Option Int) (H : Hp) (Q : VK) : Prop
  | mk (a : Addr) (o : HO) (xs : List V) (e : x = .ref a) (h : H a = some o) (ob : Ob o xs) (el : lo = some (n : Int)) (eh : hi = none) (l0 : 0 < n) (l1 : n ≤ xs.length) (q : ∀ p o', H p = none → Ob o' (xs.drop n) → Q (.ref p) (upd H p o')) : rSlO n x lo hi H Q
theorem cut_at {xs : List V} {n : Nat} (h : n ≤ xs.length) : cutV xs (some (n : Int)) none = xs.drop n := by
  unfold cutV
  rw [HT.sIx_nat, HT.sIx_none, Nat.min_eq_left h]
  exact List.take_of_length_le (by rw [List.length_drop]; exact Nat.le_refl _)
theorem sl_ob (n : Nat) : SlR X (rSlO n) := by
  intro pins s σ H x v vl vu lo hi sl Q I rx hs pl pu h
  obtain ⟨a, o, xs, rfl, ha, ob, rfl, rfl, l0, l1, q⟩ := h
  rcases ob with rfl | rfl
  · refine sl_list pins s σ H _ v vl vu _ _ sl Q I rx hs pl pu ⟨a, xs, rfl, .of ha, fun p hp => ?_⟩
    rw [cut_at l1]
    exact q p _ hp (.inl rfl)
  · refine sl_tup pins s σ H _ v vl vu _ _ sl Q I rx hs pl pu ⟨a, xs, rfl, .of ha, fun z => ?_, fun p hp => ?_⟩
    · have := z.1
      rw [HT.sIx_nat, Nat.min_eq_left l1] at this
      omega
    · rw [cut_at l1]
      exact q p _ hp (.inr rfl)
/-- list(x) of a list or a tuple -/
inductive cListO (vs : List V) (H : Hp) (Q : VK) : Prop
  | mk (a : Addr) (o : HO) (xs : List V) (e : vs = [.ref a]) (h : H a = some o) (ob : Ob o xs) (q : ∀ p, H p = none → Q (.ref p) (upd H p (.lst xs))) : cListO vs H Q
theorem call_list_ob : CallR X (.type "list") cListO := by
  intro pins s σ H xs us Q I r h
  obtain ⟨a, o, ys, rfl, ha, ob, q⟩ := h
  exact call_list_of pins s σ H _ us Q I r ⟨a, ys, rfl, ob.sq ha, q⟩
end
end L2
set_option Elab.async false
set_option linter.all false
set_option maxRecDepth 100000
/-! the table of a set: its places rise -/
namespace Ss
open PySem
def Rise (xs : Array Nat) : Prop := xs.toList.Pairwise (· < ·)
theorem Rise.lt {xs : Array Nat} (R : Rise xs) {i k : Nat} (h : i < k) (hk : k < xs.size) : xs.getD i 0 < xs.getD k 0 := by
  have hl : k < xs.toList.length := by rw [Array.length_toList]; exact hk
  have := List.pairwise_iff_getElem.mp R i k (by omega) hl h
  simpa [Array.getD, hk, Nat.lt_trans h hk] using this
theorem go_ok {xs : Array Nat} (R : Rise xs) (j : Nat) : ∀ (f lo hi : Nat), hi - lo ≤ f → lo ≤ hi → hi ≤ xs.size → (∀ i, i < lo → xs.getD i 0 < j) → (∀ i, hi ≤ i → i < xs.size → j ≤ xs.getD i 0) →
    SetTable.below.go xs j f lo hi ≤ xs.size ∧ (∀ i, i < SetTable.below.go xs j f lo hi → xs.getD i 0 < j) ∧ (∀ i, SetTable.below.go xs j f lo hi ≤ i → i < xs.size → j ≤ xs.getD i 0)
  | 0, lo, hi, h1, h2, h3, h4, h5 => by
    have e : lo = hi := by omega
    subst e
    exact ⟨h3, h4, h5⟩
  | f + 1, lo, hi, h1, h2, h3, h4, h5 => by
    unfold SetTable.below.go
    split
    · rename_i hlt
      dsimp only
      have hm : (lo + hi) / 2 < xs.size := by omega
      have e : xs.getD ((lo + hi) / 2) j = xs.getD ((lo + hi) / 2) 0 := by simp [Array.getD, hm]
      rw [e]
      by_cases hl : xs.getD ((lo + hi) / 2) 0 < j
      · rw [if_pos hl]
        refine go_ok R j f ((lo + hi) / 2 + 1) hi (by omega) (by omega) h3 (fun i hi' => ?_) h5
        rcases Nat.lt_or_ge i ((lo + hi) / 2) with z | z
        · exact Nat.lt_trans (R.lt z hm) hl
        · rw [show i = (lo + hi) / 2 by omega]; exact hl
      · rw [if_neg hl]
        refine go_ok R j f lo ((lo + hi) / 2) (by omega) (by omega) (by omega) h4 (fun i h6 h7 => ?_)
        rcases Nat.lt_or_ge ((lo + hi) / 2) i with z | z
        · have := R.lt z h7; omega
        · rw [show i = (lo + hi) / 2 by omega]; omega
    · have e : lo = hi := by omega
      subst e
      exact ⟨h3, h4, h5⟩
theorem below_ok {xs : Array Nat} (R : Rise xs) (j : Nat) : SetTable.below xs j ≤ xs.size ∧ (∀ i, i < SetTable.below xs j → xs.getD i 0 < j) ∧ (∀ i, SetTable.below xs j ≤ i → i < xs.size → j ≤ xs.getD i 0) :=
  go_ok R j xs.size 0 xs.size (by omega) (by omega) (Nat.le_refl _) (fun i h => by omega) (fun i h1 h2 => by omega)
theorem getD_at {xs : Array Nat} {i : Nat} (h : i < xs.size) : xs[i]? = some (xs.getD i 0) := by simp [Array.getD, h]
theorem rise_insert {xs : Array Nat} (R : Rise xs) {j : Nat} (hn : xs[SetTable.below xs j]? ≠ some j) : Rise (SetTable.insertAt xs (SetTable.below xs j) j) := by
  obtain ⟨b1, b2, b3⟩ := below_ok R j
  generalize SetTable.below xs j = p at *
  unfold Rise
  rw [SetTable.toList_insertAt]
  have gl : ∀ i (h : i < xs.toList.length), xs.toList[i] = xs.getD i 0 := fun i h => by
    have h' : i < xs.size := by rw [Array.length_toList] at h; exact h
    simp [Array.getD, h']
  have hd : ∀ b ∈ xs.toList.drop p, j < b := fun b hb => by
    obtain ⟨i, hi, rfl⟩ := List.getElem_of_mem hb
    rw [List.length_drop, Array.length_toList] at hi
    rw [List.getElem_drop, gl]
    have h1 := b3 (p + i) (by omega) (by omega)
    rcases Nat.lt_or_ge j (xs.getD (p + i) 0) with z | z
    · exact z
    · exfalso
      have e : xs.getD (p + i) 0 = j := by omega
      rcases Nat.eq_zero_or_pos i with z0 | z0
      · subst z0
        exact hn (by rw [getD_at (by omega)]; exact congrArg some e)
      · have := R.lt (i := p) (k := p + i) (by omega) (by omega)
        have := b3 p (Nat.le_refl _) (by omega)
        omega
  rw [List.pairwise_append]
  refine ⟨R.sublist (List.take_sublist _ _), List.pairwise_cons.mpr ⟨hd, R.sublist (List.drop_sublist _ _)⟩, fun a ha b hb => ?_⟩
  obtain ⟨i, hi, rfl⟩ := List.getElem_of_mem ha
  rw [List.length_take, Array.length_toList] at hi
  rw [List.getElem_take, gl]
  have h1 := b2 i (by omega)
  rcases List.mem_cons.mp hb with e | e
  · rw [e]; exact h1
  · exact Nat.lt_trans h1 (hd b e)
structure G (t : SetTable) : Prop where
  r : Rise t.place
  d : t.dummies = #[]
theorem G.slot {t : SetTable} (g : G t) (j : Nat) : t.slot j ≠ .dummy := by
  unfold SetTable.slot
  dsimp only
  rw [g.d]
  have e : SetTable.has #[] j = false := rfl
  rw [e]
  split
  · intro z; cases z
  · simp
theorem slot_empty {t : SetTable} {j : Nat} (h : t.slot j = .empty) : t.place[SetTable.below t.place j]? ≠ some j := by
  unfold SetTable.slot at h
  dsimp only at h
  intro z
  rw [z] at h
  simp at h
theorem probe_ok {t : SetTable} (g : G t) (ha : Nat → Int) (h : Int) : ∀ (f : Nat) (p : SetTable.Probe) (j : Nat) (d : Option Nat), SetTable.probe.go t ha h f p = some (.empty j d) → t.slot j = .empty ∧ d = p.dummy
  | 0, p, j, d, e => by simp [SetTable.probe.go] at e
  | f + 1, p, j, d, e => by
    unfold SetTable.probe.go at e
    cases hs : t.slot p.j with
    | empty =>
      rw [hs] at e
      simp at e
      obtain ⟨rfl, rfl⟩ := e
      exact ⟨hs, rfl⟩
    | dummy => exact absurd hs (g.slot _)
    | live i =>
      rw [hs] at e
      dsimp only at e
      split at e
      · cases e
      · have ih := probe_ok g ha h f _ j d e
        refine ⟨ih.1, ih.2.trans ?_⟩
        unfold SetTable.advance
        split <;> rfl
theorem freeSlot_ok {t : SetTable} (g : G t) {h : Int} {sl : Nat} {wd : Bool} (e : t.freeSlot h = some (sl, wd)) : t.slot sl = .empty := by
  unfold SetTable.freeSlot at e
  split at e
  · rename_i j dummy hp
    have := probe_ok g _ h _ _ j dummy hp
    have hd : dummy = none := this.2
    subst hd
    simp at e
    rw [← e.1]
    exact this.1
  · cases e
theorem standIn_G (t : SetTable) (n : Nat) : G (t.standIn n) := ⟨by
  show (Array.range n).toList.Pairwise (· < ·)
  rw [Array.toList_range]
  exact List.pairwise_lt_range, rfl⟩
theorem put_G {t : SetTable} (g : G t) {j : Nat} (h : t.slot j = .empty) : G (t.put j).1 := ⟨rise_insert g.r (slot_empty h), by
  show (if SetTable.has t.dummies j then SetTable.eraseAt t.dummies (SetTable.below t.dummies j) else t.dummies) = #[]
  rw [g.d]
  have e : SetTable.has #[] j = false := rfl
  rw [e]
  rfl⟩
theorem layNew_G {t : SetTable} (g : G t) (es : Array (Int × Value)) (h : Int) (x : Value) : G (layNew t es h x).2.1 ∧ (layNew t es h x).2.1.led = t.led := by
  unfold layNew
  split
  · rename_i sl wd e
    have g' := put_G g (freeSlot_ok g e)
    dsimp only
    unfold SetTable.orStandIn
    split
    · exact ⟨g', rfl⟩
    · exact ⟨standIn_G _ _, rfl⟩
  · exact ⟨standIn_G _ _, rfl⟩
theorem live_sub (f : Nat → Option Nat) : ∀ l : List Nat, ((l.filterMap fun j => (f j).map fun k => (j, k)).map (·.1)).Sublist l
  | [] => List.Sublist.slnil
  | a :: l => by
    rw [List.filterMap_cons]
    cases e : f a with
    | none => exact (live_sub f l).cons _
    | some k => exact (live_sub f l).cons_cons _
theorem relayAll_G {t : SetTable} (es : Array (Int × Value)) (n : Nat) : G (relayAll t es n).2.1 ∧ (relayAll t es n).2.1.led = t.led := by
  unfold relayAll
  split
  · rename_i t' order e
    dsimp only
    split
    · unfold SetTable.relaid SetTable.laid at e
      cases ho : SetTable.layClean (SetTable.sizeAbove n - 1) (es.map (·.1)) with
      | none => rw [ho] at e; cases e
      | some owner =>
        rw [ho] at e
        simp only [Option.bind_eq_bind, Option.bind_some, Option.pure_def, Option.some.injEq, Prod.mk.injEq] at e
        obtain ⟨rfl, _⟩ := e
        refine ⟨⟨?_, rfl⟩, rfl⟩
        show (List.toArray _).toList.Pairwise (· < ·)
        exact List.pairwise_lt_range.sublist (live_sub (fun j => owner.getD j none) _)
    · exact ⟨standIn_G _ _, rfl⟩
  · exact ⟨standIn_G _ _, rfl⟩
end Ss
set_option Elab.async false
set_option linter.all false
set_option maxRecDepth 100000
/-! a set: made, added to -/
namespace Ss
open PySem
abbrev byText (w : World) : Bool := w.params.followText "set-order"
/-- the set at a holds es, in the order of its table -/
def SetG (w : World) (h : Heap) (a : Addr) (es : Array (Int × Value)) : Prop :=
  ∃ ep t, h.get? a = some { cls := .type "set", dict := none, data := .set es ep t } ∧ t.fits es.size = true ∧ G t ∧ (byText w = true ∨ t.led = true)
theorem SetG.at {w : World} {h h' : Heap} {a : Addr} {es : Array (Int × Value)} (x : SetG w h a es) (k : ∀ o, h.get? a = some o → h'.get? a = some o) : SetG w h' a es := by
  obtain ⟨ep, t, ho, r⟩ := x
  exact ⟨ep, t, k _ ho, r⟩
theorem SetG.lt {w : World} {h : Heap} {a : Addr} {es : Array (Int × Value)} (x : SetG w h a es) : a < h.objs.size := by
  obtain ⟨ep, t, ho, r⟩ := x
  exact Heap.lt_size ho
section
variable {prog : Program} {w : World} {K : Type} [DecidableEq K] {knd : KeyKind prog w K} {A : Around} {E : Value → Shared → Prop} {s : Shared} {a : Addr} {es : Array (Int × Value)}
theorem SetG.type (x : SetG w s.heap a es) : s.TypeIs (.ref a) "set" := by
  obtain ⟨ep, t, ho, r⟩ := x
  exact ⟨_, ho, rfl⟩
theorem gave {b : Bool} {Q : Unit → Shared → Prop} (h : Q () s) : wpAny (model prog w) A (match b with | true => rule "set.scan.the-table-gave-way" | false => pure ()) Q E s := by
  cases b
  · exact wpAny_pure h
  · exact wpAny_rule h
/-- es with the key k, if it isn't there -/
def Added (knd : KeyKind prog w K) (k : K) (key : Value) (es es' : Array (Int × Value)) : Prop :=
  ((∃ e ∈ es.toList, knd.is k e.2 = true) ∧ es' = es) ∨ ((∀ e ∈ es.toList, knd.is k e.2 = false) ∧ es'.toList.Perm (es.toList ++ [(knd.hash k, key)]))
theorem store {ep : Nat} {t : SetTable} {es' : Array (Int × Value)} {t' : SetTable} {Q : Unit → Shared → Prop} (ho : s.heap.get? a = some { cls := .type "set", dict := none, data := .set es ep t }) (hz : es'.size ≤ sizeLine)
    (h : ∀ h', Heap.SameBut a s.heap h' → h'.get? a = some { cls := .type "set", dict := none, data := .set es' (ep + 1) t' } → Q () { s with heap := h' }) : wpAny (model prog w) A (storeSet a es' t') Q E s := by
  refine wpAny_storeSet_of ho rfl (h _ (Heap.SameBut.update _ _ _) ?_) hz
  have := Heap.get?_update_self (Obj.putSet es' t') ho (by rw [putSet_of es' t' rfl]; rfl)
  rwa [putSet_of es' t' rfl] at this
theorem addH {k : K} {x : Value} {Q : Bool → Shared → Prop} (hk : knd.is k x = true) (hx : x.scannable = true) (hS : SetG w s.heap a es) (hel : ElemsOf knd es.toList) (hb : es.size + 1 < scanBound)
    (h : ∀ b h' es', Heap.SameBut a s.heap h' → SetG w h' a es' → Added knd k x es es' → Q b { s with heap := h' }) : wpAny (model prog w) A (setAddHashed a x (knd.hash k)) Q E s := by
  obtain ⟨ep, t, ho, hf, g, hl⟩ := hS
  unfold setAddHashed setAddHashedIn
  refine wpAny_holding (wpAny_bind (wpAny_setState_of ho rfl hf ?_))
  dsimp only
  rw [byScan_of hx (by omega) hel, if_pos rfl]
  unfold setAddByScan
  refine wpAny_bind (wpAny_bind (wpAny_rule (wpAny_bind (wpAny_setScan_of hk ho rfl hf hel ?_))))
  cases hr : List.findIdx? (fun e => knd.is k e.2) es.toList with
  | some j =>
    obtain ⟨hj, hpj, _⟩ := List.findIdx?_eq_some_iff_getElem.mp hr
    exact wpAny_pure (wpAny_pure (h false s.heap es (Heap.SameBut.refl _ _) ⟨ep, t, ho, hf, g, hl⟩ (.inl ⟨⟨_, List.getElem_mem hj, hpj⟩, rfl⟩)))
  | none =>
    have hno : ∀ e ∈ es.toList, knd.is k e.2 = false := List.findIdx?_eq_none_iff.mp hr
    dsimp only
    have p1 := layNew_perm t es (knd.hash k) x
    have f1 := layNew_fits t es (knd.hash k) x
    have g1 := layNew_G g es (knd.hash k) x
    generalize layNew t es (knd.hash k) x = L at p1 f1 g1 ⊢
    obtain ⟨es1, t1, wd, gv⟩ := L
    dsimp only at p1 f1 g1 ⊢
    rw [Array.toList_push] at p1
    have z1 : es1.size = es.size + 1 := by have := p1.length_eq; simpa using this
    refine wpAny_bind (gave ?_)
    have tail : ∀ t2 : SetTable, t2.fits es1.size = true → G t2 → t2.led = t.led → wpAny (model prog w) A (do
        storeSet a es1 t2
        if (!wd && t2.tooFull) = true then do
            (match (relayAll t2 es1 (SetTable.grown es1.size)).2.2 with | true => rule "set.scan.the-table-gave-way" | false => pure ())
            storeSet a (relayAll t2 es1 (SetTable.grown es1.size)).1 (relayAll t2 es1 (SetTable.grown es1.size)).2.1
            pure (some true)
          else pure (some true)) (fun r s' => r = some true ∧ ∃ h' es', s' = { s with heap := h' } ∧ Heap.SameBut a s.heap h' ∧ SetG w h' a es' ∧ Added knd k x es es') E s := by
      intro t2 f2 g2 l2
      refine wpAny_bind (store ho (fits_of_scanBound (by omega)) fun h1 b1 o1 => ?_)
      split
      · have p2 := relayAll_perm t2 es1 (SetTable.grown es1.size)
        have f3 := relayAll_fits t2 es1 (SetTable.grown es1.size)
        have g3 := relayAll_G (t := t2) es1 (SetTable.grown es1.size)
        generalize relayAll t2 es1 (SetTable.grown es1.size) = M at p2 f3 g3 ⊢
        obtain ⟨es2, t3, gv2⟩ := M
        dsimp only at p2 f3 g3 ⊢
        have z2 : es2.size = es1.size := by have := p2.length_eq; simpa using this
        refine wpAny_bind (gave (wpAny_bind (store (s := { s with heap := h1 }) o1 (fits_of_scanBound (by omega)) fun h2 b2 o2 => ?_)))
        exact wpAny_pure ⟨rfl, h2, es2, rfl, b1.trans b2, ⟨_, t3, o2, f3, g3.1, by rw [g3.2, l2]; exact hl⟩, .inr ⟨hno, p2.trans p1⟩⟩
      · exact wpAny_pure ⟨rfl, h1, es1, rfl, b1, ⟨_, t2, o1, f2, g2, by rw [l2]; exact hl⟩, .inr ⟨hno, p1⟩⟩
    have fin : ∀ (r : Option Bool) (s' : Shared), (r = some true ∧ ∃ h' es', s' = { s with heap := h' } ∧ Heap.SameBut a s.heap h' ∧ SetG w h' a es' ∧ Added knd k x es es') →
        wpAny (model prog w) A (match r with | some added => pure added | none => setAddHashedIn a x (knd.hash k) 99999) Q E s' := by
      rintro r s' ⟨rfl, h', es', rfl, b, S, ad⟩
      exact wpAny_pure (h true h' es' b S ad)
    split
    · refine wpAny_bind ?_
      rw [hashByValue_scannable 8 hx]
      refine wpAny_pure (wpAny_mono (tail _ ?_ ?_ ?_) (fun r s' z => fin r s' z) fun _ _ e => e)
      · split
        · exact f1
        · exact SetTable.fits_plain_off f1
      · split
        · exact g1.1
        · exact ⟨g1.1.r, g1.1.d⟩
      · split <;> exact g1.2
    · refine wpAny_bind (wpAny_pure ?_)
      rw [if_pos rfl]
      exact wpAny_mono (tail _ f1 g1.1 g1.2) (fun r s' z => fin r s' z) fun _ _ e => e
theorem add {k : K} {x : Value} {Q : Value → Shared → Prop} (hk : knd.is k x = true) (hx : x.scannable = true) (hS : SetG w s.heap a es) (hel : ElemsOf knd es.toList) (hb : es.size + 1 < scanBound)
    (h : ∀ h' es', Heap.SameBut a s.heap h' → SetG w h' a es' → Added knd k x es es' → Q .none { s with heap := h', toks := s.toks + 1 }) : wpAny (model prog w) A (call (.builtin "set.add") [.ref a, x]) Q E s := by
  refine wpAny_call_entry F.slot_set_add hS.type F.entry_set_add ?_ (F.args_set_add_2 _ _)
  unfold Builtin.«set.add» Builtin.Frozenset.oneOther
  simp only [List.isEmpty_nil, bind_assoc]
  unfold Builtin.Frozenset.addrOf setAdd
  refine wpAny_bind (wpAny_pure (wpAny_bind (wpAny_pure (wpAny_bind (wpAny_holding (wpAny_bind (knd.pyHash hk ?_)))))))
  exact addH (s := { s with toks := s.toks + 1 }) hk hx hS hel hb fun b h' es' sb S' ad => wpAny_pure ⟨_, rfl, h h' es' sb S' ad⟩
theorem new {Q : Value → Shared → Prop} (h : ∀ o : Obj, SetG w (s.heap.push o) s.heap.objs.size #[] → Q (.ref s.heap.objs.size) { s with heap := s.heap.push o }) : wpAny (model prog w) A (newSet (.type "set")) Q E s := by
  unfold newSet setsByText
  refine wpAny_bind (wpAny_bind (wpAny_askSetting (wpAny_pure ?_)))
  dsimp only
  simp only [newObj]
  refine wpAny_bind (wpAny_alloc (wpAny_pure (h _ ⟨0, _, Heap.get?_push_size _ rfl, rfl, ⟨List.Pairwise.nil, rfl⟩, ?_⟩)))
  show byText w = true ∨ (!(byText w)) = true
  cases byText w
  · exact .inr rfl
  · exact .inl rfl
end
end Ss
set_option Elab.async false
set_option linter.all false
set_option maxRecDepth 100000
/-! a set walked through: in some order -/
namespace Ss
open PySem
theorem nx_ex : ∃ (dr : Array (Int × Value) → SetTable → Bool) (ml : Array (Int × Value) → SetTable → Sem Unit), (∀ es t, ml es t = (do if !t.led && !es.isEmpty then unsupported "set:maker-not-led")) ∧ (∀ a, setDrawn a = (do
    let (es, _, t) ← setState a
    let b ← setsByText
    return !b && dr es t)) ∧ (∀ a sl gv e0, setNext a sl gv e0 = (do
    let (es, ep, t) ← setState a
    if ← setsByText then
      if ep != e0 then unsupported "set_iterator.__next__:elements-changed"
      return ((← setWalk a)[gv]?).map fun e => (e.2, sl)
    if dr es t then unsupported "set_iterator.__next__:the-table-is-plain-no-more"
    ml es t
    let i := SetTable.below t.place sl
    return match es[i]?, t.place[i]? with
      | some (_, x), some j => some (x, j + 1)
      | _, _ => none)) := ⟨_, _, fun _ _ => rfl, fun _ => rfl, fun _ _ _ _ => rfl⟩
theorem erase_perm {α : Type} : ∀ {l : List α} {i : Nat} (h : i < l.length), (l[i] :: l.eraseIdx i).Perm l
  | a :: l, 0, h => List.Perm.refl _
  | a :: l, i + 1, h => by
    have ih := erase_perm (l := l) (i := i) (by simpa using h)
    simp only [List.getElem_cons_succ, List.eraseIdx_cons_succ]
    exact (List.Perm.swap _ _ _).trans (ih.cons _)
theorem pick_go {α : Type} (nx : Nat → Nat) : ∀ (f k : Nat) (l : List α) (out : Array α), f = l.length → (pickOrder.go nx f k l out).toList.Perm (out.toList ++ l)
  | 0, k, l, out, h => by
    have e : l = [] := List.eq_nil_of_length_eq_zero h.symm
    subst e
    simp [pickOrder.go]
  | f + 1, k, l, out, h => by
    have hl : nx k % l.length < l.length := Nat.mod_lt _ (by omega)
    unfold pickOrder.go
    rw [List.getElem?_eq_getElem hl]
    dsimp only
    have ih := pick_go nx f (k + 1) (l.eraseIdx (nx k % l.length)) (out.push l[nx k % l.length]) (by rw [List.length_eraseIdx]; rw [if_pos hl]; omega)
    refine ih.trans ?_
    rw [Array.toList_push, List.append_assoc]
    exact (erase_perm hl).append_left _
theorem pick_perm {α : Type} (nx : Nat → Nat) (xs : Array α) : (pickOrder nx xs).toList.Perm xs.toList := by
  have := pick_go nx xs.size 0 xs.toList #[] (by simp)
  unfold pickOrder
  simpa using this
section
variable {prog : Program} {w : World} {A : Around} {E : Value → Shared → Prop} {s : Shared}
theorem choose_ok {src : Source} {n : Nat} {Q : Nat → Shared → Prop} (hn : n ≠ 0) (h : ∀ k d, k < n → Q k { s with drawn := d }) : wpAny (model prog w) A (choose src n) Q E s := fun Γ p hΓ => by
  show Sem.wp _ _ (.choose src n .pure) _ _ _ _
  rw [Sem.wp_choose]
  exact ⟨hn, h _ _ (Nat.mod_lt _ (Nat.pos_of_ne_zero hn))⟩
theorem draw_ok {α : Type} : ∀ (n : Nat) (xs : List α) (s : Shared) (Q : List α → Shared → Prop), n = xs.length → (∀ ys d, ys.Perm xs → Q ys { s with drawn := d }) → wpAny (model prog w) A (drawOrder n xs) Q E s
  | 0, xs, s, Q, hn, h => by
    have e : xs = [] := List.eq_nil_of_length_eq_zero hn.symm
    subst e
    exact wpAny_pure (h [] s.drawn (List.Perm.refl _))
  | n + 1, [], s, Q, hn, h => by cases hn
  | n + 1, x :: xs, s, Q, hn, h => by
    unfold drawOrder
    refine wpAny_bind (choose_ok (by simp) fun i d hi => ?_)
    rw [List.getElem?_eq_getElem hi]
    dsimp only
    refine wpAny_bind (draw_ok n _ _ _ (by rw [List.length_eraseIdx, if_pos hi]; simp at hn ⊢; omega) fun ys d' hp => wpAny_pure (h _ d' ?_))
    exact (hp.cons _).trans (erase_perm hi)
end
end Ss
set_option Elab.async false
set_option linter.all false
set_option maxRecDepth 100000
namespace Ss
open PySem PyProof.Rows
namespace SF
theorem owner : Manifest.owners.lookup (String.ofList ['r', 'o', 't', 'a', 'r', 'e', 't', 'i', '_', 't', 'e', 's'].reverse) = some Manifest.sig_set_iterator := by kernel_rfl
theorem next : Slot "set_iterator" "__next__" "set_iterator.__next__" :=
  .of (owner := "set_iterator") (n := "__next__") (by rw [typeLookup_type, builtinLookup_eq_fast]; kernel_rfl) (by decide +kernel) (by decide +kernel) (by decide +kernel)
    (by first | exact .inl (by decide +kernel) | exact .inr (by decide +kernel)) (by rw [isSubtype_type]; kernel_rfl)
theorem entry_next : entryFor table "set_iterator.__next__" = some Builtin.«set_iterator.__next__» := entryFor_of_tree (by kernel_rfl)
theorem args_next (a : Value) : argsOk "set_iterator.__next__" ⟨[a], []⟩ := by
  unfold argsOk; rw [signature?_of (id := "set_iterator.__next__") (n := ['_', '_', 't', 'x', 'e', 'n', '_', '_']) (o := ['r', 'o', 't', 'a', 'r', 'e', 't', 'i', '_', 't', 'e', 's']) (by kernel_rfl) owner]; kernel_rfl
theorem iter : Slot "set_iterator" "__iter__" "set_iterator.__iter__" :=
  .of (owner := "set_iterator") (n := "__iter__") (by rw [typeLookup_type, builtinLookup_eq_fast]; kernel_rfl) (by decide +kernel) (by decide +kernel) (by decide +kernel)
    (by first | exact .inl (by decide +kernel) | exact .inr (by decide +kernel)) (by rw [isSubtype_type]; kernel_rfl)
theorem args_iter (a : Value) : argsOk "set_iterator.__iter__" ⟨[a], []⟩ := by
  unfold argsOk; rw [signature?_of (id := "set_iterator.__iter__") (n := ['_', '_', 'r', 'e', 't', 'i', '_', '_']) (o := ['r', 'o', 't', 'a', 'r', 'e', 't', 'i', '_', 't', 'e', 's']) (by kernel_rfl) owner]; kernel_rfl
theorem entry_iter : entryFor table "set_iterator.__iter__" = some Builtin.«dict_keyiterator.__iter__» :=
  entryFor_alias (id' := "dict_keyiterator.__iter__") (by kernel_rfl) (by first | rfl | decide +kernel | (unfold String.splitOn; simp +decide [String.splitOnAux])) (by decide +kernel) (by kernel_rfl)
theorem entry_set : entryFor table "set.__iter__" = some Builtin.«frozenset.__iter__» :=
  entryFor_alias (id' := "frozenset.__iter__") (by kernel_rfl) rfl (by decide +kernel) (by kernel_rfl)
end SF
end Ss
set_option Elab.async false
set_option linter.all false
set_option maxRecDepth 100000
namespace Ss
open PySem PyProof.Rows
/-- the iterator's record -/
abbrev Rc (fst : Value) (i : Nat) (a : Addr) (n ep : Nat) : Obj := { cls := .type "set_iterator", dict := none, data := .fields #[fst, rawInt i, .ref a, rawInt n, rawInt ep] }
abbrev So (es : Array (Int × Value)) (ep : Nat) (t : SetTable) : Obj := { cls := .type "set", dict := none, data := .set es ep t }
section
variable {prog : Program} {w : World} {A : Around} {E : Value → Shared → Prop} {s : Shared} {it a : Addr} {es : Array (Int × Value)} {ep : Nat} {t : SetTable}
theorem self_ok {fst : Value} {i n : Nat} {Q : Value → Shared → Prop} (hit : s.heap.get? it = some (Rc fst i a n ep)) (h : Q (.ref it) s) : wpAny (model prog w) A (pyIter (.ref it)) Q E s := by
  have hT : s.TypeIs (.ref it) "set_iterator" := ⟨_, hit, rfl⟩
  refine wpAny_pyIter_slot hT SF.iter (wpAny_call_entry SF.iter hT SF.entry_iter ?_ (SF.args_iter _))
  show wpAny _ _ (ret (.ref it)) _ _ s
  exact wpAny_pure ⟨_, rfl, "set_iterator", _, hT, SF.next.lookup, h⟩
theorem next_item {sl i nx : Nat} {x : Value} {Q : Option Value → Shared → Prop} (hit : s.heap.get? it = some (Rc (rawInt sl) i a es.size ep)) (hs : s.heap.get? a = some (So es ep t)) (hf : t.fits es.size = true)
    (hsn : ∀ (A' : Around) (E' : Value → Shared → Prop) (Q' : Option (Value × Nat) → Shared → Prop), Q' (some (x, nx)) s → wpAny (model prog w) A' (setNext a sl i ep) Q' E' s)
    (hQ : ∀ h', h'.get? it = some (Rc (rawInt nx) (i + 1) a es.size ep) → Heap.SameBut it s.heap h' → Q (some x) { s with heap := h' }) : wpAny (model prog w) A (pyNext (.ref it)) Q E s := by
  have hT : s.TypeIs (.ref it) "set_iterator" := ⟨_, hit, rfl⟩
  unfold pyNext
  refine wpAny_bind (wpAny_attempt (wpAny_callSpecial?_slot (name := Str.ofString "__next__") hT SF.next (wpAny_call_entry SF.next hT SF.entry_next ?_ (SF.args_next _))))
  unfold Builtin.«set_iterator.__next__»
  refine wpAny_bind (wpAny_of_eq (a := (Value.ref it, [])) rfl ?_)
  refine wpAny_bind (wpAny_fieldsOf hit rfl ?_)
  dsimp only [rawInt]
  refine wpAny_bind (wpAny_setEntries_of hs rfl hf ?_)
  rw [if_neg (by simp)]
  refine wpAny_bind ?_
  simp only [Int.toNat_natCast]
  refine hsn _ _ _ ?_
  dsimp only
  refine wpAny_bind (wpAny_setField_rec hit (by simp) fun h1 o1 b1 => ?_)
  refine wpAny_bind (wpAny_setField_rec (s := { s with heap := h1 }) o1 (by simp) fun h2 o2 b2 => ?_)
  exact wpAny_pure ⟨x, rfl, wpAny_pure (hQ h2 (by simpa [Rc, rawInt] using o2) (b1.trans b2))⟩
theorem next_end {sl i : Nat} {Q : Option Value → Shared → Prop} (hh : A.handled = none) (hit : s.heap.get? it = some (Rc (rawInt sl) i a es.size ep)) (hs : s.heap.get? a = some (So es ep t)) (hf : t.fits es.size = true)
    (hsn : ∀ (A' : Around) (E' : Value → Shared → Prop) (Q' : Option (Value × Nat) → Shared → Prop), Q' none s → wpAny (model prog w) A' (setNext a sl i ep) Q' E' s)
    (hQ : ∀ h', Heap.ExtBut it s.heap h' → Q none { s with heap := h' }) : wpAny (model prog w) A (pyNext (.ref it)) Q E s := by
  have hT : s.TypeIs (.ref it) "set_iterator" := ⟨_, hit, rfl⟩
  unfold pyNext
  refine wpAny_bind (wpAny_attempt (wpAny_callSpecial?_slot (name := Str.ofString "__next__") hT SF.next (wpAny_call_entry SF.next hT SF.entry_next ?_ (SF.args_next _))))
  unfold Builtin.«set_iterator.__next__»
  refine wpAny_bind (wpAny_of_eq (a := (Value.ref it, [])) rfl ?_)
  refine wpAny_bind (wpAny_fieldsOf hit rfl ?_)
  dsimp only [rawInt]
  refine wpAny_bind (wpAny_setEntries_of hs rfl hf ?_)
  rw [if_neg (by simp)]
  refine wpAny_bind ?_
  simp only [Int.toNat_natCast]
  refine hsn _ _ _ ?_
  dsimp only
  refine wpAny_bind (wpAny_setField_rec hit (by simp) fun h1 o1 b1 => ?_)
  refine wpAny_bind ?_
  simp only [newExc, newTuple]
  refine wpAny_bind (wpAny_newObj_type ?_ (by size_fits))
  refine wpAny_bind (m := firstArgMember _ _) (wpAny_of_eq (a := Value.none) (by first | rfl | (simp only [firstArgMember]; rfl)) ?_)
  refine wpAny_newObj_type ?_ (by size_fits)
  simp only [raiseNew]
  refine wpAny_bind (wpAny_handled ?_)
  first | rw [show A.in1.handled = none from hh] | rw [hh]
  refine wpAny_bind (wpAny_pure (wpAny_throw ?_))
  refine wpAny_bind (wpAny_isInstance (T := "StopIteration") (b := true) ⟨_, Heap.get?_push_size _ rfl, rfl⟩ isSubtype_stop ?_)
  refine wpAny_pure (hQ _ ?_)
  exact Heap.ExtBut.push (Heap.ExtBut.push (fun b o hb e => (b1.2 b hb).trans e) _) _
end
end Ss
set_option Elab.async false
set_option linter.all false
set_option maxRecDepth 100000
namespace Ss
open PySem PyProof.Rows
noncomputable def dr : Array (Int × Value) → SetTable → Bool := nx_ex.choose
theorem dr_ex : ∃ (ml : Array (Int × Value) → SetTable → Sem Unit), (∀ es t, ml es t = (do if !t.led && !es.isEmpty then unsupported "set:maker-not-led")) ∧ (∀ a, setDrawn a = (do
    let (es, _, t) ← setState a
    let b ← setsByText
    return !b && dr es t)) ∧ (∀ a sl gv e0, setNext a sl gv e0 = (do
    let (es, ep, t) ← setState a
    if ← setsByText then
      if ep != e0 then unsupported "set_iterator.__next__:elements-changed"
      return ((← setWalk a)[gv]?).map fun e => (e.2, sl)
    if dr es t then unsupported "set_iterator.__next__:the-table-is-plain-no-more"
    ml es t
    let i := SetTable.below t.place sl
    return match es[i]?, t.place[i]? with
      | some (_, x), some j => some (x, j + 1)
      | _, _ => none)) := nx_ex.choose_spec
/-- where the table is entered behind i of its things -/
def slotAt (t : SetTable) (i : Nat) : Nat := if i = 0 then 0 else t.place.getD (i - 1) 0 + 1
theorem below_slot {t : SetTable} (R : Rise t.place) {i : Nat} (hi : i ≤ t.place.size) : SetTable.below t.place (slotAt t i) = i := by
  obtain ⟨b1, b2, b3⟩ := below_ok R (slotAt t i)
  generalize SetTable.below t.place (slotAt t i) = p at *
  unfold slotAt at b2 b3
  by_cases h0 : i = 0
  · subst h0
    rcases Nat.eq_zero_or_pos p with z | z
    · exact z
    · have := b2 0 z; simp at this
  · simp only [h0, if_false] at b2 b3
    rcases Nat.lt_trichotomy p i with z | z | z
    · have h1 := b3 p (Nat.le_refl _) (by omega)
      rcases Nat.lt_or_ge p (i - 1) with y | y
      · have := R.lt y (by omega); omega
      · rw [show p = i - 1 by omega] at h1; omega
    · exact z
    · have h1 := b2 i z
      have := R.lt (i := i - 1) (k := i) (by omega) (by omega)
      omega
section
variable {prog : Program} {w : World} {A : Around} {E : Value → Shared → Prop} {s : Shared} {it a : Addr} {es : Array (Int × Value)} {ep : Nat} {t : SetTable}
theorem byText_ok {Q : Bool → Shared → Prop} (h : Q (byText w) s) : wpAny (model prog w) A setsByText Q E s := wpAny_bind (wpAny_askSetting (wpAny_pure h))
/-- the table's own order -/
theorem nextC {i : Nat} {gv : Nat} (hb : byText w = false) (hd : dr es t = false) (hs : s.heap.get? a = some (So es ep t)) (hf : t.fits es.size = true) (g : G t) (hl : t.led = true) (hi : i ≤ es.size) {Q : Option (Value × Nat) → Shared → Prop}
    (h : Q ((es[i]?).map fun e => (e.2, slotAt t (i + 1))) s) : wpAny (model prog w) A (setNext a (slotAt t i) gv ep) Q E s := by
  have hz : t.place.size = es.size := by simp [SetTable.fits] at hf; exact hf.1
  obtain ⟨ml, h1, h2, h3⟩ := dr_ex
  rw [h3]
  refine wpAny_bind (wpAny_setState_of hs rfl hf (wpAny_bind (byText_ok ?_)))
  rw [hb, hd, h1, hl]
  simp only [Bool.false_eq_true, if_false, Bool.not_true, Bool.false_and]
  refine wpAny_bind (wpAny_pure ?_)
  rw [below_slot g.r (by omega)]
  refine wpAny_pure ?_
  have e : (match es[i]?, t.place[i]? with | some (_, x), some j => some (x, j + 1) | _, _ => none) = (es[i]?).map fun e => (e.2, slotAt t (i + 1)) := by
    rcases Nat.lt_or_ge i es.size with z | z
    · rw [getElem?_pos es i z, getD_at (by omega)]
      simp [slotAt]
    · rw [Array.getElem?_eq_none z]
      rfl
  rw [e]
  exact h
/-- another order, that the world has -/
theorem nextA {i : Nat} (hb : byText w = true) (hs : s.heap.get? a = some (So es ep t)) (hf : t.fits es.size = true) {Q : Option (Value × Nat) → Shared → Prop}
    (h : Q (((pickOrder (w.params.setOrder a ep) es)[i]?).map fun e => (e.2, 0)) s) : wpAny (model prog w) A (setNext a 0 i ep) Q E s := by
  obtain ⟨ml, h1, h2, h3⟩ := dr_ex
  rw [h3]
  refine wpAny_bind (wpAny_setState_of hs rfl hf (wpAny_bind (byText_ok ?_)))
  rw [hb]
  simp only [bne_self_eq_false, Bool.false_eq_true, if_false, if_true]
  unfold setWalk
  refine wpAny_bind (wpAny_bind (wpAny_setState_of hs rfl hf (wpAny_bind (byText_ok ?_))))
  rw [hb]
  simp only [if_true]
  exact wpAny_bind (wpAny_askSetting (wpAny_pure (wpAny_pure h)))
theorem walkI {us : List Value} {fst : Nat → Nat} (hne : a ≠ it) (hl : us.length = es.size) (hf : t.fits es.size = true)
    (hn : ∀ (i : Nat) (s : Shared) (A' : Around) (E' : Value → Shared → Prop) (Q' : Option (Value × Nat) → Shared → Prop), i ≤ es.size → s.heap.get? a = some (So es ep t) → Q' ((us[i]?).map fun x => (x, fst (i + 1))) s → wpAny (model prog w) A' (setNext a (fst i) i ep) Q' E' s) (hh : A.handled = none) :
    Walks prog w A it [it, a] [it] us.length (fun i v => us[i]? = some v) (fun i h => h.get? it = some (Rc (rawInt (fst i)) i a es.size ep) ∧ h.get? a = some (So es ep t)) where
  sub := fun b hb => by simp at hb; simp [hb]
  frame := fun i h h' st k => ⟨k it (by simp) _ st.1, k a (by simp) _ st.2⟩
  item := fun i s Q E hi st hQ => by
    refine next_item (x := us[i]) (nx := fst (i + 1)) st.1 st.2 hf (fun A' E' Q' q => hn i s A' E' Q' (by omega) st.2 (by rw [List.getElem?_eq_getElem hi]; exact q)) fun h' o b => ?_
    exact hQ _ h' s.toks (List.getElem?_eq_getElem hi) ⟨o, (b.2 a hne).trans st.2⟩ fun c o' hc e => (b.2 c (by simpa using hc)).trans e
  done := fun s Q E st hQ => by
    refine next_end hh st.1 st.2 hf (fun A' E' Q' q => hn _ s A' E' Q' (by omega) st.2 (by rw [List.getElem?_eq_none (Nat.le_refl _)]; exact q)) fun h' b => ?_
    exact hQ h' s.toks fun c o' hc e => b c o' (by simpa using hc) e
  self := fun i s Q E st h => self_ok st.1 h
/-- a drawn order -/
theorem nextB {tp : Addr} {pl : List Nat} {i p : Nat} {x : Int × Value} {Q : Option Value → Shared → Prop} (hit : s.heap.get? it = some (Rc (.ref tp) i a es.size ep)) (hs : s.heap.get? a = some (So es ep t)) (hf : t.fits es.size = true)
    (ht : s.heap.get? tp = some (seqObj "tuple" (pl.map fun i : Nat => rawInt i).toArray 0)) (hp : pl[i]? = some p) (hx : es[p]? = some x)
    (hQ : ∀ h', h'.get? it = some (Rc (.ref tp) (i + 1) a es.size ep) → Heap.SameBut it s.heap h' → Q (some x.2) { s with heap := h' }) : wpAny (model prog w) A (pyNext (.ref it)) Q E s := by
  have hT : s.TypeIs (.ref it) "set_iterator" := ⟨_, hit, rfl⟩
  unfold pyNext
  refine wpAny_bind (wpAny_attempt (wpAny_callSpecial?_slot (name := Str.ofString "__next__") hT SF.next (wpAny_call_entry SF.next hT SF.entry_next ?_ (SF.args_next _))))
  unfold Builtin.«set_iterator.__next__»
  refine wpAny_bind (wpAny_of_eq (a := (Value.ref it, [])) rfl (wpAny_bind (wpAny_fieldsOf hit rfl ?_)))
  dsimp only [rawInt]
  refine wpAny_bind (wpAny_setEntries_of hs rfl hf ?_)
  rw [if_neg (by simp)]
  refine wpAny_bind (wpAny_seqItems ht rfl ?_)
  simp only [Int.toNat_natCast]
  have e : (pl.map fun i : Nat => rawInt i).toArray[i]? = some (.int (p : Int) 0) := by rw [List.getElem?_toArray, List.getElem?_map, hp]; rfl
  rw [e]
  dsimp only
  unfold setNextDrawn
  refine wpAny_bind (wpAny_bind (wpAny_setState_of hs rfl hf ?_))
  simp only [Int.toNat_natCast, bne_self_eq_false, Bool.false_eq_true, if_false]
  rw [hx]
  refine wpAny_pure (wpAny_bind (wpAny_setField_rec hit (by simp) fun h1 o1 b1 => ?_))
  exact wpAny_pure ⟨x.2, rfl, wpAny_pure (hQ h1 (by simpa [Rc, rawInt] using o1) b1)⟩
theorem endB {tp : Addr} {pl : List Nat} {i : Nat} {Q : Option Value → Shared → Prop} (hh : A.handled = none) (hit : s.heap.get? it = some (Rc (.ref tp) i a es.size ep)) (hs : s.heap.get? a = some (So es ep t)) (hf : t.fits es.size = true)
    (ht : s.heap.get? tp = some (seqObj "tuple" (pl.map fun i : Nat => rawInt i).toArray 0)) (hp : pl.length ≤ i) (hQ : ∀ h', Heap.ExtBut it s.heap h' → Q none { s with heap := h' }) : wpAny (model prog w) A (pyNext (.ref it)) Q E s := by
  have hT : s.TypeIs (.ref it) "set_iterator" := ⟨_, hit, rfl⟩
  unfold pyNext
  refine wpAny_bind (wpAny_attempt (wpAny_callSpecial?_slot (name := Str.ofString "__next__") hT SF.next (wpAny_call_entry SF.next hT SF.entry_next ?_ (SF.args_next _))))
  unfold Builtin.«set_iterator.__next__»
  refine wpAny_bind (wpAny_of_eq (a := (Value.ref it, [])) rfl (wpAny_bind (wpAny_fieldsOf hit rfl ?_)))
  dsimp only [rawInt]
  refine wpAny_bind (wpAny_setEntries_of hs rfl hf ?_)
  rw [if_neg (by simp)]
  refine wpAny_bind (wpAny_seqItems ht rfl ?_)
  simp only [Int.toNat_natCast]
  have e : (pl.map fun i : Nat => rawInt i).toArray[i]? = none := by rw [List.getElem?_toArray, List.getElem?_map, List.getElem?_eq_none hp]; rfl
  rw [e]
  dsimp only
  refine wpAny_bind (wpAny_setField_rec hit (by simp) fun h1 o1 b1 => ?_)
  refine wpAny_bind (wpAny_setField_rec (s := { s with heap := h1 }) o1 (by simp) fun h2 o2 b2 => ?_)
  refine wpAny_bind ?_
  simp only [newExc, newTuple]
  refine wpAny_bind (wpAny_newObj_type ?_ (by size_fits))
  refine wpAny_bind (m := firstArgMember _ _) (wpAny_of_eq (a := Value.none) (by first | rfl | (simp only [firstArgMember]; rfl)) ?_)
  refine wpAny_newObj_type ?_ (by size_fits)
  simp only [raiseNew]
  refine wpAny_bind (wpAny_handled ?_)
  first | rw [show A.in1.handled = none from hh] | rw [hh]
  refine wpAny_bind (wpAny_pure (wpAny_throw ?_))
  refine wpAny_bind (wpAny_isInstance (T := "StopIteration") (b := true) ⟨_, Heap.get?_push_size _ rfl, rfl⟩ isSubtype_stop ?_)
  refine wpAny_pure (hQ _ ?_)
  exact Heap.ExtBut.push (Heap.ExtBut.push (fun b o hb e => ((b1.trans b2).2 b hb).trans e) _) _
theorem walkB {tp : Addr} {pl : List Nat} (hne : a ≠ it) (hnt : tp ≠ it) (hp : pl.Perm (List.range es.size)) (hf : t.fits es.size = true) (hh : A.handled = none) :
    Walks prog w A it [it, a, tp] [it] pl.length (fun i v => (pl.map fun p => (es.getD p (0, .none)).2)[i]? = some v) (fun i h => h.get? it = some (Rc (.ref tp) i a es.size ep) ∧ h.get? a = some (So es ep t) ∧ h.get? tp = some (seqObj "tuple" (pl.map fun i : Nat => rawInt i).toArray 0)) where
  sub := fun b hb => by simp at hb; simp [hb]
  frame := fun i h h' st k => ⟨k it (by simp) _ st.1, k a (by simp) _ st.2.1, k tp (by simp) _ st.2.2⟩
  item := fun i s Q E hi st hQ => by
    have hm : pl[i] < es.size := List.mem_range.mp (hp.mem_iff.mp (List.getElem_mem hi))
    refine nextB (x := es[pl[i]]) st.1 st.2.1 hf st.2.2 (List.getElem?_eq_getElem hi) (getElem?_pos es _ hm) fun h' o b => ?_
    refine hQ _ h' s.toks ?_ ⟨o, (b.2 a hne).trans st.2.1, (b.2 tp hnt).trans st.2.2⟩ fun c o' hc e => (b.2 c (by simpa using hc)).trans e
    rw [List.getElem?_map, List.getElem?_eq_getElem hi]
    simp [Array.getD, hm]
  done := fun s Q E st hQ => endB hh st.1 st.2.1 hf st.2.2 (Nat.le_refl _) fun h' b => hQ h' s.toks fun c o' hc e => b c o' (by simpa using hc) e
  self := fun i s Q E st h => self_ok st.1 h
end
end Ss
set_option Elab.async false
set_option linter.all false
set_option maxRecDepth 100000
namespace Ss
open PySem PyProof.Rows
section
variable {prog : Program} {w : World} {A : Around} {E : Value → Shared → Prop} {s : Shared} {a : Addr} {es : Array (Int × Value)}
/-- iter(a set): some order of its things -/
theorem iter_set {Q : Value → Shared → Prop} (hS : SetG w s.heap a es) (hz : es.size ≤ 4096)
    (h : ∀ (it : Addr) (h1 : Heap) d (us : List Value) (fp : List Addr) (St : Nat → Heap → Prop), s.heap.objs.size ≤ it → (∀ b o, s.heap.get? b = some o → h1.get? b = some o) → us.Perm (es.toList.map (·.2)) → (∀ b ∈ fp, b = a ∨ s.heap.objs.size ≤ b) →
      (∀ A' : Around, A'.handled = none → Walks prog w A' it fp [it] us.length (fun i v => us[i]? = some v) St) → St 0 h1 → Q (.ref it) { s with heap := h1, drawn := d }) : wpAny (model prog w) A (pyIter (.ref a)) Q E s := by
  have hT := hS.type
  have hlt := hS.lt
  obtain ⟨ep, t, ho, hf, g, hl⟩ := hS
  obtain ⟨ml, h1, h2, h3⟩ := dr_ex
  refine wpAny_pyIter_slot hT F.slot_set_iter (wpAny_call_entry F.slot_set_iter hT SF.entry_set ?_ (F.args_set_iter_1 _))
  unfold Builtin.«frozenset.__iter__» Builtin.Frozenset.slot0
  refine wpAny_bind (wpAny_bind (wpAny_of_eq (a := (Value.ref a, [])) rfl ?_))
  unfold Builtin.Frozenset.addrOf Builtin.Frozenset.sizeOf
  refine wpAny_pure (wpAny_bind (wpAny_bind (wpAny_setEntries_of ho rfl hf (wpAny_pure ?_))))
  rw [h2]
  refine wpAny_bind (wpAny_bind (wpAny_setState_of ho rfl hf (wpAny_bind (byText_ok (wpAny_pure ?_)))))
  have last : ∀ (us : List Value) (fst : Nat → Nat), fst 0 = 0 → us.Perm (es.toList.map (·.2)) →
      (∀ (i : Nat) (s : Shared) (A' : Around) (E' : Value → Shared → Prop) (Q' : Option (Value × Nat) → Shared → Prop), i ≤ es.size → s.heap.get? a = some (So es ep t) → Q' ((us[i]?).map fun x => (x, fst (i + 1))) s → wpAny (model prog w) A' (setNext a (fst i) i ep) Q' E' s) →
      Q (.ref s.heap.objs.size) { s with heap := s.heap.push (Rc (rawInt 0) 0 a es.size ep) } := fun us fst h0 hp hn => by
    have hul : us.length = es.size := by have := hp.length_eq; simpa using this
    refine h s.heap.objs.size _ s.drawn us [s.heap.objs.size, a] _ (Nat.le_refl _) (fun b o e => Heap.get?_push_of_some _ e) hp (fun b hb => ?_) (fun A' hh' => walkI (t := t) (ep := ep) (fst := fst) (Nat.ne_of_lt hlt) hul hf hn hh') ⟨?_, Heap.get?_push_of_some _ ho⟩
    · simp at hb
      rcases hb with e | e
      · exact .inr (by rw [e]; exact Nat.le_refl _)
      · exact .inl e
    · rw [h0]; exact Heap.get?_push_size _ rfl
  by_cases hb : byText w = true
  · rw [hb]
    simp only [Bool.not_true, Bool.false_and, Bool.false_eq_true, if_false]
    refine wpAny_bind (wpAny_pure (wpAny_bind (wpAny_setEpoch_of ho rfl hf (wpAny_bind ?_))))
    unfold newFields
    refine wpAny_newObj_type (wpAny_pure ⟨_, rfl, "set_iterator", _, ⟨_, Heap.get?_push_size _ rfl, rfl⟩, SF.next.lookup, ?_⟩)
    refine last ((pickOrder (w.params.setOrder a ep) es).toList.map (·.2)) (fun _ => 0) rfl ((pick_perm _ _).map _) fun i s' A' E' Q' hi hs q => nextA hb hs hf ?_
    have e : (((pickOrder (w.params.setOrder a ep) es).toList.map (·.2))[i]?).map (fun x => (x, 0)) = ((pickOrder (w.params.setOrder a ep) es)[i]?).map fun e => (e.2, 0) := by
      rw [List.getElem?_map, Array.getElem?_toList]
      cases (pickOrder (w.params.setOrder a ep) es)[i]? <;> rfl
    rw [← e]
    exact q
  · have hb' : byText w = false := by simpa using hb
    have hled : t.led = true := hl.resolve_left hb
    rw [hb']
    by_cases hd : dr es t = true
    · rw [hd]
      simp only [Bool.not_false, Bool.true_and, if_true]
      refine wpAny_bind (draw_ok es.size (List.range es.size) s _ (by simp) fun pl d hp => ?_)
      have hpl : pl.length = es.size := by have := hp.length_eq; simpa using this
      refine wpAny_bind (wpAny_newTuple ?_ (by rw [List.length_map, hpl, sizeLine_eq]; omega))
      have ho2 : (s.heap.push (seqObj "tuple" (pl.map fun i : Nat => rawInt i).toArray 0)).get? a = some (So es ep t) := Heap.get?_push_of_some _ ho
      refine wpAny_bind (wpAny_setEpoch_of (s := { s with heap := s.heap.push (seqObj "tuple" (pl.map fun i : Nat => rawInt i).toArray 0), drawn := d }) ho2 rfl hf (wpAny_bind ?_))
      unfold newFields
      refine wpAny_newObj_type (wpAny_pure ⟨_, rfl, "set_iterator", _, ⟨_, Heap.get?_push_size _ rfl, rfl⟩, SF.next.lookup, ?_⟩)
      have z1 : (s.heap.push (seqObj "tuple" (pl.map fun i : Nat => rawInt i).toArray 0)).objs.size = s.heap.objs.size + 1 := size_push' _ _
      have up : (pl.map fun p => (es.getD p (0, .none)).2).Perm (es.toList.map (·.2)) := by
        have e : es.toList.map (·.2) = (List.range es.size).map fun p => (es.getD p (0, .none)).2 := by
          refine List.ext_getElem (by simp) fun i h1 h2 => ?_
          have hi : i < es.size := by simpa using h1
          simp [Array.getD, hi]
        rw [e]
        exact hp.map _
      refine h _ _ d (pl.map fun p => (es.getD p (0, .none)).2) [s.heap.objs.size + 1, a, s.heap.objs.size] (fun i h => h.get? (s.heap.objs.size + 1) = some (Rc (.ref s.heap.objs.size) i a es.size ep) ∧ h.get? a = some (So es ep t) ∧ h.get? s.heap.objs.size = some (seqObj "tuple" (pl.map fun i : Nat => rawInt i).toArray 0)) (by rw [z1]; exact Nat.le_succ _) (fun b o e => Heap.get?_push_of_some _ (Heap.get?_push_of_some _ e)) up (fun b hb => ?_) (fun A' hh' => ?_) ?_
      · simp at hb
        rcases hb with e | e | e
        · exact .inr (by rw [e]; exact Nat.le_succ _)
        · exact .inl e
        · exact .inr (by rw [e]; exact Nat.le_refl _)
      · have W := walkB (prog := prog) (w := w) (it := s.heap.objs.size + 1) (t := t) (ep := ep) (tp := s.heap.objs.size) (Nat.ne_of_lt (Nat.lt_succ_of_lt hlt)) (Nat.ne_of_lt (Nat.lt_succ_self _)) hp hf hh'
        rw [List.length_map, z1]
        exact W
      · refine ⟨?_, Heap.get?_push_of_some _ ho2, Heap.get?_push_of_some _ (Heap.get?_push_size _ rfl)⟩
        rw [← z1]
        exact Heap.get?_push_size _ rfl
    · have hd' : dr es t = false := by simpa using hd
      rw [hd']
      simp only [Bool.and_false, Bool.false_eq_true, if_false]
      refine wpAny_bind (wpAny_pure (wpAny_bind (wpAny_setEpoch_of ho rfl hf (wpAny_bind ?_))))
      unfold newFields
      refine wpAny_newObj_type (wpAny_pure ⟨_, rfl, "set_iterator", _, ⟨_, Heap.get?_push_size _ rfl, rfl⟩, SF.next.lookup, ?_⟩)
      refine last (es.toList.map (·.2)) (slotAt t) rfl (List.Perm.refl _) fun i s' A' E' Q' hi hs q => nextC hb' hd' hs hf g hled hi ?_
      have e : ((es.toList.map (·.2))[i]?).map (fun x => (x, slotAt t (i + 1))) = (es[i]?).map fun e => (e.2, slotAt t (i + 1)) := by
        rw [List.getElem?_map, Array.getElem?_toList]
        cases es[i]? <;> rfl
      rw [← e]
      exact q
theorem hint_set {Q : Bool → Shared → Prop} (hT : s.TypeIs (.ref a) "set") (h : Q false s) : wpAny (model prog w) A (Builtin.List.listLengthHint (.ref a)) Q E s := by
  unfold Builtin.List.listLengthHint
  refine wpAny_bind (wpAny_specialOf hT PySem.F.slot_set_len.lookup ?_)
  generalize hid : ("set.__len__" : String) = id0
  wp_delta
  rw [show splitId id0 = some ("set", "__len__") from by subst hid; decide +kernel]
  subst hid
  refine wpAny_bind (wpAny_isInstance (T := "set") (b := true) hT (by rw [isSubtype_type]; kernel_rfl) ?_)
  refine wpAny_ite_split (fun hab => absurd hab (by decide)) (fun _ => ?_)
  refine wpAny_ite_split (fun _ => ?_) (fun hab => absurd (by decide +kernel) hab)
  exact wpAny_bind (wpAny_typeOf hT (wpAny_pure h))
/-- the list of a set's things -/
theorem collect_set {R : List Value → Shared → Prop} (hh : A.handled = none) (hS : SetG w s.heap a es) (hz : es.size ≤ 4096)
    (h : ∀ (h' : Heap) tk d (vs : List Value), (∀ b o, s.heap.get? b = some o → h'.get? b = some o) → vs.Perm (es.toList.map (·.2)) → R vs { s with heap := h', toks := tk, drawn := d }) : wpAny (model prog w) A (collect (.ref a)) R E s := by
  have hlt := hS.lt
  unfold collect
  refine wpAny_bind (wpAny_runValue (codeAny_builtin entry_proto_collect' ?_))
  rw [Around.under_plainId PySem.F.plain_proto_collect _]
  show wpAny _ A.in1 (newList [] >>= fun l => again (.builtin "list.__iadd__" ⟨[l, .ref a], []⟩)) _ _ s
  refine wpAny_bind (wpAny_newObj_type (wpAny_pure ⟨plainId_quiet PySem.F.plain_list_iadd _, codeAny_builtin entry_list_iadd' ?_⟩))
  rw [Around.under_plainId PySem.F.plain_list_iadd _]
  show wpAny _ A.in1 (Builtin.List.listExtendWith (.ref s.heap.objs.size) (.ref a) (.ref s.heap.objs.size)) _ _ _
  have oL : (s.heap.push { cls := .type "list", data := .seq ([] : List Value).toArray }).get? s.heap.objs.size = some { cls := .type "list", data := .seq #[] } := Heap.get?_push_size _ rfl
  have hS1 : SetG w (s.heap.push { cls := .type "list", data := .seq ([] : List Value).toArray }) a es := hS.at fun o e => Heap.get?_push_of_some _ e
  have z1 : (s.heap.push { cls := .type "list", data := .seq ([] : List Value).toArray }).objs.size = s.heap.objs.size + 1 := size_push' _ _
  generalize hg : s.heap.push { cls := .type "list", data := .seq ([] : List Value).toArray } = G1 at *
  have keep1 : ∀ b o, s.heap.get? b = some o → G1.get? b = some o := fun b o e => by rw [← hg]; exact Heap.get?_push_of_some _ e
  unfold Builtin.List.listExtendWith
  have hT1 := SetG.type (s := { s with heap := G1 }) hS1
  refine wpAny_bind (wpAny_typeOf (T := "set") hT1 ?_)
  have e1 : Builtin.List.listSameRef (.ref s.heap.objs.size) (.ref a) = false := by simp [Builtin.List.listSameRef]; exact Nat.ne_of_gt hlt
  have e2 : (Value.type "set" == Value.type "list") = false := by decide
  have e3 : (Value.type "set" == Value.type "tuple") = false := by decide
  simp only [e1, e2, e3, Bool.or_false, Bool.false_eq_true, if_false]
  refine wpAny_bind (iter_set (s := { s with heap := G1 }) hS1 hz fun it h1 d us fp St hit hk hp hfp hW hst => ?_)
  have hS2 : SetG w h1 a es := hS1.at fun o e => hk a o e
  have oL1 := hk _ _ oL
  have hul : us.length ≤ 4096 := by have := hp.length_eq; simp at this; omega
  have hSf : s.heap.objs.size ∉ fp := fun hm => by
    rcases hfp _ hm with z | z
    · exact absurd z (Nat.ne_of_gt hlt)
    · have : G1.objs.size ≤ s.heap.objs.size := z
      omega
  have loop : ∀ (h2 : Heap) (c tk : Nat), St 0 h2 → (∀ b o, b ≠ s.heap.objs.size → G1.get? b = some o → h2.get? b = some o) → h2.get? s.heap.objs.size = some { cls := .type "list", data := .seq #[] c } →
      codeAny (model prog w) A (.builtin "list.extend.loop" ⟨[.ref s.heap.objs.size, .ref it, .ref s.heap.objs.size], []⟩) (fun r s' => ∃ (h' : Heap) (tk : Nat) (acc : Array Value) (c' : Nat), r = .ok (.ret (.ref s.heap.objs.size)) ∧ s' = { s with heap := h', toks := tk, drawn := d } ∧
        (∀ b o, s.heap.get? b = some o → h'.get? b = some o) ∧ h'.get? s.heap.objs.size = some { cls := .type "list", dict := none, data := .seq acc c', slots := #[] } ∧ acc.toList.Perm (es.toList.map (·.2))) { s with heap := h2, toks := tk, drawn := d } := by
    intro h2 c tk st2 k2 o2
    refine codeAny_extend_loopS (hW A.in1 hh).toS (by rw [sizeLine_eq]; omega) s.heap.objs.size hSf (.ref s.heap.objs.size) us.length 0 _ #[] c rfl (Nat.zero_le _) st2 o2 (ItemsOf.nil _) fun s' acc c' hm oS hacc => ?_
    have eq : s' = { s with heap := s'.heap, toks := s'.toks, drawn := d } := Moved.eq_with hm
    refine ⟨s'.heap, s'.toks, acc, c', rfl, eq, fun b o e => hm.heap b o (fun hmem => ?_) (k2 b o (Nat.ne_of_lt (Heap.lt_size e)) (keep1 b o e)), oS, ?_⟩
    · have hb := Heap.lt_size e
      rcases List.mem_cons.mp hmem with z | z
      · exact absurd z (Nat.ne_of_lt hb)
      · have z' : b = it := by simpa using z
        have h2 : s.heap.objs.size ≤ it := Nat.le_trans (by show s.heap.objs.size ≤ G1.objs.size; rw [z1]; exact Nat.le_succ _) hit
        exact absurd hb (by rw [z']; exact Nat.not_lt.mpr h2)
    · have ea : acc.toList = us := by
        refine List.ext_getElem? fun j => ?_
        rcases Nat.lt_or_ge j acc.size with y | y
        · have q := hacc.2 j acc[j] (getElem?_pos acc j y)
          rw [q, Array.getElem?_toList, getElem?_pos acc j y]
        · rw [List.getElem?_eq_none (by simpa using y), List.getElem?_eq_none (by have := hacc.1; omega)]
      rw [ea]
      exact hp
  have fin : ∀ (r : Result) (s' : Shared), (∃ (h' : Heap) (tk : Nat) (acc : Array Value) (c' : Nat), r = .ok (.ret (.ref s.heap.objs.size)) ∧ s' = { s with heap := h', toks := tk, drawn := d } ∧
        (∀ b o, s.heap.get? b = some o → h'.get? b = some o) ∧ h'.get? s.heap.objs.size = some { cls := .type "list", dict := none, data := .seq acc c', slots := #[] } ∧ acc.toList.Perm (es.toList.map (·.2))) → ∃ v, r = .ok (.ret v) ∧ wpAny (model prog w) A (match v with
      | .ref b => (do let o ← load b; match o.data with | .seq xs _ => pure xs.toList | _ => unsupported "internal:collect")
      | _ => unsupported "internal:collect") R E s' := by
    rintro r s' ⟨h', tk, acc, c', rfl, rfl, k, o, p⟩
    exact ⟨_, rfl, wpAny_bind (wpAny_load o (wpAny_pure (h h' tk d acc.toList k p)))⟩
  refine wpAny_bind (wpAny_holding (hint_set (s := { s with heap := h1, drawn := d }) (SetG.type (s := { s with heap := h1, drawn := d }) hS2) ?_))
  refine wpAny_ite_split (fun _ => ?_) (fun _ => wpAny_pure ⟨plainId_quiet PySem.F.plain_extend_loop _, codeAny_mono (loop h1 _ _ hst (fun b o _ e => hk b o e) oL1) fun r s' z => ?_⟩)
  · refine wpAny_bind (wpAny_rule (wpAny_bind ?_))
    show wpAny _ _ (updateSeq s.heap.objs.size (·.push .none) >>= fun _ => updateSeq s.heap.objs.size (·.pop)) _ _ _
    refine wpAny_bind (wpAny_updateSeq oL1 rfl ?_)
    have oL2 := Heap.get?_update_self (Obj.mapSeq (·.push Value.none)) oL1 rfl
    refine wpAny_updateSeq (hz := by seq_fits) oL2 rfl ?_
    have oL3 := Heap.get?_update_self (Obj.mapSeq (·.pop)) oL2 rfl
    have oth : ∀ b o, b ≠ s.heap.objs.size → h1.get? b = some o → ((h1.update s.heap.objs.size (Obj.mapSeq (·.push Value.none))).update s.heap.objs.size (Obj.mapSeq (·.pop))).get? b = some o := fun b o hb e =>
      (Heap.get?_update_other _ _ (Ne.symm hb)).trans ((Heap.get?_update_other _ _ (Ne.symm hb)).trans e)
    refine wpAny_pure ⟨plainId_quiet PySem.F.plain_extend_loop _, codeAny_mono (loop _ _ _ ((hW A.in1 hh).frame 0 _ _ hst fun b hb o e => oth b o (fun z => hSf (z ▸ hb)) e) (fun b o hb e => oth b o hb (hk b o e)) oL3) fun r s' z => ?_⟩
    obtain ⟨v, rfl, q⟩ := fin r s' z
    exact q
  · obtain ⟨v, rfl, q⟩ := fin r s' z
    exact q
end
end Ss
set_option Elab.async false
set_option linter.all false
set_option maxRecDepth 100000
/-! SETS of ints and texts: comprehensions, sorted. -/
namespace L2
open PySem PySem.Spec PyProof.Rows
/-- the set at a: the keys ks, each once -/
def SetP (P : Program) (w : World) (a : Addr) (ks : List Key) (h : Heap) : Prop :=
  ∃ es : Array (Int × Value), Ss.SetG w h a es ∧ ks.Nodup ∧ ∃ el : List (Int × Value), el.Perm es.toList ∧ Paired (fun (k : Key) (e : Int × Value) => (mixKind P w).is k e.2 = true ∧ e.1 = (mixKind P w).hash k) ks el
abbrev SetH (P : Program) (w : World) (a : Addr) (ks : List Key) : HO := .ext (SetP P w a ks)
def addK (ks : List Key) (k : Key) : List Key := if ks.any (fun j => decide (j = k)) = true then ks else ks ++ [k]
theorem addK_in {ks : List Key} {k : Key} (h : k ∈ ks) : addK ks k = ks := if_pos (List.any_eq_true.mpr ⟨k, h, decide_eq_true rfl⟩)
theorem addK_new {ks : List Key} {k : Key} (h : k ∉ ks) : addK ks k = ks ++ [k] := if_neg fun z => by
  obtain ⟨j, hj, e⟩ := List.any_eq_true.mp z
  exact h (of_decide_eq_true e ▸ hj)
theorem setH_ok {P : Program} {w : World} {H : Hp} {h : Heap} {a : Addr} {ks : List Key} (x : SetP P w a ks h) : ObjOk P w H h a (SetH P w a ks) := by
  refine ⟨x, ?_, fun h1 h2 p k => ?_⟩
  · obtain ⟨es, ⟨ep, t, ho, _⟩, _⟩ := x
    exact ⟨_, ho⟩
  · obtain ⟨es, g, r⟩ := p
    exact ⟨es, g.at k, r⟩
theorem scan_of {P : Program} {w : World} {k : Key} {v : Value} (h : (mixKind P w).is k v = true) : v.scannable = true := by
  rcases keyIs_shape h with ⟨i, t, rfl, rfl⟩ | ⟨x, t, rfl, rfl⟩ <;> rfl
theorem Paired.mem_right {α β : Type} {F : α → β → Prop} : ∀ {xs : List α} {ys : List β}, Paired F xs ys → ∀ y ∈ ys, ∃ x ∈ xs, F x y
  | _, _, .nil, y, h => by cases h
  | _, _, .cons r t, y, h => by
    rcases List.mem_cons.mp h with e | h
    · subst e; exact ⟨_, List.mem_cons_self, r⟩
    · obtain ⟨x, hx, z⟩ := Paired.mem_right t y h
      exact ⟨x, List.mem_cons_of_mem _ hx, z⟩
theorem Paired.mem_left {α β : Type} {F : α → β → Prop} : ∀ {xs : List α} {ys : List β}, Paired F xs ys → ∀ x ∈ xs, ∃ y ∈ ys, F x y
  | _, _, .nil, y, h => by cases h
  | _, _, .cons r t, y, h => by
    rcases List.mem_cons.mp h with e | h
    · subst e; exact ⟨_, List.mem_cons_self, r⟩
    · obtain ⟨x, hx, z⟩ := Paired.mem_left t y h
      exact ⟨x, List.mem_cons_of_mem _ hx, z⟩
theorem Paired.app {α β : Type} {F : α → β → Prop} : ∀ {xs xs' : List α} {ys ys' : List β}, Paired F xs ys → Paired F xs' ys' → Paired F (xs ++ xs') (ys ++ ys')
  | _, _, _, _, .nil, s => s
  | _, _, _, _, .cons r t, s => .cons r (Paired.app t s)
theorem setP_elems {P : Program} {w : World} {ks : List Key} {es : Array (Int × Value)} {el : List (Int × Value)} (p : el.Perm es.toList) (q : Paired (fun (k : Key) (e : Int × Value) => (mixKind P w).is k e.2 = true ∧ e.1 = (mixKind P w).hash k) ks el) : ElemsOf (mixKind P w) es.toList := fun e he => by
  obtain ⟨k, _, h⟩ := Paired.mem_right q e (p.mem_iff.mpr he)
  exact ⟨⟨k, h.1, h.2⟩, scan_of h.1⟩
section
variable {X : Cx} {pins : List (Addr × Obj)} {σ : St} {H : Hp} {s : Shared}
/-- acc.add(v) -/
theorem set_add {D : Addr} {ks : List Key} {k : Key} {u : Value} {Q : Shared → Prop} {E : Value → Shared → Prop} (I : Inv X pins σ H s) (hD : H D = some (SetH X.prog X.w D ks)) (r : RelV (kV k) u) (hz : ks.length < 1000)
    (h : ∀ s', Inv X pins σ (upd H D (SetH X.prog X.w D (addK ks k))) s' → Q s') : wpAny (model X.prog X.w) X.A (call (.builtin "set.add") [.ref D, u]) (fun _ s' => Q s') E s := by
  have hx := I.hok D _ hD
  obtain ⟨⟨es, g, nd, el, p, q⟩, _, _⟩ := hx
  have hl : ks.length = es.size := by have := Paired.length q; have := p.length_eq; simp at this; omega
  have hk : (mixKind X.prog X.w).is k u = true := by
    cases k with
    | inl i => obtain ⟨t, rfl⟩ := r; exact keyIs_int i t
    | inr x => obtain ⟨t, rfl⟩ := r; exact keyIs_str x t
  refine Ss.add hk (scan_of hk) g (setP_elems p q) (by have : scanBound = 4096 := rfl; omega) fun h' es' sb g' ad => ?_
  refine h _ (I.write (x := D) (e := D) (by rw [hD]; trivial) (.inl rfl) (fun b o hb e => (sb.2 b hb).trans e) (by obtain ⟨ep, t, ho, _⟩ := g'; exact ⟨_, ho⟩) (setH_ok ⟨es', g', ?_⟩))
  rcases ad with ⟨⟨e, he, hek⟩, rfl⟩ | ⟨hno, hp⟩
  · have hm : k ∈ ks := by
      obtain ⟨k', hk', z⟩ := Paired.mem_right q e (p.mem_iff.mpr he)
      rw [(mixKind X.prog X.w).inj _ _ _ hek z.1]
      exact hk'
    rw [addK_in hm]
    exact ⟨nd, el, p, q⟩
  · have hm : k ∉ ks := fun hm => by
      obtain ⟨e, he, z⟩ := Paired.mem_left q k hm
      have := hno e (p.mem_iff.mp he)
      rw [z.1] at this
      cases this
    rw [addK_new hm]
    refine ⟨List.nodup_append.mpr ⟨nd, List.pairwise_singleton _ _, fun a ha b hb => ?_⟩, el ++ [((mixKind X.prog X.w).hash k, u)], (p.append_right _).trans hp.symm, Paired.app q (.cons ⟨hk, rfl⟩ .nil)⟩
    rw [List.mem_singleton.mp hb]
    exact fun z => hm (z ▸ ha)
end
theorem compTurn_set (elt target iter : Expr) (ifs : List Expr) (scope : Scope) (pos : Pos) (it acc : Value) (env : Env) : compTurn (.SetComp elt [⟨target, iter, ifs, 0⟩] scope pos) 0 it acc env = (do
      standAt iter.pos
      match ← pyNext it with
      | none => pure (.done .next)
      | some v =>
        letOwnedTupleGo target it v
        assign target env v
        let mut yes := true
        for c in ifs do
          if yes then yes ← isTrue c env (eval c env)
        if yes then
          (do let y ← eval elt env; standAt elt.pos; let _ ← call (.builtin "set.add") [acc, y])
        again (.compLoop (.SetComp elt [⟨target, iter, ifs, 0⟩] scope pos) 0 it acc env)) := by rfl
theorem eval_SetComp {env : Env} (elt gens scope pos) : eval (.SetComp elt gens scope pos) env = comprehension (.SetComp elt gens scope pos) scope env (firstIterPos gens pos) (newSet (.type "set")) (firstAsync gens) (firstIter gens env) := rfl
theorem compStart_set {prog : Program} {w : World} {A : Around} {R : Result → Shared → Prop} {s : Shared} {elt target iter ifs rest scope pos it acc env} (h0 : codeAny (model prog w) A (.compLoop (.SetComp elt (⟨target, iter, ifs, 0⟩ :: rest) scope pos) 0 it acc env) R s)
    (h : wpAny (model prog w) A (pyIter it) (fun it' s' => codeAny (model prog w) A (.compLoop (.SetComp elt (⟨target, iter, ifs, 0⟩ :: rest) scope pos) 0 it' acc env) R s') (notedBy (model prog w) A env fun x s' => R (.error x) s') s) : codeAny (model prog w) A (.compStart (.SetComp elt (⟨target, iter, ifs, 0⟩ :: rest) scope pos) 0 it acc env) R s := by
  refine codeAny_of_tree ?_
  show wpAny _ _ ((compStart (.SetComp elt (⟨target, iter, ifs, 0⟩ :: rest) scope pos) 0 it acc env).onRaise (fun x => do noteFrame x env; standAt theWindowsPlace)) _ _ s
  refine wpAny_notedAt (m := compStart (.SetComp elt (⟨target, iter, ifs, 0⟩ :: rest) scope pos) 0 it acc env) ?_
  unfold compStart
  show wpAny _ A (ask >>= _) _ _ s
  have fin : wpAny (model prog w) A (do standAt iter.pos; again (.compLoop (.SetComp elt (⟨target, iter, ifs, 0⟩ :: rest) scope pos) 0 (← pyIter it) acc env)) (fun r s' => match r with | .done f => R (.ok f) s' | .again c' => c'.quiet = true ∧ codeAny (model prog w) A c' R s') (notedBy (model prog w) A env fun x s' => R (.error x) s') s :=
    wpAny_bind (wpAny_standAt (wpAny_bind (wpAny_mono h (fun _ _ z => wpAny_pure ⟨rfl, z⟩) fun _ _ z => z)))
  refine wpAny_bind (wpAny_askSetting (wpAny_ite ?_))
  split
  · first | exact wpAny_pure ⟨rfl, h0⟩ | exact wpAny_bind (wpAny_pure (wpAny_pure ⟨rfl, h0⟩))
  · first | exact wpAny_bind (wpAny_rule fin) | (refine wpAny_bind (wpAny_rule ?_); exact fin)
theorem compLoop_set {prog : Program} {w : World} {A : Around} {R : Result → Shared → Prop} {s : Shared} {elt target iter : Expr} {ifs : List Expr} {scope : Scope} {pos : Pos} {it acc : Value} {env : Env} (I : Nat → Shared → Prop)
    (turn : ∀ n s, I n s → wpAny (model prog w) A (pyNext it) (fun r s1 => match r with
      | none => R (.ok .next) s1
      | some v => wpAny (model prog w) A (letOwnedTupleGo target it v) (fun _ s1 => wpAny (model prog w) A (assign target env v) (fun _ s2 =>
          wpAny (model prog w) A (forIn ifs true fun c r => if r = true then do let ok ← isTrue c env (eval c env); pure (ForInStep.yield ok) else pure (ForInStep.yield r)) (fun ok s3 =>
            if ok = true then wpAny (model prog w) A (eval elt env) (fun x s4 =>
              wpAny (model prog w) A (call (.builtin "set.add") [acc, x]) (fun _ s5 => ∃ m, m < n ∧ I m s5) (fun _ _ => False) s4) (fun _ _ => False) s3
            else ∃ m, m < n ∧ I m s3) (fun _ _ => False) s2) (fun _ _ => False) s1) (fun _ _ => False) s1) (fun _ _ => False) s)
    (n : Nat) (h : I n s) :
    codeAny (model prog w) A (.compLoop (.SetComp elt [⟨target, iter, ifs, 0⟩] scope pos) 0 it acc env) R s := by
  refine codeAny_loop rfl I (fun n s hI => ?_) n h
  show wpAny _ A ((compTurn (.SetComp elt [⟨target, iter, ifs, 0⟩] scope pos) 0 it acc env).onRaise (fun x => do noteFrame x env; theTreesLotGoes x)) _ _ s
  refine wpAny_noted ?_
  rw [compTurn_set]
  refine wpAny_bind (wpAny_standAt (wpAny_bind (wpAny_mono (turn n s hI) (fun r s1 h1 => ?_) fun _ _ h' => h'.elim)))
  cases r with
  | none => exact wpAny_pure h1
  | some v =>
    refine wpAny_bind (wpAny_mono h1 (fun _ s1 h1 => ?_) fun _ _ h' => h'.elim)
    refine wpAny_bind (wpAny_mono h1 (fun _ s2 h2 => wpAny_bind (wpAny_mono h2 (fun ok s3 h3 => ?_) fun _ _ h' => h'.elim)) fun _ _ h' => h'.elim)
    cases ok with
    | false => exact wpAny_pure ⟨rfl, h3⟩
    | true =>
      exact wpAny_bind (wpAny_bind (wpAny_mono h3 (fun x s4 h4 => wpAny_bind (wpAny_standAt (wpAny_bind (wpAny_mono h4 (fun _ s5 h5 => wpAny_pure (wpAny_pure ⟨rfl, h5⟩)) fun _ _ h' => h'.elim)))) fun _ _ h' => h'.elim))

section
variable {X : Cx} {pins : List (Addr × Obj)} {σ : St} {H : Hp} {s : Shared} {xs Ns : List Str} {sc : Scope} {C : Addr} {fp : List Addr}
theorem Inv.startSN {ho : HO} {D : Addr} {h1 : Heap} {m : Str → Option Value} {tk : Nat} {w : St} (I : Inv X pins σ H s) (S : LnScope X xs Ns sc) (hf : ∀ b ∈ fp, FpOk X pins H b) (hlt : ∀ b ∈ fp, b < s.heap.objs.size) (hw : w = xs.map fun _ => none)
    (hD : D = s.heap.objs.size) (hC : s.heap.objs.size ≤ C) (hDC : C ≠ D) (hk : ∀ b o, s.heap.get? b = some o → h1.get? b = some o) (hn : h1.Ns C m) (hl : ObjOk X.prog X.w (upd H D ho) h1 D ho) :
    Inv (cxLN X xs Ns sc C fp s H) [] (w ++ σ) (upd H D ho) { s with heap := h1, toks := tk } := by
  have hwl : w.length = xs.length := by rw [hw, List.length_map]
  have hDle : s.heap.objs.size ≤ D := by rw [hD]; exact Nat.le_refl _
  have cells : ∀ y c, (clOf sc X.env.cells).lookup y = some c → c < s.heap.objs.size := fun y c e => by
    obtain ⟨v, q⟩ := I.cell y c (clOf_sub sc X.env.cells e)
    exact q.lt
  refine ⟨I.okLN S hC hf hlt, rfl, I.bare, Un.laid hk hDle (I.hok.fresh hDle), ⟨m, hn, fun i y v e1 e2 e3 => ?_⟩, fun y c e => ?_, ?_, fun y c e => ?_, fun p hp => absurd (show p ∈ ([] : List (Addr × Obj)) from hp) (by simp), I.hok.laid hk hDle hl, ?_⟩
  · have e1 : (xs ++ Ns)[i]? = some y := e1
    have e2 : (w ++ σ)[i]? = some (some v) := e2
    rcases Nat.lt_or_ge i xs.length with hi | hi
    · rw [List.getElem?_append_left (by omega), hw, List.getElem?_map, List.getElem?_eq_getElem hi] at e2
      cases e2
    · have e1' : Ns[i - xs.length]? = some y := by rw [List.getElem?_append_right hi] at e1; exact e1
      have e2' : σ[i - xs.length]? = some (some v) := by rw [List.getElem?_append_right (by omega), hwl] at e2; exact e2
      have e3' : Vis (relabel sc X.env) y := e3
      have ny : sc.names.lookup y ≠ some .local := S.apart y (List.mem_of_getElem? e1')
      have fr : sc.names.lookup y = some .free ∧ ((relabel sc X.env).names.lookup y = some .cell ∨ (relabel sc X.env).names.lookup y = some .free) := by
        rcases e3' with h | h | h
        · obtain ⟨k', e, q⟩ := relabel_look h
          rcases q with q | ⟨_, q⟩
          · subst q; exact absurd e ny
          · cases q
        · obtain ⟨k', e, q⟩ := relabel_look h
          rcases q with q | ⟨q, _⟩
          · subst q; exact absurd rfl (S.nocell _ (PySem.mem_of_lookup e))
          · exact ⟨by rw [e, q], .inl h⟩
        · obtain ⟨k', e, q⟩ := relabel_look h
          rcases q with q | ⟨_, q⟩
          · exact ⟨by rw [e, ← q], .inr h⟩
          · cases q
      have ok := S.free (y, .free) (PySem.mem_of_lookup fr.1) rfl
      obtain ⟨m0, hn0, hl0⟩ := I.loc
      obtain ⟨u, r, l⟩ := hl0 _ y v (S.sub _ y e1' fr.1) e2' (.inr ok)
      refine ⟨u, r, .inr ⟨fr.2, ?_⟩⟩
      rcases l with ⟨k, _⟩ | ⟨_, c, ec, z⟩
      · rcases ok with q | q <;> (rw [show X.env.kindOf y = some .local from k] at q; cases q)
      · obtain ⟨c', ec'⟩ := clOf_has sc X.env.cells (S.cells I.ok) (PySem.mem_of_lookup fr.1)
        have := clOf_sub sc X.env.cells ec'
        rw [ec] at this
        cases this
        obtain ⟨o, ho, hd⟩ := z
        exact ⟨c, ec', o, hk _ _ ho, hd⟩
  · obtain ⟨v, o, ho, hd⟩ := I.cell y c (clOf_sub sc X.env.cells e)
    exact ⟨v, o, hk _ _ ho, hd⟩
  · show upd H D ho C = none
    rw [upd_ne hDC]
    exact I.hok.fresh hC
  · show upd H D ho c = none
    rw [upd_ne (Nat.ne_of_lt (Nat.lt_of_lt_of_le (cells y c e) hDle))]
    exact I.freeC y c (clOf_sub sc X.env.cells e)
  · show (w ++ σ).length = (xs ++ Ns).length
    rw [List.length_append, List.length_append, I.len, hwl, S.len]
end
/-- acc = set(); for target in ..: if ..: acc.add(..), the set at D; n: how many names the target has -/
def scGo (P : Program) (w : World) (n : Nat) (g : TG) (tc : TT) (te : TE) (σ : St) (J : It) (D : Addr) (Fin : Hp → Prop) (H : Hp) : Prop :=
  ∃ W : Nat → Nat → List Key → Hp → Prop, (∃ m, W 0 m [] (upd H D (SetH P w D []))) ∧ ∀ i m ks H, W i m ks H → H D = some (SetH P w D ks) ∧
    ((J.stop i H ∧ Fin H) ∨ (J.go i H ∧ ∀ x H' (u : St), u.length = n → J.yld i H x H' → g x (u ++ σ) H' fun σ2 H2 => (∃ u2 : St, u2.length = n ∧ σ2 = u2 ++ σ) ∧ tc σ2 H2 fun b H3 => if b = true then te σ2 H3 fun y H4 => H4 D = some (SetH P w D ks) ∧ ks.length < 1000 ∧ ∃ k, y = kV k ∧ ∃ m', m' < m ∧ W (i + 1) m' (addK ks k) (upd H4 D (SetH P w D (addK ks k)))
      else ∃ m', m' < m ∧ W (i + 1) m' ks H3))
def tSN (P : Program) (w : World) (n : Nat) (wi : TI) (g : TG) (tc : TT) (te : TE) : TE := fun σ H Q => wi σ H fun J H1 => ∀ D, H1 D = none → scGo P w n g tc te σ J D (fun H2 => Q (.ref D) H2) H1
section
variable {X : Cx} {xs Ns : List Str} {sc : Scope} {elt iter tg : Expr} {ifs : List Expr} {pos : Pos} {wi : TI} {g : TG} {tc : TT} {te : TE}
theorem sn_block {pins : List (Addr × Obj)} {σ : St} {H : Hp} {s : Shared} {it : Addr} {fp : List Addr} {tn : Nat → Heap → Prop} {J : It} {Fin : Addr → Hp → Prop} {RR : Value → Addr → Result → Shared → Prop} {E : Value → Shared → Prop}
    (hc : X.calm = true) (S : LnScope X xs Ns sc) (I : Inv X pins σ H s) (T : Turn X.prog X.w X.K tg J fp it tn) (st : tn 0 s.heap) (hf : ∀ b ∈ fp, FpOk X pins H b) (hg : ∀ C s0 H0, PG (cxLN X xs Ns sc C fp s0 H0) tg g)
    (ht : ∀ C s0 H0, PTs (cxLN X xs Ns sc C fp s0 H0) ifs tc) (he : ∀ C s0 H0, PE (cxLN X xs Ns sc C fp s0 H0) elt te) (q : ∀ D, H D = none → scGo X.prog X.w xs.length g tc te σ J D (Fin D) H)
    (hR : ∀ D C H2 s2 m, s.heap.objs.size ≤ C → Inv X pins σ H2 s2 → H2 C = none → s2.heap.Ns C m → Fin D H2 → RR (.ref D) C (.ok .next) s2) :
    wpAny (model X.prog X.w) X.A (newSet (.type "set")) (fun acc s3 => wpAny (model X.prog X.w) X.A (newFunctionEnv sc X.env.globals (clOf sc X.env.cells) [] X.env.qual none .none (some X.env)) (fun cenv s4 =>
      codeAny (model X.prog X.w) X.A (.compStart (.SetComp elt [⟨tg, iter, ifs, 0⟩] sc pos) 0 (.ref it) acc { cenv with scope := relabel sc X.env }) (RR acc cenv.locals) s4) E s3) E s := by
  have hlt : ∀ b ∈ fp, b < s.heap.objs.size := fun b hb => by
    obtain ⟨o, e, _⟩ := T.obj 0 _ st b hb
    exact Heap.lt_size e
  refine Ss.new fun oS hS => wpAny_newFunctionEnv S.nocell (by intro y hy; simp at hy) (fun h1 hns1 hsb1 => ?_) S.kind
  dsimp only at hns1 hsb1 ⊢
  generalize hH2 : s.heap.push oS = G at hns1 hsb1 hS ⊢
  have hC : G.objs.size = s.heap.objs.size + 1 := by rw [← hH2, Heap.size_push]
  have hCle : s.heap.objs.size ≤ G.objs.size := by rw [hC]; exact Nat.le_succ _
  have hDC : G.objs.size ≠ s.heap.objs.size := by rw [hC]; exact Nat.succ_ne_self _
  have old : ∀ b o, s.heap.get? b = some o → h1.get? b = some o := fun b o e => hsb1.extBut b o (Nat.ne_of_lt (Nat.lt_of_lt_of_le (Heap.lt_size e) hCle)) (Heap.get?_push_of_some _ (hH2 ▸ Heap.get?_push_of_some _ e))
  have hacc : ObjOk X.prog X.w (upd H s.heap.objs.size (SetH X.prog X.w s.heap.objs.size [])) h1 s.heap.objs.size (SetH X.prog X.w s.heap.objs.size []) := setH_ok ⟨#[], hS.at fun o e => hsb1.extBut _ _ (Ne.symm hDC) (Heap.get?_push_of_some _ e), List.nodup_nil, [], List.Perm.refl _, .nil⟩
  have hDn : H s.heap.objs.size = none := I.hok.fresh (Nat.le_refl _)
  obtain ⟨W, ⟨m0, w0⟩, turn⟩ := q s.heap.objs.size hDn
  have st1 : tn 0 h1 := T.keep _ _ _ st fun b _ o e => old b o e
  have I1 := fun tk => I.startSN (tk := tk) (w := xs.map fun _ => none) S hf hlt rfl rfl hCle hDC old hns1 hacc
  have fr1 : ∀ b ∈ fp, upd H s.heap.objs.size (SetH X.prog X.w s.heap.objs.size []) b = none := fun b hb => by rw [upd_ne (Nat.ne_of_lt (hlt b hb))]; exact (hf b hb).1
  have loop : ∀ s3 : Shared, s3 = { s with heap := h1, toks := s.toks + ([] : List (Str × Value)).length } →
      codeAny (model X.prog X.w) X.A (.compLoop (.SetComp elt [⟨tg, iter, ifs, 0⟩] sc pos) 0 (.ref it) (.ref s.heap.objs.size) (compEnvC sc (clOf sc X.env.cells) G.objs.size X.env))
        (RR (.ref s.heap.objs.size) G.objs.size) s3 := by
    rintro s3 rfl
    have fpk : ∀ {H' : Hp}, (∀ b ∈ fp, H' b = none) → ∀ b ∈ fp, FpOk (cxLN X xs Ns sc G.objs.size fp s H) [] H' b := fun hn b hb =>
      ⟨hn b hb, Nat.ne_of_lt (Nat.lt_of_lt_of_le (hlt b hb) hCle), (I.okLN (C := G.objs.size) S hCle hf hlt).exfs b hb, .inl hb, fun y c e => (hf b hb).2.2.2.2.1 y c (clOf_sub sc X.env.cells e), fun p hp => absurd (show p ∈ ([] : List (Addr × Obj)) from hp) (by simp)⟩
    refine compLoop_set (fun n s' => ∃ i w ys H', w.length = xs.length ∧ Inv (cxLN X xs Ns sc G.objs.size fp s H) [] (w ++ σ) H' s' ∧ tn i s'.heap ∧ (∀ b ∈ fp, H' b = none) ∧ W i n ys H') ?_ m0 ⟨0, _, [], _, List.length_map _, I1 _, st1, fr1, w0⟩
    rintro n s3 ⟨i, v0, ys, H3, hv0, I3, st3, fr3, w3⟩
    obtain ⟨hD3, turn3⟩ := turn i n ys H3 w3
    rcases turn3 with ⟨stop, fin⟩ | ⟨go, step⟩
    · refine thn (T.done (cxLN X xs Ns sc G.objs.size fp s H) rfl rfl rfl hc i [] s3 _ H3 _ I3 (fpk fr3) st3 stop) fun r s4 ⟨hr, I4⟩ => ?_
      subst hr
      obtain ⟨m4, hn4, _⟩ := I4.loc
      exact hR _ _ H3 s4 m4 hCle (I.endLN I4 hf) I4.free hn4 fin
    · refine thn (T.item (cxLN X xs Ns sc G.objs.size fp s H) rfl rfl rfl hc i [] s3 _ H3 _ I3 (fpk fr3) st3 go) fun r s4 ⟨u, hr, h4⟩ => ?_
      subst hr
      refine thn h4 fun _ s5 ⟨y, H5, I5, r5, y5, st5, fr5⟩ => ?_
      have I5' := I5.pinned (fpk fr5) (T.obj _ _ st5)
      refine thn (hg G.objs.size s H _ s5 _ H5 y u _ I5' r5 (step y H5 v0 hv0 y5)) fun _ s6 ⟨σ6, H6, I6, ⟨w6, hw6, e6⟩, q6⟩ => ?_
      subst e6
      refine thn (ht G.objs.size s H _ s6 _ H6 _ I6 q6) fun ok s7 ⟨H7, I7, q7⟩ => ?_
      have again : ∀ {H8 : Hp} {s8 : Shared} {zs : List Key}, Inv (cxLN X xs Ns sc G.objs.size fp s H) ([] ++ pinsAt fp s5.heap) (w6 ++ σ) H8 s8 → (∃ m', m' < n ∧ W (i + 1) m' zs H8) → ∃ m, m < n ∧ ∃ i w ys H', w.length = xs.length ∧ Inv (cxLN X xs Ns sc G.objs.size fp s H) [] (w ++ σ) H' s8 ∧ tn i s8.heap ∧ (∀ b ∈ fp, H' b = none) ∧ W i m ys H' := fun {H8 s8 zs} I8 ⟨m', hm, w8⟩ => by
        refine ⟨m', hm, i + 1, w6, zs, H8, hw6, I8.unpinned, T.keep _ _ _ st5 fun b hb o e => (I8.pin (b, o) (List.mem_append_right _ (List.mem_append_right _ (mem_pinsAt hb e)))).1, fun b hb => ?_, w8⟩
        obtain ⟨o, e, d⟩ := T.obj _ _ st5 b hb
        exact (I8.pin (b, o) (List.mem_append_right _ (List.mem_append_right _ (mem_pinsAt hb e)))).2.1
      cases ok with
      | false =>
        rw [if_neg Bool.false_ne_true] at q7 ⊢
        exact again I7 q7
      | true =>
        rw [if_pos rfl] at q7 ⊢
        refine thn (he G.objs.size s H _ s7 _ H7 _ I7 q7) fun z s8 ⟨zv, H8, I8, r8, hD8, hz8, k8, e8, w8⟩ => ?_
        subst e8
        exact set_add (X := cxLN X xs Ns sc G.objs.size fp s H) I8 hD8 r8 hz8 fun s9 I9 => again I9 w8
  exact compStart_set (loop _ rfl) (T.self X.A 0 _ _ _ st1 (loop _ rfl))
theorem pe_sn (hc : X.calm = true) (S : LnScope X xs Ns sc) (hi : PI X tg iter wi) (hg : ∀ C fp s0 H0, PG (cxLN X xs Ns sc C fp s0 H0) tg g) (ht : ∀ C fp s0 H0, PTs (cxLN X xs Ns sc C fp s0 H0) ifs tc) (he : ∀ C fp s0 H0, PE (cxLN X xs Ns sc C fp s0 H0) elt te)
    (hs : ∀ v, foldedSetIterable iter X.env v = pure v := by intro _; rfl) : PE X (.SetComp elt [⟨tg, iter, ifs, 0⟩] sc pos) (tSN X.prog X.w xs.length wi g tc te) := by
  refine ⟨?_⟩
  intro pins s σ H Q I h
  rw [eval_SetComp]
  refine wpAny_comprehension_free (use := none) rfl hs (closure_eq (S.cells I.ok)) S.kind S.names (thn (hi pins s σ H _ I h) fun v s1 h1 => thn h1 fun itv s2 h2 => ?_)
  obtain ⟨it, fp, tn, J, H2, e, I2, T, st2, f2, q2⟩ := h2
  subst e
  refine sn_block (RR := fun acc C => compPost (model X.prog X.w) X.A X.xe none (EP X pins σ Q) acc C) (Fin := fun D H3 => Q (.ref D) H3) hc S I2 T st2 f2 (fun C s0 H0 => hg C fp s0 H0) (fun C s0 H0 => ht C fp s0 H0) (fun C s0 H0 => he C fp s0 H0) q2 ?_
  intro D C H3 s3 m hC I3 hn hN q3
  refine ⟨m, hN, fun h' hs' => ⟨.ref D, H3, I3.butC hs' (Nat.le_trans I2.sz hC) hn (Nat.ne_of_gt (Nat.lt_of_lt_of_le I2.lt hC)) (fun y c e => ?_) (fun p hp => ?_), rfl, q3⟩⟩
  · obtain ⟨v, z⟩ := I2.cell y c e
    exact Nat.ne_of_lt (Nat.lt_of_lt_of_le z.lt hC)
  · exact Nat.ne_of_lt (Nat.lt_of_lt_of_le (Heap.lt_size (I2.pin p hp).1) hC)
end
end L2
set_option Elab.async false
set_option linter.all false
set_option maxRecDepth 100000
/-! the first run of a sort of ints of any number: what stands behind the run stays as it was -/
namespace Sg
open PySem PyProof.Rows
section
variable {prog : Program} {w : World} {A : Around} {E : Value → Shared → Prop} {s : Shared} {a₀ : Array Keyed}
/-- from place n on all stands as at first -/
def Tl (a₀ xs : Array Keyed) (n : Nat) : Prop := ∀ k, n ≤ k → xs[k]? = a₀[k]?
theorem Tl.mono {xs : Array Keyed} {n m : Nat} (h : Tl a₀ xs n) (e : n ≤ m) : Tl a₀ xs m := fun k hk => h k (Nat.le_trans e hk)
theorem Tl.mirror {xs : Array Keyed} {i j n : Nat} (h : Tl a₀ xs n) (hj : j ≤ n) (hz : j ≤ xs.size) : Tl a₀ (mirror xs i j ((j - i) / 2)) n := fun k hk => by
  rw [getElem?_mirror_all hz, if_neg (by omega)]
  exact h k hk
theorem Tl.bubble {xs : Array Keyed} {src d n : Nat} (h : Tl a₀ xs n) (hs : src < n) (hz : src < xs.size) (hd : d ≤ src) : Tl a₀ (bubble xs src d) n := fun k hk => by
  rw [getElem?_bubble hz d hd, if_neg (by omega), if_neg (by omega)]
  exact h k hk
theorem noninc_step {xs : Array Keyed} {x : Nat} (h : NonInc xs x) (hx : K xs x ≤ K xs (x - 1)) : NonInc xs (x + 1) := by
  intro i j hij hj
  by_cases hjx : j < x
  · exact h i j hij hjx
  · obtain rfl : j = x := by omega
    by_cases hi : i = j
    · rw [hi]; exact Int.le_refl _
    · exact Int.le_trans hx (h i (j - 1) (by omega) (by omega))
theorem noninc_congr {xs ys : Array Keyed} {n : Nat} (h : NonInc xs n) (e : ∀ k, K ys k = K xs k) : NonInc ys n := fun i j hij hj => by rw [e, e]; exact h i j hij hj
/-- what holds of the descending run up to x, the last q + 1 of them alike -/
structure Dn (a₀ : Array Keyed) (x q : Nat) (st : SortSt) : Prop where
  b : SBase a₀ st
  d : NonInc (arrOf st) x
  le : q + 1 ≤ x
  e : ∀ i, x - (q + 1) ≤ i → i < x → K (arrOf st) i = K (arrOf st) (x - 1)
  t : Tl a₀ (arrOf st) x
theorem desc {st : SortSt} {n nrem : Nat} {Q : DescSt → SortSt → Prop} (h0 : IntKeys a₀) (hn : nrem ≤ a₀.size) (h1 : 1 ≤ n) (hnn : n ≤ nrem) (hB : SBase a₀ st) (hs : NonInc (arrOf st) n) (ht : Tl a₀ (arrOf st) n)
    (h : ∀ m q st', n ≤ m → m ≤ nrem → Dn a₀ m q st' → Q (none, m, q) st') : wpS (model prog w) A E s (descLoop n nrem) Q st := by
  unfold descLoop
  refine wpS_forRange (I := fun x c st' => ∃ q, c = (none, x, q) ∧ Dn a₀ x q st') ?step ?fin ⟨0, rfl, hB, hs, by omega, fun i h1 h2 => by rw [show i = n - 1 by omega], ht⟩
  case fin =>
    rintro c st' ⟨q, rfl, D⟩
    rw [Nat.max_eq_right hnn] at D ⊢
    exact h nrem q st' hnn (Nat.le_refl _) D
  case step =>
    rintro x c st' hax hxn ⟨q, rfl, D⟩
    dsimp only
    have hz : x ≤ (arrOf st').size := by have := D.b.size; omega
    refine wpS_bind (wpS_ltK D.b h0 (by omega) (by omega) ?_)
    by_cases hl : K (arrOf st') x < K (arrOf st') (x - 1)
    · simp only [hl, decide_true, if_true]
      have up : ∀ st2 : SortSt, SBase a₀ st2 → (∀ k, K (arrOf st2) k = K (arrOf st') k) → Tl a₀ (arrOf st2) x → Dn a₀ (x + 1) 0 st2 := fun st2 b e t =>
        ⟨b, noninc_congr (noninc_step D.d (Int.le_of_lt hl)) e, by omega, fun i h1 h2 => by rw [show i = x + 1 - 1 by omega], t.mono (by omega)⟩
      by_cases hq : q > 0
      · rw [if_pos hq]
        exact wpS_bind (wpS_reverse (wpS_pure ⟨0, rfl, up _ (D.b.setArr (mirror_perm _ _ _ _)) (K_mirror_equal hz D.e) (D.t.mirror (Nat.le_refl _) hz)⟩))
      · rw [if_neg hq]
        exact wpS_pure ⟨0, rfl, up _ D.b (fun _ => rfl) D.t⟩
    · simp only [hl, decide_false, Bool.false_eq_true, if_false]
      refine wpS_bind (wpS_ltK D.b h0 (by omega) (by omega) ?_)
      by_cases hg : K (arrOf st') (x - 1) < K (arrOf st') x
      · simp only [hg, decide_true, if_true]
        exact wpS_pure (h x q st' hax (by omega) D)
      · simp only [hg, decide_false, Bool.false_eq_true, if_false]
        have hx : K (arrOf st') x = K (arrOf st') (x - 1) := by omega
        refine wpS_pure ⟨q + 1, rfl, D.b, noninc_step D.d (Int.le_of_eq hx), by have := D.le; omega, fun i h1 h2 => ?_, D.t.mono (by omega)⟩
        rw [Nat.add_sub_cancel]
        by_cases hi : i = x
        · rw [hi]
        · rw [hx]; exact D.e i (by omega) (by omega)
/-- what is told of a run -/
structure Ran (a₀ : Array Keyed) (m : Nat) (st : SortSt) : Prop where
  b : SBase a₀ st
  s : SortedTo (arrOf st) m
  t : Tl a₀ (arrOf st) m
theorem tl3 {st : SortSt} {n nrem : Nat} {Q : Option Nat → SortSt → Prop} (h0 : IntKeys a₀) (hn : nrem ≤ a₀.size) (h1 : 1 ≤ n) (hnn : n ≤ nrem) (hB : SBase a₀ st) (hs : NonInc (arrOf st) n) (ht : Tl a₀ (arrOf st) n)
    (h : ∀ m st', 1 ≤ m → m ≤ nrem → Ran a₀ m st' → Q (some m) st') : wpS (model prog w) A E s (tail3 n nrem) Q st := by
  have hz : n ≤ (arrOf st).size := by have := hB.size; omega
  unfold tail3
  refine wpS_bind (wpS_reverse ?_)
  have hB' : SBase a₀ (setArr st (mirror (arrOf st) 0 n ((n - 0) / 2))) := hB.setArr (mirror_perm _ _ _ _)
  refine wpS_bind (wpS_ascLoop h0 hn h1 hnn hB' (fun i j hij hj => ?_) fun m hm1 hm2 hsm _ => wpS_pure (h m _ (by omega) hm2 ⟨hB', hsm, (Tl.mirror ht (Nat.le_refl _) hz).mono hm1⟩))
  show K (mirror (arrOf st) 0 n ((n - 0) / 2)) i ≤ K (mirror (arrOf st) 0 n ((n - 0) / 2)) j
  rw [K_mirror hz, K_mirror hz, if_pos ⟨Nat.zero_le _, by omega⟩, if_pos ⟨Nat.zero_le _, hj⟩]
  exact hs _ _ (by omega) (by omega)
theorem descP {st : SortSt} {n nrem : Nat} {Q : Option Nat → SortSt → Prop} (h0 : IntKeys a₀) (hn : nrem ≤ a₀.size) (hnn : n + 1 ≤ nrem) (hB : SBase a₀ st) (hs : NonInc (arrOf st) (n + 1)) (ht : Tl a₀ (arrOf st) (n + 1))
    (h : ∀ m st', 1 ≤ m → m ≤ nrem → Ran a₀ m st' → Q (some m) st') : wpS (model prog w) A E s (descPart n nrem) Q st := by
  unfold descPart
  refine wpS_bind (wpS_lift (wpAny_rule (And.intro rfl ?_)))
  refine wpS_bind (desc h0 hn (by omega) hnn hB hs ht fun m q st' hm1 hm2 D => ?_)
  dsimp only
  have hz : m ≤ (arrOf st').size := by have := D.b.size; omega
  by_cases hq : q > 0
  · rw [if_pos hq]
    exact wpS_bind (wpS_reverse (tl3 h0 hn (by omega) hm2 (D.b.setArr (mirror_perm _ _ _ _)) (noninc_congr D.d (K_mirror_equal hz D.e)) (D.t.mirror (Nat.le_refl _) hz) h))
  · rw [if_neg hq]
    exact tl3 h0 hn (by omega) hm2 D.b D.d D.t h
theorem run0 {st : SortSt} {nrem : Nat} {Q : Option Nat → SortSt → Prop} (h0 : IntKeys a₀) (hn : nrem ≤ a₀.size) (h1 : 1 ≤ nrem) (hB : SBase a₀ st) (ht : Tl a₀ (arrOf st) 0)
    (h : ∀ m st', 1 ≤ m → m ≤ nrem → Ran a₀ m st' → Q (some m) st') : wpS (model prog w) A E s (countRun' 0 nrem) Q st := by
  rw [countRun0_eq]
  refine wpS_bind (wpS_ascLoop h0 hn (Nat.le_refl 1) h1 hB (fun i j hij hj => by rw [show i = j by omega]; exact Int.le_refl _) fun n hn1 hn2 hsn hor => ?_)
  dsimp only
  have hz : n ≤ (arrOf st).size := by have := hB.size; omega
  by_cases hnn : n = nrem
  · rw [if_pos (beq_iff_eq.mpr hnn)]
    exact wpS_pure (h n st hn1 hn2 ⟨hB, hsn, ht.mono (Nat.zero_le _)⟩)
  · rw [if_neg fun z => hnn (beq_iff_eq.mp z)]
    have hlt := hor.resolve_left hnn
    by_cases hgt : n > 1
    · rw [if_pos hgt]
      refine wpS_bind (wpS_ltK hB h0 (by omega) (by omega) ?_)
      by_cases hr : K (arrOf st) 0 < K (arrOf st) (n - 1)
      · simp only [hr, decide_true, if_true]
        exact wpS_pure (h n st hn1 hn2 ⟨hB, hsn, ht.mono (Nat.zero_le _)⟩)
      · simp only [hr, decide_false, Bool.false_eq_true, if_false]
        have al : ∀ k, 0 ≤ k → k < n → K (arrOf st) k = K (arrOf st) (n - 1) := fun k _ hk => by
          have a1 := hsn 0 k (by omega) hk
          have a2 := hsn k (n - 1) (by omega) (by omega)
          omega
        have dn : NonInc (arrOf st) (n + 1) := noninc_step (fun i j hij hj => by rw [al i (by omega) (by omega), al j (by omega) hj]; exact Int.le_refl _) (Int.le_of_lt hlt)
        exact wpS_bind (wpS_reverse (descP h0 hn (by omega) (hB.setArr (mirror_perm _ _ _ _)) (noninc_congr dn (K_mirror_equal hz al)) (Tl.mirror (ht.mono (Nat.zero_le _)) (Nat.le_succ _) hz) h))
    · rw [if_neg hgt]
      obtain rfl : n = 1 := by omega
      refine descP h0 hn (by omega) hB (noninc_step (fun i j hij hj => ?_) (Int.le_of_lt hlt)) (ht.mono (Nat.zero_le _)) h
      rw [show i = j by omega]; exact Int.le_refl _
theorem ins {st : SortSt} {n ok : Nat} {Q : Bool → SortSt → Prop} (h0 : IntKeys a₀) (hn : n ≤ a₀.size) (hok : ok ≤ n) (R : Ran a₀ ok st) (h : ∀ st', Ran a₀ n st' → Q true st') : wpS (model prog w) A E s (binarySort' 0 n ok) Q st := by
  rw [binarySort'_eq]
  simp only [Nat.zero_add]
  refine wpS_bind (wpS_mono (wpS_forRange (I := fun k c st' => c = (none, ()) ∧ SBase a₀ st' ∧ SortedTo (arrOf st') (min k n) ∧ Tl a₀ (arrOf st') n) (Q := fun c st' => c = (none, ()) ∧ Ran a₀ n st') ?step ?fin ?init) ?post)
  case post =>
    rintro c st' ⟨rfl, R'⟩
    exact wpS_pure (h st' R')
  case init =>
    refine ⟨rfl, R.b, fun i j hij hj => ?_, R.t.mono hok⟩
    by_cases hz : ok = 0
    · rw [show i = j by omega]; exact Int.le_refl _
    · exact R.s i j hij (by omega)
  case fin =>
    rintro c st' ⟨hc, b, sr, t⟩
    rw [show min (max (max ok 1) n) n = n by omega] at sr
    exact ⟨hc, b, sr, t⟩
  case step =>
    rintro k c st' hak hkn ⟨rfl, b, sr, t⟩
    rw [Nat.min_eq_left (Nat.le_of_lt hkn)] at sr
    have hk : k < a₀.size := by omega
    refine wpS_bind (wpS_mono (wpS_forRange (I := fun x c st'' => st'' = st' ∧ ∃ l r, c = (none, l, r) ∧ l ≤ r ∧ r ≤ k ∧ r - l ≤ k - x ∧ (∀ i, i < l → K (arrOf st') i ≤ K (arrOf st') k) ∧ (∀ i, r ≤ i → i < k → K (arrOf st') k < K (arrOf st') i))
      (Q := fun c st'' => st'' = st' ∧ ∃ l r, c = (none, l, r) ∧ l ≤ k ∧ (∀ i, i < l → K (arrOf st') i ≤ K (arrOf st') k) ∧ (∀ i, l ≤ i → i < k → K (arrOf st') k < K (arrOf st') i)) ?ist ?ifi ?iin) ?ipo)
    case iin => exact ⟨rfl, 0, k, rfl, Nat.zero_le _, Nat.le_refl _, by omega, fun i hi => by omega, fun i h1 h2 => by omega⟩
    case ifi =>
      rintro c st'' ⟨rfl, l, r, rfl, hlr, hrk, hm, hlo, hhi⟩
      obtain rfl : l = r := by omega
      exact ⟨rfl, l, l, rfl, hrk, hlo, hhi⟩
    case ist =>
      rintro x c st'' _ hxk ⟨rfl, l, r, rfl, hlr, hrk, hm, hlo, hhi⟩
      dsimp only
      by_cases hge : l ≥ r
      · rw [if_pos hge]
        obtain rfl : l = r := by omega
        exact wpS_pure ⟨rfl, l, l, rfl, hrk, hlo, hhi⟩
      · rw [if_neg hge]
        refine wpS_bind (wpS_ltK b h0 hk (by omega) ?_)
        by_cases hl : K (arrOf st'') k < K (arrOf st'') ((l + r) / 2)
        · simp only [hl, decide_true, if_true]
          exact wpS_pure ⟨rfl, l, (l + r) / 2, rfl, by omega, by omega, by omega, hlo, fun i h1 h2 => Int.lt_of_lt_of_le hl (sr _ _ h1 h2)⟩
        · simp only [hl, decide_false, Bool.false_eq_true, if_false]
          exact wpS_pure ⟨rfl, (l + r) / 2 + 1, r, rfl, by omega, by omega, by omega, fun i h1 => Int.le_trans (sr i ((l + r) / 2) (by omega) (by omega)) (Int.not_lt.mp hl), hhi⟩
    case ipo =>
      rintro c st'' ⟨rfl, l, r, rfl, hlk, hlo, hhi⟩
      show wpS _ _ _ _ (do moveDown' k l; pure (ForInStep.yield (none, ()))) _ _
      rw [moveDown'_eq]
      have hks : k < (arrOf st'').size := by have := b.size; omega
      refine wpS_bind (wpS_modify (wpS_pure ⟨rfl, b.setArr (bubble_perm _ _ _), ?_, t.bubble (by omega) hks (by omega)⟩))
      rw [show min (k + 1) n = k + 1 by omega]
      intro i j hij hj
      show K (bubble (arrOf st'') k (k - l)) i ≤ K (bubble (arrOf st'') k (k - l)) j
      rw [K_bubble hks (by omega), K_bubble hks (by omega), show k - (k - l) = l by omega]
      repeat' split
      all_goals first
        | (exfalso; omega)
        | exact hlo _ (by omega)
        | exact Int.le_refl _
        | exact sr _ _ (by omega) (by omega)
        | exact Int.le_of_lt (hhi _ (by omega) (by omega))
end
end Sg
set_option Elab.async false
set_option linter.all false
set_option maxRecDepth 100000
/-! galloping, and the one merge that is needed -/
namespace Sg
open PySem PyProof.Rows
abbrev SM := StateT SortSt Sem
def halfB (bey : Nat → SM (Option Bool)) (n lo0 hi0 : Nat) : SM (Option Nat) := do
  let mut lo := lo0
  let mut hi := hi0
  for _ in [0:n] do
    if lo ≥ hi then break
    let md := lo + (hi - lo) / 2
    let some mo ← bey md | return none
    if mo then lo := md + 1 else hi := md
  return some hi
def galB (bey : Nat → SM (Option Bool)) (n hint : Nat) : SM (Option Nat) := do
  let mut la := 0
  let mut og := 1
  let mut lo := 0
  let mut hi := 0
  let some rt ← bey hint | return none
  if rt then
    let mx := n - hint
    for _ in [0:n] do
      if og ≥ mx then break
      let some mo ← bey (hint + og) | return none
      if !mo then break
      la := og
      og := 2 * og + 1
    lo := hint + la + 1
    hi := hint + min og mx
  else
    let mx := hint + 1
    for _ in [0:n] do
      if og ≥ mx then break
      let some fo ← bey (hint - og) | return none
      if fo then break
      la := og
      og := 2 * og + 1
    lo := hint + 1 - min og mx
    hi := hint - la
  halfB bey n lo hi
def beyB (left : Bool) (key : Keyed) (arr : Array Keyed) (base i : Nat) : SM (Option Bool) := do
  let x ← elem' arr (base + i)
  if left then lt' x key else return (← lt' key x).map (!·)
def gallop' : Bool → Keyed → Array Keyed → Nat → Nat → Nat → SM (Option Nat) := sortPriv% PySem.Builtin.gallop
theorem gallop'_eq (left : Bool) (key : Keyed) (arr : Array Keyed) (base n hint : Nat) : gallop' left key arr base n hint = galB (beyB left key arr base) n hint := rfl
def mergeLo' : Array Keyed → Array Keyed → SM (Array Keyed) := sortPriv% PySem.Builtin.mergeLo
def mergeHi' : Array Keyed → Array Keyed → SM (Array Keyed) := sortPriv% PySem.Builtin.mergeHi
theorem mergeLo'_ex : ∃ R : Array Keyed → Array Keyed → Keyed → SM (Array Keyed), ∀ a b, mergeLo' a b = (do
    liftM (rule "list.sort.merge-lo")
    let p ← elem' b 0
    if (1 == b.size) = true then pure (#[p] ++ a.extract 0 a.size ++ b.extract 1 b.size)
    else if (0 + 1 == a.size) = true then pure (#[p] ++ b.extract 1 b.size ++ a.extract 0 a.size) else R a b p) := ⟨_, fun _ _ => rfl⟩
theorem mergeAt'_eq (i : Nat) : mergeAt' i = (do
  let z ← get
  let (some (p, m, pw), some (q, n, _)) := ((pendingOf z)[i]?, (pendingOf z)[i + 1]?) | unsupported "internal:list.sort.pending"
  set (SortSt.mk' (kindOf z) (arrOf z) (((pendingOf z).setIfInBounds i (p, m + n, pw)).eraseIdxIfInBounds (i + 1)) (gallopOf z) (failedOf z))
  let some k ← gallop' false (← elem' (arrOf z) q) (arrOf z) p m 0 | return false
  let (p, m) := (p + k, m - k)
  if m == 0 then return true
  let some n ← gallop' true (← elem' (arrOf z) (p + m - 1)) (arrOf z) q n (n - 1) | return false
  if n == 0 then return true
  let x := (arrOf z).extract p q
  let y := (arrOf z).extract q (q + n)
  let both ← if m ≤ n then mergeLo' x y else mergeHi' x y
  modify fun z => setArr z (both.toList.zipIdx.foldl (fun a (u, j) => a.setIfInBounds (p + j) u) (arrOf z))
  return (failedOf (← get)).isNone) := rfl
end Sg
set_option Elab.async false
set_option linter.all false
set_option maxRecDepth 100000
namespace Sg
open PySem PyProof.Rows
section
variable {prog : Program} {w : World} {A : Around} {E : Value → Shared → Prop} {s : Shared} {a₀ : Array Keyed}
/-- where a test that falls once falls -/
theorem gal {bey : Nat → SM (Option Bool)} {n hint : Nat} {P : Nat → Bool} {st : SortSt} {Q : Option Nat → SortSt → Prop} (hb : ∀ i (R : Option Bool → SortSt → Prop), i < n → R (some (P i)) st → wpS (model prog w) A E s (bey i) R st)
    (hm : ∀ i j, i ≤ j → j < n → P j = true → P i = true) (hh : hint < n) (h : ∀ k, k ≤ n → (∀ i, i < k → P i = true) → (∀ i, k ≤ i → i < n → P i = false) → Q (some k) st) : wpS (model prog w) A E s (galB bey n hint) Q st := by
  have hm' : ∀ i j, i ≤ j → j < n → P i = false → P j = false := fun i j h1 h2 h3 => by
    cases e : P j with
    | false => rfl
    | true => rw [hm i j h1 h2 e] at h3; cases h3
  have half : ∀ lo hi : Nat, lo ≤ hi → hi ≤ n → (∀ i, i < lo → P i = true) → (∀ i, hi ≤ i → i < n → P i = false) →
      wpS (model prog w) A E s (halfB bey n lo hi) Q st := by
    intro lo hi h1 h2 h3 h4
    unfold halfB
    refine wpS_bind (wpS_mono (wpS_forRange (I := fun x c st' => st' = st ∧ ∃ l r, c = (none, l, r) ∧ l ≤ r ∧ r ≤ n ∧ r - l ≤ n - x ∧ (∀ i, i < l → P i = true) ∧ ∀ i, r ≤ i → i < n → P i = false)
      (Q := fun c st' => st' = st ∧ ∃ l r, c = (none, l, r) ∧ r ≤ n ∧ (∀ i, i < r → P i = true) ∧ ∀ i, r ≤ i → i < n → P i = false) ?st ?fi ⟨rfl, lo, hi, rfl, h1, h2, by omega, h3, h4⟩) ?po)
    case fi =>
      rintro c st' ⟨rfl, l, r, rfl, a1, a2, a3, a4, a5⟩
      obtain rfl : l = r := by omega
      exact ⟨rfl, l, l, rfl, a2, a4, a5⟩
    case po =>
      rintro c st' ⟨rfl, l, r, rfl, a2, a4, a5⟩
      exact wpS_pure (h r a2 a4 a5)
    case st =>
      rintro x c st' _ hx ⟨rfl, l, r, rfl, a1, a2, a3, a4, a5⟩
      dsimp only
      by_cases hge : l ≥ r
      · rw [if_pos hge]
        obtain rfl : l = r := by omega
        exact wpS_pure ⟨rfl, l, l, rfl, a2, a4, a5⟩
      · rw [if_neg hge]
        refine wpS_bind (hb _ _ (by omega) ?_)
        dsimp only
        cases e : P (l + (r - l) / 2) with
        | true =>
          rw [if_pos rfl]
          exact wpS_pure ⟨rfl, l + (r - l) / 2 + 1, r, rfl, by omega, a2, by omega, fun i hi => hm i _ (by omega) (by omega) e, a5⟩
        | false =>
          rw [if_neg Bool.false_ne_true]
          exact wpS_pure ⟨rfl, l, l + (r - l) / 2, rfl, by omega, by omega, by omega, a4, fun i h1 h2 => hm' _ i h1 h2 e⟩
  unfold galB
  refine wpS_bind (hb hint _ hh ?_)
  dsimp only
  cases e : P hint with
  | true =>
    rw [if_pos rfl]
    refine wpS_bind (wpS_mono (wpS_forRange (I := fun x c st' => st' = st ∧ ∃ la og, c = (none, la, og) ∧ la < og ∧ x + 1 ≤ og ∧ la < n - hint ∧ P (hint + la) = true)
      (Q := fun c st' => st' = st ∧ ∃ la og, c = (none, la, og) ∧ la < og ∧ la < n - hint ∧ P (hint + la) = true ∧ (og < n - hint → P (hint + og) = false)) ?st ?fi ⟨rfl, 0, 1, rfl, by omega, by omega, by omega, e⟩) ?po)
    case fi =>
      rintro c st' ⟨rfl, la, og, rfl, a1, a2, a3, a4⟩
      exact ⟨rfl, la, og, rfl, a1, a3, a4, fun z => by omega⟩
    case st =>
      rintro x c st' _ hx ⟨rfl, la, og, rfl, a1, a2, a3, a4⟩
      dsimp only
      by_cases hge : og ≥ n - hint
      · rw [if_pos hge]
        exact wpS_pure ⟨rfl, la, og, rfl, a1, a3, a4, fun z => by omega⟩
      · rw [if_neg hge]
        refine wpS_bind (hb _ _ (by omega) ?_)
        dsimp only
        cases e' : P (hint + og) with
        | true =>
          simp only [Bool.not_true, Bool.false_eq_true, if_false]
          exact wpS_pure ⟨rfl, og, 2 * og + 1, rfl, by omega, by omega, by omega, e'⟩
        | false =>
          simp only [Bool.not_false, if_true]
          exact wpS_pure ⟨rfl, la, og, rfl, a1, a3, a4, fun _ => e'⟩
    case po =>
      rintro c st' ⟨rfl, la, og, rfl, a1, a3, a4, a5⟩
      refine half (hint + la + 1) (hint + min og (n - hint)) (by omega) (by omega) (fun i hi => hm i _ (by omega) (by omega) a4) (fun i h1 h2 => ?_)
      by_cases hge : og < n - hint
      · rw [Nat.min_eq_left (by omega)] at h1
        exact hm' _ i h1 h2 (a5 hge)
      · rw [Nat.min_eq_right (by omega)] at h1
        omega
  | false =>
    rw [if_neg Bool.false_ne_true]
    refine wpS_bind (wpS_mono (wpS_forRange (I := fun x c st' => st' = st ∧ ∃ la og, c = (none, la, og) ∧ la < og ∧ x + 1 ≤ og ∧ la ≤ hint ∧ P (hint - la) = false)
      (Q := fun c st' => st' = st ∧ ∃ la og, c = (none, la, og) ∧ la < og ∧ la ≤ hint ∧ P (hint - la) = false ∧ (og ≤ hint → P (hint - og) = true)) ?st ?fi ⟨rfl, 0, 1, rfl, by omega, by omega, by omega, e⟩) ?po)
    case fi =>
      rintro c st' ⟨rfl, la, og, rfl, a1, a2, a3, a4⟩
      exact ⟨rfl, la, og, rfl, a1, a3, a4, fun z => by omega⟩
    case st =>
      rintro x c st' _ hx ⟨rfl, la, og, rfl, a1, a2, a3, a4⟩
      dsimp only
      by_cases hge : og ≥ hint + 1
      · rw [if_pos hge]
        exact wpS_pure ⟨rfl, la, og, rfl, a1, a3, a4, fun z => by omega⟩
      · rw [if_neg hge]
        refine wpS_bind (hb _ _ (by omega) ?_)
        dsimp only
        cases e' : P (hint - og) with
        | true =>
          rw [if_pos rfl]
          exact wpS_pure ⟨rfl, la, og, rfl, a1, a3, a4, fun _ => e'⟩
        | false =>
          rw [if_neg Bool.false_ne_true]
          exact wpS_pure ⟨rfl, og, 2 * og + 1, rfl, by omega, by omega, by omega, e'⟩
    case po =>
      rintro c st' ⟨rfl, la, og, rfl, a1, a3, a4, a5⟩
      refine half (hint + 1 - min og (hint + 1)) (hint - la) (by omega) (by omega) (fun i hi => ?_) (fun i h1 h2 => hm' _ i h1 h2 a4)
      by_cases hge : og ≤ hint
      · rw [Nat.min_eq_left (by omega)] at hi
        exact hm i _ (by omega) (by omega) (a5 hge)
      · rw [Nat.min_eq_right (by omega)] at hi
        omega
theorem lt_in {x y : Keyed} {a b : Int} {t u : Tok} {p q : Value} {st : SortSt} {Q : Option Bool → SortSt → Prop} (hk : kindOf st = oneType') (hx : x = (.int a t, p)) (hy : y = (.int b u, q)) (h : Q (some (decide (a < b))) st) : wpS (model prog w) A E s (lt' x y) Q st := by
  subst hx hy
  rw [lt'_eq]
  refine wpS_bind (wpS_get ?_)
  rw [hk, keyLt'_oneType]
  exact wpS_bind (wpS_lift (wpAny_attempt (oneLt_int ⟨rfl, wpS_pure h⟩)))
/-- the keys of xs are ints -/
theorem at_int {xs : Array Keyed} (h0 : IntKeys xs) {i : Nat} (hi : i < xs.size) : ∃ t q, xs[i]? = some (.int (K xs i) t, q) := by
  obtain ⟨n, t, hn⟩ := h0 xs[i] (by simp)
  have e : xs[i]? = some xs[i] := getElem?_pos _ i hi
  have e2 : xs[i] = (.int n t, xs[i].2) := Prod.ext hn rfl
  refine ⟨t, xs[i].2, ?_⟩
  unfold K
  rw [e, e2]
  rfl
theorem intKeys_perm {xs ys : Array Keyed} (h : IntKeys ys) (p : xs.Perm ys) : IntKeys xs := fun q hq => h q ((Array.perm_iff_toList_perm.mp p).mem_iff.mp hq)
theorem beyL {xs : Array Keyed} (h0 : IntKeys xs) {key : Keyed} {c : Int} {t : Tok} {p : Value} (hk : key = (.int c t, p)) {base i : Nat} (hi : base + i < xs.size) {st : SortSt} (hs : kindOf st = oneType') {Q : Option Bool → SortSt → Prop} (h : Q (some (decide (K xs (base + i) < c))) st) : wpS (model prog w) A E s (beyB true key xs base i) Q st := by
  obtain ⟨u, q, e⟩ := at_int h0 hi
  unfold beyB
  rw [elem'_eq, e]
  refine wpS_bind (wpS_pure ?_)
  rw [if_pos rfl]
  exact lt_in hs rfl hk h
theorem beyR {xs : Array Keyed} (h0 : IntKeys xs) {key : Keyed} {c : Int} {t : Tok} {p : Value} (hk : key = (.int c t, p)) {base i : Nat} (hi : base + i < xs.size) {st : SortSt} (hs : kindOf st = oneType') {Q : Option Bool → SortSt → Prop} (h : Q (some (decide (K xs (base + i) ≤ c))) st) : wpS (model prog w) A E s (beyB false key xs base i) Q st := by
  obtain ⟨u, q, e⟩ := at_int h0 hi
  unfold beyB
  rw [elem'_eq, e]
  refine wpS_bind (wpS_pure ?_)
  rw [if_neg Bool.false_ne_true]
  refine wpS_bind (lt_in hs hk rfl (wpS_pure ?_))
  have e2 : Option.map (fun x => !x) (some (decide (c < K xs (base + i)))) = some (decide (K xs (base + i) ≤ c)) := by
    show some (!decide (c < K xs (base + i))) = _
    congr 1
    by_cases z : c < K xs (base + i)
    · rw [decide_eq_true z, decide_eq_false (by omega)]; rfl
    · rw [decide_eq_false z, decide_eq_true (by omega)]; rfl
  rw [e2]
  exact h
end
end Sg
set_option Elab.async false
set_option linter.all false
set_option maxRecDepth 100000
namespace Sg
open PySem PyProof.Rows
theorem wr (p : Nat) : ∀ (L : List Keyed) (k : Nat) (xs : Array Keyed), p + k + L.length ≤ xs.size → ((L.zipIdx k).foldl (fun a (u : Keyed × Nat) => a.setIfInBounds (p + u.2) u.1) xs).toList = xs.toList.take (p + k) ++ L ++ xs.toList.drop (p + k + L.length)
  | [], k, xs, h => by simp
  | u :: L, k, xs, h => by
    rw [List.length_cons] at h
    rw [List.zipIdx_cons, List.foldl_cons]
    have ih := wr p L (k + 1) (xs.setIfInBounds (p + k) u) (by rw [Array.size_setIfInBounds]; omega)
    have e1 : p + (k + 1) = p + k + 1 := by omega
    rw [e1] at ih
    refine ih.trans ?_
    have hl : p + k < xs.toList.length := by simp; omega
    rw [Array.toList_setIfInBounds, List.drop_set_of_lt (by omega), List.take_add_one, List.take_set_of_le (Nat.le_refl _)]
    have e2 : (xs.toList.set (p + k) u)[p + k]? = some u := by rw [List.getElem?_set_self hl]
    rw [e2, List.length_cons]
    simp [Nat.add_assoc, Nat.add_comm 1]
section
variable {prog : Program} {w : World} {A : Around} {E : Value → Shared → Prop} {s : Shared} {a₀ : Array Keyed}
theorem wpS_set {σ : Type} {M : Model} {x : σ} {Q : PUnit → σ → Prop} {st : σ} (h : Q ⟨⟩ x) : wpS M A E s (set x : StateT σ Sem PUnit) Q st := by
  unfold wpS
  rw [StateT.run_set]
  exact wpAny_pure ⟨rfl, h⟩
/-- one thing, merged ahead of some that are all less -/
theorem lo1 {x y : Array Keyed} {st : SortSt} {Q : Array Keyed → SortSt → Prop} (hx : x.size = 1) (hy : 1 ≤ y.size) (h : ∀ z : Array Keyed, z.toList = y.toList ++ x.toList → Q z st) : wpS (model prog w) A E s (mergeLo' x y) Q st := by
  obtain ⟨R, hR⟩ := mergeLo'_ex
  rw [hR]
  refine wpS_bind (wpS_lift (wpAny_rule (And.intro rfl ?_)))
  rw [elem'_eq, getElem?_pos y 0 hy]
  refine wpS_bind (wpS_pure ?_)
  have ey : y.toList = [y[0]] ++ y.toList.drop 1 := by
    have := List.drop_eq_getElem_cons (l := y.toList) (i := 0) (by rw [Array.length_toList]; exact hy)
    simpa using this
  by_cases h1 : y.size = 1
  · rw [if_pos (by rw [h1]; rfl)]
    refine wpS_pure (h _ ?_)
    rw [ey]
    have e : y.toList.drop 1 = [] := List.drop_eq_nil_of_le (by rw [Array.length_toList]; omega)
    rw [e]
    simp [h1]
  · rw [if_neg (by intro z; exact h1 (by have := beq_iff_eq.mp z; omega)), if_pos (by rw [hx]; rfl)]
    refine wpS_pure (h _ ?_)
    rw [ey]
    simp
    rw [List.take_of_length_le (by simp)]
theorem merge {st : SortSt} {n1 n2 pw : Nat} {Q : Bool → SortSt → Prop} (h0 : IntKeys a₀) (hp : (arrOf st).Perm a₀) (hk : kindOf st = oneType') (hf : failedOf st = none) (hq : pendingOf st = #[(0, n1, pw), (n1, n2, 0)]) (h1 : 2 ≤ n1) (h2 : 1 ≤ n2) (hN : n1 + n2 = a₀.size)
    (sa : SortedTo (arrOf st) n1) (sb : ∀ i j, n1 ≤ i → i ≤ j → j < a₀.size → K (arrOf st) i ≤ K (arrOf st) j) (one : ∀ i, i + 1 < n1 → K (arrOf st) i ≤ K (arrOf st) n1)
    (h : ∀ st', (arrOf st').Perm a₀ → failedOf st' = none → SortedTo (arrOf st') a₀.size → (pendingOf st').size ≤ 1 → Q true st') : wpS (model prog w) A E s (mergeAt' 0) Q st := by
  have hz : (arrOf st).size = a₀.size := hp.size_eq
  have hI : IntKeys (arrOf st) := intKeys_perm h0 hp
  rw [mergeAt'_eq]
  refine wpS_bind (wpS_get ?_)
  rw [hq]
  have p0 : (#[(0, n1, pw), (n1, n2, 0)] : Array (Nat × Nat × Nat))[0]? = some (0, n1, pw) := rfl
  have p1 : (#[(0, n1, pw), (n1, n2, 0)] : Array (Nat × Nat × Nat))[0 + 1]? = some (n1, n2, 0) := rfl
  rw [p0, p1]
  dsimp only
  refine wpS_bind (wpS_set ?_)
  generalize hst2 : SortSt.mk' (kindOf st) (arrOf st) ((Array.setIfInBounds #[(0, n1, pw), (n1, n2, 0)] 0 (0, n1 + n2, pw)).eraseIdxIfInBounds (0 + 1)) (gallopOf st) (failedOf st) = st2
  have ha : arrOf st2 = arrOf st := by rw [← hst2]
  have hk2 : kindOf st2 = oneType' := by rw [← hst2]; exact hk
  have hf2 : failedOf st2 = none := by rw [← hst2]; exact hf
  have hq2 : (pendingOf st2).size ≤ 1 := by
    have z : ((Array.setIfInBounds #[(0, n1, pw), (n1, n2, 0)] 0 (0, n1 + n2, pw)).eraseIdxIfInBounds (0 + 1)).size ≤ 1 := by simp [Array.eraseIdxIfInBounds]
    rw [← hst2]
    exact z
  generalize arrOf st = xs at *
  obtain ⟨t1, v1, e1⟩ := at_int hI (i := n1) (by omega)
  obtain ⟨t2, v2, e2⟩ := at_int hI (i := n1 - 1) (by omega)
  have el : elem' xs n1 = (pure (.int (K xs n1) t1, v1) : SM Keyed) := by rw [elem'_eq, e1]
  rw [el]
  refine wpS_bind (wpS_pure ?_)
  rw [gallop'_eq]
  refine wpS_bind (gal (P := fun i => decide (K xs (0 + i) ≤ K xs n1)) (fun i R hi hR => beyR hI rfl (by omega) hk2 hR) (fun i j hij hj hP => ?_) (by omega) fun k hkn a1 a2 => ?_)
  · have := of_decide_eq_true hP
    exact decide_eq_true (Int.le_trans (sa (0 + i) (0 + j) (by omega) (by omega)) this)
  dsimp only
  have b1 : ∀ i, i < k → K xs i ≤ K xs n1 := fun i hi => by have := of_decide_eq_true (a1 i hi); rwa [Nat.zero_add] at this
  have b2 : ∀ i, k ≤ i → i < n1 → K xs n1 < K xs i := fun i h1 h2 => by have := of_decide_eq_false (a2 i h1 h2); rw [Nat.zero_add] at this; omega
  have hk1 : n1 - 1 ≤ k := by
    rcases Nat.lt_or_ge k (n1 - 1) with z | z
    · have := b2 k (Nat.le_refl _) (by omega)
      have := one k (by omega)
      omega
    · exact z
  by_cases hm0 : k = n1
  · rw [if_pos (by rw [hm0, Nat.sub_self]; rfl)]
    refine wpS_pure (h st2 (by rw [ha]; exact hp) hf2 ?_ hq2)
    rw [ha]
    intro i j hij hj
    by_cases z1 : j < n1
    · exact sa i j hij z1
    · by_cases z2 : n1 ≤ i
      · exact sb i j z2 hij hj
      · exact Int.le_trans (b1 i (by omega)) (sb n1 j (Nat.le_refl _) (by omega) hj)
  · have hkk : k = n1 - 1 := by omega
    subst hkk
    rw [if_neg (by intro z; have := beq_iff_eq.mp z; omega)]
    have el2 : elem' xs (0 + (n1 - 1) + (n1 - (n1 - 1)) - 1) = (pure (.int (K xs (n1 - 1)) t2, v2) : SM Keyed) := by
      rw [elem'_eq, show 0 + (n1 - 1) + (n1 - (n1 - 1)) - 1 = n1 - 1 by omega, e2]
    rw [el2]
    refine wpS_bind (wpS_pure ?_)
    rw [gallop'_eq]
    refine wpS_bind (gal (P := fun i => decide (K xs (n1 + i) < K xs (n1 - 1))) (fun i R hi hR => beyL hI rfl (by omega) hk2 hR) (fun i j hij hj hP => ?_) (by omega) fun nb hnb c1 c2 => ?_)
    · have := of_decide_eq_true hP
      exact decide_eq_true (Int.lt_of_le_of_lt (sb (n1 + i) (n1 + j) (by omega) (by omega) (by omega)) this)
    dsimp only
    have d1 : ∀ i, n1 ≤ i → i < n1 + nb → K xs i < K xs (n1 - 1) := fun i z1 z2 => by
      have := of_decide_eq_true (c1 (i - n1) (by omega))
      rwa [show n1 + (i - n1) = i by omega] at this
    have d2 : ∀ i, n1 + nb ≤ i → i < a₀.size → K xs (n1 - 1) ≤ K xs i := fun i z1 z2 => by
      have := of_decide_eq_false (c2 (i - n1) (by omega) (by omega))
      rw [show n1 + (i - n1) = i by omega] at this
      omega
    have hnb1 : 1 ≤ nb := by
      rcases Nat.lt_or_ge nb 1 with z | z
      · have := of_decide_eq_false (c2 0 (by omega) (by omega))
        have := b2 (n1 - 1) (Nat.le_refl _) (by omega)
        rw [Nat.add_zero] at *
        omega
      · exact z
    rw [if_neg (by intro z; have := beq_iff_eq.mp z; omega), if_pos (by omega)]
    have ex : (xs.extract (0 + (n1 - 1)) n1).toList = (xs.toList.drop (n1 - 1)).take 1 := by
      rw [Array.toList_extract, List.extract_eq_take_drop, show 0 + (n1 - 1) = n1 - 1 by omega, show n1 - (n1 - 1) = 1 by omega]
    have ey : (xs.extract n1 (n1 + nb)).toList = (xs.toList.drop n1).take nb := by
      rw [Array.toList_extract, List.extract_eq_take_drop, show n1 + nb - n1 = nb by omega]
    have lx : xs.toList.length = a₀.size := by rw [Array.length_toList]; exact hz
    refine wpS_bind (lo1 (by rw [Array.size_extract]; omega) (by rw [Array.size_extract]; omega) fun z hzz => ?_)
    refine wpS_bind (wpS_modify ?_)
    rw [ex, ey] at hzz
    have lz : z.toList.length = nb + 1 := by rw [hzz, List.length_append, List.length_take, List.length_take, List.length_drop, List.length_drop]; omega
    have W := wr (0 + (n1 - 1)) z.toList 0 xs (by omega)
    rw [lz, show 0 + (n1 - 1) + 0 = n1 - 1 by omega, show n1 - 1 + (nb + 1) = n1 + nb by omega] at W
    have W2 : xs.toList = xs.toList.take (n1 - 1) ++ ((xs.toList.drop (n1 - 1)).take 1 ++ (xs.toList.drop n1).take nb) ++ xs.toList.drop (n1 + nb) := by
      have q1 : (xs.toList.drop n1).take nb ++ xs.toList.drop (n1 + nb) = xs.toList.drop n1 := by rw [← List.drop_drop]; exact List.take_append_drop _ _
      have q2 : (xs.toList.drop (n1 - 1)).take 1 ++ xs.toList.drop n1 = xs.toList.drop (n1 - 1) := by
        have := List.take_append_drop 1 (xs.toList.drop (n1 - 1))
        rwa [List.drop_drop, show n1 - 1 + 1 = n1 by omega] at this
      rw [List.append_assoc, List.append_assoc, q1, q2, List.take_append_drop]
    rw [ha]
    generalize hnew : (z.toList.zipIdx.foldl (fun a (u : Keyed × Nat) => a.setIfInBounds (0 + (n1 - 1) + u.2) u.1) xs) = ys
    rw [hnew, hzz] at W
    refine wpS_bind (wpS_get ?_)
    have fin : failedOf (setArr st2 ys) = none := hf2
    rw [fin]
    refine wpS_pure (h (setArr st2 ys) ?_ hf2 ?_ hq2)
    · refine Array.Perm.trans ?_ hp
      rw [Array.perm_iff_toList_perm]
      show ys.toList.Perm xs.toList
      rw [W]
      conv => rhs; rw [W2]
      exact (List.perm_append_comm.append_left _).append_right _
    · show SortedTo ys a₀.size
      have G : ∀ j, j < a₀.size → K ys j = if j < n1 - 1 then K xs j else if j < n1 - 1 + nb then K xs (j + 1) else if j = n1 - 1 + nb then K xs (n1 - 1) else K xs j := by
        intro j hj
        have eg : ys[j]? = ys.toList[j]? := (Array.getElem?_toList).symm
        have gx : ∀ i, xs[i]? = xs.toList[i]? := fun i => (Array.getElem?_toList).symm
        have l1 : (xs.toList.take (n1 - 1)).length = n1 - 1 := by rw [List.length_take]; omega
        have l2 : ((xs.toList.drop n1).take nb).length = nb := by rw [List.length_take, List.length_drop]; omega
        have l3 : ((xs.toList.drop (n1 - 1)).take 1).length = 1 := by rw [List.length_take, List.length_drop]; omega
        rw [W, List.append_assoc, List.append_assoc] at eg
        by_cases z1 : j < n1 - 1
        · rw [if_pos z1]
          refine K_congr (eg.trans ?_)
          rw [List.getElem?_append_left (by omega), List.getElem?_take_of_lt z1, gx]
        · rw [if_neg z1]
          rw [List.getElem?_append_right (by omega), l1] at eg
          by_cases z2 : j < n1 - 1 + nb
          · rw [if_pos z2]
            refine K_congr (eg.trans ?_)
            rw [List.getElem?_append_left (by omega), List.getElem?_take_of_lt (by omega), List.getElem?_drop, gx]
            congr 1
            omega
          · rw [if_neg z2]
            rw [List.getElem?_append_right (by omega), l2] at eg
            by_cases z3 : j = n1 - 1 + nb
            · rw [if_pos z3]
              refine K_congr (eg.trans ?_)
              rw [List.getElem?_append_left (by omega), List.getElem?_take_of_lt (by omega), List.getElem?_drop, gx]
              congr 1
              omega
            · rw [if_neg z3]
              refine K_congr (eg.trans ?_)
              rw [List.getElem?_append_right (by omega), l3, List.getElem?_drop, gx]
              congr 1
              omega
      have lt1 := b2 (n1 - 1) (Nat.le_refl _) (by omega)
      have sA : ∀ i j, i < n1 - 1 → n1 ≤ j → j < a₀.size → K xs i ≤ K xs j := fun i j z1 z2 z3 => Int.le_trans (one i (by omega)) (sb n1 j (Nat.le_refl _) z2 z3)
      intro i j hij hj
      rw [G i (by omega), G j hj]
      repeat' split
      all_goals first
        | (exfalso; omega)
        | exact Int.le_refl _
        | exact sa _ _ (by omega) (by omega)
        | exact sA _ _ (by omega) (by omega) (by omega)
        | exact sb _ _ (by omega) (by omega) (by omega)
        | exact Int.le_of_lt (d1 _ (by omega) (by omega))
        | exact d2 _ (by omega) (by omega)
        | (rename_i z; rw [z]; exact Int.le_refl _)
end
end Sg
set_option Elab.async false
set_option linter.all false
set_option maxRecDepth 100000
namespace Sg
open PySem PyProof.Rows
/-- but for one of the first two all stand in order -/
def Near (xs : Array Keyed) : Prop := ∃ e, e < 2 ∧ ∀ i j, i ≤ j → j < xs.size → i ≠ e → j ≠ e → K xs i ≤ K xs j
theorem minRun_two : ∀ (f n r : Nat), 2 ≤ n → 2 ≤ minRun' f n r
  | 0, n, r, h => by show 2 ≤ n + r; omega
  | f + 1, n, r, h => by
    rw [minRun'_succ]
    split
    · omega
    · exact minRun_two f _ _ (by omega)
section
variable {prog : Program} {w : World} {A : Around} {E : Value → Shared → Prop} {s : Shared} {a₀ : Array Keyed}
theorem run2 {st : SortSt} {lo nrem : Nat} {Q : Option Nat → SortSt → Prop} (h0 : IntKeys (arrOf st)) (hk : kindOf st = oneType') (h1 : 1 ≤ nrem) (hn : lo + nrem ≤ (arrOf st).size) (sb : ∀ i j, lo ≤ i → i ≤ j → j < lo + nrem → K (arrOf st) i ≤ K (arrOf st) j) (h : Q (some nrem) st) : wpS (model prog w) A E s (countRun' lo nrem) Q st := by
  rw [countRun'_eq]
  refine wpS_bind (wpS_mono (wpS_forRange (I := fun x c st' => st' = st ∧ c = (none, x)) (Q := fun c st' => st' = st ∧ c = (none, nrem)) ?st ?fi ⟨rfl, rfl⟩) ?po)
  case fi =>
    rintro c st' ⟨rfl, rfl⟩
    rw [Nat.max_eq_right h1]
    exact ⟨rfl, rfl⟩
  case st =>
    rintro x c st' hx1 hx2 ⟨rfl, rfl⟩
    dsimp only
    obtain ⟨t1, v1, e1⟩ := at_int h0 (i := lo + x) (by omega)
    obtain ⟨t2, v2, e2⟩ := at_int h0 (i := lo + x - 1) (by omega)
    refine wpS_bind (wpS_ltAt hk e1 e2 ?_)
    have := sb (lo + x - 1) (lo + x) (by omega) (by omega) (by omega)
    rw [decide_eq_false (by omega)]
    exact wpS_pure ⟨rfl, rfl⟩
  case po =>
    rintro c st' ⟨rfl, rfl⟩
    dsimp only
    rw [if_pos (beq_iff_eq.mpr rfl)]
    exact wpS_pure h
theorem ins0 {st : SortSt} {lo n : Nat} {Q : Bool → SortSt → Prop} (h1 : 1 ≤ n) (h : Q true st) : wpS (model prog w) A E s (binarySort' lo n n) Q st := by
  rw [binarySort'_eq]
  refine wpS_bind (wpS_mono (wpS_forRange (I := fun x c st' => st' = st ∧ c = (none, ())) (Q := fun c st' => st' = st ∧ c = (none, ())) ?st (fun _ _ z => z) ⟨rfl, rfl⟩) ?po)
  case st => rintro x c st' hx1 hx2; omega
  case po =>
    rintro c st' ⟨rfl, rfl⟩
    exact wpS_pure h
/-- behind the first run; behind both -/
structure R1 (a₀ : Array Keyed) (n1 pw : Nat) (st : SortSt) : Prop where
  perm : (arrOf st).Perm a₀
  kind : kindOf st = oneType'
  fail : failedOf st = none
  srt : SortedTo (arrOf st) n1
  tl : Tl a₀ (arrOf st) n1
  two : 2 ≤ n1
  le : n1 ≤ a₀.size
structure Fn (a₀ : Array Keyed) (st : SortSt) : Prop where
  perm : (arrOf st).Perm a₀
  fail : failedOf st = none
  srt : SortedTo (arrOf st) a₀.size
  pend : (pendingOf st).size ≤ 1
theorem R1.tail {n1 pw : Nat} {st : SortSt} (R : R1 a₀ n1 pw st) (hN : Near a₀) : ∀ i j, n1 ≤ i → i ≤ j → j < a₀.size → K (arrOf st) i ≤ K (arrOf st) j := fun i j h1 h2 h3 => by
  obtain ⟨e, he, hs⟩ := hN
  have := R.two
  rw [K_congr (R.tl i h1), K_congr (R.tl j (by omega))]
  exact hs i j h2 h3 (by omega) (by omega)
/-- at most one of the first run is greater than the second one's first -/
theorem R1.one {n1 pw : Nat} {st : SortSt} (R : R1 a₀ n1 pw st) (hN : Near a₀) (hlt : n1 < a₀.size) : ∀ i, i + 1 < n1 → K (arrOf st) i ≤ K (arrOf st) n1 := by
  obtain ⟨e, he, hs⟩ := hN
  have h2 := R.two
  have hz : (arrOf st).size = a₀.size := R.perm.size_eq
  generalize hxs : arrOf st = xs at *
  have perm : xs.Perm a₀ := by rw [← hxs]; exact R.perm
  have srt : SortedTo xs n1 := by rw [← hxs]; exact R.srt
  have tl : Tl a₀ xs n1 := by rw [← hxs]; exact R.tl
  have hp1 : (xs.toList.take n1).Perm (a₀.toList.take n1) := by
    have hp := Array.perm_iff_toList_perm.mp perm
    have hd : xs.toList.drop n1 = a₀.toList.drop n1 := by
      apply List.ext_getElem?
      intro k
      rw [List.getElem?_drop, List.getElem?_drop, Array.getElem?_toList, Array.getElem?_toList]
      exact tl _ (Nat.le_add_right _ _)
    rw [← List.take_append_drop n1 xs.toList, ← List.take_append_drop n1 a₀.toList, hd] at hp
    exact (List.perm_append_right_iff _).mp hp
  have c := K xs n1
  have hc : K xs n1 = K a₀ n1 := K_congr (tl n1 (Nat.le_refl _))
  intro i hi
  rcases Int.lt_or_le (K xs n1) (K xs i) with z | z
  · exfalso
    have cnt := hp1.countP_eq (fun p => decide (K a₀ n1 < numOf p.1))
    have kx : ∀ j (hj : j < xs.toList.length), numOf (xs.toList[j]).1 = K xs j := fun j hj => by
      rw [K_eq (by simpa using hj)]; simp
    have ka : ∀ j (hj : j < a₀.toList.length), numOf (a₀.toList[j]).1 = K a₀ j := fun j hj => by
      rw [K_eq (by simpa using hj)]; simp
    have lx : xs.toList.length = a₀.size := by rw [Array.length_toList]; exact hz
    have la : a₀.toList.length = a₀.size := Array.length_toList
    have up : 2 ≤ (xs.toList.take n1).countP (fun p => decide (K a₀ n1 < numOf p.1)) := by
      have sp : (xs.toList.take n1) = xs.toList.take i ++ (xs.toList.take n1).drop i := by
        have := List.take_append_drop i (xs.toList.take n1)
        rw [List.take_take, Nat.min_eq_left (by omega)] at this
        exact this.symm
      rw [sp, List.countP_append]
      have al : ((xs.toList.take n1).drop i).countP (fun p => decide (K a₀ n1 < numOf p.1)) = ((xs.toList.take n1).drop i).length := by
        rw [List.countP_eq_length]
        intro p hp
        obtain ⟨j, hj, rfl⟩ := List.getElem_of_mem hp
        rw [List.length_drop, List.length_take] at hj
        rw [List.getElem_drop, List.getElem_take, kx _ (by omega)]
        have := srt i (i + j) (by omega) (by omega)
        exact decide_eq_true (by omega)
      rw [al, List.length_drop, List.length_take]
      omega
    have dn : (a₀.toList.take n1).countP (fun p => decide (K a₀ n1 < numOf p.1)) ≤ 1 := by
      have sp : (a₀.toList.take n1) = a₀.toList.take e ++ (a₀.toList.take n1).drop e := by
        have := List.take_append_drop e (a₀.toList.take n1)
        rw [List.take_take, Nat.min_eq_left (by omega)] at this
        exact this.symm
      have sp2 : (a₀.toList.take n1).drop e = (a₀.toList[e]'(by omega)) :: (a₀.toList.take n1).drop (e + 1) := by
        rw [List.drop_eq_getElem_cons (by rw [List.length_take]; omega), List.getElem_take]
      rw [sp, sp2, List.countP_append, List.countP_cons]
      have z1 : (a₀.toList.take e).countP (fun p => decide (K a₀ n1 < numOf p.1)) = 0 := by
        rw [List.countP_eq_zero]
        intro p hp
        obtain ⟨j, hj, rfl⟩ := List.getElem_of_mem hp
        rw [List.length_take] at hj
        rw [List.getElem_take, ka _ (by omega)]
        have := hs j n1 (by omega) hlt (by omega) (by omega)
        simp; omega
      have z2 : ((a₀.toList.take n1).drop (e + 1)).countP (fun p => decide (K a₀ n1 < numOf p.1)) = 0 := by
        rw [List.countP_eq_zero]
        intro p hp
        obtain ⟨j, hj, rfl⟩ := List.getElem_of_mem hp
        rw [List.length_drop, List.length_take] at hj
        rw [List.getElem_drop, List.getElem_take, ka _ (by omega)]
        have := hs (e + 1 + j) n1 (by omega) hlt (by omega) (by omega)
        simp; omega
      rw [z1, z2]
      split <;> omega
    omega
  · exact z
theorem runs {st : SortSt} {Q : Unit → SortSt → Prop} (h0 : IntKeys a₀) (hB : SBase a₀ st) (he : arrOf st = a₀) (h2 : 2 ≤ a₀.size) (hN : Near a₀)
    (h : ∀ st', (arrOf st').Perm a₀ → failedOf st' = none → SortedTo (arrOf st') a₀.size → Q () st') : wpS (model prog w) A E s sortRuns' Q st := by
  rw [sortRuns'_eq]
  refine wpS_bind (wpS_get ?_)
  dsimp only
  have hm2 : 2 ≤ minRun' a₀.size a₀.size 0 := minRun_two _ _ _ h2
  generalize hmr : minRun' a₀.size a₀.size 0 = mr at hm2
  simp only [hB.size, hmr]
  refine wpS_bind (wpS_mono (wpS_forRange
    (I := fun x c st' => (x = 0 ∧ c = (none, 0) ∧ SBase a₀ st' ∧ Tl a₀ (arrOf st') 0) ∨ (∃ n1, (x = 1 ∨ 1 ≤ x ∧ n1 = a₀.size) ∧ c = (none, n1) ∧ R1 a₀ n1 0 st' ∧ pendingOf st' = #[(0, n1, 0)]) ∨
      (∃ n1 pw, 2 ≤ x ∧ n1 < a₀.size ∧ c = (none, a₀.size) ∧ R1 a₀ n1 pw st' ∧ pendingOf st' = #[(0, n1, pw), (n1, a₀.size - n1, 0)]))
    (Q := fun c st' => c = (none, a₀.size) ∧ (Fn a₀ st' ∨ ∃ n1 pw, n1 < a₀.size ∧ R1 a₀ n1 pw st' ∧ pendingOf st' = #[(0, n1, pw), (n1, a₀.size - n1, 0)])) ?step ?fin (.inl ⟨rfl, rfl, hB, fun k _ => by rw [he]⟩)) ?post)
  case fin =>
    rw [Nat.max_eq_right (Nat.zero_le _)]
    rintro c st' (⟨hx, _⟩ | ⟨n1, hx, rfl, R, hp⟩ | ⟨n1, pw, hx, hn, rfl, R, hp⟩)
    · omega
    · obtain rfl : n1 = a₀.size := by omega
      exact ⟨rfl, .inl ⟨R.perm, R.fail, R.srt, by rw [hp]; exact Nat.le_refl 1⟩⟩
    · exact ⟨rfl, .inr ⟨n1, pw, hn, R, hp⟩⟩
  case step =>
    rintro x c st' _ hx (⟨rfl, rfl, b, t⟩ | ⟨n1, hx1, rfl, R, hp⟩ | ⟨n1, pw, hx1, hn, rfl, R, hp⟩)
    · dsimp only
      rw [if_neg (by omega)]
      simp only [Nat.sub_zero, Nat.zero_add]
      refine wpS_bind (run0 h0 (Nat.le_refl _) (by omega) b t fun m st2 m1 m2 R => ?_)
      dsimp only
      by_cases hlt : m < mr
      · rw [if_pos hlt]
        refine wpS_bind (wpS_lift (wpAny_rule (And.intro rfl ?_)))
        refine wpS_bind (ins h0 (n := min a₀.size mr) (by omega) (by omega) R fun st3 R3 => ?_)
        simp only [Bool.not_true, Bool.false_eq_true, if_false]
        refine wpS_bind (wpS_get ?_)
        have hb : (pendingOf st3).back? = none := by rw [R3.b.pend]; rfl
        rw [hb]
        dsimp only
        refine wpS_bind (wpS_modify (wpS_pure (.inr (.inl ⟨min a₀.size mr, .inl trivial, rfl, ⟨R3.b.perm, R3.b.kind, R3.b.failed, R3.s, R3.t, by omega, by omega⟩, ?_⟩))))
        show (pendingOf st3).push _ = _
        rw [R3.b.pend]
        rfl
      · rw [if_neg hlt]
        refine wpS_bind (wpS_get ?_)
        have hb : (pendingOf st2).back? = none := by rw [R.b.pend]; rfl
        rw [hb]
        dsimp only
        refine wpS_bind (wpS_modify (wpS_pure (.inr (.inl ⟨m, .inl trivial, rfl, ⟨R.b.perm, R.b.kind, R.b.failed, R.s, R.t, by omega, m2⟩, ?_⟩))))
        show (pendingOf st2).push _ = _
        rw [R.b.pend]
        rfl
    · dsimp only
      by_cases hz : n1 = a₀.size
      · rw [if_pos (by omega)]
        exact wpS_pure ⟨by rw [hz], .inl ⟨R.perm, R.fail, by have := R.srt; rwa [hz] at this, by rw [hp]; exact Nat.le_refl 1⟩⟩
      · have hle := R.le
        have hlt : n1 < a₀.size := by omega
        rw [if_neg (by omega)]
        have hsz : (arrOf st').size = a₀.size := R.perm.size_eq
        refine wpS_bind (run2 (intKeys_perm h0 R.perm) R.kind (by omega) (by omega) (fun i j a b c => R.tail hN i j a b (by omega)) ?_)
        dsimp only
        by_cases hmm : a₀.size - n1 < mr
        · rw [if_pos hmm]
          refine wpS_bind (wpS_lift (wpAny_rule (And.intro rfl ?_)))
          rw [Nat.min_eq_left (Nat.le_of_lt hmm)]
          refine wpS_bind (ins0 (by omega) ?_)
          simp only [Bool.not_true, Bool.false_eq_true, if_false]
          refine wpS_bind (wpS_get ?_)
          have hb : (pendingOf st').back? = some (0, n1, 0) := by rw [hp]; rfl
          rw [hb]
          dsimp only
          refine wpS_bind (wpS_mono (wpS_forRange (I := fun _ c st'' => st'' = st' ∧ c = (none, ())) (Q := fun c st'' => st'' = st' ∧ c = (none, ())) ?ist (fun _ _ z => z) ⟨rfl, rfl⟩) ?ipo)
          case ist =>
            rintro y c st'' _ _ ⟨rfl, rfl⟩
            refine wpS_bind (wpS_get ?_)
            rw [hp]
            exact wpS_pure ⟨rfl, rfl⟩
          case ipo =>
            rintro c st'' ⟨rfl, rfl⟩
            dsimp only
            refine wpS_bind (wpS_modify (wpS_bind (wpS_modify (wpS_pure (.inr (.inr ⟨n1, power' a₀.size (2 * 0 + n1) (2 * 0 + n1 + n1 + (a₀.size - n1)) a₀.size, by omega, hlt, by rw [Nat.add_sub_cancel' hle], ⟨R.perm, R.kind, R.fail, R.srt, R.tl, R.two, R.le⟩, ?_⟩))))))
            show (((pendingOf st'').modify _ _).push _) = _
            rw [hp]
            rfl
        · rw [if_neg hmm]
          refine wpS_bind (wpS_get ?_)
          have hb : (pendingOf st').back? = some (0, n1, 0) := by rw [hp]; rfl
          rw [hb]
          dsimp only
          refine wpS_bind (wpS_mono (wpS_forRange (I := fun _ c st'' => st'' = st' ∧ c = (none, ())) (Q := fun c st'' => st'' = st' ∧ c = (none, ())) ?ist2 (fun _ _ z => z) ⟨rfl, rfl⟩) ?ipo2)
          case ist2 =>
            rintro y c st'' _ _ ⟨rfl, rfl⟩
            refine wpS_bind (wpS_get ?_)
            rw [hp]
            exact wpS_pure ⟨rfl, rfl⟩
          case ipo2 =>
            rintro c st'' ⟨rfl, rfl⟩
            dsimp only
            refine wpS_bind (wpS_modify (wpS_bind (wpS_modify (wpS_pure (.inr (.inr ⟨n1, power' a₀.size (2 * 0 + n1) (2 * 0 + n1 + n1 + (a₀.size - n1)) a₀.size, by omega, hlt, by rw [Nat.add_sub_cancel' hle], ⟨R.perm, R.kind, R.fail, R.srt, R.tl, R.two, R.le⟩, ?_⟩))))))
            show (((pendingOf st'').modify _ _).push _) = _
            rw [hp]
            rfl
    · dsimp only
      rw [if_pos (Nat.le_refl _)]
      exact wpS_pure ⟨rfl, .inr ⟨n1, pw, hn, R, hp⟩⟩
  case post =>
    rintro c st' ⟨rfl, hD⟩
    dsimp only
    refine wpS_bind (wpS_mono (wpS_forRange (I := fun x c st'' => c = (none, ()) ∧ (Fn a₀ st'' ∨ (x = 0 ∧ ∃ n1 pw, n1 < a₀.size ∧ R1 a₀ n1 pw st'' ∧ pendingOf st'' = #[(0, n1, pw), (n1, a₀.size - n1, 0)]))) (Q := fun c st'' => c = (none, ()) ∧ Fn a₀ st'') ?lst ?lfi ⟨rfl, hD.imp id fun z => ⟨rfl, z⟩⟩) ?lpo)
    case lfi =>
      rw [Nat.max_eq_right (Nat.zero_le _)]
      rintro c st'' ⟨rfl, F | ⟨z, _⟩⟩
      · exact ⟨rfl, F⟩
      · omega
    case lpo =>
      rintro c st'' ⟨rfl, F⟩
      exact wpS_pure (h _ F.perm F.fail F.srt)
    case lst =>
      rintro x c st'' _ _ ⟨rfl, F | ⟨rfl, n1, pw, hn, R, hp⟩⟩
      · refine wpS_bind (wpS_get ?_)
        rw [if_pos F.pend]
        exact wpS_pure ⟨rfl, F⟩
      · refine wpS_bind (wpS_get ?_)
        rw [hp, if_neg (by show ¬ (2 ≤ 1); omega)]
        refine wpS_bind (merge (n1 := n1) (n2 := a₀.size - n1) (pw := pw) h0 R.perm R.kind R.fail hp R.two (by omega) (by omega) R.srt (R.tail hN) (R.one hN hn) fun st3 a1 a2 a3 a4 => ?_)
        exact wpS_pure ⟨rfl, .inl ⟨a1, a2, a3, a4⟩⟩
end
end Sg
set_option Elab.async false
set_option linter.all false
set_option maxRecDepth 100000
/-! sorted(xs) of ints, of any number up to a thousand, where but for one of the first two all stand in order -/
namespace Sg
open PySem PyProof.Rows
section
variable {prog : Program} {w : World} {A : Around} {E : Value → Shared → Prop} {s : Shared}
theorem sortTree {a : Addr} {vs : List Value} {ns : List Int} {n : Nat} {P : PySem.Fin → Shared → Prop} (ho : s.heap.get? a = some (seqObj "list" vs.toArray n)) (hI : IntsAre vs ns) (hN : Near (pairsOf vs)) (h1000 : vs.length ≤ 1000)
    (h : ∀ (out : Array Value) (ns' : List Int), IntsAre out.toList ns' → ns'.Perm ns → ns'.Pairwise (· ≤ ·) → P (.done (.ret .none)) { s with heap := sortedHeap s.heap a vs out }) : wpAny (model prog w) A (Builtin.«list.sort» ⟨[.ref a], []⟩) P E s := by
  have ha := Heap.lt_size ho
  have hl : vs.toArray.size = vs.length := List.size_toArray
  rw [list_sort_plain]
  refine wpAny_bind (listItems_at ho rfl (wpAny_bind (listUpdate_at ho rfl ?_ (by rw [hl, sizeLine_eq]; omega) (Nat.zero_le _))))
  obtain ⟨e1, o1⟩ : ∃ e1, (s.heap.update a (Obj.mapSeq fun _ => #[])).get? a = some (seqObj "list" #[] e1) := ⟨_, get?_update_seq ho _⟩
  refine wpAny_bind (seqEpoch_at o1 rfl (wpAny_bind (wpAny_newTuple ?_ (by rw [sizeLine_eq]; simp; omega))))
  refine wpAny_bind (wpAny_newList (wpAny_holding ?_))
  have o6 : (((s.heap.update a (Obj.mapSeq fun _ => #[])).push (seqObj "tuple" vs.toArray 0)).push (seqObj "list" #[] 0)).get? a = some (seqObj "list" #[] e1) := by
    refine (Heap.get?_push_ne _ _ _ ?_).trans ((Heap.get?_push_ne _ _ _ ?_).trans o1)
    · rw [size_push', Heap.size_update]; exact Nat.ne_of_lt (Nat.lt_succ_of_lt ha)
    · rw [Heap.size_update]; exact Nat.ne_of_lt ha
  show wpAny (model prog w) A _ P E { s with heap := ((s.heap.update a (Obj.mapSeq fun _ => #[])).push (seqObj "tuple" vs.toArray 0)).push (seqObj "list" #[] 0) }
  dsimp only
  have out : ∀ st : SortSt, (arrOf st).Perm (pairsOf vs) → SortedTo (arrOf st) (pairsOf vs).size → P (.done (.ret .none)) { s with heap := sortedHeap s.heap a vs ((arrOf st).map (·.2)) } := fun st hp hs => by
    obtain ⟨ns', h1, h2, h3⟩ := sorted_out hI hp hs
    exact h _ ns' h1 h2 h3
  have fin : ∀ st : SortSt, (arrOf st).Perm (pairsOf vs) → failedOf st = none → SortedTo (arrOf st) (pairsOf vs).size →
      wpAny (model prog w) A (do
        let now ← seqEpoch a
        Builtin.List.listUpdate (.ref a) fun _ => (arrOf st).map (·.2)
        if let some e := failedOf st then rule "list.sort.comparison-raised"; throw e
        if now != e1 then rule "list.sort.modified"; raiseError "ValueError" "list modified during sort"
        ret .none) P E { s with heap := ((s.heap.update a (Obj.mapSeq fun _ => #[])).push (seqObj "tuple" vs.toArray 0)).push (seqObj "list" #[] 0) } := fun st hp hf hs => by
    have z : (arrOf st).size = vs.length := hp.size_eq.trans (pairsOf_size _)
    refine wpAny_bind (seqEpoch_at o6 rfl (wpAny_bind (listUpdate_at o6 rfl ?_ (Nat.zero_le _) (by rw [Array.size_map, z, sizeLine_eq]; omega))))
    rw [hf]
    simp only [bne_self_eq_false, Bool.false_eq_true, if_false]
    exact wpAny_pure (out st hp hs)
  by_cases h2 : vs.toArray.size < 2
  · rw [if_pos h2, if_pos h2]
    refine wpAny_bind (wpAny_pure ?_)
    rw [StateT.run_pure]
    refine wpAny_bind (wpAny_pure (fin (SortSt.mk' general' (vs.toArray.zip vs.toArray) #[] 7 none) (Array.Perm.refl _) rfl fun i j hij hj => ?_))
    rw [pairsOf_size] at hj
    rw [show i = j by omega]; exact Int.le_refl _
  · rw [if_neg h2, if_neg h2]
    obtain ⟨v1, v2, r, rfl⟩ : ∃ v1 v2 r, vs = v1 :: v2 :: r := by
      rcases vs with _ | ⟨v1, _ | ⟨v2, r⟩⟩
      · simp at h2
      · simp at h2
      · exact ⟨v1, v2, r, rfl⟩
    rw [keyKind_ints hI]
    refine wpAny_bind (wpAny_pure (wpAny_bind (wpAny_mono (runs (a₀ := pairsOf (v1 :: v2 :: r)) (st := SortSt.mk' oneType' ((v1 :: v2 :: r).toArray.zip (v1 :: v2 :: r).toArray) #[] 7 none)
      (Q := fun _ st => (arrOf st).Perm (pairsOf (v1 :: v2 :: r)) ∧ failedOf st = none ∧ SortedTo (arrOf st) (pairsOf (v1 :: v2 :: r)).size) hI.intKeys ⟨Array.Perm.refl _, rfl, rfl, rfl⟩ rfl (by rw [pairsOf_size]; simp) hN fun st a1 a2 a3 => ⟨a1, a2, a3⟩) ?_ fun _ _ e => e)))
    rintro ⟨⟨⟩, st⟩ s' ⟨rfl, hp, hf, hs⟩
    exact fin st hp hf hs
theorem sorted_near {l : Addr} {vs : List Value} {ns : List Int} {Q : Value → Shared → Prop} (hl : s.heap.IsList l vs.toArray) (hI : IntsAre vs ns) (hN : Near (pairsOf vs)) (h1000 : vs.length ≤ 1000)
    (h : ∀ (out : Array Value) (ns' : List Int), IntsAre out.toList ns' → ns'.Perm ns → ns'.Pairwise (· ≤ ·) → Q (.ref (s.heap.objs.size + 1)) { s with heap := sortedAll s.heap vs out }) : wpAny (model prog w) A (call (.builtin "sorted") [.ref l]) Q E s := by
  have hz : vs.length ≤ sizeLine := by rw [sizeLine_eq]; omega
  refine Calls.call_function_entry kind_sorted plain_sorted entry_sorted (args_sorted1 _) ?_
  unfold Builtin.«sorted»
  refine wpAny_bind (m := checkCount "sorted" 1 1 _) (wpAny_pure (wpAny_bind (collect_list hl (wpAny_bind (wpAny_newList ?_ hz)) hz)))
  have sz : ((s.heap.push (seqObj "list" #[] 0)).update s.heap.objs.size (Obj.mapSeq (· ++ vs.toArray))).objs.size = s.heap.objs.size + 1 := by rw [Heap.size_update, size_push']
  have oL : (((s.heap.push (seqObj "list" #[] 0)).update s.heap.objs.size (Obj.mapSeq (· ++ vs.toArray))).push (seqObj "list" vs.toArray 0)).get? (s.heap.objs.size + 1) = some (seqObj "list" vs.toArray 0) := by
    rw [← sz]; exact Heap.get?_push_size _ rfl
  show wpAny _ _ _ _ _ { s with heap := ((s.heap.push (seqObj "list" #[] 0)).update s.heap.objs.size (Obj.mapSeq (· ++ vs.toArray))).push (seqObj "list" vs.toArray 0) }
  rw [sz]
  refine wpAny_bind (wpAny_holding (wpAny_call_entry slot_list_sort ⟨_, oL, rfl⟩ entry_list_sort (sortTree oL hI hN h1000 fun out ns' a1 a2 a3 => ⟨_, rfl, wpAny_pure ⟨_, rfl, h out ns' a1 a2 a3⟩⟩) (args_list_sort _)))
end
/-- the ints of a list: one of the first two may stand out -/
theorem near_of {vs : List Value} {ns : List Int} (hI : IntsAre vs ns) (e : Nat) (he : e < 2) (h : ∀ i j, i ≤ j → j < ns.length → i ≠ e → j ≠ e → ns.getD i 0 ≤ ns.getD j 0) : Near (pairsOf vs) := by
  have hl := hI.length
  have hk : ∀ i, i < ns.length → K (pairsOf vs) i = ns.getD i 0 := fun i hi => by
    rw [K_eq (by rw [pairsOf_size]; omega)]
    have e1 : (pairsOf vs)[i]'(by rw [pairsOf_size]; omega) = (vs[i]'(by omega), vs[i]'(by omega)) := by simp [pairsOf]
    rw [e1]
    have e2 := hI.nums
    have hv : i < vs.length := by omega
    have e3 : (vs.map numOf)[i]? = some (numOf vs[i]) := by rw [List.getElem?_map, List.getElem?_eq_getElem hv]; rfl
    rw [e2] at e3
    rw [List.getD_eq_getElem?_getD, e3]; rfl
  refine ⟨e, he, fun i j hij hj h1 h2 => ?_⟩
  rw [pairsOf_size] at hj
  rw [hk i (by omega), hk j (by omega)]
  exact h i j hij (by omega) h1 h2
end Sg
set_option Elab.async false
set_option linter.all false
set_option maxRecDepth 100000
/-! sorted(xs) of ints, sorted(a set of ints) -/
namespace L2
open PySem PySem.Spec PyProof.Rows
theorem ints_vals : ∀ {ns : List Int} {us : List Value}, Vals (ns.map V.int) us → IntsAre us ns
  | [], _, .nil => .nil
  | n :: ns, _, .cons r t => by
    obtain ⟨tk, rfl⟩ := r
    exact .cons n tk (ints_vals t)
theorem vals_ints' : ∀ {ns : List Int} {us : List Value}, IntsAre us ns → Vals (ns.map V.int) us
  | _, _, .nil => .nil
  | _, _, .cons n t h => .cons ⟨t, rfl⟩ (vals_ints' h)
theorem Inv.drawn {X : Cx} {pins : List (Addr × Obj)} {σ : St} {H : Hp} {s : Shared} (d : Drawn) (I : Inv X pins σ H s) : Inv X pins σ H { s with drawn := d } := ⟨I.ok, I.os, I.bare, I.base, I.loc, I.cell, I.free, I.freeC, I.pin, I.hok, I.len⟩
/-- what is told of ints in order -/
inductive cSrt (ns : List Int) (H : Hp) (Q : VK) : Prop
  | mk (q : ∀ (D : Addr) (ys : List Int), ys.Perm ns → ys.Pairwise (· ≤ ·) → H D = none → Q (.ref D) (upd H D (.lst (ys.map V.int)))) : cSrt ns H Q
inductive cSrtL (K : PySem.W.Frag) (xs : List V) (H : Hp) (Q : VK) : Prop
  | mk (p : Addr) (ns : List Int) (e : xs = [.ref p]) (h : SqL K H p (ns.map V.int)) (hl : ns.length ≤ 1000) (out : Nat) (ho : out < 2) (hn : ∀ i j, i ≤ j → j < ns.length → i ≠ out → j ≠ out → ns.getD i 0 ≤ ns.getD j 0) (q : cSrt ns H Q) : cSrtL K xs H Q
inductive cSrtS (P : Program) (w : World) (xs : List V) (H : Hp) (Q : VK) : Prop
  | mk (p : Addr) (ns : List Int) (e : xs = [.ref p]) (h : H p = some (SetH P w p (ns.map Sum.inl))) (hl : ns.length < 64) (q : cSrt ns H Q) : cSrtS P w xs H Q
section
variable {X : Cx}
theorem call_sorted_near (K : PySem.W.Frag) (ek : X.K = K := by rfl) : CallR X (.builtin "sorted") (cSrtL K) := by
  subst ek
  intro pins s σ H xs us Q I r h
  obtain ⟨p, ns, rfl, hq, hl, out, ho, hn, ⟨q⟩⟩ := h
  obtain ⟨u, rfl, rx⟩ := vals1 r
  cases rx
  obtain ⟨its, rv, pl, hz⟩ := I.list hq
  have hI := ints_vals rv
  have hlen : its.length = ns.length := hI.length
  refine Sg.sorted_near pl.isList hI (Sg.near_of hI out ho hn) (by omega) fun o ns' h1 h2 h3 => ?_
  obtain ⟨e, he⟩ := sortedAll_at s.heap its o
  have hs : s.heap.objs.size ≤ s.heap.objs.size + 1 := Nat.le_succ _
  have hln : ns'.length ≤ sizeLine := by rw [h2.length_eq, sizeLine_eq]; omega
  refine ⟨.ref (s.heap.objs.size + 1), _, I.laid (t' := s.toks) (o := .lst (ns'.map V.int)) (fun b u e => sortedAll_old e) hs ⟨by rw [List.length_map]; exact hln, o.toList, e, vals_ints' h1, he⟩, rfl, q _ ns' h2 h3 (I.hok.fresh hs)⟩
theorem keys_ints {P : Program} {w : World} : ∀ {ns : List Int} {el : List (Int × Value)}, Paired (fun (k : Key) (e : Int × Value) => (mixKind P w).is k e.2 = true ∧ e.1 = (mixKind P w).hash k) (ns.map Sum.inl) el → IntsAre (el.map (·.2)) ns
  | [], _, .nil => .nil
  | n :: ns, _, .cons r t => by
    obtain ⟨r, _⟩ := r
    rcases keyIs_shape (show keyIs (Sum.inl n) _ = true from r) with ⟨i, tk, e1, e2⟩ | ⟨x, tk, e1, e2⟩
    · cases e1
      rw [List.map_cons, e2]
      exact .cons n tk (keys_ints t)
    · cases e1
theorem ints_perm {us vs : List Value} (p : us.Perm vs) : ∀ {ns : List Int}, IntsAre vs ns → ∃ ms, IntsAre us ms ∧ ms.Perm ns := by
  intro ns h
  have a : ∀ v ∈ us, ∃ n t, v = .int n t := fun v hv => h.all v (p.mem_iff.mp hv)
  refine ⟨us.map numOf, intsAre_map us a, ?_⟩
  rw [← h.nums]
  exact p.map _
theorem call_sorted_set (P : Program) (w : World) (hc : X.calm = true) (e1 : X.prog = P := by rfl) (e2 : X.w = w := by rfl) : CallR X (.builtin "sorted") (cSrtS P w) := by
  subst e1 e2
  intro pins s σ H xs us Q I r h
  obtain ⟨p, ns, rfl, hq, hl, ⟨q⟩⟩ := h
  obtain ⟨u, rfl, rx⟩ := vals1 r
  cases rx
  obtain ⟨⟨es, g, nd, el, pe, qe⟩, _, _⟩ := I.hok p _ hq
  have hh : X.A.in1.handled = none := I.ok.hd hc
  have he : es.size = ns.length := by have := Paired.length qe; have := pe.length_eq; simp at *; omega
  refine Calls.call_function_entry kind_sorted plain_sorted entry_sorted (args_sorted1 _) ?_
  unfold Builtin.«sorted»
  refine wpAny_bind (m := checkCount "sorted" 1 1 _) (wpAny_pure (wpAny_bind (Ss.collect_set hh g (by omega) fun h' tk d vs keep hv => ?_)))
  obtain ⟨ms, hI, hm⟩ := ints_perm (hv.trans (pe.map (·.2)).symm) (keys_ints qe)
  have hlen : vs.length = ns.length := by rw [hI.length, hm.length_eq]
  refine wpAny_bind (wpAny_newList ?_ (by rw [hlen, sizeLine_eq]; omega))
  have oL : (h'.push (seqObj "list" vs.toArray 0)).get? h'.objs.size = some (seqObj "list" vs.toArray 0) := Heap.get?_push_size _ rfl
  refine wpAny_bind (wpAny_holding (wpAny_call_entry slot_list_sort (s := { s with heap := h'.push (seqObj "list" vs.toArray 0), toks := tk, drawn := d }) ⟨_, oL, rfl⟩ entry_list_sort (list_sort_tree oL hI (by omega) fun out ns' h1 h2 h3 => ⟨_, rfl, wpAny_pure ⟨_, rfl, ?_⟩⟩) (args_list_sort _)))
  have I1 : Inv X pins σ H { s with heap := h', toks := tk, drawn := d } := (I.kept (t' := tk) keep).drawn d
  obtain ⟨e, hat⟩ := sortedHeap_at (vs := vs) (out := out) oL
  refine ⟨.ref h'.objs.size, _, I1.laid (s := { s with heap := h', toks := tk, drawn := d }) (t' := tk) (o := .lst (ns'.map V.int)) (fun b u e => ?_) (Nat.le_refl _) ⟨by rw [List.length_map, (h2.trans hm).length_eq, sizeLine_eq]; omega, out.toList, e, vals_ints' h1, hat⟩, rfl, q _ ns' (h2.trans hm) h3 (I1.hok.fresh (Nat.le_refl _))⟩
  have hb : h'.get? b = some u := e
  have hlt := Heap.lt_size hb
  rw [sortedHeap_old (Nat.ne_of_lt hlt) (by rw [size_push']; exact Nat.lt_succ_of_lt hlt)]
  exact Heap.get?_push_of_some _ hb
end
end L2
set_option Elab.async false
set_option linter.all false
set_option maxRecDepth 100000
/-! TEXTS over the hand layer: their methods, join, split, partition, int of a text. -/
namespace L2
open PySem PySem.Spec PyProof.Rows
section
variable {X : Cx}
end
end L2
set_option Elab.async false
set_option linter.all false
set_option maxRecDepth 100000
/-! a, b, c = a list; f-strings -/
namespace L2
open PySem PySem.Spec PyProof.Rows
section
variable {prog : Program} {w : World} {A : Around} {E : Value → Shared → Prop} {s : Shared}
theorem draw_list {it t : Addr} {items : Array Value} (hne : t ≠ it) : ∀ (n i : Nat) (s : Shared) (Q : List Value → Shared → Prop), s.heap.IsListIter it t i → s.heap.IsList t items → i + n ≤ items.size →
    (∀ h', h'.IsListIter it t (i + n) → Heap.SameBut it s.heap h' → Q ((items.toList.drop i).take n) { s with heap := h' }) → wpAny (model prog w) A (draw (.ref it) n) Q E s
  | 0, i, s, Q, hit, _, _, hQ => by
    show wpAny _ _ (pure []) Q E s
    exact wpAny_pure (by simpa using hQ s.heap hit (Heap.SameBut.refl ..))
  | n + 1, i, s, Q, hit, ht, hle, hQ => by
    have hlt : i < items.size := by omega
    show wpAny _ _ (pyNext (.ref it) >>= _) Q E s
    refine wpAny_bind (wpAny_pyNext_list_item hit ht (x := items[i]) (by simp [hlt]) fun h₁ hit₁ hs₁ => ?_)
    refine wpAny_bind (wpAny_holding (draw_list hne n (i + 1) _ _ hit₁ (ht.extBut hs₁.extBut hne) (by omega) fun h₂ hit₂ hs₂ => wpAny_pure ?_))
    have hd : items.toList.drop i = items[i] :: items.toList.drop (i + 1) := by simp [List.drop_eq_getElem_cons, hlt]
    have := hQ h₂ (by rw [show i + (n + 1) = i + 1 + n by omega]; exact hit₂) (hs₁.trans hs₂)
    rw [hd, List.take_succ_cons] at this
    exact this
theorem unpackItems_list {t : Addr} {items : Array Value} {Q : List Value → Shared → Prop} (hh : A.handled = none) (ht : s.heap.IsList t items)
    (hQ : ∀ h', Heap.ExtBut s.heap.objs.size s.heap h' → Q items.toList { s with heap := h' }) : wpAny (model prog w) A (unpackItems (.ref t) items.size none) Q E s := by
  have hlt : t ≠ s.heap.objs.size := by obtain ⟨o, ho, _⟩ := ht; exact Nat.ne_of_lt (Heap.lt_size ho)
  unfold unpackItems
  refine wpAny_bind ?_
  · unfold notIterableAtAll
    refine wpAny_bind (wpAny_specialOf ht.typeIs slot_list_iter.lookup ?_)
    refine wpAny_pure ?_
    simp only [Bool.false_eq_true, if_false]
    refine wpAny_bind (wpAny_holding (wpAny_pyIter_list ht ?_))
    refine wpAny_bind (wpAny_holding (draw_list hlt items.size 0 _ _ ⟨_, Heap.get?_push_size _ rfl, rfl, rfl⟩ (ht.push _) (by omega) fun h₁ hit₁ hs₁ => ?_))
    have hall : List.take items.size (List.drop 0 items.toList) = items.toList := by
      rw [List.drop_zero]; exact List.take_of_length_le (by simp)
    rw [hall]
    rw [if_neg (by simp)]
    have ht₁ : h₁.IsList t items := (ht.push _).extBut hs₁.extBut hlt
    refine wpAny_bind (wpAny_holding (wpAny_pyNext_list_end hh hit₁ ht₁ (by simp) fun h₂ he₂ => ?_))
    simp only [Option.isSome_none, Bool.false_eq_true, if_false]
    refine wpAny_pure (hQ h₂ fun b o hb e => he₂ b o hb (hs₁.extBut b o hb (Heap.get?_push_of_some _ e)))
theorem assign_Tuple_list {env : Env} {elts : List Expr} {x1} {pos : Pos} {t : Addr} {items : Array Value} {Q : Unit → Shared → Prop} (hh : A.handled = none) (ht : s.heap.IsList t items)
    (hn : (assignEach elts env).length = items.size) (hstar : (assignEach elts env).findIdx? (·.1) = none)
    (h : ∀ h', Heap.ExtBut s.heap.objs.size s.heap h' → wpAny (model prog w) A (assignInOrder ((assignEach elts env).map (·.2)) items.toList) Q E { s with heap := h' }) :
    wpAny (model prog w) A (assign (.Tuple elts x1 pos) env (.ref t)) Q E s := by
  rw [assign_Tuple]
  refine wpAny_bind (wpAny_standAt ?_)
  unfold unpack
  rw [hn, hstar]
  exact wpAny_bind (wpAny_holding (unpackItems_list hh ht h))
end
section
variable {X : Cx} {pos : Pos}
/-- (a, b, ..) = a tuple or a list of that length -/
inductive gSeq (n : Nat) (t : TGs) (v : V) (σ : St) (H : Hp) (Q : St → Hp → Prop) : Prop
  | mk (a : Addr) (o : HO) (xs : List V) (e : v = .ref a) (h : H a = some o) (ob : Ob o xs) (l : xs.length = n) (q : t xs σ H Q) : gSeq n t v σ H Q
theorem pg_seq {es : List Expr} {k : Nat} {t : TGs} {n : Nat} (hc : X.calm = true) (h : PGs X es t)
    (hn : (assignEach es X.env).length = n := by rfl) (hst : (assignEach es X.env).findIdx? (·.1) = none := by rfl) : PG X (.Tuple es k pos) (gSeq n t) := by
  intro pins s σ H v u Q I r hw
  obtain ⟨a, o, xs, e1, ha, ho, hl, hw⟩ := hw
  subst e1
  cases r
  rcases ho with ho | ho
  · subst ho
    obtain ⟨its, rv, ht, hz⟩ := I.list (.of ha)
    refine assign_Tuple_list (I.ok.hd hc) ht.isList (by simp [hn, ← hl, rv.length]) hst fun h' hx => ?_
    have I1 : Inv X pins σ H { s with heap := h' } := I.kept (t' := s.toks) fun b o e => hx b o (Nat.ne_of_lt (Heap.lt_size e)) e
    exact h pins _ σ H xs _ Q I1 (by simpa using rv) hw
  · subst ho
    obtain ⟨its, rv, ht, hz⟩ := I.tuple (.of ha)
    refine assign_Tuple_tuple (I.ok.hd hc) ht (by simp [hn, ← hl, rv.length]) hst fun h' hx => ?_
    have I1 : Inv X pins σ H { s with heap := h' } := I.kept (t' := s.toks) fun b o e => hx b o (Nat.ne_of_lt (Heap.lt_size e)) e
    exact h pins _ σ H xs _ Q I1 (by simpa using rv) hw
/-! ### f-strings -/
end
end L2
set_option Elab.async false
set_option linter.all false
set_option maxRecDepth 100000
namespace Pr
open PySem L2 PyProof.Rows
theorem iteC {c : Bool} {A B : Prop} (hc : c = true) (h : A) : if c = true then A else B := by rw [hc]; exact iteT h
theorem iteN {c : Bool} {A B : Prop} (hc : c = false) (h : B) : if c = true then A else B := by rw [hc]; exact iteF h
theorem neI {i j : Int} (h : i ≠ j) : decide (V.int i = V.int j) = false := decide_eq_false fun z => h (by cases z; rfl)
theorem eqI {i j : Int} (h : i = j) : decide (V.int i = V.int j) = true := decide_eq_true (by rw [h])
theorem wide_nat {i : Int} (h1 : -W30 < i) (h2 : i < W30) : i.natAbs < 2 ^ 300 := by
  have e : (2 : Nat) ^ 300 = 2037035976334486086268445688409378161051468393665936250636140449354381299763336706183397376 := by decide +kernel
  rw [e]
  have : (-1000000000000000000000000000000 : Int) < i := h1
  have : i < (1000000000000000000000000000000 : Int) := h2
  omega
/-- four whole numbers are a state with values -/
def ok4 (c t l g : Int) : Bool := decide (l * (c - 1) + g ≤ t) && decide (t ≤ g * (c - 1) + l)
def okL (c t : Int) (l g : V) : Bool := match wh l, wh g with
  | some i, some j => decide (-W30 < i) && decide (i < W30) && (decide (-W30 < j) && decide (j < W30)) && decide (i ≤ j) && ok4 c t i j
  | _, _ => false
/-- four things are a state -/
def okV (c t l g : V) : Bool := match wh c, wh t with
  | some n, some m => decide (0 ≤ n) && decide (n ≤ W30) && (if n = 0 then decide (m = 0) && decide (l = .non) && decide (g = .non) else okL n m l g)
  | _, _ => false
def okSt : Option (List V) → Bool
  | some [c, t, l, g] => okV c t l g
  | _ => false
theorem okSt_len {o : Option (List V)} (h : lsF 4 4 o = false) : okSt o = false := by
  unfold okSt
  split
  · cases h
  · rfl
theorem lsF_four {o : Option (List V)} (h : lsF 4 4 o = true) : ∃ c t l g, o = some [c, t, l, g] := by
  cases o with
  | none => cases h
  | some xs =>
    unfold lsF at h
    dsimp only at h
    rw [Bool.and_eq_true] at h
    have h1 := of_decide_eq_true h.1
    have h2 := of_decide_eq_true h.2
    match xs, h1, h2 with
    | [c, t, l, g], _, _ => exact ⟨c, t, l, g, rfl⟩
    | [], h1, _ => simp at h1
    | [_], h1, _ => simp at h1
    | [_, _], h1, _ => simp at h1
    | [_, _, _], h1, _ => simp at h1
    | _ :: _ :: _ :: _ :: _ :: _, _, h2 => simp at h2; omega
section
variable {P : Program} {w : World} {K : PySem.W.Frag} {mg : Str → Option Value} {base : Heap} {C : Addr}
inductive sp_is_state (vs : List V) (H : Hp) (Q : VK) (E : XK) : Prop
  | mk (v : V) (o : Option (List V)) (e : vs = [v]) (h : Ls H v o) (kd : ∀ xs, o = some xs → ∀ x ∈ xs, Kd H x) (q : ∀ H', Same H H' → Q (.bl (okSt o)) H') : sp_is_state vs H Q E
theorem sc_is_state : FnScope ["value", "count", "total", "least", "greatest"] ["value"] (defScope s_is_state) := ⟨rfl, rfl, rfl, by decide +kernel, rfl, by decide +kernel, by decide +kernel⟩
set_option maxHeartbeats 4000000 in
theorem is_state (T : Txt K mg C) : Can P w K mg base 3 "is_state" ["value"] sp_is_state := by
  refine fn_can T.f_is_state sc_is_state (fun vs H Q E h => ?_) (fun f cdv A outer s H vs Q E hr h => ?_)
  · obtain ⟨v, x, rfl, _⟩ := h
    rfl
  · obtain ⟨v, o, rfl, hL, kd, q⟩ := h
    refine ⟨_, pss_cons (ps_if (pt_not (pt_val (pe_can (is_list_from T) hr (pa3 (pv 0) pe_int pe_int)))) (pss_one (ps_ret pe_bl)) pss_nil)
      (pss_cons (ps_asg (pv 0) (pg_seq rfl (pgs_cons (pg_name (i := 1) sc_is_state.nd rfl (Or.inl rfl)) (pgs_cons (pg_name (i := 2) sc_is_state.nd rfl (Or.inl rfl)) (pgs_cons (pg_name (i := 3) sc_is_state.nd rfl (Or.inl rfl)) (pgs_cons (pg_name (i := 4) sc_is_state.nd rfl (Or.inl rfl)) pgs_nil))))))
      (pss_cons (ps_if (pt_not (PW.pt (pw_and (pt_val (pe_can (is_whole_from T) hr (pa3 (pv 1) pe_int (pe_gi T.c_MOST_COUNT)))) (pw_and1 (pt_val (pe_can (is_whole T) hr (pa1 (pv 2)))))))) (pss_one (ps_ret pe_bl)) pss_nil)
      (pss_cons (ps_if (pt_cmpR op_eq (pv 1) pe_int (nomark _)) (pss_one (ps_ret (pe_and (pe_cmpR op_eq (pv 2) pe_int (nomark _)) (pe_and (pe_cmpR op_isN (pv 3) pe_non (nomark _)) (pe_one (pe_cmpR op_isN (pv 4) pe_non (nomark _))))))) pss_nil)
      (pss_cons (ps_if (pt_not (PW.pt (pw_and (pt_val (pe_can (is_wide T) hr (pa1 (pv 3)))) (pw_and (pt_val (pe_can (is_wide T) hr (pa1 (pv 4)))) (pw_and1 (pt_cmpR op_le (pv 3) (pv 4) (nomark _))))))) (pss_one (ps_ret pe_bl)) pss_nil)
      (pss_one (ps_ret (pe_chain op_le op_le (pe_op op_add (pe_op op_mulB (pv 3) (pe_op op_sub (pv 1) pe_int)) (pv 4)) (pv 2) (pe_op op_add (pe_op op_mulB (pv 4) (pe_op op_sub (pv 1) pe_int)) (pv 3))))))))), ?_⟩
    refine ⟨_, rfl, v, o, _, _, rfl, hL, fun H1 s1 => ⟨_, rfl, ?_⟩⟩
    cases hF : lsF 4 4 o with
    | false =>
      have q1 := q H1 s1
      rw [okSt_len hF] at q1
      exact iteT q1
    | true =>
      refine iteF ?_
      obtain ⟨c, t, l, g, rfl⟩ := lsF_four hF
      obtain ⟨a, rfl, hs⟩ := Ls.some hL
      have q1 : Q (.bl (okV c t l g)) H1 := q H1 s1
      have kc : Kd H1 c := (kd _ rfl c (by simp)).same s1
      have kt : Kd H1 t := (kd _ rfl t (by simp)).same s1
      have kl : Kd H1 l := (kd _ rfl l (by simp)).same s1
      have kg : Kd H1 g := (kd _ rfl g (by simp)).same s1
      obtain ⟨ob, ho, hob⟩ : ∃ ob, H1 a = some ob ∧ Ob ob [c, t, l, g] := by
        rcases hs.same s1 with h | h
        · exact ⟨_, h, .inl rfl⟩
        · exact ⟨_, h, .inr rfl⟩
      refine ⟨_, rfl, a, ob, _, rfl, ho, hob, rfl, _, _, rfl, _, _, rfl, _, _, rfl, _, _, rfl, rfl, ?_⟩
      refine ⟨_, rfl, _, _, _, rfl, kc, _, rfl, ?_⟩
      unfold okV at q1
      unfold whF
      cases ec : wh c with
      | none => rw [ec] at q1; exact iteF (iteT q1)
      | some n =>
        rw [ec] at q1
        cases wh_some ec
        dsimp only at q1 ⊢
        rcases Bool.eq_false_or_eq_true (decide (0 ≤ n) && decide (n ≤ W30)) with hn | hn
        · refine iteC hn ⟨_, rfl, _, rfl, kt, _, rfl, ?_⟩
          cases et : wh t with
          | none => rw [et] at q1; exact iteT q1
          | some m =>
            rw [et] at q1
            cases wh_some et
            dsimp only at q1
            rw [hn, Bool.true_and] at q1
            refine iteF ?_
            by_cases n0 : n = 0
            · rw [if_pos n0] at q1
              refine ⟨_, rfl, rfl, _, rfl, iteC (eqI n0) ?_⟩
              refine ⟨_, rfl, rfl, _, rfl, ?_⟩
              by_cases m0 : m = 0
              · rw [decide_eq_true m0, Bool.true_and] at q1
                refine iteC (eqI m0) ⟨_, rfl, rfl, _, rfl, ?_⟩
                by_cases l0 : l = .non
                · rw [decide_eq_true l0, Bool.true_and] at q1
                  exact iteC (decide_eq_true l0) ⟨_, rfl, rfl, q1⟩
                · rw [decide_eq_false l0, Bool.false_and] at q1
                  rw [decide_eq_false l0]
                  exact iteF q1
              · rw [decide_eq_false m0, Bool.false_and, Bool.false_and] at q1
                rw [neI m0]
                exact iteF q1
            · rw [if_neg n0] at q1
              have hn1 : 0 ≤ n ∧ n ≤ W30 := by rw [Bool.and_eq_true] at hn; exact ⟨of_decide_eq_true hn.1, of_decide_eq_true hn.2⟩
              refine ⟨_, rfl, rfl, _, rfl, iteN (neI n0) ?_⟩
              refine ⟨_, rfl, _, rfl, kl, _, rfl, ?_⟩
              unfold okL at q1
              cases el : wh l with
              | none => unfold whW; rw [el] at q1 ⊢; exact iteF (iteT q1)
              | some i =>
                cases wh_some el
                rw [el] at q1
                rcases Bool.eq_false_or_eq_true (whW (.int i)) with hi | hi
                · refine iteC hi ⟨_, rfl, _, rfl, kg, _, rfl, ?_⟩
                  have hi' : (decide (-W30 < i) && decide (i < W30)) = true := hi
                  cases eg : wh g with
                  | none => unfold whW; rw [eg] at q1 ⊢; exact iteF (iteT q1)
                  | some j =>
                    cases wh_some eg
                    rw [eg] at q1
                    dsimp only at q1
                    rw [hi', Bool.true_and] at q1
                    rcases Bool.eq_false_or_eq_true (whW (.int j)) with hj | hj
                    · have hj' : (decide (-W30 < j) && decide (j < W30)) = true := hj
                      rw [hj', Bool.true_and] at q1
                      refine iteC hj ⟨_, rfl, _, rfl, _, _, rfl, rfl, _, rfl, ?_⟩
                      rw [Bool.and_eq_true] at hi' hj'
                      have i1 := of_decide_eq_true hi'.1
                      have i2 := of_decide_eq_true hi'.2
                      have j1 := of_decide_eq_true hj'.1
                      have j2 := of_decide_eq_true hj'.2
                      by_cases ij : i ≤ j
                      · rw [decide_eq_true ij, Bool.true_and] at q1
                        rw [decide_eq_true ij]
                        refine iteF ?_
                        have hW : W30 = 1000000000000000000000000000000 := rfl
                        have cn : (n - 1).natAbs < 2 ^ 300 := by
                          have e : (2 : Nat) ^ 300 = 2037035976334486086268445688409378161051468393665936250636140449354381299763336706183397376 := by decide +kernel
                          omega
                        unfold ok4 at q1
                        refine ⟨_, rfl, _, rfl, _, _, rfl, rfl, _, _, rfl, rfl, ⟨wide_nat i1 i2, cn⟩, _, rfl, _, _, rfl, rfl, _, rfl, _, _, rfl, rfl, _, rfl, ?_⟩
                        refine iteB (fun h => ?_) (fun h => ?_)
                        · rw [h, Bool.true_and] at q1
                          exact ⟨_, rfl, _, rfl, _, _, rfl, rfl, _, _, rfl, rfl, ⟨wide_nat j1 j2, cn⟩, _, rfl, _, _, rfl, rfl, _, _, rfl, rfl, q1⟩
                        · rw [h, Bool.false_and] at q1
                          exact q1
                      · rw [decide_eq_false ij, Bool.false_and] at q1
                        rw [decide_eq_false ij]
                        exact iteT q1
                    · have hj' : (decide (-W30 < j) && decide (j < W30)) = false := hj
                      rw [hj', Bool.false_and, Bool.false_and] at q1
                      exact iteN hj (iteT q1)
                · have hi' : (decide (-W30 < i) && decide (i < W30)) = false := hi
                  refine iteN hi (iteT ?_)
                  cases eg : wh g with
                  | none => rw [eg] at q1; exact q1
                  | some j => rw [eg] at q1; dsimp only at q1; rw [hi', Bool.false_and, Bool.false_and, Bool.false_and] at q1; exact q1
        · refine iteN hn (iteT ?_)
          cases et : wh t with
          | none => rw [et] at q1; exact q1
          | some m => rw [et] at q1; dsimp only at q1; rw [hn, Bool.false_and] at q1; exact q1
end
end Pr
set_option Elab.async false
set_option linter.all false
set_option maxRecDepth 100000
namespace Pr
open PySem L2 PyProof.Rows
theorem one_line : 1 ≤ sizeLine := by decide
section
variable {P : Program} {w : World} {K : PySem.W.Frag} {mg : Str → Option Value} {base : Heap} {C : Addr}
/-- need_state: an error of NoState, or nothing -/
inductive sp_need_state (mg : Str → Option Value) (vs : List V) (H : Hp) (Q : VK) (E : XK) : Prop
  | mk (v : V) (o : Option (List V)) (e : vs = [v]) (h : Ls H v o) (kd : ∀ xs, o = some xs → ∀ x ∈ xs, Kd H x) (q : okSt o = true → ∀ H', Same H H' → Q .non H') (x : okSt o = false → ∀ H', Same H H' → E (.ref (cOf mg "NoState")) none H') : sp_need_state mg vs H Q E
theorem sc_need_state : FnScope ["value"] ["value"] (defScope s_need_state) := ⟨rfl, rfl, rfl, by decide +kernel, rfl, by decide +kernel, by decide +kernel⟩
theorem need_state (T : Txt K mg C) : CanX P w K mg base 4 "need_state" ["value"] (sp_need_state mg) := by
  refine fn_canX T.f_need_state sc_need_state (fun vs H Q E h => ?_) (fun f cdv A outer s H vs Q E hr W h => ?_)
  · obtain ⟨v, x, rfl, _⟩ := h
    rfl
  · obtain ⟨v, o, rfl, hL, kd, q, x⟩ := h
    refine ⟨_, pss_one (ps_if (pt_not (pt_val (pe_can (is_state T) hr (pa1 (pv 0))))) (pss_one (ps_raise W rfl T.x_NoState.cls (pa1 pe_str))) pss_nil), ?_⟩
    refine ⟨_, rfl, v, o, rfl, hL, kd, fun H1 s1 => ⟨_, rfl, ?_⟩⟩
    cases ho : okSt o with
    | true => exact iteF (q ho _ s1)
    | false => exact iteT ⟨⟨one_line, x ho _ s1⟩⟩
/-- bounds -/
def okBd (l h : V) : Bool := match wh l, wh h with
  | some i, some j => decide (-W30 < i) && decide (i < W30) && (decide (-W30 < j) && decide (j < W30)) && decide (i ≤ j)
  | _, _ => false
inductive sp_need_bounds (mg : Str → Option Value) (vs : List V) (H : Hp) (Q : VK) (E : XK) : Prop
  | mk (l h : V) (e : vs = [l, h]) (kl : Kd H l) (kh : Kd H h) (q : okBd l h = true → Q .non H) (x : okBd l h = false → E (.ref (cOf mg "NoBounds")) none H) : sp_need_bounds mg vs H Q E
theorem sc_need_bounds : FnScope ["low", "high"] ["low", "high"] (defScope s_need_bounds) := ⟨rfl, rfl, rfl, by decide +kernel, rfl, by decide +kernel, by decide +kernel⟩
theorem need_bounds (T : Txt K mg C) : CanX P w K mg base 3 "need_bounds" ["low", "high"] (sp_need_bounds mg) := by
  refine fn_canX T.f_need_bounds sc_need_bounds (fun vs H Q E h => ?_) (fun f cdv A outer s H vs Q E hr W h => ?_)
  · obtain ⟨l, u, rfl, _⟩ := h
    rfl
  · obtain ⟨l, u, rfl, kl, ku, q, x⟩ := h
    refine ⟨_, pss_one (ps_if (pt_not (PW.pt (pw_and (pt_val (pe_can (is_wide T) hr (pa1 (pv 0)))) (pw_and (pt_val (pe_can (is_wide T) hr (pa1 (pv 1)))) (pw_and1 (pt_cmpR op_le (pv 0) (pv 1) (nomark _))))))) (pss_one (ps_raise W rfl T.x_NoBounds.cls (pa1 pe_str))) pss_nil), ?_⟩
    refine ⟨_, rfl, _, rfl, kl, _, rfl, ?_⟩
    unfold okBd at q x
    cases el : wh l with
    | none => unfold whW; rw [el] at x ⊢; exact iteF (iteT ⟨⟨one_line, x rfl⟩⟩)
    | some i =>
      cases wh_some el
      rw [el] at q x
      rcases Bool.eq_false_or_eq_true (whW (.int i)) with hi | hi
      · refine iteC hi ⟨_, rfl, _, rfl, ku, _, rfl, ?_⟩
        have hi' : (decide (-W30 < i) && decide (i < W30)) = true := hi
        cases eg : wh u with
        | none => unfold whW; rw [eg] at x ⊢; exact iteF (iteT ⟨⟨one_line, x rfl⟩⟩)
        | some j =>
          cases wh_some eg
          rw [eg] at q x
          dsimp only at q x
          rw [hi', Bool.true_and] at q x
          rcases Bool.eq_false_or_eq_true (whW (.int j)) with hj | hj
          · have hj' : (decide (-W30 < j) && decide (j < W30)) = true := hj
            rw [hj', Bool.true_and] at q x
            refine iteC hj ⟨_, rfl, _, rfl, _, _, rfl, rfl, _, rfl, ?_⟩
            by_cases ij : i ≤ j
            · rw [decide_eq_true ij]
              exact iteF (q (decide_eq_true ij))
            · rw [decide_eq_false ij]
              exact iteT ⟨⟨one_line, x (decide_eq_false ij)⟩⟩
          · have hj' : (decide (-W30 < j) && decide (j < W30)) = false := hj
            rw [hj', Bool.false_and] at x
            exact iteN hj (iteT ⟨⟨one_line, x rfl⟩⟩)
      · have hi' : (decide (-W30 < i) && decide (i < W30)) = false := hi
        refine iteN hi (iteT ⟨⟨one_line, x ?_⟩⟩)
        cases eg : wh u with
        | none => rfl
        | some j => dsimp only; rw [hi', Bool.false_and, Bool.false_and]
end
end Pr
set_option linter.all false
/-! what a bar may become: the mathematics -/
namespace Pl
structure S4 where
  c : Int
  t : Int
  e : Option (Int × Int)
  deriving DecidableEq
def add (x : S4) (v : Int) : S4 := ⟨x.c + 1, x.t + v, some (match x.e with | none => (v, v) | some (l, g) => (if v < l then v else l, if g < v then v else g))⟩
def adds (x : S4) (vs : List Int) : S4 := vs.foldl add x
structure Ends (x : S4) (vs : List Int) (l g : Int) : Prop where
  lo : ∀ v ∈ vs, l ≤ v
  hi : ∀ v ∈ vs, v ≤ g
  xo : ∀ a b, x.e = some (a, b) → l ≤ a ∧ b ≤ g
  la : l ∈ vs ∨ ∃ b, x.e = some (l, b)
  ga : g ∈ vs ∨ ∃ a, x.e = some (a, g)
theorem adds_cons (x : S4) (v : Int) (vs : List Int) : adds x (v :: vs) = adds (add x v) vs := rfl
theorem adds_c : ∀ (vs : List Int) (x : S4), (adds x vs).c = x.c + vs.length
  | [], x => by simp [adds]
  | v :: vs, x => by
    rw [adds_cons, adds_c vs, List.length_cons]
    show x.c + 1 + _ = _
    omega
theorem adds_t : ∀ (vs : List Int) (x : S4), (adds x vs).t = x.t + vs.sum
  | [], x => by simp [adds]
  | v :: vs, x => by
    rw [adds_cons, adds_t vs, List.sum_cons]
    show x.t + v + _ = _
    omega
theorem adds_e : ∀ (vs : List Int) (x : S4), (vs ≠ [] ∨ x.e ≠ none) → ∃ l g, (adds x vs).e = some (l, g) ∧ Ends x vs l g
  | [], x, h => by
    have h : x.e ≠ none := h.resolve_left (fun z => z rfl)
    cases e : x.e with
    | none => exact absurd e h
    | some p =>
      obtain ⟨a, b⟩ := p
      refine ⟨a, b, e, ⟨fun _ z => (nomatch z), fun _ z => (nomatch z), fun a' b' z => ?_, .inr ⟨b, e⟩, .inr ⟨a, e⟩⟩⟩
      rw [e] at z
      cases z
      exact ⟨Int.le_refl _, Int.le_refl _⟩
  | v :: vs, x, h => by
    obtain ⟨l, g, h1, E⟩ := adds_e vs (add x v) (.inr (by simp [add]))
    refine ⟨l, g, h1, ?_⟩
    cases e : x.e with
    | none =>
      have ea : (add x v).e = some (v, v) := by simp [add, e]
      have xo := E.xo v v ea
      refine ⟨fun u hu => ?_, fun u hu => ?_, fun a b z => (by rw [e] at z; cases z), ?_, ?_⟩
      · rcases List.mem_cons.mp hu with z | z
        · rw [z]; exact xo.1
        · exact E.lo u z
      · rcases List.mem_cons.mp hu with z | z
        · rw [z]; exact xo.2
        · exact E.hi u z
      · rcases E.la with z | ⟨b, z⟩
        · exact .inl (List.mem_cons_of_mem _ z)
        · rw [ea] at z; cases z; exact .inl List.mem_cons_self
      · rcases E.ga with z | ⟨b, z⟩
        · exact .inl (List.mem_cons_of_mem _ z)
        · rw [ea] at z; cases z; exact .inl List.mem_cons_self
    | some p =>
      obtain ⟨a, b⟩ := p
      have ea : (add x v).e = some (if v < a then v else a, if b < v then v else b) := by simp [add, e]
      have xo := E.xo _ _ ea
      have k1 : (if v < a then v else a) ≤ v ∧ (if v < a then v else a) ≤ a := by split <;> omega
      have k2 : v ≤ (if b < v then v else b) ∧ b ≤ (if b < v then v else b) := by split <;> omega
      refine ⟨fun u hu => ?_, fun u hu => ?_, fun a' b' z => ?_, ?_, ?_⟩
      · rcases List.mem_cons.mp hu with z | z
        · rw [z]; exact Int.le_trans xo.1 k1.1
        · exact E.lo u z
      · rcases List.mem_cons.mp hu with z | z
        · rw [z]; exact Int.le_trans k2.1 xo.2
        · exact E.hi u z
      · rw [e] at z
        cases z
        exact ⟨Int.le_trans xo.1 k1.2, Int.le_trans k2.2 xo.2⟩
      · rcases E.la with z | ⟨b', z⟩
        · exact .inl (List.mem_cons_of_mem _ z)
        · rw [ea] at z
          injection z with z
          injection z with z1 z2
          rw [← z1]
          split
          · exact .inl List.mem_cons_self
          · exact .inr ⟨b, e⟩
      · rcases E.ga with z | ⟨b', z⟩
        · exact .inl (List.mem_cons_of_mem _ z)
        · rw [ea] at z
          injection z with z
          injection z with z1 z2
          rw [← z2]
          split
          · exact .inl List.mem_cons_self
          · exact .inr ⟨a, e⟩
theorem Ends.one {x : S4} {vs : List Int} {l g l' g' : Int} (a : Ends x vs l g) (b : Ends x vs l' g') : l = l' ∧ g = g' := by
  constructor
  · have h1 : l' ≤ l := by
      rcases a.la with z | ⟨c, z⟩
      · exact b.lo _ z
      · exact (b.xo _ _ z).1
    have h2 : l ≤ l' := by
      rcases b.la with z | ⟨c, z⟩
      · exact a.lo _ z
      · exact (a.xo _ _ z).1
    omega
  · have h1 : g ≤ g' := by
      rcases a.ga with z | ⟨c, z⟩
      · exact b.hi _ z
      · exact (b.xo _ _ z).2
    have h2 : g' ≤ g := by
      rcases b.ga with z | ⟨c, z⟩
      · exact a.hi _ z
      · exact (a.xo _ _ z).2
    omega
/-- values that lead from x to y -/
theorem adds_eq {x y : S4} {vs : List Int} {l g : Int} (hc : y.c = x.c + vs.length) (ht : y.t = x.t + vs.sum) (he : y.e = some (l, g)) (E : Ends x vs l g) : adds x vs = y := by
  have ne : vs ≠ [] ∨ x.e ≠ none := by
    rcases E.la with z | ⟨b, z⟩
    · exact .inl (fun e => by rw [e] at z; cases z)
    · exact .inr (by rw [z]; simp)
  obtain ⟨l', g', h1, E'⟩ := adds_e vs x ne
  obtain ⟨rfl, rfl⟩ := E.one E'
  have h2 := adds_c vs x
  have h3 := adds_t vs x
  cases ha : adds x vs
  rw [ha] at h1 h2 h3
  cases y
  simp_all
/-! even values -/
def evenM (many total lo hi : Int) : Option (List Int) :=
  if many = 0 then (if total = 0 then some [] else none)
  else if many < 0 ∨ ¬ (lo * many ≤ total ∧ total ≤ hi * many) then none
  else some (List.replicate (many - total % many).toNat (total / many) ++ List.replicate (total % many).toNat (total / many + 1))
theorem sum_rep (n : Nat) (v : Int) : (List.replicate n v).sum = n * v := by
  induction n with
  | zero => simp
  | succ n ih =>
    rw [List.replicate_succ, List.sum_cons, ih]
    have e : ((n + 1 : Nat) : Int) * v = (n : Int) * v + v := by
      rw [show ((n + 1 : Nat) : Int) = (n : Int) + 1 by omega, Int.add_mul]; omega
    omega
theorem sum_app (xs ys : List Int) : (xs ++ ys).sum = xs.sum + ys.sum := by
  induction xs with
  | nil => simp
  | cons a r ih => rw [List.cons_append, List.sum_cons, List.sum_cons, ih]; omega
structure Even (many total lo hi : Int) (zs : List Int) : Prop where
  len : (zs.length : Int) = many
  sum : zs.sum = total
  lo : ∀ v ∈ zs, lo ≤ v
  hi : ∀ v ∈ zs, v ≤ hi
  srt : zs.Pairwise (· ≤ ·)
theorem even_ok {many total lo hi : Int} {zs : List Int} (h : evenM many total lo hi = some zs) : Even many total lo hi zs := by
  unfold evenM at h
  by_cases h0 : many = 0
  · rw [if_pos h0] at h
    by_cases h1 : total = 0
    · rw [if_pos h1] at h
      cases h
      exact ⟨by simp [h0], by simp [h1], fun _ z => (nomatch z), fun _ z => (nomatch z), List.Pairwise.nil⟩
    · rw [if_neg h1] at h; cases h
  · rw [if_neg h0] at h
    by_cases h1 : many < 0 ∨ ¬ (lo * many ≤ total ∧ total ≤ hi * many)
    · rw [if_pos h1] at h; cases h
    · rw [if_neg h1] at h
      cases h
      have hm : 0 < many := by omega
      have hlo : lo * many ≤ total := by omega
      have hhi : total ≤ hi * many := by omega
      have e1 := Int.emod_nonneg total (show many ≠ 0 by omega)
      have e2 := Int.emod_lt_of_pos total hm
      have e3 := Int.mul_ediv_add_emod total many
      have b1 : lo ≤ total / many := (Int.le_ediv_iff_mul_le hm).mpr hlo
      have b2 : total / many ≤ hi := by
        have := Int.ediv_le_ediv hm hhi
        rwa [Int.mul_ediv_cancel _ (by omega)] at this
      have b3 : total % many ≠ 0 → total / many + 1 ≤ hi := fun hz => by
        rcases Int.lt_or_le (total / many) hi with z | z
        · omega
        · exfalso
          have e : total / many = hi := by omega
          have : many * (total / many) = hi * many := by rw [e, Int.mul_comm]
          omega
      refine ⟨?_, ?_, fun v hv => ?_, fun v hv => ?_, ?_⟩
      · rw [List.length_append, List.length_replicate, List.length_replicate]; omega
      · rw [sum_app, sum_rep, sum_rep]
        have k1 : (((many - total % many).toNat : Nat) : Int) = many - total % many := by omega
        have k2 : (((total % many).toNat : Nat) : Int) = total % many := by omega
        rw [k1, k2, Int.sub_mul, Int.mul_add]
        have : total % many * (total / many) = total % many * (total / many) := rfl
        omega
      · rcases List.mem_append.mp hv with z | z
        · rw [(List.mem_replicate.mp z).2]; exact b1
        · rw [(List.mem_replicate.mp z).2]; omega
      · rcases List.mem_append.mp hv with z | z
        · rw [(List.mem_replicate.mp z).2]; exact b2
        · obtain ⟨z1, z2⟩ := List.mem_replicate.mp z
          rw [z2]
          exact b3 (by omega)
      · rw [List.pairwise_append]
        refine ⟨List.pairwise_replicate.mpr (.inr (Int.le_refl _)), List.pairwise_replicate.mpr (.inr (Int.le_refl _)), fun a ha b hb => ?_⟩
        rw [(List.mem_replicate.mp ha).2, (List.mem_replicate.mp hb).2]
        omega
end Pl
set_option linter.all false
namespace Pl
def newE (x : S4) (l g : Int) : List Int := match x.e with
  | none => if g = l then [l] else [l, g]
  | some (a, b) => (if l = a ∨ l = b then [] else [l]) ++ (if g = a ∨ g = b ∨ g = l then [] else [g])
def widen (x : S4) (l g : Int) : Bool := match x.e with
  | none => true
  | some (a, b) => decide (l ≤ a) && (decide (a ≤ b) && decide (b ≤ g))
def planM (x y : S4) (lo hi : Int) : Option (List Int) :=
  if y.c - x.c = 0 then (if x = y then some [] else none)
  else if ¬ (1 ≤ y.c - x.c ∧ y.c - x.c ≤ 200) then none
  else match y.e with
    | none => none
    | some (l, g) =>
      if widen x l g = false then none
      else if ((newE x l g).all fun v => decide (lo ≤ v) && decide (v ≤ hi)) = false then none
      else (evenM (y.c - x.c - (newE x l g).length) (y.t - x.t - (newE x l g).sum) (if l > lo then l else lo) (if g < hi then g else hi)).map (newE x l g ++ ·)
theorem newE_mem {x : S4} {l g v : Int} (h : v ∈ newE x l g) : v = l ∨ v = g := by
  unfold newE at h
  split at h
  · split at h
    · exact .inl (by simpa using h)
    · simpa using h
  · rcases List.mem_append.mp h with z | z
    · split at z
      · cases z
      · exact .inl (by simpa using z)
    · split at z
      · cases z
      · exact .inr (by simpa using z)
/-- what a plan is made of -/
structure Made (x y : S4) (lo hi : Int) (zs : List Int) : Prop where
  len : (zs.length : Int) = y.c - x.c
  lo : ∀ v ∈ zs, lo ≤ v
  hi : ∀ v ∈ zs, v ≤ hi
  to : adds x zs = y
  n : zs.length ≤ 200
theorem newE_cases (x : S4) (l g : Int) : newE x l g = [] ∨ newE x l g = [l] ∨ newE x l g = [g] ∨ newE x l g = [l, g] := by
  unfold newE
  split
  · split
    · exact .inr (.inl rfl)
    · exact .inr (.inr (.inr rfl))
  · split
    · split
      · exact .inl rfl
      · exact .inr (.inr (.inl rfl))
    · split
      · exact .inr (.inl rfl)
      · exact .inr (.inr (.inr rfl))
/-- the parts of a plan -/
theorem plan_parts {x y : S4} {lo hi : Int} {zs : List Int} (h : planM x y lo hi = some zs) : (zs = [] ∧ x = y) ∨ ∃ l g ws, y.e = some (l, g) ∧ 1 ≤ y.c - x.c ∧ y.c - x.c ≤ 200 ∧ widen x l g = true ∧ (∀ v ∈ newE x l g, lo ≤ v ∧ v ≤ hi) ∧
    Even (y.c - x.c - (newE x l g).length) (y.t - x.t - (newE x l g).sum) (if l > lo then l else lo) (if g < hi then g else hi) ws ∧ zs = newE x l g ++ ws := by
  unfold planM at h
  by_cases h0 : y.c - x.c = 0
  · rw [if_pos h0] at h
    by_cases h1 : x = y
    · rw [if_pos h1] at h
      cases h
      exact .inl ⟨rfl, h1⟩
    · rw [if_neg h1] at h; cases h
  · rw [if_neg h0] at h
    by_cases h1 : ¬ (1 ≤ y.c - x.c ∧ y.c - x.c ≤ 200)
    · rw [if_pos h1] at h; cases h
    · rw [if_neg h1] at h
      cases he : y.e with
      | none => rw [he] at h; cases h
      | some p =>
        obtain ⟨l, g⟩ := p
        rw [he] at h
        dsimp only at h
        by_cases h2 : widen x l g = false
        · rw [if_pos h2] at h; cases h
        · rw [if_neg h2] at h
          by_cases h3 : ((newE x l g).all fun v => decide (lo ≤ v) && decide (v ≤ hi)) = false
          · rw [if_pos h3] at h; cases h
          · rw [if_neg h3] at h
            have h3' : ((newE x l g).all fun v => decide (lo ≤ v) && decide (v ≤ hi)) = true := by simpa using h3
            have eb : ∀ v ∈ newE x l g, lo ≤ v ∧ v ≤ hi := fun v hv => by
              have := List.all_eq_true.mp h3' v hv
              simpa using this
            cases hq : evenM (y.c - x.c - (newE x l g).length) (y.t - x.t - (newE x l g).sum) (if l > lo then l else lo) (if g < hi then g else hi) with
            | none => rw [hq] at h; cases h
            | some ws =>
              rw [hq] at h
              exact .inr ⟨l, g, ws, rfl, by omega, by omega, by simpa using h2, eb, even_ok hq, by simpa using h.symm⟩
/-- a state's ends stand right -/
def Lg (x : S4) : Prop := ∀ a b, x.e = some (a, b) → a ≤ b
theorem plan_made {x y : S4} {lo hi : Int} {zs : List Int} (hy : Lg y) (h : planM x y lo hi = some zs) : Made x y lo hi zs := by
  rcases plan_parts h with ⟨rfl, rfl⟩ | ⟨l, g, ws, he, c1, c2, hw, eb, E, rfl⟩
  · exact ⟨by simp, fun _ z => (nomatch z), fun _ z => (nomatch z), rfl, by simp⟩
  · have lg := hy l g he
    have l1 : (if l > lo then l else lo) ≥ l ∧ (if l > lo then l else lo) ≥ lo := by split <;> omega
    have l2 : (if g < hi then g else hi) ≤ g ∧ (if g < hi then g else hi) ≤ hi := by split <;> omega
    have win : ∀ a b, x.e = some (a, b) → l ≤ a ∧ a ≤ b ∧ b ≤ g := fun a b e => by
      unfold widen at hw
      rw [e] at hw
      simpa using hw
    have wl : ∀ v ∈ ws, l ≤ v ∧ v ≤ g := fun v hv => ⟨by have := E.lo v hv; omega, by have := E.hi v hv; omega⟩
    have len : ((newE x l g ++ ws).length : Int) = y.c - x.c := by rw [List.length_append]; have := E.len; omega
    refine ⟨len, fun v hv => ?_, fun v hv => ?_, ?_, by omega⟩
    · rcases List.mem_append.mp hv with z | z
      · exact (eb v z).1
      · have := E.lo v z; omega
    · rcases List.mem_append.mp hv with z | z
      · exact (eb v z).2
      · have := E.hi v z; omega
    · refine adds_eq (l := l) (g := g) (by omega) (by rw [sum_app, E.sum]; omega) he ⟨fun v hv => ?_, fun v hv => ?_, fun a b e => ?_, ?_, ?_⟩
      · rcases List.mem_append.mp hv with z | z
        · rcases newE_mem z with z | z <;> omega
        · exact (wl v z).1
      · rcases List.mem_append.mp hv with z | z
        · rcases newE_mem z with z | z <;> omega
        · exact (wl v z).2
      · have := win a b e; omega
      · cases hx : x.e with
        | none =>
          refine .inl (List.mem_append_left _ ?_)
          unfold newE
          rw [hx]
          dsimp only
          split <;> simp
        | some p =>
          obtain ⟨a, b⟩ := p
          have := win a b hx
          by_cases z : l = a ∨ l = b
          · refine .inr ⟨b, ?_⟩
            rw [show l = a by omega]
          · refine .inl (List.mem_append_left _ ?_)
            unfold newE
            rw [hx]
            simp [z]
      · cases hx : x.e with
        | none =>
          refine .inl (List.mem_append_left _ ?_)
          unfold newE
          rw [hx]
          dsimp only
          split <;> simp_all
        | some p =>
          obtain ⟨a, b⟩ := p
          have := win a b hx
          by_cases z : g = a ∨ g = b
          · refine .inr ⟨a, ?_⟩
            rw [show g = b by omega]
          · by_cases z2 : g = l
            · refine .inl (List.mem_append_left _ ?_)
              unfold newE
              rw [hx]
              have z3 : ¬ (l = a ∨ l = b) := by omega
              simp [z3, z2]
            · refine .inl (List.mem_append_left _ ?_)
              unfold newE
              rw [hx]
              have z3 : ¬ (g = a ∨ g = b ∨ g = l) := by omega
              simp [z3]
theorem getD_le {ws : List Int} (h : ws.Pairwise (· ≤ ·)) {i j : Nat} (hij : i ≤ j) (hj : j < ws.length) : ws.getD i 0 ≤ ws.getD j 0 := by
  rcases Nat.lt_or_ge i j with z | z
  · have := List.pairwise_iff_getElem.mp h i j (by omega) hj z
    simpa [List.getD_eq_getElem?_getD, List.getElem?_eq_getElem hj, List.getElem?_eq_getElem (show i < ws.length by omega)] using this
  · rw [show i = j by omega]; exact Int.le_refl _
/-- but for one of the first two it stands in order -/
theorem plan_near {x y : S4} {lo hi : Int} {zs : List Int} (h : planM x y lo hi = some zs) : ∃ out, out < 2 ∧ ∀ i j, i ≤ j → j < zs.length → i ≠ out → j ≠ out → zs.getD i 0 ≤ zs.getD j 0 := by
  rcases plan_parts h with ⟨rfl, rfl⟩ | ⟨l, g, ws, he, c1, c2, hw, eb, E, rfl⟩
  · exact ⟨0, by omega, fun i j _ hj => by simp at hj⟩
  · have l1 : (if l > lo then l else lo) ≥ l := by split <;> omega
    have one : ∀ a : Int, ∃ out, out < 2 ∧ ∀ i j, i ≤ j → j < (a :: ws).length → i ≠ out → j ≠ out → (a :: ws).getD i 0 ≤ (a :: ws).getD j 0 := fun a => by
      refine ⟨0, by omega, fun i j hij hj hi0 hj0 => ?_⟩
      obtain ⟨i', rfl⟩ : ∃ i', i = i' + 1 := ⟨i - 1, by omega⟩
      obtain ⟨j', rfl⟩ : ∃ j', j = j' + 1 := ⟨j - 1, by omega⟩
      simp only [List.length_cons] at hj
      have := getD_le E.srt (i := i') (j := j') (by omega) (by omega)
      simpa using this
    rcases newE_cases x l g with e | e | e | e
    · rw [e]
      exact ⟨0, by omega, fun i j hij hj _ _ => getD_le E.srt hij hj⟩
    · rw [e]; exact one l
    · rw [e]; exact one g
    · rw [e]
      refine ⟨1, by omega, fun i j hij hj hi1 hj1 => ?_⟩
      rcases Nat.eq_zero_or_pos j with z | z
      · rw [show i = j by omega]; exact Int.le_refl _
      · obtain ⟨j', rfl⟩ : ∃ j', j = j' + 2 := ⟨j - 2, by omega⟩
        simp only [List.length_append, List.length_cons, List.length_nil] at hj
        have hjw : j' < ws.length := by omega
        rcases Nat.eq_zero_or_pos i with z | z
        · subst z
          have := E.lo (ws.getD j' 0) (by rw [List.getD_eq_getElem?_getD, List.getElem?_eq_getElem hjw]; exact List.getElem_mem hjw)
          show l ≤ ws.getD j' 0
          omega
        · obtain ⟨i', rfl⟩ : ∃ i', i = i' + 2 := ⟨i - 2, by omega⟩
          have := getD_le E.srt (i := i') (j := j') (by omega) hjw
          exact this
end Pl
set_option Elab.async false
set_option linter.all false
set_option maxRecDepth 100000
namespace Pr
open PySem L2 PyProof.Rows Pl
def loV (x : S4) : V := match x.e with | none => .non | some p => .int p.1
def hiV (x : S4) : V := match x.e with | none => .non | some p => .int p.2
def stV (x : S4) : List V := [.int x.c, .int x.t, loV x, hiV x]
inductive OkS : S4 → Prop
  | non : OkS ⟨0, 0, none⟩
  | som (c t l g : Int) (c1 : 1 ≤ c) (c2 : c ≤ W30) (l1 : -W30 < l) (g1 : g < W30) (lg : l ≤ g) (t1 : l * (c - 1) + g ≤ t) (t2 : t ≤ g * (c - 1) + l) : OkS ⟨c, t, some (l, g)⟩
/-- what the check lets through is a state -/
theorem okS_of {o : Option (List V)} (h : okSt o = true) : ∃ x : S4, o = some (stV x) ∧ OkS x := by
  match o, h with
  | some [c, t, l, g], h =>
    have h' : okV c t l g = true := h
    unfold okV at h'
    cases ec : wh c with
    | none => rw [ec] at h'; cases h'
    | some n =>
      rw [ec] at h'
      cases et : wh t with
      | none => rw [et] at h'; cases h'
      | some m =>
        rw [et] at h'
        cases wh_some ec
        cases wh_some et
        dsimp only at h'
        by_cases n0 : n = 0
        · rw [if_pos n0] at h'
          simp only [Bool.and_eq_true, decide_eq_true_eq] at h'
          obtain ⟨_, ⟨rfl, rfl⟩, rfl⟩ := h'
          subst n0
          exact ⟨⟨0, 0, none⟩, rfl, .non⟩
        · rw [if_neg n0] at h'
          unfold okL at h'
          cases el : wh l with
          | none => rw [el] at h'; simp at h'
          | some i =>
            rw [el] at h'
            cases eg : wh g with
            | none => rw [eg] at h'; simp at h'
            | some j =>
              rw [eg] at h'
              cases wh_some el
              cases wh_some eg
              unfold ok4 at h'
              simp only [Bool.and_eq_true, decide_eq_true_eq] at h'
              obtain ⟨⟨a1, a2⟩, ⟨⟨⟨b1, b2⟩, b3, b4⟩, b5⟩, b6, b7⟩ := h'
              exact ⟨⟨n, m, some (i, j)⟩, rfl, .som n m i j (by omega) a2 b1 b4 b5 b6 b7⟩
end Pr
set_option Elab.async false
set_option linter.all false
set_option maxRecDepth 100000
namespace Pr
open PySem L2 PyProof.Rows
theorem _root_.L2.Same.but_ne' {H H' : Hp} {D : Addr} {o : HO} (s : Same H H') (h : H D = none) : Same H (L2.upd H' D o) := fun b u e => by
  rw [L2.upd_ne (ne_of_none e h)]
  exact s _ _ e
theorem okSt_total {o : Option (List V)} (h : okSt o = true) : ∃ c m l g, o = some [c, .int m, l, g] := by
  match o, h with
  | some [c, t, l, g], h =>
    have h' : okV c t l g = true := h
    unfold okV at h'
    cases ec : wh c with
    | none => rw [ec] at h'; cases h'
    | some n =>
      rw [ec] at h'
      cases et : wh t with
      | none => rw [et] at h'; cases h'
      | some m => exact ⟨c, m, l, g, by rw [wh_some et]⟩
section
variable {P : Program} {w : World} {K : PySem.W.Frag} {mg : Str → Option Value} {base : Heap} {C : Addr}
inductive sp_reach (mg : Str → Option Value) (vs : List V) (H : Hp) (Q : VK) (E : XK) : Prop
  | mk (v : V) (o : Option (List V)) (n : Nat) (lo hi : V) (e : vs = [v, .int (n : Int), lo, hi]) (h : Ls H v o) (kd : ∀ xs, o = some xs → ∀ x ∈ xs, Kd H x) (kl : Kd H lo) (kh : Kd H hi) (hn : n ≤ 200)
      (q : okSt o = true → okBd lo hi = true → ∀ D H', Same H H' → Q (.ref D) H') (x1 : okSt o = false → ∀ H', Same H H' → E (.ref (cOf mg "NoState")) none H') (x2 : okSt o = true → okBd lo hi = false → ∀ H', Same H H' → E (.ref (cOf mg "NoBounds")) none H') : sp_reach mg vs H Q E
theorem sc_reach : FnScope ["state", "many", "low", "high"] ["state", "many", "low", "high"] (defScope s_reach) := ⟨rfl, rfl, rfl, by decide +kernel, rfl, by decide +kernel, by decide +kernel⟩
theorem okBd_int {l h : V} (e : okBd l h = true) : ∃ i j, l = .int i ∧ h = .int j := by
  unfold okBd at e
  cases el : wh l with
  | none => rw [el] at e; cases e
  | some i =>
    rw [el] at e
    cases eh : wh h with
    | none => rw [eh] at e; cases e
    | some j => exact ⟨i, j, wh_some el, wh_some eh⟩
set_option maxHeartbeats 4000000 in
theorem reach (T : Txt K mg C) : CanX P w K mg base 5 "reach" ["state", "many", "low", "high"] (sp_reach mg) := by
  refine fn_canX T.f_reach sc_reach (fun vs H Q E h => ?_) (fun f cdv A outer s H vs Q E hr W h => ?_)
  · obtain ⟨v, o, n, lo, hi, rfl, _⟩ := h
    rfl
  · obtain ⟨v, o, n, lo, hi, rfl, hL, kd, kl, kh, hn, q, x1, x2⟩ := h
    refine ⟨_, (pss_cons (ps_expr (pe_canX (need_state T) W hr (pa1 (pv 0))))
        (pss_cons (ps_expr (pe_canX (need_bounds T) W hr (pa2 (pv 2) (pv 3))))
        (pss_one (ps_ret (pe_lc rfl (lcS sc_reach) (pi_range1 rfl T.b_range (pa1 (pe_op op_add (pv 1) pe_int))) (fun _ _ _ _ => pts_nil) (fun _ _ _ _ => pe_tup (pa2 (pe_op op_add (pe_ix ix_ob (pv 1) pe_int (fun _ _ => rfl)) (pe_op op_mul (pv 0) (pv 3))) (pe_op op_add (pe_ix ix_ob (pv 1) pe_int (fun _ _ => rfl)) (pe_op op_mul (pv 0) (pv 4)))))))))), ?_⟩
    refine ⟨_, rfl, v, o, rfl, hL, kd, fun ho H1 s1 => ?_, x1⟩
    refine ⟨_, rfl, _, rfl, lo, hi, rfl, kl.same s1, kh.same s1, fun hb => ?_, fun hb => x2 ho hb _ s1⟩
    obtain ⟨c, m, l, g, rfl⟩ := okSt_total ho
    obtain ⟨a, rfl, hs⟩ := Ls.some hL
    obtain ⟨i1, j1, rfl, rfl⟩ := okBd_int hb
    obtain ⟨ob, ha, hob⟩ : ∃ ob, H1 a = some ob ∧ Ob ob [c, .int m, l, g] := by
      rcases hs.same s1 with h | h
      · exact ⟨_, h, .inl rfl⟩
      · exact ⟨_, h, .inr rfl⟩
    refine ⟨_, rfl, _, _, rfl, rfl, (n : Int) + 1, rfl, by omega, by omega, fun D hD => ?_⟩
    refine lc_range (n := ((n : Int) + 1).toNat) (fun i zs H2 => H2 D = some (.lst zs) ∧ Same H1 H2 ∧ zs.length = i) ⟨upd_same, Same.upd hD, rfl⟩ (fun i zs H2 h => h.1) (fun zs H2 h => ?_) fun i zs H2 hi' h => ?_
    · exact q ho hb D H2 (s1.trans h.2.1)
    · obtain ⟨z1, z2, z3⟩ := h
      have ha2 := z2 _ _ ha
      have il : i < 2 ^ 63 := by omega
      refine yesI ⟨_, rfl, a, ob, _, _, _, rfl, rfl, ha2, hob, rfl, _, rfl, _, rfl, _, _, rfl, rfl, .inl ⟨by omega, by omega⟩, _, _, rfl, rfl, ?_⟩
      refine ⟨_, rfl, a, ob, _, _, _, rfl, rfl, ha2, hob, rfl, _, rfl, _, rfl, _, _, rfl, rfl, .inl ⟨by omega, by omega⟩, _, _, rfl, rfl, two_line, fun p hp => ?_⟩
      have s3 : Same H2 (upd H2 p (.tup [.int (m + (0 + (i : Int)) * i1), .int (m + (0 + (i : Int)) * j1)])) := Same.upd hp
      exact LcNx.mk hi' (by omega) (by omega) (s3 _ _ z1) ⟨upd_same, (z2.trans s3).but_ne' hD, by rw [List.length_append, z3]; rfl⟩
end
end Pr
set_option Elab.async false
set_option linter.all false
set_option maxRecDepth 100000
namespace L2
open PySem PySem.Spec PyProof.Rows
def ScNx (P : Program) (w : World) (n i : Nat) (D : Addr) (ks : List Key) (Pv : Nat → List Key → Hp → Prop) (y : V) (H4 : Hp) : Prop :=
  H4 D = some (SetH P w D ks) ∧ ks.length < 1000 ∧ ∃ k, y = kV k ∧ ∃ m', m' < n - i ∧ (m' = n - (i + 1) ∧ i + 1 ≤ n ∧ Pv (i + 1) (addK ks k) (upd H4 D (SetH P w D (addK ks k))))
def ScNo (n i : Nat) (ks : List Key) (Pv : Nat → List Key → Hp → Prop) (H3 : Hp) : Prop := ∃ m', m' < n - i ∧ (m' = n - (i + 1) ∧ i + 1 ≤ n ∧ Pv (i + 1) ks H3)
theorem ScNx.mk {P : Program} {w : World} {n i : Nat} {D : Addr} {ks : List Key} {Pv : Nat → List Key → Hp → Prop} {k : Key} {H4 : Hp} (hi : i < n) (hl : ks.length < 1000) (h : H4 D = some (SetH P w D ks)) (p : Pv (i + 1) (addK ks k) (upd H4 D (SetH P w D (addK ks k)))) : ScNx P w n i D ks Pv (kV k) H4 :=
  ⟨h, hl, k, rfl, n - (i + 1), by omega, rfl, hi, p⟩
theorem ScNo.mk {n i : Nat} {ks : List Key} {Pv : Nat → List Key → Hp → Prop} {H3 : Hp} (hi : i < n) (p : Pv (i + 1) ks H3) : ScNo n i ks Pv H3 := ⟨n - (i + 1), by omega, rfl, hi, p⟩
theorem sc_it {P : Program} {w : World} {J : It} {a : Addr} {o : HO} {xs : List V} {tc : TT} {te : TE} {g : TG} {k : Nat} {σ : St} {D : Addr} {Fin : Hp → Prop} {H : Hp} (hJ : ItOk J a o xs) (Pv : Nat → List Key → Hp → Prop) (h0 : Pv 0 [] (upd H D (SetH P w D [])))
    (hD : ∀ i ks H, Pv i ks H → H D = some (SetH P w D ks) ∧ H a = some o) (hend : ∀ ks H, Pv xs.length ks H → Fin H)
    (hgo : ∀ i x ks H (u : St), u.length = k → i < xs.length → xs[i]? = some x → Pv i ks H → g x (u ++ σ) H fun σ2 H2 => (∃ u2 : St, u2.length = k ∧ σ2 = u2 ++ σ) ∧ tc σ2 H2 fun b H3 => if b = true then te σ2 H3 (ScNx P w xs.length i D ks Pv) else ScNo xs.length i ks Pv H3) : scGo P w k g tc te σ J D Fin H := by
  refine ⟨fun i m ks H => m = xs.length - i ∧ i ≤ xs.length ∧ Pv i ks H, ⟨xs.length, rfl, Nat.zero_le _, h0⟩, ?_⟩
  rintro i m ks H ⟨rfl, hi, p⟩
  obtain ⟨d1, d2⟩ := hD i ks H p
  refine ⟨d1, ?_⟩
  obtain ⟨j1, j2⟩ := hJ H d2
  by_cases hlt : i < xs.length
  · obtain ⟨g1, g2⟩ := j1 i xs[i] (List.getElem?_eq_getElem hlt)
    refine .inr ⟨g1, fun x H' u hu y => ?_⟩
    obtain ⟨rfl, rfl⟩ := g2 x H' y
    exact hgo i _ ks _ u hu hlt (List.getElem?_eq_getElem hlt) p
  · have e : i = xs.length := by omega
    subst e
    exact .inl ⟨j2, hend ks H p⟩
theorem op_notInK {X : Cx} (K : PySem.W.Frag) (e : X.K = K := by rfl) : OpR X (compareOp .NotIn) (rIn K true) := by subst e; exact op_notIn_seq
end L2
namespace L2
end L2
namespace Pr
open PySem L2 PyProof.Rows Pl
theorem OkS.lg {x : S4} (h : OkS x) : Lg x := by
  intro a b e
  cases h with
  | non => cases e
  | som c t l g c1 c2 l1 g1 lg t1 t2 => cases e; exact lg
/-- a state, as a tuple or a list -/
inductive StG (H : Hp) (v : V) (x : S4) : Prop
  | mk (a : Addr) (o : HO) (e : v = .ref a) (h : H a = some o) (ob : Ob o (stV x)) : StG H v x
theorem _root_.L2.Same.none {H H' : Hp} {D : Addr} (s : Same H H') (h : H' D = none) : H D = none := by
  cases e : H D with
  | none => rfl
  | some o => rw [s _ _ e] at h; cases h
section
variable {P : Program} {w : World} {K : PySem.W.Frag} {mg : Str → Option Value} {base : Heap} {C : Addr}
/-! ### states -/
/-- bounds -/
structure OkB (lo hi : Int) : Prop where
  l : -W30 < lo
  h : hi < W30
  lh : lo ≤ hi
/-- may_widen, of a goal that has values -/
inductive sp_may_widen (vs : List V) (H : Hp) (Q : VK) (E : XK) : Prop
  | mk (v u : V) (x y : S4) (l g : Int) (e : vs = [v, u]) (hx : StG H v x) (hy : StG H u y) (ok : OkS x) (ye : y.e = some (l, g)) (q : Q (.bl (widen x l g)) H) : sp_may_widen vs H Q E
theorem sc_may_widen : FnScope ["state", "goal"] ["state", "goal"] (defScope s_may_widen) := ⟨rfl, rfl, rfl, by decide +kernel, rfl, by decide +kernel, by decide +kernel⟩
theorem stV_lo {y : S4} {l g : Int} (h : y.e = some (l, g)) : loV y = .int l := by unfold loV; rw [h]
theorem stV_hi {y : S4} {l g : Int} (h : y.e = some (l, g)) : hiV y = .int g := by unfold hiV; rw [h]
theorem may_widen (T : Txt K mg C) : Can P w K mg base 1 "may_widen" ["state", "goal"] sp_may_widen := by
  refine fn_can T.f_may_widen sc_may_widen (fun vs H Q E h => ?_) (fun f cdv A outer s H vs Q E hr h => ?_)
  · obtain ⟨v, u, x, y, l, g, rfl, _⟩ := h
    rfl
  · obtain ⟨v, u, x, y, l, g, rfl, ⟨a, o, rfl, ha, ob⟩, ⟨b, o', rfl, hb, ob'⟩, ok, ye, q⟩ := h
    refine ⟨_, pss_one (ps_ret (pe_or (pe_cmpR op_eq (pe_ix ix_ob (pv 0) pe_int (fun _ _ => rfl)) pe_int (nomark _))
      (pe_one (pe_chain3 op_le op_le op_le (pe_ix ix_ob (pv 1) pe_int (fun _ _ => rfl)) (pe_ix ix_ob (pv 0) pe_int (fun _ _ => rfl)) (pe_ix ix_ob (pv 0) pe_int (fun _ _ => rfl)) (pe_ix ix_ob (pv 1) pe_int (fun _ _ => rfl)))))), ?_⟩
    refine ⟨_, rfl, a, o, _, _, _, rfl, rfl, ha, ob, rfl, rfl, _, rfl, ?_⟩
    cases ok with
    | non => exact iteC (eqI rfl) q
    | som c t l0 g0 c1 c2 l1 g1 lg t1 t2 =>
      refine iteN (neI (show c ≠ 0 by omega)) ?_
      have e2 : atI (stV y) 2 = some (.int l) := by rw [← stV_lo ye]; rfl
      have e3 : atI (stV y) 3 = some (.int g) := by rw [← stV_hi ye]; rfl
      refine ⟨_, rfl, b, o', _, _, _, rfl, rfl, hb, ob', e2, _, rfl, a, o, _, _, _, rfl, rfl, ha, ob, rfl, _, _, rfl, rfl, _, rfl, ?_⟩
      have q' : Q (.bl (decide (l ≤ l0) && (decide (l0 ≤ g0) && decide (g0 ≤ g)))) H := q
      refine iteB (fun h => ?_) (fun h => ?_)
      · rw [h, Bool.true_and] at q'
        refine ⟨_, rfl, a, o, _, _, _, rfl, rfl, ha, ob, rfl, _, _, rfl, rfl, _, rfl, ?_⟩
        refine iteB (fun h2 => ?_) (fun h2 => ?_)
        · rw [h2, Bool.true_and] at q'
          exact ⟨_, rfl, b, o', _, _, _, rfl, rfl, hb, ob', e3, _, _, rfl, rfl, q'⟩
        · rw [h2, Bool.false_and] at q'
          exact q'
      · rw [h, Bool.false_and] at q'
        exact q'
/-- even_values -/
inductive sp_even (vs : List V) (H : Hp) (Q : VK) (E : XK) : Prop
  | mk (many total lo hi : Int) (e : vs = [.int many, .int total, .int lo, .int hi]) (m1 : many.natAbs ≤ 1000) (l : lo.natAbs < 2 ^ 300) (h : hi.natAbs < 2 ^ 300)
      (q0 : evenM many total lo hi = none → Q .non H) (q1 : ∀ zs, evenM many total lo hi = some zs → ∀ D H', Same H H' → H D = none → H' D = some (.lst (zs.map V.int)) → Q (.ref D) H') : sp_even vs H Q E
theorem sc_even : FnScope ["many", "total", "low", "high", "each", "over"] ["many", "total", "low", "high"] (defScope s_even_values) := ⟨rfl, rfl, rfl, by decide +kernel, rfl, by decide +kernel, by decide +kernel⟩
theorem rep_flat (v : Int) (n : Nat) : (List.replicate n [V.int v]).flatten = (List.replicate n v).map V.int := by
  induction n with
  | zero => rfl
  | succ n ih => rw [List.replicate_succ, List.replicate_succ, List.flatten_cons, ih]; rfl
set_option maxHeartbeats 4000000 in
theorem even_values (T : Txt K mg C) : Can P w K mg base 1 "even_values" ["many", "total", "low", "high"] sp_even := by
  refine fn_can T.f_even_values sc_even (fun vs H Q E h => ?_) (fun f cdv A outer s H vs Q E hr h => ?_)
  · obtain ⟨many, total, lo, hi, rfl, _⟩ := h
    rfl
  · obtain ⟨many, total, lo, hi, rfl, m1, hl, hh, q0, q1⟩ := h
    refine ⟨_, pss_cons (ps_if (pt_cmpR op_eq (pv 0) pe_int (nomark _)) (pss_one (ps_ret (pe_ifExp (pt_cmpR op_eq (pv 1) pe_int (nomark _)) (pe_lst pa_nil) pe_non))) pss_nil)
      (pss_cons (ps_if (PW.pt (pw_or (pt_cmpR op_lt (pv 0) pe_int (nomark _)) (pw_or1 (pt_not (pt_chain op_le op_le (pe_op op_mulB (pv 2) (pv 0)) (pv 1) (pe_op op_mulB (pv 3) (pv 0))))))) (pss_one (ps_ret pe_non)) pss_nil)
      (pss_cons (ps_asg (pe_b call_divmodB T.b_divmod boot_divmod (pa2 (pv 1) (pv 0))) (pg_tupK K rfl (pgs_cons (pg_name (i := 4) sc_even.nd rfl (Or.inl rfl)) (pgs_cons (pg_name (i := 5) sc_even.nd rfl (Or.inl rfl)) pgs_nil))))
      (pss_one (ps_ret (pe_op op_cat (pe_op op_rep (pe_lst (pa1 (pv 4))) (pe_op op_sub (pv 0) (pv 5))) (pe_op op_rep (pe_lst (pa1 (pe_op op_add (pv 4) pe_int))) (pv 5))))))), ?_⟩
    have mb : many.natAbs < 2 ^ 300 := Nat.lt_of_le_of_lt m1 (by decide +kernel)
    unfold evenM at q0 q1
    refine ⟨_, rfl, rfl, _, rfl, ?_⟩
    by_cases h0 : many = 0
    · refine iteC (eqI h0) ?_
      rw [if_pos h0] at q0 q1
      refine ⟨_, rfl, rfl, _, rfl, ?_⟩
      by_cases h1 : total = 0
      · refine iteC (eqI h1) ⟨Nat.zero_le _, fun D hD => ?_⟩
        rw [if_pos h1] at q1
        exact q1 [] rfl D _ (Same.upd hD) hD upd_same
      · refine iteN (neI h1) ?_
        rw [if_neg h1] at q0
        exact q0 rfl
    · refine iteN (neI h0) ?_
      rw [if_neg h0] at q0 q1
      refine ⟨_, rfl, _, _, rfl, rfl, _, rfl, ?_⟩
      by_cases hn : many < 0
      · rw [if_pos (.inl hn)] at q0
        exact iteC (decide_eq_true hn) (iteT (q0 rfl))
      refine iteN (decide_eq_false hn) ⟨_, rfl, _, rfl, _, _, rfl, rfl, ⟨hl, mb⟩, _, rfl, _, _, rfl, rfl, _, rfl, ?_⟩
      by_cases h1 : lo * many ≤ total
      · refine iteC (decide_eq_true h1) ⟨_, rfl, _, rfl, _, _, rfl, rfl, ⟨hh, mb⟩, _, _, rfl, rfl, _, rfl, ?_⟩
        by_cases h2 : total ≤ hi * many
        · rw [decide_eq_true h2]
          refine iteF ?_
          rw [if_neg (by omega)] at q1
          have hm : 0 < many := by omega
          have e1 := Int.emod_nonneg total (show many ≠ 0 by omega)
          have e2 := Int.emod_lt_of_pos total hm
          refine ⟨_, rfl, _, rfl, _, _, rfl, ⟨hm, by omega⟩, fun t ht => ?_⟩
          refine ⟨t, _, rfl, .of upd_same, rfl, _, _, rfl, _, _, rfl, rfl, ?_⟩
          have s1 : Same H (upd H t (.tup [.int (total / many), .int (total % many)])) := Same.upd ht
          generalize upd H t (.tup [.int (total / many), .int (total % many)]) = H1 at s1 ⊢
          refine ⟨_, rfl, one_line, fun l1 hl1 => ⟨_, rfl, _, rfl, _, _, rfl, rfl, ?_⟩⟩
          refine ⟨l1, _, _, rfl, rfl, upd_same, by omega, by omega, by rw [sizeLine_eq]; simp; omega, fun p1 hp1 => ?_⟩
          have s2 : Same H1 (upd (upd H1 l1 (.lst [.int (total / many)])) p1 (.lst (List.replicate (many - total % many).toNat [V.int (total / many)]).flatten)) := (Same.upd hl1).trans (Same.upd hp1)
          have g1 : (upd (upd H1 l1 (.lst [.int (total / many)])) p1 (.lst (List.replicate (many - total % many).toNat [V.int (total / many)]).flatten)) p1 = some (.lst ((List.replicate (many - total % many).toNat (total / many)).map V.int)) := by rw [upd_same, rep_flat]
          generalize upd (upd H1 l1 (.lst [.int (total / many)])) p1 (.lst (List.replicate (many - total % many).toNat [V.int (total / many)]).flatten) = H2 at s2 g1 ⊢
          refine ⟨_, rfl, _, _, rfl, rfl, one_line, fun l2 hl2 => ⟨_, rfl, ?_⟩⟩
          refine ⟨l2, _, _, rfl, rfl, upd_same, by omega, by omega, by rw [sizeLine_eq]; simp; omega, fun p2 hp2 => ?_⟩
          have s3 : Same H2 (upd (upd H2 l2 (.lst [.int (total / many + 1)])) p2 (.lst (List.replicate (total % many).toNat [V.int (total / many + 1)]).flatten)) := (Same.upd hl2).trans (Same.upd hp2)
          have g2 : (upd (upd H2 l2 (.lst [.int (total / many + 1)])) p2 (.lst (List.replicate (total % many).toNat [V.int (total / many + 1)]).flatten)) p2 = some (.lst ((List.replicate (total % many).toNat (total / many + 1)).map V.int)) := by rw [upd_same, rep_flat]
          generalize upd (upd H2 l2 (.lst [.int (total / many + 1)])) p2 (.lst (List.replicate (total % many).toNat [V.int (total / many + 1)]).flatten) = H3 at s3 g2 ⊢
          refine ⟨p1, p2, _, _, rfl, rfl, s3 _ _ g1, g2, by rw [sizeLine_eq]; simp; omega, fun D hD => ?_⟩
          have sA : Same H H3 := s1.trans (s2.trans s3)
          refine q1 _ rfl D _ (sA.trans (Same.upd hD)) (sA.none hD) ?_
          rw [upd_same, List.map_append]
        · rw [decide_eq_false h2]
          refine iteT ?_
          rw [if_pos (.inr (by omega))] at q0
          exact q0 rfl
      · refine iteN (decide_eq_false h1) ?_
        refine ⟨_, rfl, iteT ?_⟩
        rw [if_pos (.inr (by omega))] at q0
        exact q0 rfl
end
end Pr
set_option Elab.async false
set_option linter.all false
set_option maxRecDepth 100000
namespace Pr
open PySem L2 PyProof.Rows Pl
section
variable {P : Program} {w : World} {K : PySem.W.Frag} {mg : Str → Option Value} {base : Heap} {C : Addr}
/-- whether it is one of the state's ends -/
def isEnd (x : S4) (v : Int) : Bool := inV (.int v) [loV x, hiV x]
theorem isEnd_none {x : S4} (h : x.e = none) (v : Int) : isEnd x v = false := by simp [isEnd, inV, loV, hiV, h, eqV]
theorem isEnd_some {x : S4} {a b : Int} (h : x.e = some (a, b)) (v : Int) : isEnd x v = decide (v = a ∨ v = b) := by
  simp only [isEnd, inV, loV, hiV, h, eqV, List.any_cons, List.any_nil, Bool.or_false]
  by_cases h1 : a = v
  · subst h1; simp
  · by_cases h2 : b = v
    · subst h2; simp
    · rw [beq_eq_false_iff_ne.mpr h1, beq_eq_false_iff_ne.mpr h2, decide_eq_false (by omega)]; rfl
/-- the new ends behind the first of the two -/
def new1 (x : S4) (l : Int) : List Int := if isEnd x l = true then [] else [l]
theorem newE_is (x : S4) (l g : Int) : newE x l g = if isEnd x g = true then new1 x l else if g ∈ new1 x l then new1 x l else new1 x l ++ [g] := by
  unfold newE new1
  cases hx : x.e with
  | none =>
    rw [isEnd_none hx, isEnd_none hx]
    simp only [Bool.false_eq_true, if_false]
    by_cases h : g = l
    · simp [h]
    · simp [h]
  | some p =>
    obtain ⟨a, b⟩ := p
    rw [isEnd_some hx, isEnd_some hx]
    by_cases h1 : l = a ∨ l = b
    · by_cases h2 : g = a ∨ g = b
      · have h3 : g = a ∨ g = b ∨ g = l := by omega
        simp [h1, h2, h3]
      · have h3 : ¬ (g = a ∨ g = b ∨ g = l) := by omega
        simp [h1, h2, h3]
    · by_cases h2 : g = a ∨ g = b
      · have h3 : g = a ∨ g = b ∨ g = l := by omega
        simp [h1, h2, h3]
      · by_cases h4 : g = l
        · have h3 : g = a ∨ g = b ∨ g = l := by omega
          simp [h1, h2, h3, h4]
        · have h3 : ¬ (g = a ∨ g = b ∨ g = l) := by omega
          simp [h1, h2, h3, h4]
/-- the set's things behind i of the two -/
def kAt (x : S4) (l g : Int) : Nat → List Int
  | 0 => []
  | 1 => new1 x l
  | _ => newE x l g
theorem mem_inl {v : Int} {ns : List Int} : (Sum.inl v : Key) ∈ ns.map Sum.inl ↔ v ∈ ns := by
  constructor
  · intro h
    obtain ⟨u, hu, e⟩ := List.mem_map.mp h
    cases e
    exact hu
  · exact fun h => List.mem_map.mpr ⟨v, h, rfl⟩
inductive sp_new_ends (vs : List V) (H : Hp) (Q : VK) (E : XK) : Prop
  | mk (v u : V) (x y : S4) (l g : Int) (e : vs = [v, u]) (hx : StG H v x) (hy : StG H u y) (ye : y.e = some (l, g)) (lg : l ≤ g) (q : ∀ D H', Same H H' → H D = none → H' D = some (.lst ((newE x l g).map V.int)) → Q (.ref D) H') : sp_new_ends vs H Q E
theorem sc_new_ends : FnScope ["state", "goal"] ["state", "goal"] (defScope s_new_ends) := ⟨rfl, rfl, rfl, by decide +kernel, rfl, by decide +kernel, by decide +kernel⟩
theorem srt_one {ys zs : List Int} (p : ys.Perm zs) (h : ys.Pairwise (· ≤ ·)) (h' : zs.Pairwise (· ≤ ·)) : ys = zs := p.eq_of_pairwise (fun a b _ _ h1 h2 => Int.le_antisymm h1 h2) h h'
theorem newE_srt (x : S4) {l g : Int} (lg : l ≤ g) : (newE x l g).Pairwise (· ≤ ·) := by
  rcases newE_cases x l g with e | e | e | e <;> (rw [e]; simp [lg])
set_option maxHeartbeats 4000000 in
theorem new_ends (T : Txt K mg C) : Can P w K mg base 1 "new_ends" ["state", "goal"] sp_new_ends := by
  refine fn_can T.f_new_ends sc_new_ends (fun vs H Q E h => ?_) (fun f cdv A outer s H vs Q E hr h => ?_)
  · obtain ⟨v, u, x, y, l, g, rfl, _⟩ := h
    rfl
  · obtain ⟨v, u, x, y, l, g, rfl, ⟨a, o, rfl, ha, ob⟩, ⟨b, o', rfl, hb, ob'⟩, ye, lg, q⟩ := h
    refine ⟨_, pss_one (ps_ret (pe_b (call_sorted_set P w rfl) T.b_sorted boot_sorted (pa1 (pe_sn (xs := ["end"]) (Ns := ["state", "goal"]) rfl (lnS _ sc_new_ends) (pi_seq (pe_slice (sl_ob 2) (pv 1) (po_some pe_int) po_none)) (pg_one (lnS _ sc_new_ends))
      (fun _ _ _ _ => pts_one (pt_cmpR (op_notInK K) (pv 0) (pe_slice (sl_ob 2) (pv 1) (po_some pe_int) po_none) (by rfl))) (fun _ _ _ _ => pv 0))))), ?_⟩
    refine ⟨_, rfl, _, rfl, b, o', _, rfl, hb, ob', rfl, rfl, by decide, (by show 2 ≤ 4; decide), fun p oP hp obP => ?_⟩
    have s1 : Same H (upd H p oP) := Same.upd hp
    have xs2 : (stV y).drop 2 = [.int l, .int g] := by
      rw [← stV_lo ye, ← stV_hi ye]; rfl
    rw [xs2] at obP
    refine ⟨p, oP, _, rfl, upd_same, obP, fun J hJ D hD => ?_⟩
    refine sc_it hJ (fun i ks H2 => H2 D = some (SetH P w D ks) ∧ Same (upd H p oP) H2 ∧ ks = (kAt x l g i).map Sum.inl) ⟨upd_same, Same.upd hD, rfl⟩ (fun i ks H2 h => ⟨h.1, h.2.1 _ _ upd_same⟩) (fun ks H2 h => ?_) (fun i z ks H2 u hu hi hz h => ?_)
    · obtain ⟨h1, h2, h3⟩ := h
      have h3 : ks = (newE x l g).map Sum.inl := h3
      subst h3
      refine ⟨D, newE x l g, rfl, h1, ?_, ⟨fun D2 ys py sy hD2 => ?_⟩⟩
      · rcases newE_cases x l g with e | e | e | e <;> (rw [e]; simp)
      · rw [srt_one py sy (newE_srt x lg)]
        exact q D2 _ (s1.trans (h2.trans (Same.upd hD2))) ((s1.trans h2).none hD2) upd_same
    · obtain ⟨h1, h2, h3⟩ := h
      obtain ⟨u0, rfl⟩ := len1 hu
      have sA : Same H H2 := s1.trans h2
      have hi' : i < 2 := hi
      obtain ⟨v, ez, k1, k2, kl⟩ : ∃ v : Int, z = .int v ∧ (isEnd x v = true → (kAt x l g (i + 1)).map Sum.inl = ks) ∧ (isEnd x v = false → (kAt x l g (i + 1)).map Sum.inl = addK ks (Sum.inl v)) ∧ ks.length < 1000 := by
        rcases (show i = 0 ∨ i = 1 by omega) with rfl | rfl
        · have h3 : ks = [] := h3
          subst h3
          refine ⟨l, by simpa using hz.symm, fun he => ?_, fun he => ?_, by decide⟩
          · show (new1 x l).map Sum.inl = []
            unfold new1
            rw [if_pos he]; rfl
          · show (new1 x l).map Sum.inl = addK [] (Sum.inl l)
            rw [addK_new (by simp)]
            unfold new1
            rw [he]; rfl
        · have h3 : ks = (new1 x l).map Sum.inl := h3
          subst h3
          refine ⟨g, by simpa using hz.symm, fun he => ?_, fun he => ?_, ?_⟩
          · show (newE x l g).map Sum.inl = _
            rw [newE_is, if_pos he]
          · show (newE x l g).map Sum.inl = _
            rw [newE_is, he]
            simp only [Bool.false_eq_true, if_false]
            by_cases hm : g ∈ new1 x l
            · rw [if_pos hm, addK_in (mem_inl.mpr hm)]
            · rw [if_neg hm, addK_new (fun z => hm (mem_inl.mp z)), List.map_append]; rfl
          · unfold new1
            split <;> simp
      subst ez
      refine ⟨⟨[_], rfl, rfl⟩, _, rfl, _, rfl, _, rfl, a, o, _, rfl, sA _ _ ha, ob, rfl, rfl, by decide, (by show 2 ≤ 4; decide), fun p2 o2 hp2 ob2 => ?_⟩
      have s3 : Same H2 (upd H2 p2 o2) := Same.upd hp2
      refine ⟨p2, _, rfl, ob2.sq upd_same, rfl, ?_, _, rfl, ?_⟩
      · show ([loV x, hiV x].all flatV) = true
        cases hx : x.e <;> simp [loV, hiV, hx, flatV]
      · show if (!isEnd x v) = true then _ else _
        cases he : isEnd x v with
        | true => exact iteF (ScNo.mk hi' ⟨s3 _ _ h1, h2.trans s3, (k1 he).symm⟩)
        | false => exact iteT ⟨_, rfl, ScNx.mk (k := Sum.inl v) hi' kl (s3 _ _ h1) ⟨upd_same, (h2.trans s3).but_ne' hD, (k2 he).symm⟩⟩
end
end Pr
set_option Elab.async false
set_option linter.all false
set_option maxRecDepth 100000
namespace Pr
open PySem L2 PyProof.Rows Pl
/-! a state as data -/
def loD (x : S4) : PyData := match x.e with | none => .none | some p => .int p.1
def hiD (x : S4) : PyData := match x.e with | none => .none | some p => .int p.2
def stDs (x : S4) : List PyData := [.int x.c, .int x.t, loD x, hiD x]
theorem dat_st {H : Hp} (x : S4) : DatAll H (stDs x) (stV x) := by
  unfold stDs stV
  unfold DatAll
  refine ⟨_, _, rfl, by unfold Dat; rfl, ?_⟩
  unfold DatAll
  refine ⟨_, _, rfl, by unfold Dat; rfl, ?_⟩
  unfold DatAll
  refine ⟨_, _, rfl, ?_, ?_⟩
  · unfold loD loV
    cases x.e <;> (unfold Dat; rfl)
  unfold DatAll
  refine ⟨_, _, rfl, ?_, ?_⟩
  · unfold hiD hiV
    cases x.e <;> (unfold Dat; rfl)
  unfold DatAll
  rfl
theorem lay_st (x : S4) : PyData.canLayAll0 (stDs x) = true := by
  unfold stDs loD hiD
  cases x.e <;> rfl
theorem eqv_st (x y : S4) : PyData.eqvAll (stDs x) (stDs y) = decide (x = y) := by
  obtain ⟨c, t, e⟩ := x
  obtain ⟨c', t', e'⟩ := y
  have hx : (decide ((⟨c, t, e⟩ : S4) = ⟨c', t', e'⟩)) = (decide (c = c') && (decide (t = t') && decide (e = e'))) := by
    by_cases h1 : c = c' <;> by_cases h2 : t = t' <;> by_cases h3 : e = e' <;> simp [h1, h2, h3]
  rw [hx]
  cases e with
  | none =>
    cases e' with
    | none => simp [stDs, loD, hiD, PyData.eqvAll, PyData.eqv, Bool.beq_eq_decide_eq]
    | some p => simp [stDs, loD, hiD, PyData.eqvAll, PyData.eqv]
  | some p =>
    cases e' with
    | none => simp [stDs, loD, hiD, PyData.eqvAll, PyData.eqv]
    | some p' =>
      obtain ⟨a, b⟩ := p
      obtain ⟨a', b'⟩ := p'
      have hp : decide (some (a, b) = some (a', b')) = (decide (a = a') && decide (b = b')) := by
        by_cases h1 : a = a' <;> by_cases h2 : b = b' <;> simp [h1, h2]
      rw [hp]
      simp [stDs, loD, hiD, PyData.eqvAll, PyData.eqv, Bool.beq_eq_decide_eq]
theorem depth_st (x : S4) : (PyData.list (stDs x)).depth ≤ 8 := by
  unfold stDs loD hiD
  cases x.e <;> exact Nat.le_of_ble_eq_true rfl
section
variable {P : Program} {w : World} {K : PySem.W.Frag} {mg : Str → Option Value} {base : Heap} {C : Addr}
/-- plan of any things: an error of NoState, one of NoBounds, or some answer -/
inductive sp_plan (mg : Str → Option Value) (vs : List V) (H : Hp) (Q : VK) (E : XK) : Prop
  | mk (v u : V) (p p' : Option (List V)) (lo hi : V) (e : vs = [v, u, lo, hi]) (hx : Ls H v p) (hy : Ls H u p') (kx : ∀ xs, p = some xs → ∀ x ∈ xs, Kd H x) (ky : ∀ xs, p' = some xs → ∀ x ∈ xs, Kd H x) (kl : Kd H lo) (kh : Kd H hi)
      (q : okSt p = true → okSt p' = true → okBd lo hi = true → ∀ r H', Same H H' → Q r H')
      (x1 : okSt p = false ∨ okSt p' = false → ∀ H', Same H H' → E (.ref (cOf mg "NoState")) none H') (x2 : okSt p = true → okSt p' = true → okBd lo hi = false → ∀ H', Same H H' → E (.ref (cOf mg "NoBounds")) none H') : sp_plan mg vs H Q E
theorem okB_of {l h : V} (e : okBd l h = true) : ∃ i j, l = .int i ∧ h = .int j ∧ OkB i j := by
  obtain ⟨i, j, rfl, rfl⟩ := okBd_int e
  have e' : (decide (-W30 < i) && decide (i < W30) && (decide (-W30 < j) && decide (j < W30)) && decide (i ≤ j)) = true := e
  simp only [Bool.and_eq_true, decide_eq_true_eq] at e'
  obtain ⟨⟨⟨a1, a2⟩, a3, a4⟩, a5⟩ := e'
  exact ⟨i, j, rfl, rfl, a1, a4, a5⟩
theorem st_of {H : Hp} {v : V} {x : S4} (h : Ls H v (some (stV x))) : ∃ a o, v = .ref a ∧ H a = some o ∧ Ob o (stV x) := by
  obtain ⟨a, rfl, hs⟩ := Ls.some h
  rcases hs with h | h
  · exact ⟨a, _, rfl, h, .inl rfl⟩
  · exact ⟨a, _, rfl, h, .inr rfl⟩
theorem sc_plan : FnScope ["state", "goal", "low", "high", "more", "ends", "rest", "others"] ["state", "goal", "low", "high"] (defScope s_plan) := ⟨rfl, rfl, rfl, by decide +kernel, rfl, by decide +kernel, by decide +kernel⟩
theorem OkS.c0 {x : S4} (h : OkS x) : 0 ≤ x.c := by
  cases h with
  | non => exact Int.le_refl _
  | som c t l g c1 => show (0 : Int) ≤ c; omega
theorem OkS.ends {x : S4} (h : OkS x) (hc : 1 ≤ x.c) : ∃ l g, x.e = some (l, g) ∧ -W30 < l ∧ g < W30 ∧ l ≤ g := by
  cases h with
  | non => exact absurd hc (by decide)
  | som c t l g c1 c2 l1 g1 lg => exact ⟨l, g, rfl, l1, g1, lg⟩
theorem max_nat {i j : Int} (h1 : -W30 < i) (h2 : i < W30) (h3 : -W30 < j) (h4 : j < W30) : (if j > i then j else i).natAbs < 2 ^ 300 ∧ (if j < i then j else i).natAbs < 2 ^ 300 := by
  constructor
  · split
    · exact wide_nat h3 h4
    · exact wide_nat h1 h2
  · split
    · exact wide_nat h3 h4
    · exact wide_nat h1 h2
set_option maxHeartbeats 8000000 in
theorem plan (T : Txt K mg C) : CanX P w K mg base 5 "plan" ["state", "goal", "low", "high"] (sp_plan mg) := by
  refine fn_canX T.f_plan sc_plan (fun vs H Q E h => ?_) (fun f cdv A outer s H vs Q E hr W h => ?_)
  · obtain ⟨v, u, p, p', lo, hi, rfl, _⟩ := h
    rfl
  · obtain ⟨v, u, op, op', lov, hiv, rfl, hx, hy, kx, ky, kl, kh, q, x1, x2⟩ := h
    refine ⟨_, (pss_cons (ps_expr (pe_canX (need_state T) W hr (pa1 (pv 0))))
        (pss_cons (ps_expr (pe_canX (need_state T) W hr (pa1 (pv 1))))
        (pss_cons (ps_expr (pe_canX (need_bounds T) W hr (pa2 (pv 2) (pv 3))))
        (pss_cons (ps_set (i := 4) sc_plan.nd rfl (Or.inl rfl) (pe_op op_sub (pe_ix ix_ob (pv 1) pe_int (fun _ _ => rfl)) (pe_ix ix_ob (pv 0) pe_int (fun _ _ => rfl))))
        (pss_cons (ps_if (pt_cmpR op_eq (pv 4) pe_int (nomark _)) (pss_one (ps_ret (pe_ifExp (pt_cmpR (op_eqD hr) (pe_t call_list_ob T.b_list boot_list (pa1 (pv 0))) (pe_t call_list_ob T.b_list boot_list (pa1 (pv 1))) (nomark _)) (pe_lst pa_nil) pe_non))) pss_nil)
        (pss_cons (ps_if (PW.pt (pw_or (pt_not (pt_chain op_le op_le pe_int (pv 4) (pe_gi T.c_MOST_MORE))) (pw_or1 (pt_not (pt_val (pe_can (may_widen T) hr (pa2 (pv 0) (pv 1)))))))) (pss_one (ps_ret pe_non)) pss_nil)
        (pss_cons (ps_set (i := 5) sc_plan.nd rfl (Or.inl rfl) (pe_can (new_ends T) hr (pa2 (pv 0) (pv 1))))
        (pss_cons (ps_if (pt_not (pt_val (pe_b (call_all_seqK K rfl) T.b_all boot_all (pa1 (pe_lc rfl (lcS sc_plan) (pi_listK K (pv 5)) (fun _ _ _ _ => pts_nil) (fun _ _ _ _ => pe_chain op_le op_le (pv 3) (pv 0) (pv 4))))))) (pss_one (ps_ret pe_non)) pss_nil)
        (pss_cons (ps_set (i := 6) sc_plan.nd rfl (Or.inl rfl) (pe_op op_sub (pe_op op_sub (pe_ix ix_ob (pv 1) pe_int (fun _ _ => rfl)) (pe_ix ix_ob (pv 0) pe_int (fun _ _ => rfl))) (pe_b (call_sum_seqK K rfl) T.b_sum boot_sum (pa1 (pv 5)))))
        (pss_cons (ps_set (i := 7) sc_plan.nd rfl (Or.inl rfl) (pe_can (even_values T) hr (pa_cons (pe_op op_sub (pv 4) (pe_b (call_lenK K) T.b_len boot_len (pa1 (pv 5)))) (pa3 (pv 6) (pe_b (call_max2 rfl) T.b_max boot_max (pa2 (pv 2) (pe_ix ix_ob (pv 1) pe_int (fun _ _ => rfl)))) (pe_b (call_min2 rfl) T.b_min boot_min (pa2 (pv 3) (pe_ix ix_ob (pv 1) pe_int (fun _ _ => rfl))))))))
        (pss_one (ps_ret (pe_ifExp (pt_cmpR op_isN (pv 7) pe_non (nomark _)) pe_non (pe_b (call_sorted_near K) T.b_sorted boot_sorted (pa1 (pe_op op_cat (pv 5) (pv 7))))))))))))))))), ?_⟩
    refine ⟨_, rfl, v, op, rfl, hx, kx, fun ho1 H1 s1 => ?_, fun ho1 H1 s1 => x1 (.inl ho1) H1 s1⟩
    refine ⟨_, rfl, u, op', rfl, hy.same s1, fun xs e x hx => (ky xs e x hx).same s1, fun ho2 H2 s2' => ?_, fun ho2 H2 s2 => x1 (.inr ho2) H2 (s1.trans s2)⟩
    have s2 : Same H H2 := s1.trans s2'
    refine ⟨_, rfl, _, rfl, lov, hiv, rfl, kl.same s2, kh.same s2, fun hbd => ?_, fun hbd => x2 ho1 ho2 hbd H2 s2⟩
    have qq := q ho1 ho2 hbd
    obtain ⟨x, rfl, ox⟩ := okS_of ho1
    obtain ⟨y, rfl, oy⟩ := okS_of ho2
    obtain ⟨a, o, rfl, ha, ob⟩ := st_of hx
    obtain ⟨b, o', rfl, hb, ob'⟩ := st_of hy
    obtain ⟨lo, hi, rfl, rfl, bd⟩ := okB_of hbd
    have q0 : planM x y lo hi = none → ∀ H', Same H H' → Q .non H' := fun _ H' s => qq _ H' s
    have q1 : ∀ zs, planM x y lo hi = some zs → ∀ ws : List Int, ws.Perm zs → ws.Pairwise (· ≤ ·) → ∀ D H', Same H H' → H D = none → H' D = some (.lst (ws.map V.int)) → Q (.ref D) H' := fun _ _ _ _ _ D H' s _ _ => qq _ H' s
    refine ⟨_, rfl, b, o', _, _, _, rfl, rfl, s2 _ _ hb, ob', rfl, _, rfl, a, o, _, _, _, rfl, rfl, s2 _ _ ha, ob, rfl, _, _, rfl, rfl, ?_⟩
    unfold planM at q0 q1
    have yc := oy.c0
    have xc := ox.c0
    refine ⟨_, rfl, rfl, _, rfl, ?_⟩
    by_cases h0 : y.c - x.c = 0
    · refine iteC (eqI h0) ?_
      rw [if_pos h0] at q0 q1
      refine ⟨_, rfl, a, o, _, rfl, s2 _ _ ha, ob, fun p1 hp1 => ?_⟩
      have t1 : Same H2 (upd H2 p1 (.lst (stV x))) := Same.upd hp1
      refine ⟨_, rfl, b, o', _, rfl, t1 _ _ (s2 _ _ hb), ob', fun p2 hp2 => ?_⟩
      have t2 : Same (upd H2 p1 (.lst (stV x))) (upd (upd H2 p1 (.lst (stV x))) p2 (.lst (stV y))) := Same.upd hp2
      refine ⟨.list (stDs x), .list (stDs y), ?_, ?_, lay_st x, lay_st y, depth_st x, _, rfl, ?_⟩
      · unfold Dat
        exact ⟨p1, _, rfl, t2 _ _ upd_same, dat_st x⟩
      · unfold Dat
        exact ⟨p2, _, rfl, upd_same, dat_st y⟩
      · have ev : PyData.eqv (.list (stDs x)) (.list (stDs y)) = decide (x = y) := eqv_st x y
        simp only [Bool.false_eq_true, if_false, ev]
        have sA := s2.trans (t1.trans t2)
        by_cases h1 : x = y
        · refine iteC (decide_eq_true h1) ⟨Nat.zero_le _, fun D hD => ?_⟩
          rw [if_pos h1] at q1
          exact q1 [] rfl [] (List.Perm.refl _) List.Pairwise.nil D _ (sA.trans (Same.upd hD)) (sA.none hD) upd_same
        · refine iteN (decide_eq_false h1) ?_
          rw [if_neg h1] at q0
          exact q0 rfl _ sA
    refine iteN (neI h0) ?_
    rw [if_neg h0] at q0 q1
    refine ⟨_, rfl, _, _, rfl, rfl, _, rfl, ?_⟩
    by_cases h1 : ¬ 1 ≤ y.c - x.c
    · refine iteN (decide_eq_false h1) ⟨_, rfl, iteT ?_⟩
      rw [if_pos (by omega)] at q0
      exact iteT (q0 rfl _ s2)
    have h1 : 1 ≤ y.c - x.c := by omega
    refine iteC (decide_eq_true h1) ⟨_, _, rfl, rfl, _, rfl, ?_⟩
    by_cases h2 : ¬ y.c - x.c ≤ 200
    · rw [decide_eq_false h2]
      rw [if_pos (by omega)] at q0
      exact iteT (iteT (q0 rfl _ s2))
    have h2 : y.c - x.c ≤ 200 := by omega
    rw [decide_eq_true h2]
    refine iteF ?_
    rw [if_neg (by omega)] at q0 q1
    obtain ⟨l, g, ye, yl, yg, lg⟩ := oy.ends (by omega)
    rw [ye] at q0 q1
    dsimp only at q0 q1
    refine ⟨_, rfl, _, rfl, _, _, x, y, l, g, rfl, ⟨a, o, rfl, s2 _ _ ha, ob⟩, ⟨b, o', rfl, s2 _ _ hb, ob'⟩, ox, ye, _, rfl, ?_⟩
    cases hw : widen x l g with
    | false =>
      rw [if_pos hw] at q0
      exact iteT (q0 rfl _ s2)
    | true =>
    refine iteF ?_
    rw [if_neg (by rw [hw]; simp)] at q0 q1
    refine ⟨_, rfl, _, rfl, _, _, x, y, l, g, rfl, ⟨a, o, rfl, s2 _ _ ha, ob⟩, ⟨b, o', rfl, s2 _ _ hb, ob'⟩, ye, lg, fun D3 H3 s3' hD3 hE => ?_⟩
    have s3 : Same H H3 := s2.trans s3'
    have e2 : atI (stV y) 2 = some (.int l) := by rw [← stV_lo ye]; rfl
    have e3 : atI (stV y) 3 = some (.int g) := by rw [← stV_hi ye]; rfl
    have el : (newE x l g).length ≤ 2 := by rcases newE_cases x l g with e | e | e | e <;> (rw [e]; simp)
    generalize hes : newE x l g = es at hE q0 q1 el
    refine ⟨_, rfl, D3, rfl, ⟨_, .of hE⟩, fun L hL => ?_⟩
    refine lc_list (xs := es.map V.int) (fun i zs H9 => H9 L = some (.lst zs) ∧ zs.length = i ∧ Same H3 H9 ∧ zs = (es.take i).map fun v => V.bl (decide (lo ≤ v) && decide (v ≤ hi))) ⟨upd_same, rfl, Same.upd hL, rfl⟩ (fun i zs H9 h => ⟨h.1, .of (h.2.2.1 _ _ hE)⟩) (fun zs H9 h => ?fin) fun i z zs H9 hin hz h => ?turn
    case turn =>
      obtain ⟨z1, z2, z3, z4⟩ := h
      rw [List.length_map] at hin
      have hzv : z = .int es[i] := by rw [List.getElem?_map, List.getElem?_eq_getElem hin] at hz; simpa using hz.symm
      subst hzv
      have nx : ∀ c : Bool, c = (decide (lo ≤ es[i]) && decide (es[i] ≤ hi)) → LcNx (es.map V.int).length i L zs (fun i zs H9 => H9 L = some (.lst zs) ∧ zs.length = i ∧ Same H3 H9 ∧ zs = (es.take i).map fun v => V.bl (decide (lo ≤ v) && decide (v ≤ hi))) (.bl c) H9 := fun c hc => by
        refine LcNx.mk (by rw [List.length_map]; exact hin) (by rw [List.length_map]; omega) (by omega) z1 ⟨upd_same, by rw [List.length_append, z2]; rfl, z3.but_ne' hL, ?_⟩
        rw [List.take_add_one, List.map_append, List.getElem?_eq_getElem hin, z4, hc]
        rfl
      refine yesI ⟨_, rfl, _, rfl, _, _, rfl, rfl, _, rfl, ?_⟩
      refine iteB (fun hc => ?_) (fun hc => ?_)
      · exact ⟨_, rfl, _, _, rfl, rfl, nx _ (by rw [hc, Bool.true_and])⟩
      · exact nx _ (by rw [hc, Bool.false_and])
    obtain ⟨z1, z2, z3, z4⟩ := h
    rw [List.take_of_length_le (by rw [List.length_map]; exact Nat.le_refl _)] at z4
    have s9 : Same H H9 := s3.trans z3
    have hE9 := z3 _ _ hE
    refine ⟨L, es.map (fun v => decide (lo ≤ v) && decide (v ≤ hi)), rfl, .of (by rw [z1, z4, List.map_map]; rfl), _, rfl, ?_⟩
    have ea : (es.map fun v => decide (lo ≤ v) && decide (v ≤ hi)).all id = es.all fun v => decide (lo ≤ v) && decide (v ≤ hi) := by rw [List.all_map]; rfl
    rw [ea]
    cases hal : es.all (fun v => decide (lo ≤ v) && decide (v ≤ hi)) with
    | false =>
      rw [if_pos hal] at q0
      exact iteT (q0 rfl _ s9)
    | true =>
    refine iteF ?_
    rw [if_neg (by rw [hal]; simp)] at q0 q1
    refine ⟨_, rfl, b, o', _, _, _, rfl, rfl, s9 _ _ hb, ob', rfl, _, rfl, a, o, _, _, _, rfl, rfl, s9 _ _ ha, ob, rfl, _, _, rfl, rfl, _, rfl, D3, es, rfl, .inl (.of hE9), _, _, rfl, rfl, ?_⟩
    have mm := max_nat (i := lo) (j := l) bd.l (by have := bd.lh; have := bd.h; omega) yl (by omega)
    have mn := max_nat (i := hi) (j := g) (by have := bd.lh; have := bd.l; omega) bd.h (by omega) yg
    refine ⟨_, rfl, _, rfl, D3, _, rfl, .inl (.of hE9), _, _, rfl, rfl, _, rfl, _, rfl, _, rfl, b, o', _, _, _, rfl, rfl, s9 _ _ hb, ob', e2, _, _, rfl, _, rfl, _, rfl, b, o', _, _, _, rfl, rfl, s9 _ _ hb, ob', e3, _, _, rfl, ?_⟩
    rw [List.length_map]
    refine ⟨_, _, _, _, rfl, by omega, mm.1, mn.2, fun hn => ?_, fun ws hws D6 H6 s6 hD6 h6 => ?_⟩
    · refine ⟨_, rfl, rfl, _, rfl, iteC (decide_eq_true rfl) (q0 ?_ _ s9)⟩
      rw [hn]; rfl
    · refine ⟨_, rfl, rfl, _, rfl, iteN (decide_eq_false (by intro z; cases z)) ?_⟩
      have hpl : planM x y lo hi = some (es ++ ws) := by
        unfold planM
        rw [if_neg h0, if_neg (by omega), ye]
        dsimp only
        rw [hes, if_neg (by rw [hw]; simp), if_neg (by rw [hal]; simp), hws]; rfl
      obtain ⟨out, ho, hn⟩ := plan_near hpl
      have hlen := (plan_made oy.lg hpl).n
      refine ⟨_, rfl, _, rfl, D3, D6, _, _, rfl, rfl, s6 _ _ hE9, h6, ?_, fun p hp => ?_⟩
      · rw [List.length_append] at hlen
        rw [List.length_map, List.length_map, sizeLine_eq]; omega
      · have t6 := s9.trans s6
        refine ⟨p, es ++ ws, rfl, ?_, by omega, out, ho, hn, ⟨fun D ys py sy hD => ?_⟩⟩
        · rw [List.map_append]
          exact .of upd_same
        · exact q1 (es ++ ws) (by rw [hws]; rfl) ys py sy D _ (t6.trans ((Same.upd hp).trans (Same.upd hD))) ((t6.trans (Same.upd hp)).none hD) upd_same
end
end Pr
set_option Elab.async false
set_option linter.all false
set_option maxRecDepth 100000
namespace Pr
open PySem L2 PyProof.Rows
theorem boot_ValueError : bootBuiltins "ValueError" = some (.type "ValueError") := by rfl
theorem four_line : 4 ≤ sizeLine := by decide
section
variable {P : Program} {w : World} {K : PySem.W.Frag} {mg : Str → Option Value} {base : Heap} {C : Addr}
/-- what the law calls an error of NoState (b) or NoBounds -/
inductive sp_name (K : PySem.W.Frag) (mg : Str → Option Value) (vs : List V) (H : Hp) (Q : VK) (E : XK) : Prop
  | st (a : Addr) (oe : Obj) (e : vs = [.ref a]) (h : H a = some (XO a oe)) (x : XErr K oe (cOf mg "NoState")) (q : ∀ H', Same H H' → Q (.str "state") H') : sp_name K mg vs H Q E
  | bd (a : Addr) (oe : Obj) (e : vs = [.ref a]) (h : H a = some (XO a oe)) (x : XErr K oe (cOf mg "NoBounds")) (q : ∀ H', Same H H' → Q (.str "bounds") H') : sp_name K mg vs H Q E
theorem sc_name : FnScope ["_law_e", "_law_others"] ["_law_e"] (defScope s_law_name) := ⟨rfl, rfl, rfl, by decide +kernel, rfl, by decide +kernel, by decide +kernel⟩
theorem law_name (T : Txt K mg C) : CanN P w K mg base 1 "_law_name" ["_law_e"] (sp_name K mg) := by
  refine fn_canN T.f_law_name sc_name (fun vs H Q E h => ?_) (fun f cdv A outer s H vs Q E hr h => ?_)
  · cases h <;> (rename_i e _ _ _; subst e; rfl)
  · refine ⟨_, pss_cons (ps_set (i := 1) sc_name.nd rfl (Or.inl rfl) (pe_lst (pa_cons (pe_b (call_isE K) T.b_isinstance boot_isinstance (pa2 (pv 0) (pe_glob (v := .ref _) rfl T.x_Gone.m rfl))) (pa3 (pe_b (call_isE K) T.b_isinstance boot_isinstance (pa2 (pv 0) (pe_glob (v := .ref _) rfl T.x_NoNumber.m rfl))) (pe_b (call_isE K) T.b_isinstance boot_isinstance (pa2 (pv 0) (pe_glob (v := .ref _) rfl T.x_NoText.m rfl))) (pe_not (pe_b (call_isE K) T.b_isinstance boot_isinstance (pa2 (pv 0) (pe_ty rfl T.b_ValueError boot_ValueError))))))))
      (pss_cons (ps_if (PW.pt (pw_or (pt_cmpR op_in_seq pe_bl (pv 1) (by rfl)) (pw_or1 (PW.pt (pw_and (pt_val (pe_b (call_isE K) T.b_isinstance boot_isinstance (pa2 (pv 0) (pe_glob (v := .ref _) rfl T.x_NoState.m rfl)))) (pw_and1 (pt_val (pe_b (call_isE K) T.b_isinstance boot_isinstance (pa2 (pv 0) (pe_glob (v := .ref _) rfl T.x_NoBounds.m rfl)))))))))) (pss_one (ps_ret pe_str)) pss_nil)
      (pss_one (ps_ret (pe_ix (ix_listK K) (pe_lst (pa3 pe_str pe_str pe_str)) (pe_op op_add (pe_t call_int1 T.b_int boot_int (pa1 (pe_b (call_isE K) T.b_isinstance boot_isinstance (pa2 (pv 0) (pe_glob (v := .ref _) rfl T.x_NoState.m rfl))))) (pe_op op_mul pe_int (pe_t call_int1 T.b_int boot_int (pa1 (pe_b (call_isE K) T.b_isinstance boot_isinstance (pa2 (pv 0) (pe_glob (v := .ref _) rfl T.x_NoBounds.m rfl))))))) (fun _ _ => rfl))))), ?_⟩
    cases h with
    | st a oe e h x q =>
      subst e
      refine ⟨_, rfl, .own a oe _ _ _ rfl h x T.k_NoState_Gone ⟨_, rfl, .own a oe _ _ _ rfl h x T.k_NoState_NoNumber ⟨_, rfl, .own a oe _ _ _ rfl h x T.k_NoState_NoText ⟨_, rfl, .ty a oe _ _ _ rfl h x T.kv_NoState ?_⟩⟩⟩⟩
      refine ⟨_, rfl, four_line, fun p hp => ?_⟩
      have s1 : ∀ o, Same H (upd H p o) := fun o => Same.upd hp
      have h1 := s1 (.lst [.bl false, .bl false, .bl false, .bl (!true)]) _ _ h
      refine ⟨_, rfl, p, _, rfl, .inl (.of upd_same), rfl, rfl, _, rfl, iteF ?_⟩
      refine ⟨_, rfl, .own a oe _ _ _ rfl h1 x T.k_NoState_NoState ⟨_, rfl, iteT ⟨_, rfl, .own a oe _ _ _ rfl h1 x T.k_NoState_NoBounds ⟨_, rfl, iteF ?_⟩⟩⟩⟩
      refine ⟨three_line, fun p2 hp2 => ?_⟩
      have s2 : ∀ o, Same (upd H p (.lst [.bl false, .bl false, .bl false, .bl (!true)])) (upd (upd H p (.lst [.bl false, .bl false, .bl false, .bl (!true)])) p2 o) := fun o => Same.upd hp2
      have h2 := s2 (.lst [.str "other", .str "state", .str "bounds"]) _ _ h1
      refine ⟨_, rfl, .own a oe _ _ _ rfl h2 x T.k_NoState_NoState (.inr ⟨true, rfl, ?_⟩)⟩
      refine ⟨_, rfl, .own a oe _ _ _ rfl h2 x T.k_NoState_NoBounds (.inr ⟨false, rfl, ?_⟩)⟩
      refine ⟨_, _, rfl, rfl, .inl ⟨by decide, by decide⟩, _, _, rfl, rfl, p2, _, _, _, rfl, rfl, .of upd_same, rfl, ?_⟩
      exact q _ ((s1 _).trans (s2 _))
    | bd a oe e h x q =>
      subst e
      refine ⟨_, rfl, .own a oe _ _ _ rfl h x T.k_NoBounds_Gone ⟨_, rfl, .own a oe _ _ _ rfl h x T.k_NoBounds_NoNumber ⟨_, rfl, .own a oe _ _ _ rfl h x T.k_NoBounds_NoText ⟨_, rfl, .ty a oe _ _ _ rfl h x T.kv_NoBounds ?_⟩⟩⟩⟩
      refine ⟨_, rfl, four_line, fun p hp => ?_⟩
      have s1 : ∀ o, Same H (upd H p o) := fun o => Same.upd hp
      have h1 := s1 (.lst [.bl false, .bl false, .bl false, .bl (!true)]) _ _ h
      refine ⟨_, rfl, p, _, rfl, .inl (.of upd_same), rfl, rfl, _, rfl, iteF ?_⟩
      refine ⟨_, rfl, .own a oe _ _ _ rfl h1 x T.k_NoBounds_NoState ⟨_, rfl, iteF ?_⟩⟩
      refine ⟨three_line, fun p2 hp2 => ?_⟩
      have s2 : ∀ o, Same (upd H p (.lst [.bl false, .bl false, .bl false, .bl (!true)])) (upd (upd H p (.lst [.bl false, .bl false, .bl false, .bl (!true)])) p2 o) := fun o => Same.upd hp2
      have h2 := s2 (.lst [.str "other", .str "state", .str "bounds"]) _ _ h1
      refine ⟨_, rfl, .own a oe _ _ _ rfl h2 x T.k_NoBounds_NoState (.inr ⟨false, rfl, ?_⟩)⟩
      refine ⟨_, rfl, .own a oe _ _ _ rfl h2 x T.k_NoBounds_NoBounds (.inr ⟨true, rfl, ?_⟩)⟩
      refine ⟨_, _, rfl, rfl, .inl ⟨by decide, by decide⟩, _, _, rfl, rfl, p2, _, _, _, rfl, rfl, .of upd_same, rfl, ?_⟩
      exact q _ ((s1 _).trans (s2 _))
end
end Pr
set_option Elab.async false
set_option linter.all false
set_option maxRecDepth 100000
namespace Pr
open PySem L2 PyProof.Rows
section
variable {P : Program} {w : World} {K : PySem.W.Frag} {mg : Str → Option Value} {base : Heap} {C : Addr}
def told (s b : Bool) : Str := if s = true then (if b = true then "told" else "bounds") else "state"
inductive sp_tried (vs : List V) (H : Hp) (Q : VK) (E : XK) : Prop
  | pl (a : Addr) (v u lo hi : V) (p p' : Option (List V)) (e : vs = [.int 0, .ref a]) (ha : H a = some (.lst [v, u, lo, hi])) (hx : Ls H v p) (hy : Ls H u p') (kx : ∀ xs, p = some xs → ∀ x ∈ xs, Kd H x) (ky : ∀ xs, p' = some xs → ∀ x ∈ xs, Kd H x) (kl : Kd H lo) (kh : Kd H hi)
      (q : ∀ H', Same H H' → Q (.str (told (okSt p && okSt p') (okBd lo hi))) H') : sp_tried vs H Q E
  | re (a : Addr) (v lo hi : V) (n : Nat) (p : Option (List V)) (e : vs = [.int 1, .ref a]) (ha : H a = some (.lst [v, .int (n : Int), lo, hi])) (hx : Ls H v p) (kx : ∀ xs, p = some xs → ∀ x ∈ xs, Kd H x) (kl : Kd H lo) (kh : Kd H hi) (hn : n ≤ 200)
      (q : ∀ H', Same H H' → Q (.str (told (okSt p) (okBd lo hi))) H') : sp_tried vs H Q E
theorem sc_tried : FnScope ["_law_call", "_law_parts", "_law_name_here", "_law_e"] ["_law_call", "_law_parts"] (defScope s_law_tried) := ⟨rfl, rfl, rfl, by decide +kernel, rfl, by decide +kernel, by decide +kernel⟩
set_option maxHeartbeats 4000000 in
theorem law_tried (T : Txt K mg C) : Can P w K mg base 6 "_law_tried" ["_law_call", "_law_parts"] sp_tried := by
  refine fn_can T.f_law_tried sc_tried (fun vs H Q E h => ?_) (fun f cdv A outer s H vs Q E hr h => ?_)
  · cases h with
    | pl a v u lo hi p p' e => subst e; rfl
    | re a v lo hi n p e => subst e; rfl
  · refine ⟨_, pss_cons (ps_set (i := 2) sc_tried.nd rfl (Or.inl rfl) pe_str) (pss_cons (ps_try (n := 4) (fun pn xe E W => pss_one (ps_if (pt_cmpR op_eq (pv 0) pe_int (nomark _))
        (pss_one (ps_expr (pe_canX (plan T) W hr (pa_cons (pe_ix (ix_listK K) (pv 1) pe_int (fun _ _ => rfl)) (pa3 (pe_ix (ix_listK K) (pv 1) pe_int (fun _ _ => rfl)) (pe_ix (ix_listK K) (pv 1) pe_int (fun _ _ => rfl)) (pe_ix (ix_listK K) (pv 1) pe_int (fun _ _ => rfl)))))))
        (pss_one (ps_expr (pe_canX (reach T) W hr (pa_cons (pe_ix (ix_listK K) (pv 1) pe_int (fun _ _ => rfl)) (pa3 (pe_ix (ix_listK K) (pv 1) pe_int (fun _ _ => rfl)) (pe_ix (ix_listK K) (pv 1) pe_int (fun _ _ => rfl)) (pe_ix (ix_listK K) (pv 1) pe_int (fun _ _ => rfl)))))))))
        (phN (i := 3) T.x_PeakError.m sc_tried.nd rfl rfl (fun a => pss_one (ps_set (i := 2) sc_tried.nd rfl (Or.inl rfl) (pe_canN (law_name T) (hr.n _) (pa1 (pv 3))))) ph_nil))
      (pss_one (ps_ret (pv 2)))), ?_⟩
    cases h with
    | pl a v u lo hi p p' e ha hx hy kx ky kl kh q =>
      subst e
      refine ⟨_, rfl, rfl, _, rfl, iteT ?_⟩
      refine ⟨_, rfl, a, _, _, _, rfl, rfl, .of ha, rfl, ⟨_, rfl, a, _, _, _, rfl, rfl, .of ha, rfl, ⟨_, rfl, a, _, _, _, rfl, rfl, .of ha, rfl, ⟨_, rfl, a, _, _, _, rfl, rfl, .of ha, rfl, ?_⟩⟩⟩⟩
      refine .mk v u p p' lo hi rfl hx hy kx ky kl kh (fun o1 o2 ob r H' s => ?_) (fun oo H' s => ?_) (fun o1 o2 ob H' s => ?_)
      · have r := q H' s
        rw [o1, o2, ob] at r
        exact ⟨_, rfl, r⟩
      · intro σ' hσ
        match σ', hσ with
        | [t0, t1, t2, t3], _ =>
          refine .mk true T.e_NoState_PeakError (iteT fun b oe hb hc hd hf => ?_)
          refine ⟨_, rfl, .st b oe rfl upd_same (T.x_NoState.err hc hd hf) fun H2 s2 => ?_⟩
          have r := q H2 (s.trans ((Same.upd hb).trans s2))
          have z : (okSt p && okSt p') = false := by rcases oo with z | z <;> rw [z] <;> simp
          rw [z] at r
          exact ⟨_, rfl, r⟩
      · intro σ' hσ
        match σ', hσ with
        | [t0, t1, t2, t3], _ =>
          refine .mk true T.e_NoBounds_PeakError (iteT fun b oe hb hc hd hf => ?_)
          refine ⟨_, rfl, .bd b oe rfl upd_same (T.x_NoBounds.err hc hd hf) fun H2 s2 => ?_⟩
          have r := q H2 (s.trans ((Same.upd hb).trans s2))
          rw [o1, o2, ob] at r
          exact ⟨_, rfl, r⟩
    | re a v lo hi n p e ha hx kx kl kh hn q =>
      subst e
      refine ⟨_, rfl, rfl, _, rfl, iteF ?_⟩
      refine ⟨_, rfl, a, _, _, _, rfl, rfl, .of ha, rfl, ⟨_, rfl, a, _, _, _, rfl, rfl, .of ha, rfl, ⟨_, rfl, a, _, _, _, rfl, rfl, .of ha, rfl, ⟨_, rfl, a, _, _, _, rfl, rfl, .of ha, rfl, ?_⟩⟩⟩⟩
      refine .mk v p n lo hi rfl hx kx kl kh hn (fun o1 ob D H' s => ?_) (fun o1 H' s => ?_) (fun o1 ob H' s => ?_)
      · have r := q H' s
        rw [o1, ob] at r
        exact ⟨_, rfl, r⟩
      · intro σ' hσ
        match σ', hσ with
        | [t0, t1, t2, t3], _ =>
          refine .mk true T.e_NoState_PeakError (iteT fun b oe hb hc hd hf => ?_)
          refine ⟨_, rfl, .st b oe rfl upd_same (T.x_NoState.err hc hd hf) fun H2 s2 => ?_⟩
          have r := q H2 (s.trans ((Same.upd hb).trans s2))
          rw [o1] at r
          exact ⟨_, rfl, r⟩
      · intro σ' hσ
        match σ', hσ with
        | [t0, t1, t2, t3], _ =>
          refine .mk true T.e_NoBounds_PeakError (iteT fun b oe hb hc hd hf => ?_)
          refine ⟨_, rfl, .bd b oe rfl upd_same (T.x_NoBounds.err hc hd hf) fun H2 s2 => ?_⟩
          have r := q H2 (s.trans ((Same.upd hb).trans s2))
          rw [o1, ob] at r
          exact ⟨_, rfl, r⟩
end
end Pr
set_option Elab.async false
set_option linter.all false
set_option maxRecDepth 100000
/-! the law's draws -/
namespace L2
open PySem PySem.Spec PyProof.Rows
theorem But.refl (p : Addr) (H : Hp) : But p H H := fun _ _ h _ => h
theorem But.upd {p : Addr} {H : Hp} {o : HO} : But p H (L2.upd H p o) := fun c u h n => by rw [L2.upd_ne n]; exact h
theorem But.same {p : Addr} {H H1 H2 : Hp} (a : But p H H1) (b : Same H1 H2) : But p H H2 := fun c o h n => b c o (a c o h n)
end L2
namespace Pr
open PySem L2 PyProof.Rows Pl
theorem atI_ints {S : List Int} {i : Int} (h0 : 0 ≤ i) (h1 : i < (S.length : Int)) : atI (S.map V.int) i = some (.int (S.getD i.toNat 0)) := by
  obtain ⟨n, rfl⟩ : ∃ n : Nat, i = n := ⟨i.toNat, by omega⟩
  refine atI_nat ?_
  rw [Int.toNat_natCast, List.getElem?_map, List.getElem?_eq_getElem (by omega), List.getD_eq_getElem?_getD, List.getElem?_eq_getElem (by omega)]
  rfl
/-- the law's pot of draws: a list of two ints -/
inductive PotAt (H : Hp) (p : Addr) : Prop
  | mk (x : Int) (y : Int) (h : H p = some (.lst [.int x, .int y])) : PotAt H p
theorem PotAt.ne {H : Hp} {p l : Addr} (h : PotAt H p) (hl : H l = none) : l ≠ p := by
  obtain ⟨x, y, h⟩ := h
  exact Ne.symm (ne_of_none h hl)
theorem PotAt.same {H H' : Hp} {p : Addr} (h : PotAt H p) (s : Same H H') : PotAt H' p := by
  obtain ⟨x, y, h⟩ := h
  exact ⟨x, y, s _ _ h⟩
section
variable {P : Program} {w : World} {K : PySem.W.Frag} {mg : Str → Option Value} {base : Heap} {C : Addr}
inductive sp_cell (K : PySem.W.Frag) (vs : List V) (H : Hp) (Q : VK) (E : XK) : Prop
  | mk (a : Addr) (ns : List Int) (k : Int) (e : vs = [.ref a, .int k]) (h : SqL K H a (ns.map V.int)) (hk : 0 ≤ k) (q : ∀ n, Q (.int n) H) : sp_cell K vs H Q E
theorem sc_cell : FnScope ["_law_script", "_law_k"] ["_law_script", "_law_k"] (defScope s_law_cell) := ⟨rfl, rfl, rfl, by decide +kernel, rfl, by decide +kernel, by decide +kernel⟩
theorem cell (T : Txt K mg C) : Can P w K mg base 1 "_law_cell" ["_law_script", "_law_k"] (sp_cell K) := by
  refine fn_can T.f_law_cell sc_cell (fun vs H Q E h => ?_) (fun f cdv A outer s H vs Q E hr h => ?_)
  · obtain ⟨a, ns, k, rfl, _⟩ := h
    rfl
  · obtain ⟨a, ns, k, rfl, ha, hk, q⟩ := h
    refine ⟨_, pss_cons (ps_if (pt_cmpR op_lt (pv 1) (pe_b (call_lenK K) T.b_len boot_len (pa1 (pv 0))) (nomark _)) (pss_one (ps_ret (pe_ix (ix_listK K) (pv 0) (pv 1) (fun _ _ => rfl)))) pss_nil) (pss_one (ps_ret pe_int)), ?_⟩
    refine ⟨_, rfl, _, rfl, a, _, rfl, .inl ha, _, _, rfl, rfl, _, rfl, ite2 (fun hc => ?_) (fun hc => q 0)⟩
    have hc' : k < ((ns.map V.int).length : Int) := of_decide_eq_true hc
    rw [List.length_map] at hc'
    exact ⟨_, rfl, _, rfl, a, _, _, _, rfl, rfl, ha, atI_ints hk hc', q _⟩
inductive sp_pot (vs : List V) (H : Hp) (Q : VK) (E : XK) : Prop
  | mk (c : Int) (e : vs = [.int c]) (q : ∀ p H', Same H H' → H p = none → PotAt H' p → Q (.ref p) H') : sp_pot vs H Q E
theorem sc_pot : FnScope ["_law_cell_here"] ["_law_cell_here"] (defScope s_law_pot) := ⟨rfl, rfl, rfl, by decide +kernel, rfl, by decide +kernel, by decide +kernel⟩
theorem pot (T : Txt K mg C) : Can P w K mg base 1 "_law_pot" ["_law_cell_here"] sp_pot := by
  refine fn_can T.f_law_pot sc_pot (fun vs H Q E h => ?_) (fun f cdv A outer s H vs Q E hr h => ?_)
  · obtain ⟨c, rfl, _⟩ := h
    rfl
  · obtain ⟨c, rfl, q⟩ := h
    refine ⟨_, pss_one (ps_ret (pe_lst (pa2 (pe_b (call_max2 rfl) T.b_max boot_max (pa2 pe_int (pe_op op_sub (pe_b call_abs T.b_abs boot_abs (pa1 (pv 0))) (pe_op op_pow pe_int pe_int))))
      (pe_op op_add (pe_op op_mod (pe_b call_abs T.b_abs boot_abs (pa1 (pv 0))) pe_int) pe_int)))), ?_⟩
    refine ⟨_, rfl, _, rfl, _, _, rfl, rfl, ⟨by decide +kernel, by decide +kernel, by decide +kernel⟩, _, _, rfl, rfl, _, _, rfl, _, rfl, _, rfl, _, _, rfl, rfl, (by show (0 : Int) < _; decide +kernel), _, _, rfl, rfl, two_line, fun p hp => ?_⟩
    exact q p _ (Same.upd hp) hp ⟨_, _, upd_same⟩
inductive sp_take (vs : List V) (H : Hp) (Q : VK) (E : XK) : Prop
  | mk (p : Addr) (many : Int) (e : vs = [.ref p, .int many]) (h1 : PotAt H p) (h2 : 0 < many) (h3 : many < 2 ^ 300) (q : ∀ d H', 0 ≤ d → d < many → But p H H' → PotAt H' p → Q (.int d) H') : sp_take vs H Q E
theorem sc_take : FnScope ["_law_pot_here", "_law_many", "_law_digit"] ["_law_pot_here", "_law_many"] (defScope s_law_take) := ⟨rfl, rfl, rfl, by decide +kernel, rfl, by decide +kernel, by decide +kernel⟩
theorem take (T : Txt K mg C) : Can P w K mg base 1 "_law_take" ["_law_pot_here", "_law_many"] sp_take := by
  refine fn_can T.f_law_take sc_take (fun vs H Q E h => ?_) (fun f cdv A outer s H vs Q E hr h => ?_)
  · obtain ⟨p, many, rfl, _⟩ := h
    rfl
  · obtain ⟨p, many, rfl, ⟨x, y, hp⟩, h0, h1, q⟩ := h
    refine ⟨_, pss_cons (ps_if (pt_cmpR op_gt (pe_ix (ix_listK K) (pv 0) pe_int (fun _ _ => rfl)) pe_int (nomark _))
        (pss_cons (ps_asg (pe_b call_divmodB T.b_divmod boot_divmod (pa2 (pe_ix (ix_listK K) (pv 0) pe_int (fun _ _ => rfl)) (pv 1))) (pg_tupK K rfl (pgs_cons (pg_sub (pv 0) pe_int set_list) (pgs_cons (pg_name (i := 2) sc_take.nd rfl (Or.inl rfl)) pgs_nil))))
        (pss_one (ps_ret (pv 2)))) pss_nil)
      (pss_cons (ps_asg (pe_op op_mod (pe_op op_add (pe_op op_mul (pe_ix (ix_listK K) (pv 0) pe_int (fun _ _ => rfl)) pe_int) pe_int) pe_int) (pg_sub (pv 0) pe_int set_list))
      (pss_one (ps_ret (pe_op op_mod (pe_op op_fdivB (pe_op op_mod (pe_op op_mul (pe_ix (ix_listK K) (pv 0) pe_int (fun _ _ => rfl)) (pe_ix (ix_listK K) (pv 0) pe_int (fun _ _ => rfl))) pe_int) pe_int) (pv 1))))), ?_⟩
    refine ⟨_, rfl, p, _, _, _, rfl, rfl, .of hp, rfl, _, _, rfl, rfl, _, rfl, ?_⟩
    refine ite2 (fun hc => ?_) (fun hc => ?_)
    · refine ⟨_, rfl, p, _, _, _, rfl, rfl, .of hp, rfl, _, rfl, _, _, rfl, ⟨h0, h1⟩, fun t ht => ?_⟩
      have ne : p ≠ t := ne_of_none hp ht
      have ht2 : Same H (upd H t (.tup [.int (x / many), .int (x % many)])) := Same.upd ht
      refine ⟨t, _, rfl, .of upd_same, rfl, _, _, rfl, _, rfl, p, _, _, _, rfl, rfl, ht2 _ _ hp, rfl, _, _, rfl, rfl, _, rfl, ?_⟩
      refine q _ _ (Int.emod_nonneg _ (by omega)) (Int.emod_lt_of_pos _ h0) (fun b o hb hn => ?_) ⟨_, _, upd_same⟩
      rw [upd_ne hn]
      exact ht2 _ _ hb
    · refine ⟨_, rfl, p, _, _, _, rfl, rfl, .of hp, rfl, _, _, rfl, rfl, .inr ⟨by decide +kernel, by decide +kernel⟩, _, _, rfl, rfl, _, _, rfl, rfl, (by show (0 : Int) < _; decide +kernel), _, rfl, p, _, _, _, rfl, rfl, hp, rfl, ?_⟩
      have hz0 : 0 ≤ (y * 39373 + 7919) % 2147483629 := Int.emod_nonneg _ (by omega)
      have hz1 : (y * 39373 + 7919) % 2147483629 < 2147483629 := Int.emod_lt_of_pos _ (by omega)
      refine ⟨_, rfl, p, _, _, _, rfl, rfl, .of upd_same, rfl, _, rfl, p, _, _, _, rfl, rfl, .of upd_same, rfl, _, _, rfl, rfl, .inl ⟨by omega, by omega⟩, _, _, rfl, rfl, (by show (0 : Int) < _; decide +kernel), _, _, rfl, rfl, ⟨by decide +kernel, by decide +kernel⟩, _, rfl, _, _, rfl, rfl, h0, ?_⟩
      exact q _ _ (Int.emod_nonneg _ (by omega)) (Int.emod_lt_of_pos _ h0) But.upd ⟨_, _, upd_same⟩
end
end Pr
set_option Elab.async false
set_option linter.all false
set_option maxRecDepth 100000
namespace Pr
open PySem L2 PyProof.Rows Pl
section
variable {P : Program} {w : World} {K : PySem.W.Frag} {mg : Str → Option Value} {base : Heap} {C : Addr}
inductive sp_wide (vs : List V) (H : Hp) (Q : VK) (E : XK) : Prop
  | mk (p : Addr) (e : vs = [.ref p]) (h1 : PotAt H p) (q : ∀ d H', d.natAbs < 10 ^ 30 → But p H H' → PotAt H' p → Q (.int d) H') : sp_wide vs H Q E
theorem sc_wide : FnScope ["_law_pot_here", "_law_way"] ["_law_pot_here"] (defScope s_law_wide) := ⟨rfl, rfl, rfl, by decide +kernel, rfl, by decide +kernel, by decide +kernel⟩
set_option maxHeartbeats 4000000 in
theorem wide (T : Txt K mg C) : Can P w K mg base 2 "_law_wide" ["_law_pot_here"] sp_wide := by
  refine fn_can T.f_law_wide sc_wide (fun vs H Q E h => ?_) (fun f cdv A outer s H vs Q E hr h => ?_)
  · obtain ⟨p, rfl, _⟩ := h
    rfl
  · obtain ⟨p, rfl, hp, q⟩ := h
    refine ⟨_, pss_cons (ps_set (i := 1) sc_wide.nd rfl (Or.inl rfl) (pe_can (take T) hr (pa2 (pv 0) pe_int)))
      (pss_cons (ps_if (pt_cmpR op_eq (pv 1) pe_int (nomark _)) (pss_one (ps_ret (pe_op op_sub (pe_can (take T) hr (pa2 (pv 0) pe_int)) pe_int))) pss_nil)
      (pss_cons (ps_if (pt_cmpR op_eq (pv 1) pe_int (nomark _)) (pss_one (ps_ret (pe_op op_sub (pe_can (take T) hr (pa2 (pv 0) pe_int)) pe_int))) pss_nil)
      (pss_cons (ps_if (pt_cmpR op_eq (pv 1) pe_int (nomark _)) (pss_one (ps_ret (pe_op op_add (pe_op op_sub (pe_can (take T) hr (pa2 (pv 0) (pe_op op_sub (pe_op op_mul pe_int (pe_op op_pow pe_int pe_int)) pe_int))) (pe_op op_pow pe_int pe_int)) pe_int))) pss_nil)
      (pss_one (ps_ret (pe_op op_add (pe_ix (ix_listK K) (pe_lst (pa2 (pe_op op_sub (pe_op op_pow pe_int pe_int) pe_int) (pe_op op_sub pe_int (pe_op op_pow pe_int pe_int)))) (pe_op op_sub (pv 1) pe_int) (fun _ _ => rfl))
        (pe_op op_mul (pe_can (take T) hr (pa2 (pv 0) pe_int)) (pe_ix (ix_listK K) (pe_lst (pa2 (pe_un un_neg pe_int) pe_int)) (pe_op op_sub (pv 1) pe_int) (fun _ _ => rfl))))))))), ?_⟩
    have e30 : (10 : Int) ^ (30 : Int).toNat = 1000000000000000000000000000000 := by decide +kernel
    have n30 : (10 : Nat) ^ 30 = 1000000000000000000000000000000 := by decide +kernel
    refine ⟨_, rfl, p, _, rfl, hp, by decide +kernel, by decide +kernel, fun d1 H1 a1 b1 c1 hp1 => ?_⟩
    refine ⟨_, rfl, rfl, _, rfl, ite2 (fun hc => ?_) (fun hc1 => ?_)⟩
    · refine ⟨_, rfl, p, _, rfl, hp1, by decide +kernel, by decide +kernel, fun d H2 a b c hp2 => ⟨_, _, rfl, rfl, q _ _ ?_ (c1.trans c) hp2⟩⟩
      rw [n30]; omega
    refine ⟨_, rfl, rfl, _, rfl, ite2 (fun hc => ?_) (fun hc2 => ?_)⟩
    · refine ⟨_, rfl, p, _, rfl, hp1, by decide +kernel, by decide +kernel, fun d H2 a b c hp2 => ⟨_, _, rfl, rfl, q _ _ ?_ (c1.trans c) hp2⟩⟩
      rw [n30]; omega
    refine ⟨_, rfl, rfl, _, rfl, ite2 (fun hc => ?_) (fun hc3 => ?_)⟩
    · refine ⟨_, rfl, _, _, rfl, rfl, ⟨by decide +kernel, by decide +kernel, by decide +kernel⟩, _, _, rfl, rfl, .inl ⟨by decide +kernel, by decide +kernel⟩, _, _, rfl, rfl, p, _, rfl, hp1, by decide +kernel, by decide +kernel, fun d H2 a b c hp2 => ⟨_, _, rfl, rfl, ⟨by decide +kernel, by decide +kernel, by decide +kernel⟩, _, _, rfl, rfl, _, _, rfl, rfl, q _ _ ?_ (c1.trans c) hp2⟩⟩
      rw [e30] at b ⊢
      rw [n30]
      omega
    have hd : d1 = 3 ∨ d1 = 4 := by
      have z1 : d1 ≠ 0 := fun e => hc1 (by rw [e]; rfl)
      have z2 : d1 ≠ 1 := fun e => hc2 (by rw [e]; rfl)
      have z3 : d1 ≠ 2 := fun e => hc3 (by rw [e]; rfl)
      omega
    refine ⟨_, _, rfl, rfl, ⟨by decide +kernel, by decide +kernel, by decide +kernel⟩, _, _, rfl, rfl, _, _, rfl, rfl, ⟨by decide +kernel, by decide +kernel, by decide +kernel⟩, _, _, rfl, rfl, two_line, fun l1 hl1 => ?_⟩
    refine ⟨_, rfl, _, _, rfl, rfl, l1, _, _, _, rfl, rfl, .of upd_same, atI_ints (S := [10 ^ (30 : Int).toNat - 1, 1 - 10 ^ (30 : Int).toNat]) (by omega) (by show d1 - 3 < 2; omega), ?_⟩
    refine ⟨_, rfl, p, _, rfl, hp1.same (Same.upd hl1), by decide +kernel, by decide +kernel, fun d H2 a b c hp2 => ?_⟩
    refine ⟨_, rfl, two_line, fun l2 hl2 => ?_⟩
    refine ⟨_, rfl, _, _, rfl, rfl, l2, _, _, _, rfl, rfl, .of upd_same, atI_ints (S := [-1, 1]) (by omega) (by show d1 - 3 < 2; omega), ?_⟩
    refine ⟨_, _, rfl, rfl, .inl ⟨by omega, by omega⟩, _, _, rfl, rfl, q _ _ ?_ (((c1.same (Same.upd hl1)).trans c).same (Same.upd hl2)) (hp2.same (Same.upd hl2))⟩
    rw [e30, n30]
    rcases hd with rfl | rfl
    · show (((1000000000000000000000000000000 : Int) - 1) + d * -1).natAbs < _
      omega
    · show (((1 : Int) - 1000000000000000000000000000000) + d * 1).natAbs < _
      omega
theorem w30 {d : Int} (h : d.natAbs < 10 ^ 30) : -W30 < d ∧ d < W30 := by
  have n30 : (10 : Nat) ^ 30 = 1000000000000000000000000000000 := by decide +kernel
  rw [n30] at h
  have e : W30 = 1000000000000000000000000000000 := rfl
  rw [e]
  omega
theorem _root_.L2.But.none {p : Addr} {H H' : Hp} {t : Addr} (c : But p H H') (hp : PotAt H' p) (h : H' t = none) : H t = none := by
  cases e : H t with
  | none => rfl
  | some o =>
    by_cases z : t = p
    · obtain ⟨x, y, k⟩ := hp
      rw [z] at h
      rw [k] at h
      cases h
    · rw [c _ _ e z] at h
      cases h
/-- a drawn state -/
inductive sp_state (vs : List V) (H : Hp) (Q : VK) (E : XK) : Prop
  | mk (p : Addr) (e : vs = [.ref p]) (h1 : PotAt H p) (q : ∀ (x : S4) (t : Addr) (H' : Hp), OkS x → But p H H' → PotAt H' p → H t = none → H' t = some (.tup (stV x)) → Q (.ref t) H') : sp_state vs H Q E
theorem sc_state : FnScope ["_law_pot_here", "_law_way", "_law_one", "_law_other", "_law_least", "_law_greatest", "_law_count", "_law_low", "_law_high", "_law_more"] ["_law_pot_here"] (defScope s_law_state) := ⟨rfl, rfl, rfl, by decide +kernel, rfl, by decide +kernel, by decide +kernel⟩
set_option maxHeartbeats 8000000 in
theorem state (T : Txt K mg C) : Can P w K mg base 3 "_law_state" ["_law_pot_here"] sp_state := by
  refine fn_can T.f_law_state sc_state (fun vs H Q E h => ?_) (fun f cdv A outer s H vs Q E hr h => ?_)
  · obtain ⟨p, rfl, _⟩ := h
    rfl
  · obtain ⟨p, rfl, hp, q⟩ := h
    refine ⟨_, (pss_cons (ps_set (i := 1) sc_state.nd rfl (Or.inl rfl) (pe_can (take T) hr (pa2 (pv 0) pe_int)))
        (pss_cons (ps_if (pt_cmpR op_eq (pv 1) pe_int (nomark _)) (pss_one (ps_ret (pe_tup (pa_cons pe_int (pa3 pe_int pe_non pe_non))))) pss_nil)
        (pss_cons (ps_par (i := 2) (j := 3) rfl sc_state.nd rfl rfl (by decide) rfl rfl (pa2 (pe_can (wide T) hr (pa1 (pv 0))) (pe_can (wide T) hr (pa1 (pv 0)))) rfl)
        (pss_cons (ps_par (i := 4) (j := 5) rfl sc_state.nd rfl rfl (by decide) rfl rfl (pa2 (pe_b (call_min2 rfl) T.b_min boot_min (pa2 (pv 2) (pv 3))) (pe_b (call_max2 rfl) T.b_max boot_max (pa2 (pv 2) (pv 3)))) rfl)
        (pss_cons (ps_if (pt_cmpR op_eq (pv 1) pe_int (nomark _)) (pss_one (ps_ret (pe_tup (pa_cons pe_int (pa3 (pv 4) (pv 4) (pv 4)))))) pss_nil)
        (pss_cons (ps_set (i := 6) sc_state.nd rfl (Or.inl rfl) (pe_op op_add pe_int (pe_ix (ix_listK K) (pe_lst (pa3 (pe_can (take T) hr (pa2 (pv 0) pe_int)) (pe_can (take T) hr (pa2 (pv 0) pe_int)) (pe_can (take T) hr (pa2 (pv 0) (pe_op op_sub (pe_op op_pow pe_int pe_int) pe_int))))) (pe_can (take T) hr (pa2 (pv 0) pe_int)) (fun _ _ => rfl))))
        (pss_cons (ps_set (i := 7) sc_state.nd rfl (Or.inl rfl) (pe_op op_add (pe_op op_mulB (pv 4) (pe_op op_sub (pv 6) pe_int)) (pv 5)))
        (pss_cons (ps_set (i := 8) sc_state.nd rfl (Or.inl rfl) (pe_op op_add (pe_op op_mulB (pv 5) (pe_op op_sub (pv 6) pe_int)) (pv 4)))
        (pss_cons (ps_set (i := 9) sc_state.nd rfl (Or.inl rfl) (pe_can (take T) hr (pa2 (pv 0) (pe_op op_add (pe_op op_sub (pv 8) (pv 7)) pe_int))))
        (pss_one (ps_ret (pe_tup (pa_cons (pv 6) (pa3 (pe_ix (ix_listK K) (pe_lst (pa2 (pe_op op_add (pv 7) (pv 9)) (pe_op op_sub (pv 8) (pv 9)))) (pe_can (take T) hr (pa2 (pv 0) pe_int)) (fun _ _ => rfl)) (pv 4) (pv 5))))))))))))))), ?_⟩
    have e30 : (10 : Int) ^ (30 : Int).toNat = 1000000000000000000000000000000 := by decide +kernel
    have hW : W30 = 1000000000000000000000000000000 := rfl
    refine ⟨_, rfl, p, _, rfl, hp, by decide +kernel, by decide +kernel, fun d1 H1 a1 b1 c1 hp1 => ?_⟩
    refine ⟨_, rfl, rfl, _, rfl, ite2 (fun hc => ?_) (fun hc1 => ?_)⟩
    · refine ⟨four_line, fun t ht => ?_⟩
      exact q ⟨0, 0, none⟩ t _ .non (c1.same (Same.upd ht)) (hp1.same (Same.upd ht)) (c1.none hp1 ht) upd_same
    refine ⟨_, rfl, p, rfl, hp1, fun m H2 m1 c2 hp2 => ⟨_, rfl, p, rfl, hp2, fun n H3 n1 c3 hp3 => ⟨_, _, rfl, ?_⟩⟩⟩
    refine ⟨_, rfl, _, rfl, _, _, rfl, _, rfl, _, rfl, _, _, rfl, _, _, rfl, ?_⟩
    have mw := w30 m1
    have nw := w30 n1
    have lg : (if n < m then n else m) ≤ (if n > m then n else m) := by split <;> split <;> omega
    have l1 : -W30 < (if n < m then n else m) ∧ (if n < m then n else m) < W30 := by split <;> omega
    have g1 : -W30 < (if n > m then n else m) ∧ (if n > m then n else m) < W30 := by split <;> omega
    generalize (if n < m then n else m) = l at lg l1 ⊢
    generalize (if n > m then n else m) = g at lg g1 ⊢
    have cA : But p H H3 := (c1.trans c2).trans c3
    refine ⟨_, rfl, rfl, _, rfl, ite2 (fun hc => ?_) (fun hc2 => ?_)⟩
    · refine ⟨_, rfl, _, rfl, _, rfl, four_line, fun t ht => ?_⟩
      exact q ⟨1, l, some (l, l)⟩ t _ (.som 1 l l l (by omega) (by omega) l1.1 l1.2 (Int.le_refl _) (by omega) (by omega)) (cA.same (Same.upd ht)) (hp3.same (Same.upd ht)) (cA.none hp3 ht) upd_same
    refine ⟨_, rfl, p, _, rfl, hp3, by decide +kernel, by decide +kernel, fun k1 H4 x1 y1 c4 hp4 => ?_⟩
    refine ⟨_, rfl, p, _, rfl, hp4, by decide +kernel, by decide +kernel, fun k2 H5 x2 y2 c5 hp5 => ?_⟩
    refine ⟨_, rfl, _, _, rfl, rfl, ⟨by decide +kernel, by decide +kernel, by decide +kernel⟩, _, _, rfl, rfl, p, _, rfl, hp5, by decide +kernel, by decide +kernel, fun k3 H6 x3 y3 c6 hp6 => ?_⟩
    refine ⟨three_line, fun L hL => ?_⟩
    have nL : L ≠ p := hp6.ne hL
    refine ⟨_, rfl, p, _, rfl, hp6.same (Same.upd hL), by decide +kernel, by decide +kernel, fun i H8 x4 y4 c8 hp8 => ?_⟩
    refine ⟨L, _, _, _, rfl, rfl, .of (c8 _ _ upd_same nL), atI_ints (S := [k1, k2, k3]) x4 (by show i < 3; exact y4), ?_⟩
    have cB : But p H H8 := (((cA.trans c4).trans c5).trans c6).same (Same.upd hL) |>.trans c8
    have kb : 0 ≤ [k1, k2, k3].getD i.toNat 0 ∧ [k1, k2, k3].getD i.toNat 0 < 999999999999999999999999999999 := by
      have y3' : k3 < 10 ^ (30 : Int).toNat - 1 := y3
      rw [e30] at y3'
      rcases (show i = 0 ∨ i = 1 ∨ i = 2 by omega) with rfl | rfl | rfl
      · show 0 ≤ k1 ∧ k1 < _
        omega
      · show 0 ≤ k2 ∧ k2 < _
        omega
      · show 0 ≤ k3 ∧ k3 < _
        omega
    generalize [k1, k2, k3].getD i.toNat 0 = kk at kb ⊢
    refine ⟨_, _, rfl, rfl, ?_⟩
    have cc : 2 ≤ 2 + kk ∧ 2 + kk ≤ W30 := by omega
    generalize (2 : Int) + kk = c at cc ⊢
    have cn : (c - 1).natAbs < 2 ^ 300 := by
      have e : (2 : Nat) ^ 300 = 2037035976334486086268445688409378161051468393665936250636140449354381299763336706183397376 := by decide +kernel
      omega
    refine ⟨_, rfl, _, rfl, _, _, rfl, rfl, _, _, rfl, rfl, ⟨wide_nat l1.1 l1.2, cn⟩, _, rfl, _, _, rfl, rfl, ?_⟩
    refine ⟨_, rfl, _, rfl, _, _, rfl, rfl, _, _, rfl, rfl, ⟨wide_nat g1.1 g1.2, cn⟩, _, rfl, _, _, rfl, rfl, ?_⟩
    have df : g * (c - 1) + l - (l * (c - 1) + g) = (g - l) * (c - 2) := by
      rw [Int.sub_mul, Int.mul_sub, Int.mul_sub, Int.mul_sub, Int.mul_sub]; omega
    have d0 : 0 ≤ (g - l) * (c - 2) := Int.mul_nonneg (by omega) (by omega)
    have d1 : (g - l) * (c - 2) ≤ 2000000000000000000000000000000 * 1000000000000000000000000000000 := Int.mul_le_mul (by omega) (by omega) (by omega) (by omega)
    refine ⟨_, rfl, _, rfl, _, rfl, _, _, rfl, rfl, _, _, rfl, rfl, p, _, rfl, hp8, by omega, by omega, fun mo H9 x5 y5 c9 hp9 => ?_⟩
    rw [df] at y5
    refine ⟨_, rfl, _, rfl, _, rfl, _, _, rfl, rfl, _, rfl, _, rfl, _, _, rfl, rfl, two_line, fun L2 hL2 => ?_⟩
    have nL2 : L2 ≠ p := hp9.ne hL2
    refine ⟨_, rfl, p, _, rfl, hp9.same (Same.upd hL2), by decide +kernel, by decide +kernel, fun j HA x6 y6 cAA hpA => ?_⟩
    refine ⟨L2, _, _, _, rfl, rfl, .of (cAA _ _ upd_same nL2), atI_ints (S := [l * (c - 1) + g + mo, g * (c - 1) + l - mo]) x6 (by show j < 2; exact y6), ?_⟩
    have tb : l * (c - 1) + g ≤ [l * (c - 1) + g + mo, g * (c - 1) + l - mo].getD j.toNat 0 ∧ [l * (c - 1) + g + mo, g * (c - 1) + l - mo].getD j.toNat 0 ≤ g * (c - 1) + l := by
      rcases (show j = 0 ∨ j = 1 by omega) with rfl | rfl
      · show _ ≤ l * (c - 1) + g + mo ∧ l * (c - 1) + g + mo ≤ _
        omega
      · show _ ≤ g * (c - 1) + l - mo ∧ g * (c - 1) + l - mo ≤ _
        omega
    generalize [l * (c - 1) + g + mo, g * (c - 1) + l - mo].getD j.toNat 0 = t at tb ⊢
    refine ⟨_, rfl, _, rfl, four_line, fun tp ht => ?_⟩
    have cC : But p H HA := ((cB.trans c9).same (Same.upd hL2)).trans cAA
    exact q ⟨c, t, some (l, g)⟩ tp _ (.som c t l g (by omega) cc.2 l1.1 g1.2 lg tb.1 tb.2) (cC.same (Same.upd ht)) (hpA.same (Same.upd ht)) (cC.none hpA ht) upd_same
/-- drawn bounds -/
inductive sp_bounds (vs : List V) (H : Hp) (Q : VK) (E : XK) : Prop
  | mk (p : Addr) (e : vs = [.ref p]) (h1 : PotAt H p) (q : ∀ (lo hi : Int) (t : Addr) (H' : Hp), OkB lo hi → But p H H' → PotAt H' p → H t = none → H' t = some (.tup [.int lo, .int hi]) → Q (.ref t) H') : sp_bounds vs H Q E
theorem sc_bounds : FnScope ["_law_pot_here", "_law_one", "_law_other"] ["_law_pot_here"] (defScope s_law_bounds) := ⟨rfl, rfl, rfl, by decide +kernel, rfl, by decide +kernel, by decide +kernel⟩
set_option maxHeartbeats 8000000 in
theorem bounds (T : Txt K mg C) : Can P w K mg base 3 "_law_bounds" ["_law_pot_here"] sp_bounds := by
  refine fn_can T.f_law_bounds sc_bounds (fun vs H Q E h => ?_) (fun f cdv A outer s H vs Q E hr h => ?_)
  · obtain ⟨p, rfl, _⟩ := h
    rfl
  · obtain ⟨p, rfl, hp, q⟩ := h
    refine ⟨_, (pss_cons (ps_par (i := 1) (j := 2) rfl sc_bounds.nd rfl rfl (by decide) rfl rfl (pa2 (pe_can (wide T) hr (pa1 (pv 0))) (pe_can (wide T) hr (pa1 (pv 0)))) rfl)
        (pss_cons (ps_if (pt_cmpR op_eq (pe_can (take T) hr (pa2 (pv 0) pe_int)) pe_int (nomark _)) (pss_one (ps_ret (pe_tup (pa2 (pv 1) (pv 1))))) pss_nil)
        (pss_cons (ps_if (pt_cmpR op_eq (pe_can (take T) hr (pa2 (pv 0) pe_int)) pe_int (nomark _)) (pss_one (ps_ret (pe_tup (pa2 (pe_b (call_min2 rfl) T.b_min boot_min (pa2 (pv 1) (pe_op op_sub (pe_op op_pow pe_int pe_int) pe_int)))
        (pe_op op_add (pe_b (call_min2 rfl) T.b_min boot_min (pa2 (pv 1) (pe_op op_sub (pe_op op_pow pe_int pe_int) pe_int))) (pe_can (take T) hr (pa2 (pv 0) pe_int))))))) pss_nil)
        (pss_one (ps_ret (pe_tup (pa2 (pe_b (call_min2 rfl) T.b_min boot_min (pa2 (pv 1) (pv 2))) (pe_b (call_max2 rfl) T.b_max boot_max (pa2 (pv 1) (pv 2)))))))))), ?_⟩
    have e30 : (10 : Int) ^ (30 : Int).toNat = 1000000000000000000000000000000 := by decide +kernel
    have hW : W30 = 1000000000000000000000000000000 := rfl
    refine ⟨_, rfl, p, rfl, hp, fun m H2 m1 c2 hp2 => ⟨_, rfl, p, rfl, hp2, fun n H3 n1 c3 hp3 => ⟨_, _, rfl, ?_⟩⟩⟩
    have mw := w30 m1
    have nw := w30 n1
    refine ⟨_, rfl, p, _, rfl, hp3, by decide +kernel, by decide +kernel, fun d1 H4 x1 y1 c4 hp4 => ?_⟩
    have cA : But p H H4 := (c2.trans c3).trans c4
    refine ⟨rfl, _, rfl, ite2 (fun hc => ?_) (fun hc1 => ?_)⟩
    · refine ⟨_, rfl, _, rfl, two_line, fun t ht => ?_⟩
      exact q m m t _ ⟨mw.1, mw.2, Int.le_refl _⟩ (cA.same (Same.upd ht)) (hp4.same (Same.upd ht)) (cA.none hp4 ht) upd_same
    refine ⟨_, rfl, p, _, rfl, hp4, by decide +kernel, by decide +kernel, fun d2 H5 x2 y2 c5 hp5 => ?_⟩
    have cB : But p H H5 := cA.trans c5
    refine ⟨rfl, _, rfl, ite2 (fun hc => ?_) (fun hc1 => ?_)⟩
    · refine ⟨_, rfl, _, _, rfl, rfl, ⟨by decide +kernel, by decide +kernel, by decide +kernel⟩, _, _, rfl, rfl, _, _, rfl, _, rfl, _, _, rfl, rfl, ⟨by decide +kernel, by decide +kernel, by decide +kernel⟩, _, _, rfl, rfl, _, _, rfl, _, rfl, p, _, rfl, hp5, by decide +kernel, by decide +kernel, fun d3 H6 x3 y3 c6 hp6 => ?_⟩
      refine ⟨_, _, rfl, rfl, two_line, fun t ht => ?_⟩
      have cC := cB.trans c6
      refine q _ _ t _ ?_ (cC.same (Same.upd ht)) (hp6.same (Same.upd ht)) (cC.none hp6 ht) upd_same
      rw [e30]
      constructor
      · split <;> omega
      · split <;> omega
      · omega
    · refine ⟨_, rfl, _, rfl, _, _, rfl, _, rfl, _, rfl, _, _, rfl, two_line, fun t ht => ?_⟩
      refine q _ _ t _ ?_ (cB.same (Same.upd ht)) (hp5.same (Same.upd ht)) (cB.none hp5 ht) upd_same
      constructor
      · split <;> omega
      · split <;> omega
      · split <;> split <;> omega
end
end Pr
set_option Elab.async false
set_option linter.all false
set_option maxRecDepth 100000
/-! things that are no states, no bounds -/
namespace Pr
open PySem L2 PyProof.Rows Pl
/-- a thing that is no object, and its data -/
inductive Leaf : V → PyData → Prop
  | non : Leaf .non .none
  | bl (b : Bool) : Leaf (.bl b) (.bool b)
  | int (i : Int) (h : i.natAbs < 10 ^ 62) : Leaf (.int i) (.int i)
  | str (x : Str) (h : x.cps.size ≤ 8) (h2 : x.cps.toList.all (fun c => decide (c < 16 ^ 8)) = true) : Leaf (.str x) (.str x)
structure DOk (n : Nat) (d : PyData) : Prop where
  sh : d.showable = true
  ls : d.leavesShort 70 = true
  bk : d.bulk ≤ n
  dp : d.depth ≤ 2
theorem Leaf.ok {v : V} {d : PyData} (h : Leaf v d) : DOk 8 d ∧ d.depth = 0 ∧ d.hasDict = false := by
  cases h with
  | non => exact ⟨⟨rfl, rfl, by decide, by decide⟩, rfl, rfl⟩
  | bl b => exact ⟨⟨rfl, rfl, Nat.zero_le _, Nat.zero_le _⟩, rfl, rfl⟩
  | int i h =>
    refine ⟨⟨?_, ?_, Nat.zero_le _, Nat.zero_le _⟩, rfl, rfl⟩
    · unfold PyData.showable
      exact decide_eq_true (PySem.Spec.log2_small (Nat.lt_trans h (by decide +kernel)))
    · unfold PyData.leavesShort
      refine decide_eq_true ?_
      show (Str.ofString (toString i)).length ≤ 70
      rw [PySem.ofString_length]
      exact Nat.le_trans (int_text_length_le10 (k := 62) (by decide) h) (by decide)
  | str x h h2 => exact ⟨⟨rfl, h2, h, Nat.zero_le _⟩, rfl, rfl⟩
theorem Leaf.dat {H : Hp} {v : V} {d : PyData} (h : Leaf v d) : Dat H d v := by
  cases h <;> (unfold Dat; rfl)
theorem Leaf.kd {H : Hp} {v : V} {d : PyData} (h : Leaf v d) : Kd H v := by
  cases h with
  | non => exact ⟨_, .non⟩
  | bl b => exact ⟨_, .s (.bl b)⟩
  | int i h => exact ⟨_, .s (.int i)⟩
  | str x h h2 => exact ⟨_, .str x⟩
theorem leaves_ok : ∀ {xs : List V} {ds : List PyData}, Paired Leaf xs ds → PyData.showableAll ds = true ∧ PyData.leavesShortAll 70 ds = true ∧ PyData.bulkAll ds ≤ 9 * xs.length ∧ PyData.depthAll ds = 0 ∧ PyData.hasDictAll ds = false ∧ ∀ H, DatAll H ds xs
  | _, _, .nil => ⟨rfl, rfl, Nat.le_refl _, rfl, rfl, fun H => by unfold DatAll; rfl⟩
  | _, _, .cons h t => by
    obtain ⟨a, b, c, d, e, f⟩ := leaves_ok t
    obtain ⟨h1, h2, h3⟩ := h.ok
    unfold PyData.showableAll PyData.leavesShortAll PyData.bulkAll PyData.depthAll PyData.hasDictAll
    rw [a, b, d, e, h1.sh, h1.ls, h2, h3]
    have := h1.bk
    refine ⟨rfl, rfl, ?_, rfl, rfl, fun H => ?_⟩
    · rw [List.length_cons]; omega
    · unfold DatAll
      exact ⟨_, _, rfl, h.dat, f H⟩
/-- a thing that the law hands in, apart from the pot; what it is to the check; its data -/
inductive Thing (p : Addr) (H : Hp) : V → Option (List V) → PyData → Prop
  | leaf {v : V} {d : PyData} (l : Leaf v d) : Thing p H v none d
  | tup {a : Addr} {xs : List V} {ds : List PyData} (n : a ≠ p) (h : H a = some (.tup xs)) (l : Paired Leaf xs ds) (hn : xs.length ≤ 6) : Thing p H (.ref a) (some xs) (.tuple ds)
  | lst {a : Addr} {xs : List V} {ds : List PyData} (n : a ≠ p) (h : H a = some (.lst xs)) (l : Paired Leaf xs ds) (hn : xs.length ≤ 6) : Thing p H (.ref a) (some xs) (.list ds)
  | dk {a : Addr} (n : a ≠ p) (h : H a = some (.dK [])) : Thing p H (.ref a) none (.dict [])
  | lit {a : Addr} {kvs : List (PyData × PyData)} (n : a ≠ p) (h : H a = some (LitO a kvs)) (ok : DOk 60 (.dict kvs)) : Thing p H (.ref a) none (.dict kvs)
theorem Thing.but {p : Addr} {H H' : Hp} {v : V} {o : Option (List V)} {d : PyData} (t : Thing p H v o d) (c : But p H H') : Thing p H' v o d := by
  cases t with
  | leaf l => exact .leaf l
  | tup n h l hn => exact .tup n (c _ _ h n) l hn
  | lst n h l hn => exact .lst n (c _ _ h n) l hn
  | dk n h => exact .dk n (c _ _ h n)
  | lit n h ok => exact .lit n (c _ _ h n) ok
theorem leaf_none {H : Hp} {v : V} {d : PyData} (l : Leaf v d) : Ls H v none := by
  cases l with
  | non => exact .non
  | bl b => exact .bl b
  | int i h => exact .int i
  | str x h h2 => exact .str x
theorem Thing.ls {p : Addr} {H : Hp} {v : V} {o : Option (List V)} {d : PyData} (t : Thing p H v o d) : Ls H v o := by
  cases t with
  | leaf l => exact leaf_none l
  | tup n h l hn => exact .sq (.inr h)
  | lst n h l hn => exact .sq (.inl h)
  | dk n h => exact .dK h
  | lit n h ok => exact .lit h
theorem leaf_mem : ∀ {xs : List V} {ds : List PyData}, Paired Leaf xs ds → ∀ x ∈ xs, ∃ d, Leaf x d
  | _, _, .cons h t, x, hx => by
    rcases List.mem_cons.mp hx with rfl | hx
    · exact ⟨_, h⟩
    · exact leaf_mem t x hx
theorem Thing.kds {p : Addr} {H : Hp} {v : V} {o : Option (List V)} {d : PyData} (t : Thing p H v o d) : ∀ xs, o = some xs → ∀ x ∈ xs, Kd H x := fun xs e x hx => by
  cases t with
  | leaf l => cases e
  | tup n h l hn => cases e; obtain ⟨d, k⟩ := leaf_mem l x hx; exact k.kd
  | lst n h l hn => cases e; obtain ⟨d, k⟩ := leaf_mem l x hx; exact k.kd
  | dk n h => cases e
  | lit n h ok => cases e
theorem Thing.kd {p : Addr} {H : Hp} {v : V} {o : Option (List V)} {d : PyData} (t : Thing p H v o d) : Kd H v := by
  cases t with
  | leaf l => exact l.kd
  | tup n h l hn => exact ⟨_, .s (.tup h)⟩
  | lst n h l hn => exact ⟨_, .s (.lst h)⟩
  | dk n h => exact ⟨_, .dK h⟩
  | lit n h ok => exact ⟨_, .lit h⟩
theorem Thing.dat {p : Addr} {H : Hp} {v : V} {o : Option (List V)} {d : PyData} (t : Thing p H v o d) : Dat1 H d v ∧ DOk 60 d := by
  cases t with
  | leaf l =>
    obtain ⟨a, b, c⟩ := l.ok
    exact ⟨.dat l.dat c, ⟨a.sh, a.ls, by have := a.bk; omega, a.dp⟩⟩
  | tup n h l hn =>
    obtain ⟨a, b, c, d, e, f⟩ := leaves_ok l
    refine ⟨.dat (by unfold Dat; exact ⟨_, _, rfl, h, f H⟩) (by unfold PyData.hasDict; exact e), ⟨by unfold PyData.showable; exact a, by unfold PyData.leavesShort; exact b, by simp only [PyData.bulk]; omega, by simp only [PyData.depth, d]; omega⟩⟩
  | lst n h l hn =>
    obtain ⟨a, b, c, d, e, f⟩ := leaves_ok l
    refine ⟨.dat (by unfold Dat; exact ⟨_, _, rfl, h, f H⟩) (by unfold PyData.hasDict; exact e), ⟨by unfold PyData.showable; exact a, by unfold PyData.leavesShort; exact b, by simp only [PyData.bulk]; omega, by simp only [PyData.depth, d]; omega⟩⟩
  | dk n h => exact ⟨.dK h .nil, ⟨rfl, rfl, by decide, by decide⟩⟩
  | lit n h ok => exact ⟨.lit h, ok⟩
/-- four such things in a list, shown -/
theorem shown4 {p : Addr} {H : Hp} {v1 v2 v3 v4 : V} {o1 o2 o3 o4 : Option (List V)} {d1 d2 d3 d4 : PyData} {Q : VK} {a : Addr} (t1 : Thing p H v1 o1 d1) (t2 : Thing p H v2 o2 d2) (t3 : Thing p H v3 o3 d3) (t4 : Thing p H v4 o4 d4) (h : H a = some (.lst [v1, v2, v3, v4]))
    (q : Q (.str (PyData.list [d1, d2, d3, d4]).shown) H) : cReprL [.ref a] H Q := by
  obtain ⟨a1, k1⟩ := t1.dat
  obtain ⟨a2, k2⟩ := t2.dat
  obtain ⟨a3, k3⟩ := t3.dat
  obtain ⟨a4, k4⟩ := t4.dat
  refine .mk a _ [d1, d2, d3, d4] rfl h (.cons a1 (.cons a2 (.cons a3 (.cons a4 .nil)))) ?_ ?_ ?_ q
  · simp only [PyData.showableAll, k1.sh, k2.sh, k3.sh, k4.sh, Bool.and_self]
  · have := PyData.shown_le_bulk 70 (by decide) (.list [d1, d2, d3, d4]) (by simp only [PyData.leavesShort, PyData.leavesShortAll, k1.ls, k2.ls, k3.ls, k4.ls, Bool.and_self])
    have b1 := k1.bk
    have b2 := k2.bk
    have b3 := k3.bk
    have b4 := k4.bk
    have e : (PyData.list [d1, d2, d3, d4]).bulk ≤ 244 := by simp only [PyData.bulk, PyData.bulkAll]; omega
    have e2 : (70 + 2) * (PyData.list [d1, d2, d3, d4]).bulk ≤ 72 * 244 := Nat.mul_le_mul (by decide) e
    rw [sizeLine_eq]
    omega
  · have b1 := k1.dp
    have b2 := k2.dp
    have b3 := k3.dp
    have b4 := k4.dp
    simp only [PyData.depth, PyData.depthAll]
    omega
/-! ### lists of such things, put together -/
/-- an expression that comes to a new thing -/
def Gr (p : Addr) (R : Hp → V → Prop) (t : TE) (σ : L2.St) : Prop := ∀ H (Q : VK), PotAt H p → (∀ v H', Same H H' → R H' v → Q v H') → t σ H Q
def GrA (p : Addr) (R : Hp → V → Prop) (n : Nat) (t : TA) (σ : L2.St) : Prop := ∀ H (Q : List V → Hp → Prop), PotAt H p → (∀ vs H', Same H H' → vs.length = n → (∀ v ∈ vs, R H' v) → Q vs H') → t σ H Q
def Mono (R : Hp → V → Prop) : Prop := ∀ H H' v, Same H H' → R H v → R H' v
theorem GrA.nil {p : Addr} {R : Hp → V → Prop} {σ : L2.St} : GrA p R 0 tNil σ := fun H Q _ q => q [] H (Same.refl _) rfl fun _ h => nomatch h
theorem GrA.cons {p : Addr} {R : Hp → V → Prop} {σ : L2.St} {t : TE} {ta : TA} {n : Nat} (m : Mono R) (g : Gr p R t σ) (r : GrA p R n ta σ) : GrA p R (n + 1) (tCons t ta) σ := fun H Q hp q =>
  g H _ hp fun v H1 s1 r1 => r H1 _ (hp.same s1) fun vs H2 s2 l2 r2 => q _ _ (s1.trans s2) (by rw [List.length_cons, l2]) fun u hu => by
    rcases List.mem_cons.mp hu with rfl | hu
    · exact m _ _ _ s2 r1
    · exact r2 u hu
theorem gr_leaf {p : Addr} {R : Hp → V → Prop} {σ : L2.St} (v : V) (h : ∀ H, R H v) : Gr p R (tC v) σ := fun H Q _ q => q v H (Same.refl _) (h H)
def PurA (t : TA) (σ : L2.St) (vs : List V) : Prop := ∀ H (Q : List V → Hp → Prop), Q vs H → t σ H Q
theorem gr_tup {p : Addr} {R : Hp → V → Prop} {σ : L2.St} {t : TA} (vs : List V) (h : PurA t σ vs) (hl : vs.length ≤ 6) (r : ∀ H a, a ≠ p → H a = some (.tup vs) → R H (.ref a)) : Gr p R (tTup t) σ := fun H Q hp q =>
  h H _ ⟨by rw [sizeLine_eq]; omega, fun a ha => q _ _ (Same.upd ha) (r _ _ (hp.ne ha) upd_same)⟩
theorem gr_lst {p : Addr} {R : Hp → V → Prop} {σ : L2.St} {t : TA} (vs : List V) (h : PurA t σ vs) (hl : vs.length ≤ 6) (r : ∀ H a, a ≠ p → H a = some (.lst vs) → R H (.ref a)) : Gr p R (tLst t) σ := fun H Q hp q =>
  h H _ ⟨by rw [sizeLine_eq]; omega, fun a ha => q _ _ (Same.upd ha) (r _ _ (hp.ne ha) upd_same)⟩
theorem gr_dk {p : Addr} {R : Hp → V → Prop} {σ : L2.St} (r : ∀ H a, a ≠ p → H a = some (.dK []) → R H (.ref a)) : Gr p R tDNewK σ := fun H Q hp q a ha => q _ _ (Same.upd ha) (r _ _ (hp.ne ha) upd_same)
theorem same_upd2 {H : Hp} {a : Addr} {o o' : HO} (h : H a = none) : Same H (upd (upd H a o) a o') := fun b u e => by
  rw [upd_ne (ne_of_none e h), upd_ne (ne_of_none e h)]; exact e
theorem gr_lit {p : Addr} {R : Hp → V → Prop} {σ : L2.St} {trs : List (TE × TE)} (kvs : List (KeyN × V)) (ds : List (PyData × PyData)) (h : ∀ H (Q : List (V × V) → Hp → Prop), Q (kvs.map fun kv => (kVN kv.1, kv.2)) H → tPairs trs σ H Q) (nd : (kvs.map (·.1)).Nodup) (fl : FlatN kvs ds)
    (r : ∀ H a, a ≠ p → H a = some (LitO a ds) → R H (.ref a)) : Gr p R (tLit trs) σ := fun H Q hp q a ha =>
  h _ _ ⟨upd_same, kvs, ds, rfl, nd, fl, q _ _ (same_upd2 ha) (r _ _ (hp.ne ha) upd_same)⟩
/-- the list of things so far -/
structure Some (p : Addr) (R : Hp → V → Prop) (H : Hp) (L : Addr) (n : Nat) : Prop where
  ex : ∃ xs, H L = some (.lst xs) ∧ xs.length = n ∧ ∀ x ∈ xs, R H x
  ne : L ≠ p
theorem Some.first {p : Addr} {R : Hp → V → Prop} (m : Mono R) {t : TA} {σ : L2.St} {H : Hp} {n : Nat} {Q : VK} (hp : PotAt H p) (g : GrA p R n t σ) (hn : n ≤ 1000) (q : ∀ L H', Same H H' → H L = none → Some p R H' L n → Q (.ref L) H') : tLst t σ H Q :=
  g H _ hp fun vs H1 s1 l1 r1 => ⟨by rw [sizeLine_eq, l1]; omega, fun L hL => q L _ (s1.trans (Same.upd hL)) (s1.none hL) ⟨⟨vs, upd_same, l1, fun x hx => m _ _ _ (Same.upd hL) (r1 x hx)⟩, (hp.same s1).ne hL⟩⟩
theorem Some.more {p : Addr} {R : Hp → V → Prop} (m : Mono R) {t : TA} {σ : L2.St} {H : Hp} {L : Addr} {n k : Nat} {Q : VK} (hp : PotAt H p) (h : Some p R H L n) (hs : σ[3]? = some (some (.ref L))) (g : GrA p R k t σ) (hn : n + k ≤ 1000)
    (q : ∀ L' H', Same H H' → H L' = none → Some p R H' L' (n + k) → Q (.ref L') H') : tOp rCat (tVar 3) (tLst t) σ H Q := by
  obtain ⟨⟨xs, hL, hn1, hx⟩, _⟩ := h
  refine ⟨_, hs, g H _ hp fun vs H1 s1 l1 r1 => ⟨by rw [sizeLine_eq, l1]; omega, fun B hB => ?_⟩⟩
  have s2 : Same H1 (upd H1 B (.lst vs)) := Same.upd hB
  refine ⟨L, B, xs, vs, rfl, rfl, s2 _ _ (s1 _ _ hL), upd_same, by rw [sizeLine_eq, hn1, l1]; omega, fun L' hL' => ?_⟩
  have s3 : Same (upd H1 B (.lst vs)) (upd (upd H1 B (.lst vs)) L' (.lst (xs ++ vs))) := Same.upd hL'
  refine q L' _ (s1.trans (s2.trans s3)) ((s1.trans s2).none hL') ⟨⟨_, upd_same, by rw [List.length_append, hn1, l1], fun x hx' => ?_⟩, (hp.same (s1.trans s2)).ne hL'⟩
  rcases List.mem_append.mp hx' with hx' | hx'
  · exact m _ _ _ (s1.trans (s2.trans s3)) (hx x hx')
  · exact m _ _ _ (s2.trans s3) (r1 x hx')
theorem Some.at {p : Addr} {R : Hp → V → Prop} {H : Hp} {L : Addr} {n : Nat} (h : Some p R H L n) {j : Int} (h0 : 0 ≤ j) (h1 : j < n) : ∃ xs v, H L = some (.lst xs) ∧ atI xs j = some v ∧ R H v := by
  obtain ⟨⟨xs, hL, hn, hx⟩, _⟩ := h
  obtain ⟨i, rfl⟩ : ∃ i : Nat, j = i := ⟨j.toNat, by omega⟩
  have hi : i < xs.length := by omega
  exact ⟨xs, xs[i], hL, atI_nat (List.getElem?_eq_getElem hi), hx _ (List.getElem_mem hi)⟩
/-- no state -/
inductive OddS (p : Addr) (H : Hp) (v : V) : Prop
  | mk (o : Option (List V)) (d : PyData) (t : Thing p H v o d) (n : okSt o = false) : OddS p H v
theorem oddS_mono (p : Addr) : Mono (OddS p) := fun H H' v s h => by
  obtain ⟨o, d, t, n⟩ := h
  exact ⟨o, d, t.but s.but, n⟩
theorem OddS.but {p : Addr} {H H' : Hp} {v : V} (h : OddS p H v) (c : But p H H') : OddS p H' v := by
  obtain ⟨o, d, t, n⟩ := h
  exact ⟨o, d, t.but c, n⟩
/-- no bounds -/
inductive OddB (p : Addr) (H : Hp) (v : V) : Prop
  | mk (a : Addr) (lo hi : V) (o1 o2 : Option (List V)) (d1 d2 : PyData) (e : v = .ref a) (n : a ≠ p) (h : H a = some (.tup [lo, hi])) (t1 : Thing p H lo o1 d1) (t2 : Thing p H hi o2 d2) (k : okBd lo hi = false) : OddB p H v
theorem oddB_mono (p : Addr) : Mono (OddB p) := fun H H' v s h => by
  obtain ⟨a, lo, hi, o1, o2, d1, d2, e, n, h, t1, t2, k⟩ := h
  exact ⟨a, lo, hi, o1, o2, d1, d2, e, n, s _ _ h, t1.but s.but, t2.but s.but, k⟩
theorem OddB.but {p : Addr} {H H' : Hp} {v : V} (h : OddB p H v) (c : But p H H') : OddB p H' v := by
  obtain ⟨a, lo, hi, o1, o2, d1, d2, e, n, h, t1, t2, k⟩ := h
  exact ⟨a, lo, hi, o1, o2, d1, d2, e, n, c _ _ h n, t1.but c, t2.but c, k⟩
end Pr
set_option Elab.async false
set_option linter.all false
set_option maxRecDepth 100000
namespace Pr
open PySem L2 PyProof.Rows Pl
theorem OkS.tot {x : S4} (h : OkS x) : x.t.natAbs ≤ 10 ^ 60 + 10 ^ 30 := by
  have e60 : (10 : Nat) ^ 60 = 1000000000000000000000000000000000000000000000000000000000000 := by decide +kernel
  have e30 : (10 : Nat) ^ 30 = 1000000000000000000000000000000 := by decide +kernel
  rw [e60, e30]
  cases h with
  | non => show (0 : Int).natAbs ≤ _; omega
  | som c t l g c1 c2 l1 g1 lg t1 t2 =>
    have hW : W30 = 1000000000000000000000000000000 := rfl
    show t.natAbs ≤ _
    have a1 : -(1000000000000000000000000000000 * 1000000000000000000000000000000) ≤ l * (c - 1) := by
      have k1 : -1000000000000000000000000000000 * (c - 1) ≤ l * (c - 1) := Int.mul_le_mul_of_nonneg_right (by omega) (by omega)
      omega
    have a2 : g * (c - 1) ≤ 1000000000000000000000000000000 * 1000000000000000000000000000000 := by
      have k1 : g * (c - 1) ≤ 1000000000000000000000000000000 * (c - 1) := Int.mul_le_mul_of_nonneg_right (by omega) (by omega)
      omega
    omega
theorem leafW {i : Int} (h1 : -W30 ≤ i) (h2 : i ≤ W30) : Leaf (.int i) (.int i) := .int i (by
  have e62 : (10 : Nat) ^ 62 = 100000000000000000000000000000000000000000000000000000000000000 := by decide +kernel
  have hW : W30 = 1000000000000000000000000000000 := rfl
  rw [e62]; omega)
theorem leafI {i : Int} (h : decide (i.natAbs < 10 ^ 62) = true) : Leaf (.int i) (.int i) := .int i (of_decide_eq_true h)
/-- four scalars that are no state -/
theorem oddT {p : Addr} {xs : List V} (ds : List PyData) (l : Paired Leaf xs ds) (hn : xs.length ≤ 6) (n : okSt (some xs) = false) : ∀ H a, a ≠ p → H a = some (.tup xs) → OddS p H (.ref a) := fun H a na h => ⟨_, _, .tup na h l hn, n⟩
theorem oddL {p : Addr} {xs : List V} (ds : List PyData) (l : Paired Leaf xs ds) (hn : xs.length ≤ 6) (n : okSt (some xs) = false) : ∀ H a, a ≠ p → H a = some (.lst xs) → OddS p H (.ref a) := fun H a na h => ⟨_, _, .lst na h l hn, n⟩
section
variable {P : Program} {w : World} {K : PySem.W.Frag} {mg : Str → Option Value} {base : Heap} {C : Addr}
inductive sp_no_state (vs : List V) (H : Hp) (Q : VK) (E : XK) : Prop
  | mk (p t : Addr) (x : S4) (e : vs = [.ref p, .ref t]) (h1 : PotAt H p) (h2 : H t = some (.tup (stV x))) (ok : OkS x) (q : ∀ v H', But p H H' → PotAt H' p → OddS p H' v → Q v H') : sp_no_state vs H Q E
theorem sc_no_state : FnScope ["_law_pot_here", "_law_state_here", "_law_far", "_law_some", "_law_low", "_law_high"] ["_law_pot_here", "_law_state_here"] (defScope s_law_no_state) := ⟨rfl, rfl, rfl, by decide +kernel, rfl, by decide +kernel, by decide +kernel⟩
set_option maxHeartbeats 16000000 in
theorem no_state (T : Txt K mg C) : Can P w K mg base 2 "_law_no_state" ["_law_pot_here", "_law_state_here"] sp_no_state := by
  refine fn_can T.f_law_no_state sc_no_state (fun vs H Q E h => ?_) (fun f cdv A outer s H vs Q E hr h => ?_)
  · obtain ⟨p, t, x, rfl, _⟩ := h
    rfl
  · obtain ⟨p, t, x, rfl, hp, ht, ok, q⟩ := h
    refine ⟨_, (pss_cons (ps_set (i := 2) sc_no_state.nd rfl (Or.inl rfl) (pe_op op_pow pe_int pe_int))
      (pss_cons (ps_set (i := 3) sc_no_state.nd rfl (Or.inl rfl) (pe_lst (pa_cons pe_non (pa_cons pe_int (pa_cons pe_str (pa_cons pe_dnewK (pa_cons (pe_lst pa_nil) (pa_cons (pe_tup pa_nil) (pa_cons pe_bl (pa3 (pe_tup (pa3 pe_int pe_int pe_non)) (pe_tup (pa_cons pe_int (pa_cons pe_int (pa3 pe_non pe_non pe_non)))) (pe_tup (pa_cons pe_int (pa3 pe_int pe_int pe_int)))))))))))))
      (pss_cons (ps_set (i := 3) sc_no_state.nd rfl (Or.inl rfl) (pe_op op_cat (pv 3) (pe_lst (pa_cons (pe_tup (pa_cons pe_int (pa3 pe_int pe_non pe_non))) (pa3 (pe_lit (pps_cons pe_int pe_int (pps_cons pe_int pe_int (pps_cons pe_int pe_int (pps_cons pe_int pe_int pps_nil)))) rfl rfl (List.cons_ne_nil _ _) (Nat.le_of_ble_eq_true rfl)) pe_str (pe_lit (pps_cons pe_int pe_int (pps_cons pe_int pe_int (pps_cons pe_non pe_int (pps_cons pe_str pe_int pps_nil)))) rfl rfl (List.cons_ne_nil _ _) (Nat.le_of_ble_eq_true rfl)))))))
      (pss_cons (ps_set (i := 3) sc_no_state.nd rfl (Or.inl rfl) (pe_op op_cat (pv 3) (pe_lst (pa_cons (pe_tup (pa_cons pe_bl (pa3 pe_int pe_non pe_non))) (pa_cons (pe_tup (pa_cons pe_int (pa3 pe_bl pe_non pe_non))) (pa3 (pe_tup (pa_cons pe_int (pa3 pe_int pe_int pe_non))) (pe_tup (pa_cons pe_int (pa3 pe_int pe_non pe_int))) (pe_tup (pa_cons pe_int (pa3 pe_non pe_int pe_int)))))))))
      (pss_cons (ps_set (i := 3) sc_no_state.nd rfl (Or.inl rfl) (pe_op op_cat (pv 3) (pe_lst (pa_cons (pe_tup (pa_cons pe_int (pa3 pe_int pe_int pe_int))) (pa_cons (pe_tup (pa_cons pe_int (pa3 pe_int pe_int pe_int))) (pa_cons (pe_tup (pa_cons pe_int (pa3 pe_int pe_int pe_int))) (pa3 (pe_tup (pa_cons (pe_un un_neg pe_int) (pa3 (pe_un un_neg pe_int) pe_int pe_int))) (pe_tup (pa_cons pe_bl (pa3 pe_int pe_int pe_int))) (pe_tup (pa_cons pe_int (pa3 pe_int pe_int pe_bl))))))))))
      (pss_cons (ps_set (i := 3) sc_no_state.nd rfl (Or.inl rfl) (pe_op op_cat (pv 3) (pe_lst (pa_cons (pe_tup (pa_cons pe_int (pa3 pe_int pe_int pe_bl))) (pa_cons (pe_tup (pa_cons pe_int (pa3 (pv 2) (pv 2) (pv 2)))) (pa3 (pe_tup (pa_cons pe_int (pa3 (pe_un un_neg (pv 2)) (pe_un un_neg (pv 2)) (pe_un un_neg (pv 2))))) (pe_tup (pa_cons pe_int (pa3 (pv 2) pe_int (pv 2)))) (pe_tup (pa_cons pe_int (pa3 (pe_un un_neg (pv 2)) (pe_un un_neg (pv 2)) pe_int)))))))))
      (pss_cons (ps_set (i := 3) sc_no_state.nd rfl (Or.inl rfl) (pe_op op_cat (pv 3) (pe_lst (pa_cons (pe_tup (pa_cons (pe_op op_add (pv 2) pe_int) (pa3 (pe_op op_add (pv 2) pe_int) pe_int pe_int))) (pa_cons (pe_tup (pa_cons pe_str (pa3 pe_int pe_int pe_int))) (pa_cons (pe_tup (pa_cons pe_int (pa3 pe_int pe_int pe_int))) (pa3 (pe_tup (pa_cons pe_int (pa3 pe_int pe_int pe_int))) (pe_tup (pa_cons pe_int (pa3 pe_int pe_int pe_int))) (pe_tup (pa_cons pe_int (pa3 pe_int pe_int pe_int))))))))))
      (pss_cons (ps_if (pt_cmpR op_gt (pe_ix ix_ob (pv 1) pe_int (fun _ _ => rfl)) pe_int (nomark _))
        (pss_cons (ps_set (i := 4) sc_no_state.nd rfl (Or.inl rfl) (pe_op op_add (pe_op op_mulB (pe_ix ix_ob (pv 1) pe_int (fun _ _ => rfl)) (pe_op op_sub (pe_ix ix_ob (pv 1) pe_int (fun _ _ => rfl)) pe_int)) (pe_ix ix_ob (pv 1) pe_int (fun _ _ => rfl))))
        (pss_cons (ps_set (i := 5) sc_no_state.nd rfl (Or.inl rfl) (pe_op op_add (pe_op op_mulB (pe_ix ix_ob (pv 1) pe_int (fun _ _ => rfl)) (pe_op op_sub (pe_ix ix_ob (pv 1) pe_int (fun _ _ => rfl)) pe_int)) (pe_ix ix_ob (pv 1) pe_int (fun _ _ => rfl))))
        (pss_one (ps_set (i := 3) sc_no_state.nd rfl (Or.inl rfl) (pe_op op_cat (pv 3) (pe_lst (pa2 (pe_tup (pa_cons (pe_ix ix_ob (pv 1) pe_int (fun _ _ => rfl)) (pa3 (pe_op op_sub (pv 4) pe_int) (pe_ix ix_ob (pv 1) pe_int (fun _ _ => rfl)) (pe_ix ix_ob (pv 1) pe_int (fun _ _ => rfl))))) (pe_lst (pa_cons (pe_ix ix_ob (pv 1) pe_int (fun _ _ => rfl)) (pa3 (pe_op op_add (pv 5) pe_int) (pe_ix ix_ob (pv 1) pe_int (fun _ _ => rfl)) (pe_ix ix_ob (pv 1) pe_int (fun _ _ => rfl))))))))))))
        pss_nil)
      (pss_one (ps_ret (pe_ix (ix_listK K) (pv 3) (pe_can (take T) hr (pa2 (pv 0) (pe_b (call_lenK K) T.b_len boot_len (pa1 (pv 3))))) (fun _ _ => rfl)))))))))))), ?_⟩
    have e30 : (10 : Int) ^ (30 : Int).toNat = 1000000000000000000000000000000 := by decide +kernel
    have hW : W30 = 1000000000000000000000000000000 := rfl
    have om := oddS_mono p
    refine ⟨_, _, rfl, rfl, ⟨by decide +kernel, by decide +kernel, by decide +kernel⟩, ?_⟩
    rw [e30]
    dsimp only [gName, tSeq, tAsg]
    refine Some.first om hp (n := 10) ?g1 (by decide) fun M1 H1 s1 _ m1 => ?_
    case g1 => exact (.cons (oddS_mono p) (gr_leaf (.non) fun H => ⟨_, _, .leaf (.non), rfl⟩)
        (.cons (oddS_mono p) (gr_leaf (.int 5) fun H => ⟨_, _, .leaf ((leafI (by decide +kernel))), rfl⟩)
        (.cons (oddS_mono p) (gr_leaf (.str "state") fun H => ⟨_, _, .leaf (.str _ (by decide) (by decide +kernel)), rfl⟩)
        (.cons (oddS_mono p) (gr_dk fun H a na h => ⟨_, _, .dk na h, rfl⟩)
        (.cons (oddS_mono p) (gr_lst [] (fun H Q q => q) (by decide) (oddL [] .nil (by decide) (by decide +kernel)))
        (.cons (oddS_mono p) (gr_tup [] (fun H Q q => q) (by decide) (oddT [] .nil (by decide) (by decide +kernel)))
        (.cons (oddS_mono p) (gr_leaf (.bl true) fun H => ⟨_, _, .leaf (.bl true), rfl⟩)
        (.cons (oddS_mono p) (gr_tup [.int 0, .int 0, .non] (fun H Q q => q) (by decide) (oddT [.int 0, .int 0, .none] (.cons (leafI (by decide +kernel)) (.cons (leafI (by decide +kernel)) (.cons .non .nil))) (by decide) (by decide +kernel)))
        (.cons (oddS_mono p) (gr_tup [.int 0, .int 0, .non, .non, .non] (fun H Q q => q) (by decide) (oddT [.int 0, .int 0, .none, .none, .none] (.cons (leafI (by decide +kernel)) (.cons (leafI (by decide +kernel)) (.cons .non (.cons .non (.cons .non .nil))))) (by decide) (by decide +kernel)))
        (.cons (oddS_mono p) (gr_tup [.int 0, .int 0, .int 0, .int 0] (fun H Q q => q) (by decide) (oddT [.int 0, .int 0, .int 0, .int 0] (.cons (leafI (by decide +kernel)) (.cons (leafI (by decide +kernel)) (.cons (leafI (by decide +kernel)) (.cons (leafI (by decide +kernel)) .nil)))) (by decide) (by decide +kernel)))
        .nil))))))))))
    refine Some.more om (hp.same s1) m1 rfl (k := 4) ?g2 (by decide) fun M2 H2 s2 _ m2 => ?_
    case g2 => exact (.cons (oddS_mono p) (gr_tup [.int 0, .int 1, .non, .non] (fun H Q q => q) (by decide) (oddT [.int 0, .int 1, .none, .none] (.cons (leafI (by decide +kernel)) (.cons (leafI (by decide +kernel)) (.cons .non (.cons .non .nil)))) (by decide) (by decide +kernel)))
        (.cons (oddS_mono p) (gr_lit [(some (.inl 2), .int 0), (some (.inl 5), .int 0), (some (.inl 1), .int 0), (some (.inl 4), .int 0)] [(.int 2, .int 0), (.int 5, .int 0), (.int 1, .int 0), (.int 4, .int 0)] (fun H Q q => q) (by decide +kernel) (.cons ⟨rfl, rfl⟩ (.cons ⟨rfl, rfl⟩ (.cons ⟨rfl, rfl⟩ (.cons ⟨rfl, rfl⟩ .nil)))) (fun H a na h => ⟨_, _, .lit na h ⟨by decide +kernel, by decide +kernel, by decide +kernel, by decide +kernel⟩, rfl⟩))
        (.cons (oddS_mono p) (gr_leaf (.str "2514") fun H => ⟨_, _, .leaf (.str _ (by decide) (by decide +kernel)), rfl⟩)
        (.cons (oddS_mono p) (gr_lit [(some (.inl 0), .int 0), (some (.inl 1), .int 1), (none, .int 2), (some (.inr ""), .int 3)] [(.int 0, .int 0), (.int 1, .int 1), (.none, .int 2), (.str "", .int 3)] (fun H Q q => q) (by decide +kernel) (.cons ⟨rfl, rfl⟩ (.cons ⟨rfl, rfl⟩ (.cons ⟨rfl, rfl⟩ (.cons ⟨rfl, rfl⟩ .nil)))) (fun H a na h => ⟨_, _, .lit na h ⟨by decide +kernel, by decide +kernel, by decide +kernel, by decide +kernel⟩, rfl⟩))
        .nil))))
    refine Some.more om (hp.same (s1.trans s2)) m2 rfl (k := 5) ?g3 (by decide) fun M3 H3 s3 _ m3 => ?_
    case g3 => exact (.cons (oddS_mono p) (gr_tup [.bl false, .int 0, .non, .non] (fun H Q q => q) (by decide) (oddT [.bool false, .int 0, .none, .none] (.cons (.bl false) (.cons (leafI (by decide +kernel)) (.cons .non (.cons .non .nil)))) (by decide) (by decide +kernel)))
        (.cons (oddS_mono p) (gr_tup [.int 0, .bl false, .non, .non] (fun H Q q => q) (by decide) (oddT [.int 0, .bool false, .none, .none] (.cons (leafI (by decide +kernel)) (.cons (.bl false) (.cons .non (.cons .non .nil)))) (by decide) (by decide +kernel)))
        (.cons (oddS_mono p) (gr_tup [.int 1, .int 1, .int 1, .non] (fun H Q q => q) (by decide) (oddT [.int 1, .int 1, .int 1, .none] (.cons (leafI (by decide +kernel)) (.cons (leafI (by decide +kernel)) (.cons (leafI (by decide +kernel)) (.cons .non .nil)))) (by decide) (by decide +kernel)))
        (.cons (oddS_mono p) (gr_tup [.int 1, .int 1, .non, .int 1] (fun H Q q => q) (by decide) (oddT [.int 1, .int 1, .none, .int 1] (.cons (leafI (by decide +kernel)) (.cons (leafI (by decide +kernel)) (.cons .non (.cons (leafI (by decide +kernel)) .nil)))) (by decide) (by decide +kernel)))
        (.cons (oddS_mono p) (gr_tup [.int 1, .non, .int 1, .int 1] (fun H Q q => q) (by decide) (oddT [.int 1, .none, .int 1, .int 1] (.cons (leafI (by decide +kernel)) (.cons .non (.cons (leafI (by decide +kernel)) (.cons (leafI (by decide +kernel)) .nil)))) (by decide) (by decide +kernel)))
        .nil)))))
    have t3 := s1.trans (s2.trans s3)
    refine Some.more om (hp.same t3) m3 rfl (k := 6) ?g4 (by decide) fun M4 H4 s4 _ m4 => ?_
    case g4 => exact (.cons (oddS_mono p) (gr_tup [.int 1, .int 2, .int 1, .int 1] (fun H Q q => q) (by decide) (oddT [.int 1, .int 2, .int 1, .int 1] (.cons (leafI (by decide +kernel)) (.cons (leafI (by decide +kernel)) (.cons (leafI (by decide +kernel)) (.cons (leafI (by decide +kernel)) .nil)))) (by decide) (by decide +kernel)))
        (.cons (oddS_mono p) (gr_tup [.int 1, .int 1, .int 1, .int 2] (fun H Q q => q) (by decide) (oddT [.int 1, .int 1, .int 1, .int 2] (.cons (leafI (by decide +kernel)) (.cons (leafI (by decide +kernel)) (.cons (leafI (by decide +kernel)) (.cons (leafI (by decide +kernel)) .nil)))) (by decide) (by decide +kernel)))
        (.cons (oddS_mono p) (gr_tup [.int 2, .int 2, .int 2, .int 1] (fun H Q q => q) (by decide) (oddT [.int 2, .int 2, .int 2, .int 1] (.cons (leafI (by decide +kernel)) (.cons (leafI (by decide +kernel)) (.cons (leafI (by decide +kernel)) (.cons (leafI (by decide +kernel)) .nil)))) (by decide) (by decide +kernel)))
        (.cons (oddS_mono p) (gr_tup [.int (-1), .int (-1), .int 1, .int 1] (fun H Q q => ⟨_, rfl, ⟨_, rfl, q⟩⟩) (by decide) (oddT [.int (-1), .int (-1), .int 1, .int 1] (.cons (leafI (by decide +kernel)) (.cons (leafI (by decide +kernel)) (.cons (leafI (by decide +kernel)) (.cons (leafI (by decide +kernel)) .nil)))) (by decide) (by decide +kernel)))
        (.cons (oddS_mono p) (gr_tup [.bl true, .int 1, .int 1, .int 1] (fun H Q q => q) (by decide) (oddT [.bool true, .int 1, .int 1, .int 1] (.cons (.bl true) (.cons (leafI (by decide +kernel)) (.cons (leafI (by decide +kernel)) (.cons (leafI (by decide +kernel)) .nil)))) (by decide) (by decide +kernel)))
        (.cons (oddS_mono p) (gr_tup [.int 1, .int 1, .int 1, .bl true] (fun H Q q => q) (by decide) (oddT [.int 1, .int 1, .int 1, .bool true] (.cons (leafI (by decide +kernel)) (.cons (leafI (by decide +kernel)) (.cons (leafI (by decide +kernel)) (.cons (.bl true) .nil)))) (by decide) (by decide +kernel)))
        .nil))))))
    have t4 := t3.trans s4
    refine Some.more om (hp.same t4) m4 rfl (k := 5) ?g5 (by decide) fun M5 H5 s5 _ m5 => ?_
    case g5 => exact (.cons (oddS_mono p) (gr_tup [.int 2, .int 3, .int 1, .bl true] (fun H Q q => q) (by decide) (oddT [.int 2, .int 3, .int 1, .bool true] (.cons (leafI (by decide +kernel)) (.cons (leafI (by decide +kernel)) (.cons (leafI (by decide +kernel)) (.cons (.bl true) .nil)))) (by decide) (by decide +kernel)))
        (.cons (oddS_mono p) (gr_tup [.int 1, .int 1000000000000000000000000000000, .int 1000000000000000000000000000000, .int 1000000000000000000000000000000] (fun H Q q => ⟨_, rfl, ⟨_, rfl, ⟨_, rfl, q⟩⟩⟩) (by decide) (oddT [.int 1, .int 1000000000000000000000000000000, .int 1000000000000000000000000000000, .int 1000000000000000000000000000000] (.cons (leafI (by decide +kernel)) (.cons (leafI (by decide +kernel)) (.cons (leafI (by decide +kernel)) (.cons (leafI (by decide +kernel)) .nil)))) (by decide) (by decide +kernel)))
        (.cons (oddS_mono p) (gr_tup [.int 1, .int (-1000000000000000000000000000000), .int (-1000000000000000000000000000000), .int (-1000000000000000000000000000000)] (fun H Q q => ⟨_, rfl, _, rfl, ⟨_, rfl, _, rfl, ⟨_, rfl, _, rfl, q⟩⟩⟩) (by decide) (oddT [.int 1, .int (-1000000000000000000000000000000), .int (-1000000000000000000000000000000), .int (-1000000000000000000000000000000)] (.cons (leafI (by decide +kernel)) (.cons (leafI (by decide +kernel)) (.cons (leafI (by decide +kernel)) (.cons (leafI (by decide +kernel)) .nil)))) (by decide) (by decide +kernel)))
        (.cons (oddS_mono p) (gr_tup [.int 2, .int 1000000000000000000000000000000, .int 0, .int 1000000000000000000000000000000] (fun H Q q => ⟨_, rfl, ⟨_, rfl, q⟩⟩) (by decide) (oddT [.int 2, .int 1000000000000000000000000000000, .int 0, .int 1000000000000000000000000000000] (.cons (leafI (by decide +kernel)) (.cons (leafI (by decide +kernel)) (.cons (leafI (by decide +kernel)) (.cons (leafI (by decide +kernel)) .nil)))) (by decide) (by decide +kernel)))
        (.cons (oddS_mono p) (gr_tup [.int 2, .int (-1000000000000000000000000000000), .int (-1000000000000000000000000000000), .int 0] (fun H Q q => ⟨_, rfl, _, rfl, ⟨_, rfl, _, rfl, q⟩⟩) (by decide) (oddT [.int 2, .int (-1000000000000000000000000000000), .int (-1000000000000000000000000000000), .int 0] (.cons (leafI (by decide +kernel)) (.cons (leafI (by decide +kernel)) (.cons (leafI (by decide +kernel)) (.cons (leafI (by decide +kernel)) .nil)))) (by decide) (by decide +kernel)))
        .nil)))))
    have t5 := t4.trans s5
    refine Some.more om (hp.same t5) m5 rfl (k := 6) ?g6 (by decide) fun M6 H6 s6 _ m6 => ?_
    case g6 => exact (.cons (oddS_mono p) (gr_tup [.int 1000000000000000000000000000001, .int 1000000000000000000000000000001, .int 1, .int 1] (fun H Q q => ⟨_, rfl, _, _, rfl, rfl, ⟨_, rfl, _, _, rfl, rfl, q⟩⟩) (by decide) (oddT [.int 1000000000000000000000000000001, .int 1000000000000000000000000000001, .int 1, .int 1] (.cons (leafI (by decide +kernel)) (.cons (leafI (by decide +kernel)) (.cons (leafI (by decide +kernel)) (.cons (leafI (by decide +kernel)) .nil)))) (by decide) (by decide +kernel)))
        (.cons (oddS_mono p) (gr_tup [.str "1", .int 1, .int 1, .int 1] (fun H Q q => q) (by decide) (oddT [.str "1", .int 1, .int 1, .int 1] (.cons (.str _ (by decide) (by decide +kernel)) (.cons (leafI (by decide +kernel)) (.cons (leafI (by decide +kernel)) (.cons (leafI (by decide +kernel)) .nil)))) (by decide) (by decide +kernel)))
        (.cons (oddS_mono p) (gr_tup [.int 2, .int 4, .int 1, .int 2] (fun H Q q => q) (by decide) (oddT [.int 2, .int 4, .int 1, .int 2] (.cons (leafI (by decide +kernel)) (.cons (leafI (by decide +kernel)) (.cons (leafI (by decide +kernel)) (.cons (leafI (by decide +kernel)) .nil)))) (by decide) (by decide +kernel)))
        (.cons (oddS_mono p) (gr_tup [.int 2, .int 2, .int 1, .int 2] (fun H Q q => q) (by decide) (oddT [.int 2, .int 2, .int 1, .int 2] (.cons (leafI (by decide +kernel)) (.cons (leafI (by decide +kernel)) (.cons (leafI (by decide +kernel)) (.cons (leafI (by decide +kernel)) .nil)))) (by decide) (by decide +kernel)))
        (.cons (oddS_mono p) (gr_tup [.int 3, .int 3, .int 1, .int 2] (fun H Q q => q) (by decide) (oddT [.int 3, .int 3, .int 1, .int 2] (.cons (leafI (by decide +kernel)) (.cons (leafI (by decide +kernel)) (.cons (leafI (by decide +kernel)) (.cons (leafI (by decide +kernel)) .nil)))) (by decide) (by decide +kernel)))
        (.cons (oddS_mono p) (gr_tup [.int 3, .int 6, .int 1, .int 2] (fun H Q q => q) (by decide) (oddT [.int 3, .int 6, .int 1, .int 2] (.cons (leafI (by decide +kernel)) (.cons (leafI (by decide +kernel)) (.cons (leafI (by decide +kernel)) (.cons (leafI (by decide +kernel)) .nil)))) (by decide) (by decide +kernel)))
        .nil))))))
    have t6 := t5.trans s6
    have fin : ∀ (L : Addr) (n : Nat) (H7 : Hp) (σ : L2.St), Same H H7 → Some p (OddS p) H7 L n → 0 < n → n < 1000 → σ[0]? = some (some (.ref p)) → σ[3]? = some (some (.ref L)) →
        tOp (rIxL K) (tVar 3) (tCall sp_take [] E0 (tCons (tVar 0) (tCons (tCB (cLen K) (tCons (tVar 3) tNil)) tNil))) σ H7 Q := fun L n H7 σ s7 m7 n0 n1 h0 h3 => by
      obtain ⟨xs, hL, hn, hx⟩ := m7.ex
      have hp7 := hp.same s7
      refine ⟨_, h3, _, h0, _, h3, L, _, rfl, .inl (.of hL), p, _, rfl, hp7, by omega, by omega, fun d H8 x8 y8 c8 hp8 => ?_⟩
      obtain ⟨ys, v, hL', ha, hv⟩ := m7.at x8 (by omega)
      exact ⟨L, _, d, v, rfl, rfl, .of (c8 _ _ hL' m7.ne), ha, q v H8 (s7.but.trans c8) hp8 (hv.but c8)⟩
    refine ⟨_, rfl, t, _, _, _, _, rfl, rfl, t6 _ _ ht, .inr rfl, rfl, _, _, rfl, rfl, _, rfl, ?_⟩
    refine ite2 (fun hc => ?_) (fun hc => fin _ 36 _ _ t6 m6 (by decide) (by decide) rfl rfl)
    have hc : x.c > 1 := of_decide_eq_true hc
    cases ok with
    | non => exact absurd hc (by show ¬ (0 : Int) > 1; omega)
    | som c u l g c1 c2 l1 g1 lg t1 t2 =>
    have hc : c > 1 := hc
    have cn : (c - 1).natAbs < 2 ^ 300 := by
      have e : (2 : Nat) ^ 300 = 2037035976334486086268445688409378161051468393665936250636140449354381299763336706183397376 := by decide +kernel
      omega
    have ht6 := t6 _ _ ht
    have gi : ∀ (i : Int) (v : V) (σ : L2.St) (Q' : VK), σ[1]? = some (some (.ref t)) → atI (stV ⟨c, u, some (l, g)⟩) i = some v → ∀ H7, Same H6 H7 → Q' v H7 → tOp rIxO (tVar 1) (tC (.int i)) σ H7 Q' := fun i v σ Q' h1 hv H7 s7 q' =>
      ⟨_, h1, t, _, _, _, _, rfl, rfl, s7 _ _ ht6, .inr rfl, hv, q'⟩
    refine gi 2 (.int l) _ _ rfl rfl _ (Same.refl _) (gi 0 (.int c) _ _ rfl rfl _ (Same.refl _) ?_)
    refine ⟨_, _, rfl, rfl, _, _, rfl, rfl, ⟨wide_nat l1 (by omega), cn⟩, ?_⟩
    refine gi 3 (.int g) _ _ rfl rfl _ (Same.refl _) ⟨_, _, rfl, rfl, ?_⟩
    refine gi 3 (.int g) _ _ rfl rfl _ (Same.refl _) (gi 0 (.int c) _ _ rfl rfl _ (Same.refl _) ?_)
    refine ⟨_, _, rfl, rfl, _, _, rfl, rfl, ⟨wide_nat (by omega) g1, cn⟩, ?_⟩
    refine gi 2 (.int l) _ _ rfl rfl _ (Same.refl _) ⟨_, _, rfl, rfl, ?_⟩
    have tt : ∀ (y : Int), (∃ u, OkS ⟨c, u, some (l, g)⟩ ∧ (y = u - 1 ∨ y = u + 1)) → Leaf (.int y) (.int y) := fun y ⟨u, o, hy⟩ => .int y (by
      have := o.tot
      have e60 : (10 : Nat) ^ 60 = 1000000000000000000000000000000000000000000000000000000000000 := by decide +kernel
      have e62 : (10 : Nat) ^ 62 = 100000000000000000000000000000000000000000000000000000000000000 := by decide +kernel
      have e30 : (10 : Nat) ^ 30 = 1000000000000000000000000000000 := by decide +kernel
      rw [e60, e30] at this
      have this : u.natAbs ≤ _ := this
      rw [e62]
      omega)
    have lc : Leaf (.int c) (.int c) := leafW (by omega) c2
    have ll : Leaf (.int l) (.int l) := leafW (by omega) (by omega)
    have lgg : Leaf (.int g) (.int g) := leafW (by omega) (by omega)
    have lo1 : Leaf (.int (l * (c - 1) + g - 1)) (.int (l * (c - 1) + g - 1)) := tt _ ⟨l * (c - 1) + g, .som c _ l g c1 c2 l1 g1 lg (Int.le_refl _) (by omega), .inl rfl⟩
    have hi1 : Leaf (.int (g * (c - 1) + l + 1)) (.int (g * (c - 1) + l + 1)) := tt _ ⟨g * (c - 1) + l, .som c _ l g c1 c2 l1 g1 lg (by omega) (Int.le_refl _), .inr rfl⟩
    have no : ∀ y : Int, y < l * (c - 1) + g ∨ g * (c - 1) + l < y → okSt (some [.int c, .int y, .int l, .int g]) = false := fun y hy => by
      rcases Bool.eq_false_or_eq_true (okSt (some [.int c, .int y, .int l, .int g])) with z | z
      · obtain ⟨x', e, o⟩ := okS_of z
        cases o with
        | non => simp [stV] at e; omega
        | som c' t' l' g' _ _ _ _ _ a b =>
          simp [stV, loV, hiV] at e
          obtain ⟨rfl, rfl, rfl, rfl⟩ := e
          omega
      · exact z
    obtain ⟨⟨xs, hL, hn1, hx⟩, hne⟩ := m6
    refine ⟨_, rfl, gi 0 (.int c) _ _ rfl rfl _ (Same.refl _) ⟨_, rfl, _, _, rfl, rfl, gi 2 (.int l) _ _ rfl rfl _ (Same.refl _) (gi 3 (.int g) _ _ rfl rfl _ (Same.refl _) ⟨four_line, fun a ha => ?_⟩)⟩⟩
    have sA : Same H6 (upd H6 a (.tup [.int c, .int (l * (c - 1) + g - 1), .int l, .int g])) := Same.upd ha
    refine gi 0 (.int c) _ _ rfl rfl _ sA ⟨_, rfl, _, _, rfl, rfl, gi 2 (.int l) _ _ rfl rfl _ sA (gi 3 (.int g) _ _ rfl rfl _ sA ⟨four_line, fun b hb => ?_⟩)⟩
    have sB : Same _ (upd (upd H6 a (.tup [.int c, .int (l * (c - 1) + g - 1), .int l, .int g])) b (.lst [.int c, .int (g * (c - 1) + l + 1), .int l, .int g])) := Same.upd hb
    have hp6 := hp.same t6
    have na : a ≠ p := hp6.ne ha
    have nb : b ≠ p := (hp6.same sA).ne hb
    have oa : OddS p _ (.ref a) := ⟨_, _, .tup na (sB _ _ (upd_same (H := H6) (a := a))) (.cons lc (.cons lo1 (.cons ll (.cons lgg .nil)))) (Nat.le_of_ble_eq_true rfl), no _ (.inl (by omega))⟩
    have ob : OddS p _ (.ref b) := ⟨_, _, .lst nb (upd_same (H := upd H6 a (.tup [.int c, .int (l * (c - 1) + g - 1), .int l, .int g])) (a := b) (o := .lst [.int c, .int (g * (c - 1) + l + 1), .int l, .int g])) (.cons lc (.cons hi1 (.cons ll (.cons lgg .nil)))) (Nat.le_of_ble_eq_true rfl), no _ (.inr (by omega))⟩
    refine ⟨two_line, fun B hB => ?_⟩
    have sAB := sA.trans sB
    generalize (upd (upd H6 a (.tup [.int c, .int (l * (c - 1) + g - 1), .int l, .int g])) b (.lst [.int c, .int (g * (c - 1) + l + 1), .int l, .int g])) = H7 at *
    have sC : Same H7 (upd H7 B (.lst [.ref a, .ref b])) := Same.upd hB
    refine ⟨M6, B, _, _, rfl, rfl, sC _ _ (sAB _ _ hL), upd_same, by rw [sizeLine_eq, hn1]; exact Nat.le_of_ble_eq_true rfl, fun L' hL' => ?_⟩
    have sD : Same (upd H7 B (.lst [.ref a, .ref b])) (upd (upd H7 B (.lst [.ref a, .ref b])) L' (.lst (xs ++ [.ref a, .ref b]))) := Same.upd hL'
    refine fin L' 38 _ _ (t6.trans (sAB.trans (sC.trans sD))) ⟨⟨_, upd_same, by rw [List.length_append, hn1]; rfl, fun x hx' => ?_⟩, (hp6.same (sAB.trans sC)).ne hL'⟩ (by decide) (by decide) rfl rfl
    rcases List.mem_append.mp hx' with hx' | hx'
    · exact om _ _ _ (sAB.trans (sC.trans sD)) (hx x hx')
    · rcases List.mem_cons.mp hx' with rfl | hx'
      · exact om _ _ _ (sC.trans sD) oa
      · rw [List.mem_singleton.mp hx']
        exact om _ _ _ (sC.trans sD) ob
end
end Pr
set_option Elab.async false
set_option linter.all false
set_option maxRecDepth 100000
namespace Pr
open PySem L2 PyProof.Rows Pl
section
variable {P : Program} {w : World} {K : PySem.W.Frag} {mg : Str → Option Value} {base : Heap} {C : Addr}
inductive sp_no_bounds (vs : List V) (H : Hp) (Q : VK) (E : XK) : Prop
  | mk (p : Addr) (lo : Int) (e : vs = [.ref p, .int lo]) (h1 : PotAt H p) (l1 : -W30 < lo) (l2 : lo < W30) (q : ∀ v H', But p H H' → PotAt H' p → OddB p H' v → Q v H') : sp_no_bounds vs H Q E
theorem sc_no_bounds : FnScope ["_law_pot_here", "_law_low", "_law_far", "_law_some"] ["_law_pot_here", "_law_low"] (defScope s_law_no_bounds) := ⟨rfl, rfl, rfl, by decide +kernel, rfl, by decide +kernel, by decide +kernel⟩
set_option maxHeartbeats 16000000 in
theorem no_bounds (T : Txt K mg C) : Can P w K mg base 2 "_law_no_bounds" ["_law_pot_here", "_law_low"] sp_no_bounds := by
  refine fn_can T.f_law_no_bounds sc_no_bounds (fun vs H Q E h => ?_) (fun f cdv A outer s H vs Q E hr h => ?_)
  · obtain ⟨p, lo, rfl, _⟩ := h
    rfl
  · obtain ⟨p, lo, rfl, hp, l1, l2, q⟩ := h
    refine ⟨_, (pss_cons (ps_set (i := 2) sc_no_bounds.nd rfl (Or.inl rfl) (pe_op op_pow pe_int pe_int))
      (pss_cons (ps_set (i := 3) sc_no_bounds.nd rfl (Or.inl rfl) (pe_lst (pa_cons (pe_tup (pa2 pe_non pe_int)) (pa_cons (pe_tup (pa2 pe_int pe_non)) (pa_cons (pe_tup (pa2 pe_bl pe_int)) (pa_cons (pe_tup (pa2 pe_int pe_bl)) (pa_cons (pe_tup (pa2 pe_str pe_int)) (pa_cons (pe_tup (pa2 pe_int pe_str)) (pa_cons (pe_tup (pa2 (pv 2) (pv 2))) (pa3 (pe_tup (pa2 (pe_un un_neg (pv 2)) pe_int)) (pe_tup (pa2 pe_int (pv 2))) (pe_tup (pa2 (pe_lst pa_nil) pe_int))))))))))))
      (pss_cons (ps_set (i := 3) sc_no_bounds.nd rfl (Or.inl rfl) (pe_op op_cat (pv 3) (pe_lst (pa_cons (pe_tup (pa2 pe_int pe_int)) (pa_cons (pe_tup (pa2 (pv 1) (pe_op op_sub (pv 1) pe_int))) (pa3 (pe_tup (pa2 pe_int pe_dnewK)) (pe_tup (pa2 (pv 2) (pe_un un_neg (pv 2)))) (pe_tup (pa2 (pe_tup (pa2 pe_int pe_int)) pe_int))))))))
      (pss_one (ps_ret (pe_ix (ix_listK K) (pv 3) (pe_can (take T) hr (pa2 (pv 0) (pe_b (call_lenK K) T.b_len boot_len (pa1 (pv 3))))) (fun _ _ => rfl))))))), ?_⟩
    have e30 : (10 : Int) ^ (30 : Int).toNat = 1000000000000000000000000000000 := by decide +kernel
    have hW : W30 = 1000000000000000000000000000000 := rfl
    have om := oddB_mono p
    have nolo : okBd (.int lo) (.int (lo - 1)) = false := by
      unfold okBd wh
      dsimp only
      rw [decide_eq_false (show ¬ lo ≤ lo - 1 by omega), Bool.and_false]
    refine ⟨_, _, rfl, rfl, ⟨by decide +kernel, by decide +kernel, by decide +kernel⟩, ?_⟩
    rw [e30]
    dsimp only [gName, tSeq, tAsg]
    refine Some.first om hp (n := 10) ?g1 (by decide) fun M1 H1 s1 _ m1 => ?_
    case g1 => exact (.cons om (gr_tup [.non, .int 1] (fun H Q q => q) (by decide) fun H a na h => ⟨a, _, _, _, _, _, _, rfl, na, h, .leaf .non, .leaf (leafI (by decide +kernel)), by decide +kernel⟩)
        (.cons om (gr_tup [.int 1, .non] (fun H Q q => q) (by decide) fun H a na h => ⟨a, _, _, _, _, _, _, rfl, na, h, .leaf (leafI (by decide +kernel)), .leaf .non, by decide +kernel⟩)
        (.cons om (gr_tup [.bl true, .int 5] (fun H Q q => q) (by decide) fun H a na h => ⟨a, _, _, _, _, _, _, rfl, na, h, .leaf (.bl true), .leaf (leafI (by decide +kernel)), by decide +kernel⟩)
        (.cons om (gr_tup [.int 0, .bl true] (fun H Q q => q) (by decide) fun H a na h => ⟨a, _, _, _, _, _, _, rfl, na, h, .leaf (leafI (by decide +kernel)), .leaf (.bl true), by decide +kernel⟩)
        (.cons om (gr_tup [.str "0", .int 1] (fun H Q q => q) (by decide) fun H a na h => ⟨a, _, _, _, _, _, _, rfl, na, h, .leaf (.str _ (by decide) (by decide +kernel)), .leaf (leafI (by decide +kernel)), by decide +kernel⟩)
        (.cons om (gr_tup [.int 0, .str "1"] (fun H Q q => q) (by decide) fun H a na h => ⟨a, _, _, _, _, _, _, rfl, na, h, .leaf (leafI (by decide +kernel)), .leaf (.str _ (by decide) (by decide +kernel)), by decide +kernel⟩)
        (.cons om (gr_tup [.int 1000000000000000000000000000000, .int 1000000000000000000000000000000] (fun H Q q => ⟨_, rfl, ⟨_, rfl, q⟩⟩) (by decide) fun H a na h => ⟨a, _, _, _, _, _, _, rfl, na, h, .leaf (leafI (by decide +kernel)), .leaf (leafI (by decide +kernel)), by decide +kernel⟩)
        (.cons om (gr_tup [.int (-1000000000000000000000000000000), .int 0] (fun H Q q => ⟨_, rfl, _, rfl, q⟩) (by decide) fun H a na h => ⟨a, _, _, _, _, _, _, rfl, na, h, .leaf (leafI (by decide +kernel)), .leaf (leafI (by decide +kernel)), by decide +kernel⟩)
        (.cons om (gr_tup [.int 0, .int 1000000000000000000000000000000] (fun H Q q => ⟨_, rfl, q⟩) (by decide) fun H a na h => ⟨a, _, _, _, _, _, _, rfl, na, h, .leaf (leafI (by decide +kernel)), .leaf (leafI (by decide +kernel)), by decide +kernel⟩)
        (.cons om (fun H Q hp q => ⟨Nat.zero_le _, fun b hb => ⟨two_line, fun a ha => q _ _ ((Same.upd hb).trans (Same.upd ha)) ⟨a, _, _, _, _, _, _, rfl, (hp.same (Same.upd hb)).ne ha, upd_same, .lst (hp.ne hb) ((Same.upd ha) _ _ upd_same) .nil (by decide), .leaf (leafI (by decide +kernel)), rfl⟩⟩⟩)
        .nil))))))))))
    refine Some.more om (hp.same s1) m1 rfl (k := 5) ?g2 (by decide) fun M2 H2 s2 _ m2 => ?_
    case g2 => exact (.cons om (gr_tup [.int 1, .int 0] (fun H Q q => q) (by decide) fun H a na h => ⟨a, _, _, _, _, _, _, rfl, na, h, .leaf (leafI (by decide +kernel)), .leaf (leafI (by decide +kernel)), by decide +kernel⟩)
        (.cons om (gr_tup [.int lo, .int (lo - 1)] (fun H Q q => ⟨_, rfl, _, rfl, _, _, rfl, rfl, q⟩) (Nat.le_of_ble_eq_true rfl) fun H a na h => ⟨a, _, _, _, _, _, _, rfl, na, h, .leaf (leafW (by omega) (by omega)), .leaf (leafW (by omega) (by omega)), nolo⟩)
        (.cons om (fun H Q hp q b hb => ⟨two_line, fun a ha => q _ _ ((Same.upd hb).trans (Same.upd ha)) ⟨a, _, _, _, _, _, _, rfl, (hp.same (Same.upd hb)).ne ha, upd_same, .leaf (leafI (by decide +kernel)), .dk (hp.ne hb) ((Same.upd ha) _ _ upd_same), rfl⟩⟩)
        (.cons om (gr_tup [.int 1000000000000000000000000000000, .int (-1000000000000000000000000000000)] (fun H Q q => ⟨_, rfl, _, rfl, _, rfl, q⟩) (by decide) fun H a na h => ⟨a, _, _, _, _, _, _, rfl, na, h, .leaf (leafI (by decide +kernel)), .leaf (leafI (by decide +kernel)), by decide +kernel⟩)
        (.cons om (fun H Q hp q => ⟨two_line, fun b hb => ⟨two_line, fun a ha => q _ _ ((Same.upd hb).trans (Same.upd ha)) ⟨a, _, _, _, _, _, _, rfl, (hp.same (Same.upd hb)).ne ha, upd_same, .tup (hp.ne hb) ((Same.upd ha) _ _ upd_same) (.cons (leafI (by decide +kernel)) (.cons (leafI (by decide +kernel)) .nil)) (by decide), .leaf (leafI (by decide +kernel)), rfl⟩⟩⟩)
        .nil)))))
    obtain ⟨xs, hL, hn, hx⟩ := m2.ex
    have t2 := s1.trans s2
    have hp7 := hp.same t2
    refine ⟨_, rfl, _, rfl, _, rfl, M2, _, rfl, .inl (.of hL), p, _, rfl, hp7, by omega, by omega, fun d H8 x8 y8 c8 hp8 => ?_⟩
    obtain ⟨ys, v, hL', ha, hv⟩ := m2.at x8 (by omega)
    exact ⟨M2, _, d, v, rfl, rfl, .of (c8 _ _ hL' m2.ne), ha, q v H8 (t2.but.trans c8) hp8 (hv.but c8)⟩
end
end Pr
set_option Elab.async false
set_option linter.all false
set_option maxRecDepth 100000
namespace L2
open PySem PySem.Spec PyProof.Rows
section
variable {X : Cx} {st : Stmt} {rest : List Stmt} {t u : TS} {e : Expr} {te : TE}
def tCut (t u : TS) : TS := fun D σ H => ∃ M : St → Hp → Prop, t { D with nx := M } σ H ∧ ∀ σ' H', M σ' H' → u D σ' H'
theorem pss_cut (h1 : PS X st t) (h2 : PSs X rest u) : PSs X (st :: rest) (tCut t u) := by
  refine ⟨?_⟩
  intro pins s σ H D I h
  obtain ⟨M, a, b⟩ := h
  refine wpAny_execs_cons (thn (h1 pins s σ H { D with nx := M } I a) fun f s1 q => ?_)
  cases f with
  | next =>
    obtain ⟨σ', H', I', q⟩ := q
    exact h2 pins s1 σ' H' D I' (b _ _ q)
  | ret v => exact q
  | brk => exact q
  | cont => exact q
end
end L2
set_option Elab.async false
set_option linter.all false
set_option maxRecDepth 100000
namespace Pr
open PySem L2 PyProof.Rows Pl
theorem okSt_ok {x : S4} (h : OkS x) : okSt (some (stV x)) = true := by
  have hW : W30 = 1000000000000000000000000000000 := rfl
  cases h with
  | non => decide +kernel
  | som c t l g c1 c2 l1 g1 lg t1 t2 =>
    show okV (.int c) (.int t) (.int l) (.int g) = true
    unfold okV okL ok4
    simp only [wh]
    rw [if_neg (by omega)]
    simp only [Bool.and_eq_true, decide_eq_true_eq]
    omega
theorem leaf_st {x : S4} (h : OkS x) : Paired Leaf (stV x) (stDs x) := by
  have hW : W30 = 1000000000000000000000000000000 := rfl
  have ht : Leaf (.int x.t) (.int x.t) := .int _ (by
    have := h.tot
    have e60 : (10 : Nat) ^ 60 = 1000000000000000000000000000000000000000000000000000000000000 := by decide +kernel
    have e62 : (10 : Nat) ^ 62 = 100000000000000000000000000000000000000000000000000000000000000 := by decide +kernel
    have e30 : (10 : Nat) ^ 30 = 1000000000000000000000000000000 := by decide +kernel
    rw [e60, e30] at this
    rw [e62]
    omega)
  cases h with
  | non => exact .cons (leafI (by decide +kernel)) (.cons (leafI (by decide +kernel)) (.cons .non (.cons .non .nil)))
  | som c t l g c1 c2 l1 g1 lg t1 t2 => exact .cons (leafW (i := c) (by omega) (by omega)) (.cons ht (.cons (leafW (i := l) (by omega) (by omega)) (.cons (leafW (i := g) (by omega) (by omega)) .nil)))
theorem okBd_ok {lo hi : Int} (h : OkB lo hi) : okBd (.int lo) (.int hi) = true := by
  have h1 := h.l
  have h2 := h.h
  have h3 := h.lh
  unfold okBd wh
  simp only [Bool.and_eq_true, decide_eq_true_eq]
  omega
/-- what is to be told -/
def due (s b : Bool) : Str := if s = true then "state" else if b = true then "bounds" else "told"
section
variable {P : Program} {w : World} {K : PySem.W.Frag} {mg : Str → Option Value} {base : Heap} {C : Addr}
inductive sp_law (K : PySem.W.Frag) (vs : List V) (H : Hp) (Q : VK) (E : XK) : Prop
  | mk (a : Addr) (ns : List Int) (e : vs = [.ref a]) (h : SqL K H a (ns.map V.int)) (hl : ns.length ≤ 63) (q : ∀ H', Q (.bl true) H') : sp_law K vs H Q E
theorem sc_law : FnScope ["_law_script", "_law_k", "_law_pot_here", "_law_state_here", "_law_goal", "_law_low", "_law_high", "_law_bad", "_law_bounds_here", "_law_kept"] ["_law_script"] (defScope s_law) := ⟨rfl, rfl, rfl, by decide +kernel, rfl, by decide +kernel, by decide +kernel⟩
set_option maxHeartbeats 16000000 in
theorem law_ok (T : Txt K mg C) {f : Addr} {fd : FuncData} (F : Fun K "law" "law" s_law f fd) : FnOk P w K mg base CX0 8 f fd ["_law_script"] (sp_law K) := by
  refine F.ok sc_law (fun vs H Q E h => ?_) (fun cdv A outer s H vs Q E hr h => ?_)
  · obtain ⟨a, ns, rfl, _⟩ := h
    rfl
  · obtain ⟨a, ns, rfl, ha, hl, q⟩ := h
    refine ⟨_, (pss_cons (ps_for PassesOwn.never rfl (pi_range1 rfl T.b_range (pa1 (pe_b (call_max2 rfl) T.b_max boot_max (pa2 pe_int (pe_b (call_min2 rfl) T.b_min boot_min (pa2 (pe_b (call_lenK K) T.b_len boot_len (pa1 (pv 0))) pe_int)))))) (pg_name (i := 1) sc_law.nd rfl (Or.inl rfl))
        (pss_cons (ps_set (i := 2) sc_law.nd rfl (Or.inr rfl) (pe_can (pot T) hr (pa1 (pe_op op_add (pe_can (cell T) hr (pa2 (pv 0) (pv 1))) (pv 1)))))
        (pss_cons (ps_par (i := 3) (j := 4) rfl sc_law.nd rfl rfl (by decide) rfl rfl (pa2 (pe_can (state T) hr (pa1 (pv 2))) (pe_can (state T) hr (pa1 (pv 2)))) rfl)
        (pss_cons (ps_asg (pe_can (bounds T) hr (pa1 (pv 2))) (pg_tupK K rfl (pgs_cons (pg_name (i := 5) sc_law.nd rfl (Or.inl rfl)) (pgs_cons (pg_name (i := 6) sc_law.nd rfl (Or.inl rfl)) pgs_nil))))
        (pss_cons (ps_setLC (i := 7) rfl rfl rfl (lcS sc_law) (pi_range1 rfl T.b_range (pa1 pe_int)) (fun _ _ _ _ => pts_nil) (fun _ _ _ _ => (pe_cmpR op_eq (pe_can (take T) hr (pa2 (pv 3) pe_int)) pe_int (nomark _))))
        (pss_cut (ps_if (pt_val (pe_ix (ix_listK K) (pv 7) pe_int (fun _ _ => rfl)))
          (pss_one (ps_set (i := 3) sc_law.nd rfl (Or.inl rfl) (pe_can (no_state T) hr (pa2 (pv 2) (pv 3)))))
          pss_nil)
        (pss_cut (ps_if (pt_val (pe_ix (ix_listK K) (pv 7) pe_int (fun _ _ => rfl)))
          (pss_one (ps_set (i := 4) sc_law.nd rfl (Or.inl rfl) (pe_can (no_state T) hr (pa2 (pv 2) (pv 4)))))
          pss_nil)
        (pss_cut (ps_if (pt_val (pe_ix (ix_listK K) (pv 7) pe_int (fun _ _ => rfl)))
          (pss_one (ps_asg (pe_can (no_bounds T) hr (pa2 (pv 2) (pv 5))) (pg_tupK K rfl (pgs_cons (pg_name (i := 5) sc_law.nd rfl (Or.inl rfl)) (pgs_cons (pg_name (i := 6) sc_law.nd rfl (Or.inl rfl)) pgs_nil)))))
          pss_nil)
        (pss_cons (ps_set (i := 8) sc_law.nd rfl (Or.inl rfl) (pe_ix (ix_listK K) (pe_lst (pa2 pe_str pe_str)) (pe_t call_int1 T.b_int boot_int (pa1 (pe_ix (ix_listK K) (pv 7) pe_int (fun _ _ => rfl)))) (fun _ _ => rfl)))
        (pss_cons (ps_set (i := 9) sc_law.nd rfl (Or.inl rfl) (pe_b (call_reprL hr) T.b_repr boot_repr (pa1 (pe_lst (pa_cons (pv 3) (pa3 (pv 4) (pv 5) (pv 6)))))))
        (pss_cut (ps_if (pt_cmpR op_ne (pe_can (law_tried T) hr (pa2 pe_int (pe_lst (pa_cons (pv 3) (pa3 (pv 4) (pv 5) (pv 6)))))) (pe_ix (ix_listK K) (pe_lst (pa2 (pv 8) pe_str)) (pe_t call_int1 T.b_int boot_int (pa1 (pe_or (pe_ix (ix_listK K) (pv 7) pe_int (fun _ _ => rfl)) (pe_one (pe_ix (ix_listK K) (pv 7) pe_int (fun _ _ => rfl)))))) (fun _ _ => rfl)) (nomark _))
          (pss_one (ps_ret pe_bl))
          pss_nil)
        (pss_cut (ps_if (pt_cmpR op_ne (pe_can (law_tried T) hr (pa2 pe_int (pe_lst (pa_cons (pv 3) (pa3 (pe_can (take T) hr (pa2 (pv 2) pe_int)) (pv 5) (pv 6)))))) (pe_ix (ix_listK K) (pe_lst (pa2 (pv 8) pe_str)) (pe_t call_int1 T.b_int boot_int (pa1 (pe_ix (ix_listK K) (pv 7) pe_int (fun _ _ => rfl)))) (fun _ _ => rfl)) (nomark _))
          (pss_one (ps_ret pe_bl))
          pss_nil)
        (pss_one (ps_if (pt_cmpR op_ne (pe_b (call_reprL hr) T.b_repr boot_repr (pa1 (pe_lst (pa_cons (pv 3) (pa3 (pv 4) (pv 5) (pv 6)))))) (pv 9) (nomark _))
          (pss_one (ps_ret pe_bl))
          pss_nil))))))))))))))
      (pss_one (ps_ret pe_bl))), ?_⟩
    refine ⟨_, rfl, a, _, rfl, .inl ha, _, _, rfl, _, _, rfl, ?_⟩
    have rb : ∃ m : Int, m = (if (if (40 : Int) < ((ns.map V.int).length : Int) then (40 : Int) else ((ns.map V.int).length : Int)) > 4 then (if (40 : Int) < ((ns.map V.int).length : Int) then (40 : Int) else ((ns.map V.int).length : Int)) else 4) ∧ 0 ≤ m ∧ m ≤ 40 := ⟨_, rfl, by split <;> (try split) <;> omega, by split <;> (try split) <;> omega⟩
    obtain ⟨m, em, m0, m8⟩ := rb
    rw [← em]
    refine ⟨m, rfl, by omega, by omega, for_range (n := m.toNat) (fun i σ H1 => ∃ v1 v2 v3 v4 v5 v6 v7 v8 v9, σ = [some (.ref a), v1, v2, v3, v4, v5, v6, v7, v8, v9] ∧ Same H H1) ⟨none, none, none, none, none, none, none, none, none, rfl, Same.refl _⟩ ?turn ?fin⟩
    case fin =>
      rintro σ H1 ⟨v1, v2, v3, v4, v5, v6, v7, v8, v9, rfl, s1⟩
      exact q _
    case turn =>
      rintro i σ H0 hi ⟨v1, v2, v3, v4, v5, v6, v7, v8, v9, rfl, s0⟩
      refine ⟨_, rfl, _, rfl, a, ns, _, rfl, s0.seq ha, by omega, fun n => ⟨_, rfl, _, _, rfl, rfl, _, rfl, fun p H1 s1 hpn hp => ?_⟩⟩
      refine ⟨_, rfl, p, rfl, hp, fun x t H2 ox c2 hp2 htn ht => ⟨_, rfl, p, rfl, hp2, fun y u H3 oy c3 hp3 hun hu => ⟨_, _, rfl, ?_⟩⟩⟩
      refine ⟨_, rfl, p, rfl, hp3, fun lo hi t4 H4 bd c4 hp4 _ ht4 => ?_⟩
      refine ⟨t4, _, rfl, .of ht4, rfl, _, _, rfl, _, _, rfl, rfl, ?_⟩
      have nt : t ≠ p := hp.ne htn
      have nu : u ≠ p := hp2.ne hun
      have ht4 := (c3.trans c4) _ _ ht nt
      have hu4 := c4 _ _ hu nu
      have b1 := bd.l
      have b2 := bd.h
      have b3 := bd.lh
      refine ⟨3, rfl, by omega, by omega, fun D hD => ?_⟩
      have nD : D ≠ p := hp4.ne hD
      refine lc_range (n := 3) (fun i ys H5 => H5 D = some (.lst ys) ∧ But p H4 H5 ∧ PotAt H5 p ∧ ∃ bs : List Bool, ys = bs.map V.bl ∧ bs.length = i) ⟨upd_same, (Same.upd hD).but, hp4.same (Same.upd hD), [], rfl, rfl⟩ (fun i ys H5 h => h.1) (fun ys H5 h => ?_) fun i ys H5 hi h => ?go
      case go =>
        obtain ⟨z1, z2, z3, bs, rfl, z5⟩ := h
        refine yesI ⟨_, rfl, p, _, rfl, z3, by decide +kernel, by decide +kernel, fun d H6 x6 y6 c6 hp6 => ⟨rfl, ?_⟩⟩
        refine LcNx.mk hi (by omega) (by rw [List.length_map]; omega) (c6 _ _ z1 nD) ⟨upd_same, ?_, ?_, bs ++ [_], by rw [List.map_append]; rfl, by rw [List.length_append, z5]; rfl⟩
        · intro b' o hb hn
          have hne : b' ≠ D := ne_of_none hb hD
          rw [upd_ne hne]
          exact c6 _ _ (z2 _ _ hb hn) hn
        · obtain ⟨x, y, hxy⟩ := hp6
          exact ⟨x, y, by rw [upd_ne (Ne.symm nD)]; exact hxy⟩
      obtain ⟨hD5, c5, hp5, bs, rfl, lbs⟩ := h
      match bs, lbs with
      | [q0, q1, q2], _ =>
      have ht5 := c5 _ _ ht4 nt
      have hu5 := c5 _ _ hu4 nu
      clear ht4 hu4
      refine ⟨fun σ' H' => ∃ v o d, σ' = [some (.ref a), some (.int (0 + (i : Int))), some (.ref p), some v, some (.ref u), some (.int lo), some (.int hi), some (.ref D), v8, v9] ∧ But p H5 H' ∧ PotAt H' p ∧ Thing p H' v o d ∧ okSt o = !q0, ⟨_, rfl, D, _, _, _, rfl, rfl, .of hD5, rfl, _, rfl, iteB (fun hb => ?_) (fun hb => ?_)⟩, ?_⟩
      · refine ⟨_, rfl, _, rfl, p, t, x, rfl, hp5, ht5, ox, fun v H' c hp' od => ?_⟩
        obtain ⟨o, d, th, no⟩ := od
        exact ⟨v, o, d, rfl, c, hp', th, by rw [no, hb]; rfl⟩
      · exact ⟨_, _, _, rfl, But.refl _ _, hp5, .tup nt ht5 (leaf_st ox) (Nat.le_of_ble_eq_true rfl), by rw [okSt_ok ox, hb]; rfl⟩
      rintro σ' H6 ⟨w1, o1, d1, rfl, c6, hp6, th1, k1⟩
      have hu6 := c6 _ _ hu5 nu
      have hD6 := c6 _ _ hD5 nD
      refine ⟨fun σ' H' => ∃ v o d, σ' = [some (.ref a), some (.int (0 + (i : Int))), some (.ref p), some w1, some v, some (.int lo), some (.int hi), some (.ref D), v8, v9] ∧ But p H6 H' ∧ PotAt H' p ∧ Thing p H' v o d ∧ okSt o = !q1, ⟨_, rfl, D, _, _, _, rfl, rfl, .of hD6, rfl, _, rfl, iteB (fun hb => ?_) (fun hb => ?_)⟩, ?_⟩
      · refine ⟨_, rfl, _, rfl, p, u, y, rfl, hp6, hu6, oy, fun v H' c hp' od => ?_⟩
        obtain ⟨o, d, th, no⟩ := od
        exact ⟨v, o, d, rfl, c, hp', th, by rw [no, hb]; rfl⟩
      · exact ⟨_, _, _, rfl, But.refl _ _, hp6, .tup nu hu6 (leaf_st oy) (Nat.le_of_ble_eq_true rfl), by rw [okSt_ok oy, hb]; rfl⟩
      rintro σ' H7 ⟨w2, o2, d2, rfl, c7, hp7, th2, k2⟩
      have hD7 := c7 _ _ hD6 nD
      have th1 := th1.but c7
      refine ⟨fun σ' H' => ∃ lo hi oo dd oo' dd', σ' = [some (.ref a), some (.int (0 + (i : Int))), some (.ref p), some w1, some w2, some lo, some hi, some (.ref D), v8, v9] ∧ But p H7 H' ∧ PotAt H' p ∧ Thing p H' lo oo dd ∧ Thing p H' hi oo' dd' ∧ okBd lo hi = !q2, ⟨_, rfl, D, _, _, _, rfl, rfl, .of hD7, rfl, _, rfl, iteB (fun hb => ?_) (fun hb => ?_)⟩, ?_⟩
      · refine ⟨_, rfl, _, rfl, p, lo, rfl, hp7, b1, by omega, fun v H' c hp' od => ?_⟩
        obtain ⟨a', lo', hi', oa, ob, da, db, rfl, na, h', tA, tB, no⟩ := od
        exact ⟨a', _, rfl, .of h', rfl, _, _, rfl, _, _, rfl, rfl, lo', hi', _, _, _, _, rfl, c, hp', tA, tB, by rw [no, hb]; rfl⟩
      · exact ⟨_, _, _, _, _, _, rfl, But.refl _ _, hp7, .leaf (leafW (by omega) (by omega)), .leaf (leafW (by omega) (by omega)), by rw [okBd_ok bd, hb]; rfl⟩
      rintro σ' H8 ⟨lv, hv, ol, dl, oh, dh, rfl, c8, hp8, tl, th, kb⟩
      have hD8 := c8 _ _ hD7 nD
      have th1 := th1.but c8
      have th2 := th2.but c8
      refine ⟨two_line, fun B hB => ⟨_, rfl, D, _, _, _, rfl, rfl, .of ((Same.upd hB) _ _ hD8), rfl, .inr ⟨q2, rfl, B, _, _, .str (due false q2), rfl, rfl, .of upd_same, by cases q2 <;> rfl, ?_⟩⟩⟩
      have s9 : Same H8 (upd H8 B (.lst [.str "told", .str "bounds"])) := Same.upd hB
      generalize upd H8 B (.lst [.str "told", .str "bounds"]) = H9 at s9
      have hD9 := s9 _ _ hD8
      have th1 := th1.but s9.but
      have th2 := th2.but s9.but
      have tl := tl.but s9.but
      have th := th.but s9.but
      have hp9 := hp8.same s9
      clear hD8 hp8
      refine ⟨_, rfl, _, rfl, _, rfl, _, rfl, four_line, fun E hE => shown4 (th1.but (Same.upd hE).but) (th2.but (Same.upd hE).but) (tl.but (Same.upd hE).but) (th.but (Same.upd hE).but) upd_same ?_⟩
      have s10 : Same H9 (upd H9 E (.lst [w1, w2, lv, hv])) := Same.upd hE
      generalize upd H9 E (.lst [w1, w2, lv, hv]) = HA at s10
      have hDA := s10 _ _ hD9
      have th1 := th1.but s10.but
      have th2 := th2.but s10.but
      have tl := tl.but s10.but
      have th := th.but s10.but
      have hpA := hp9.same s10
      refine ⟨fun σ' H' => σ' = [some (.ref a), some (.int (0 + (i : Int))), some (.ref p), some w1, some w2, some lv, some hv, some (.ref D), some (.str (due false q2)), some (.str (PyData.list [d1, d2, dl, dh]).shown)] ∧ Same HA H', ?_, ?_⟩
      · refine ⟨_, rfl, _, rfl, _, rfl, _, rfl, four_line, fun E hE => ?_⟩
        have sE : Same HA (upd HA E (.lst [w1, w2, lv, hv])) := Same.upd hE
        refine .pl E w1 w2 lv hv o1 o2 rfl upd_same (th1.but sE.but).ls (th2.but sE.but).ls (th1.but sE.but).kds (th2.but sE.but).kds (tl.but sE.but).kd (th.but sE.but).kd (fun HB sB => ?_)
        refine ⟨_, rfl, two_line, fun G hG => ?_⟩
        have sAG := sE.trans (sB.trans (Same.upd (o := .lst [.str (due false q2), .str "state"]) hG))
        have hDG := sAG _ _ hDA
        have tg : told (okSt o1 && okSt o2) (okBd lv hv) = due (q0 || q1) q2 := by rw [k1, k2, kb]; cases q0 <;> cases q1 <;> cases q2 <;> rfl
        rw [tg]
        refine ⟨_, rfl, D, _, _, _, rfl, rfl, .of hDG, rfl, _, rfl, iteB (fun hb => ?_) (fun hb => ?_)⟩
        · refine .inr ⟨true, rfl, G, _, _, .str "state", rfl, rfl, .of upd_same, rfl, rfl, _, rfl, iteN ?_ ⟨rfl, sAG⟩⟩
          rw [hb, Bool.true_or]
          show (!decide (V.str "state" = V.str "state")) = false
          rw [decide_eq_true rfl]; rfl
        · refine ⟨_, rfl, D, _, _, _, rfl, rfl, .of hDG, rfl, .inr ⟨q1, rfl, G, _, _, .str (due q1 q2), rfl, rfl, .of upd_same, by cases q1 <;> rfl, rfl, _, rfl, iteN ?_ ⟨rfl, sAG⟩⟩⟩
          rw [hb, Bool.false_or, decide_eq_true rfl]; rfl
      rintro σ' HB ⟨rfl, sB⟩
      have hDB := sB _ _ hDA
      have th1 := th1.but sB.but
      have th2 := th2.but sB.but
      have tl := tl.but sB.but
      have th := th.but sB.but
      have hpB := hpA.same sB
      refine ⟨fun σ' H' => σ' = [some (.ref a), some (.int (0 + (i : Int))), some (.ref p), some w1, some w2, some lv, some hv, some (.ref D), some (.str (due false q2)), some (.str (PyData.list [d1, d2, dl, dh]).shown)] ∧ But p HB H', ?_, ?_⟩
      · refine ⟨_, rfl, _, rfl, p, _, rfl, hpB, by decide +kernel, by decide +kernel, fun d HC x9 y9 c9 hpC => ⟨_, rfl, _, rfl, four_line, fun E hE => ?_⟩⟩
        obtain ⟨nn, rfl⟩ : ∃ nn : Nat, d = nn := ⟨d.toNat, by omega⟩
        have sE : Same HC (upd HC E (.lst [w1, .int (nn : Int), lv, hv])) := Same.upd hE
        have th1 := (th1.but c9).but sE.but
        have tl := (tl.but c9).but sE.but
        have th := (th.but c9).but sE.but
        refine .re E w1 lv hv nn o1 rfl upd_same th1.ls th1.kds tl.kd th.kd (by omega) (fun HD sD => ?_)
        refine ⟨_, rfl, two_line, fun G hG => ?_⟩
        have sAG := sE.trans (sD.trans (Same.upd (o := .lst [.str (due false q2), .str "state"]) hG))
        have hDG := sAG _ _ (c9 _ _ hDB nD)
        have tg : told (okSt o1) (okBd lv hv) = due q0 q2 := by rw [k1, kb]; cases q0 <;> cases q2 <;> rfl
        rw [tg]
        refine ⟨_, rfl, D, _, _, _, rfl, rfl, .of hDG, rfl, .inr ⟨q0, rfl, G, _, _, .str (due q0 q2), rfl, rfl, .of upd_same, by cases q0 <;> rfl, rfl, _, rfl, iteN ?_ ⟨rfl, c9.same sAG⟩⟩⟩
        rw [decide_eq_true rfl]; rfl
      rintro σ' HC ⟨rfl, cC⟩
      have th1 := th1.but cC
      have th2 := th2.but cC
      have tl := tl.but cC
      have th := th.but cC
      refine ⟨_, rfl, _, rfl, _, rfl, _, rfl, four_line, fun E hE => shown4 (th1.but (Same.upd hE).but) (th2.but (Same.upd hE).but) (tl.but (Same.upd hE).but) (th.but (Same.upd hE).but) upd_same ?_⟩
      refine ⟨_, rfl, rfl, _, rfl, iteN (by rw [decide_eq_true rfl]; rfl) ?_⟩
      refine ⟨_, _, _, _, _, _, _, _, _, rfl, s0.trans fun b o e => ?_⟩
      have np : b ≠ p := ne_of_none e hpn
      have cc : But p H1 HC := c2.trans (c3.trans (c4.trans (c5.trans (c6.trans (c7.trans (c8.trans ((s9.trans (s10.trans sB)).but.trans cC)))))))
      exact (Same.upd hE) _ _ (cc b o (s1 _ _ e) np)
theorem law_all (T : Txt K mg C) {fa : Addr} (hmg : mg "law" = some (.ref fa)) :
    ∃ fd : FuncData, (∀ (s : Shared) (u : Value), BindsTo s fd ⟨[u], []⟩ [("_law_script", u)]) ∧ ∀ base : Heap, K.In base → base.Ns mainGlobals mg → FnOk P w K mg base CX0 8 fa fd ["_law_script"] (sp_law K) := by
  obtain ⟨f, fd, F⟩ := T.f_law
  have e := hmg.symm.trans F.m
  cases e
  obtain ⟨oc, od, kV, doc, pm, an, cdv, ct, osl, rfl, lk, hcd⟩ := F.fn.ex
  exact ⟨_, fun s u => .of_eq rfl, fun base _ _ => law_ok T F.fn⟩
end
theorem walk {l : PySem.W.OpenLaw} {q : Program} {loose : List Str} {XP : (Str → Option Value) → Heap → Prop} {YP : World → Heap → Prop} {d : DefRec} {K : Params → PySem.W.Frag} (hn : l.most = some 63) (hdf : d.params.defaults = [])
    (hY : ∀ (w : World) (h : Heap), YP w h → (K w.params).In h)
    (F : ∀ (w : World) (mg : Str → Option Value) (fa : Addr) (h : Heap), (K w.params).In h → h.Ns mainGlobals mg → mg d.name = some (.ref fa) →
      ∃ fd : FuncData, (∀ (s : Shared) (u : Value), BindsTo s fd ⟨[u], []⟩ [("_law_script", u)]) ∧ ∀ base : Heap, (K w.params).In base → base.Ns mainGlobals mg → FnOk l.prog w (K w.params) mg base CX0 8 fa fd ["_law_script"] (sp_law (K w.params))) :
    PySem.W.WalkO q loose XP YP l.row.toRowW d [] (fun f vs => PySem.call f vs) :=
  L2.walk_of (n := 63) (k := 8) (x := "_law_script") (CX := fun _ => CX0) (sp := fun w => sp_law (K w.params)) hn (by decide) hdf ⟨rfl, by decide, by decide, rfl⟩ hY F (fun _ _ a ns hl _ hS => ⟨a, ns, rfl, hS, hl, fun _ => rfl⟩) fun _ _ _ _ _ z => z
end Pr
set_option Elab.async false
set_option linter.all false
set_option maxRecDepth 100000
namespace Pr
open PySem L2 PyProof.Rows
set_option maxHeartbeats 0 in
theorem txt_mk {K : PySem.W.Frag} {h : Heap} {mg : Str → Option Value} {C : Addr} (X : K.In h) (G : h.Ns mainGlobals mg) {f1 : Addr} {od1 an1 : Option Addr} {sl1 : Array (Option Value)} {oc1 kV1 dc1 pm1 cd1 ct1 : Value} {f2 : Addr} {od2 an2 : Option Addr} {sl2 : Array (Option Value)} {oc2 kV2 dc2 pm2 cd2 ct2 : Value} {f3 : Addr} {od3 an3 : Option Addr} {sl3 : Array (Option Value)} {oc3 kV3 dc3 pm3 cd3 ct3 : Value} {f4 : Addr} {od4 an4 : Option Addr} {sl4 : Array (Option Value)} {oc4 kV4 dc4 pm4 cd4 ct4 : Value} {f5 : Addr} {od5 an5 : Option Addr} {sl5 : Array (Option Value)} {oc5 kV5 dc5 pm5 cd5 ct5 : Value} {f6 : Addr} {od6 an6 : Option Addr} {sl6 : Array (Option Value)} {oc6 kV6 dc6 pm6 cd6 ct6 : Value} {f7 : Addr} {od7 an7 : Option Addr} {sl7 : Array (Option Value)} {oc7 kV7 dc7 pm7 cd7 ct7 : Value} {f8 : Addr} {od8 an8 : Option Addr} {sl8 : Array (Option Value)} {oc8 kV8 dc8 pm8 cd8 ct8 : Value} {f9 : Addr} {od9 an9 : Option Addr} {sl9 : Array (Option Value)} {oc9 kV9 dc9 pm9 cd9 ct9 : Value} {f10 : Addr} {od10 an10 : Option Addr} {sl10 : Array (Option Value)} {oc10 kV10 dc10 pm10 cd10 ct10 : Value} {f11 : Addr} {od11 an11 : Option Addr} {sl11 : Array (Option Value)} {oc11 kV11 dc11 pm11 cd11 ct11 : Value} {f12 : Addr} {od12 an12 : Option Addr} {sl12 : Array (Option Value)} {oc12 kV12 dc12 pm12 cd12 ct12 : Value} {f13 : Addr} {od13 an13 : Option Addr} {sl13 : Array (Option Value)} {oc13 kV13 dc13 pm13 cd13 ct13 : Value} {f14 : Addr} {od14 an14 : Option Addr} {sl14 : Array (Option Value)} {oc14 kV14 dc14 pm14 cd14 ct14 : Value} {f15 : Addr} {od15 an15 : Option Addr} {sl15 : Array (Option Value)} {oc15 kV15 dc15 pm15 cd15 ct15 : Value} {f16 : Addr} {od16 an16 : Option Addr} {sl16 : Array (Option Value)} {oc16 kV16 dc16 pm16 cd16 ct16 : Value} {f17 : Addr} {od17 an17 : Option Addr} {sl17 : Array (Option Value)} {oc17 kV17 dc17 pm17 cd17 ct17 : Value} {f18 : Addr} {od18 an18 : Option Addr} {sl18 : Array (Option Value)} {oc18 kV18 dc18 pm18 cd18 ct18 : Value} {f19 : Addr} {od19 an19 : Option Addr} {sl19 : Array (Option Value)} {oc19 kV19 dc19 pm19 cd19 ct19 : Value} {f20 : Addr} {od20 an20 : Option Addr} {sl20 : Array (Option Value)} {oc20 kV20 dc20 pm20 cd20 ct20 : Value} {f21 : Addr} {od21 an21 : Option Addr} {sl21 : Array (Option Value)} {oc21 kV21 dc21 pm21 cd21 ct21 : Value} {f22 : Addr} {od22 an22 : Option Addr} {sl22 : Array (Option Value)} {oc22 kV22 dc22 pm22 cd22 ct22 : Value} {f23 : Addr} {od23 an23 : Option Addr} {sl23 : Array (Option Value)} {oc23 kV23 dc23 pm23 cd23 ct23 : Value} {f24 : Addr} {od24 an24 : Option Addr} {sl24 : Array (Option Value)} {oc24 kV24 dc24 pm24 cd24 ct24 : Value} {t_WIDE_END : Tok} {t_MOST_COUNT : Tok} {t_MOST_MORE : Tok} {c_PeakError : Addr} {cd_PeakError : ClassData} {c_NoNumber : Addr} {cd_NoNumber : ClassData} {c_NoText : Addr} {cd_NoText : ClassData} {c_NoBounds : Addr} {cd_NoBounds : ClassData} {c_NoState : Addr} {cd_NoState : ClassData} {c_Gone : Addr} {cd_Gone : ClassData}
    (a1 : PySem.W.nsIn K mainGlobals "is_whole" = some (some (.ref f1)))
    (l1 : K.lookup f1 = some ⟨oc1, od1, .func (PySem.W.fnOf "is_whole" "is_whole" (defArgs s_is_whole) (defBody s_is_whole) (defScope s_is_whole) .none kV1 dc1 pm1 an1 cd1 ct1), sl1⟩)
    (c1 : PySem.W.codeIn K cd1 "is_whole" = true)
    (k1 : PySem.W.keepIn K (.ref f1) = true)
    (a2 : PySem.W.nsIn K mainGlobals "is_whole_from" = some (some (.ref f2)))
    (l2 : K.lookup f2 = some ⟨oc2, od2, .func (PySem.W.fnOf "is_whole_from" "is_whole_from" (defArgs s_is_whole_from) (defBody s_is_whole_from) (defScope s_is_whole_from) .none kV2 dc2 pm2 an2 cd2 ct2), sl2⟩)
    (c2 : PySem.W.codeIn K cd2 "is_whole_from" = true)
    (k2 : PySem.W.keepIn K (.ref f2) = true)
    (a3 : PySem.W.nsIn K mainGlobals "is_wide" = some (some (.ref f3)))
    (l3 : K.lookup f3 = some ⟨oc3, od3, .func (PySem.W.fnOf "is_wide" "is_wide" (defArgs s_is_wide) (defBody s_is_wide) (defScope s_is_wide) .none kV3 dc3 pm3 an3 cd3 ct3), sl3⟩)
    (c3 : PySem.W.codeIn K cd3 "is_wide" = true)
    (k3 : PySem.W.keepIn K (.ref f3) = true)
    (a4 : PySem.W.nsIn K mainGlobals "is_list" = some (some (.ref f4)))
    (l4 : K.lookup f4 = some ⟨oc4, od4, .func (PySem.W.fnOf "is_list" "is_list" (defArgs s_is_list) (defBody s_is_list) (defScope s_is_list) .none kV4 dc4 pm4 an4 cd4 ct4), sl4⟩)
    (c4 : PySem.W.codeIn K cd4 "is_list" = true)
    (k4 : PySem.W.keepIn K (.ref f4) = true)
    (a5 : PySem.W.nsIn K mainGlobals "is_list_from" = some (some (.ref f5)))
    (l5 : K.lookup f5 = some ⟨oc5, od5, .func (PySem.W.fnOf "is_list_from" "is_list_from" (defArgs s_is_list_from) (defBody s_is_list_from) (defScope s_is_list_from) .none kV5 dc5 pm5 an5 cd5 ct5), sl5⟩)
    (c5 : PySem.W.codeIn K cd5 "is_list_from" = true)
    (k5 : PySem.W.keepIn K (.ref f5) = true)
    (a6 : PySem.W.nsIn K mainGlobals "is_state" = some (some (.ref f6)))
    (l6 : K.lookup f6 = some ⟨oc6, od6, .func (PySem.W.fnOf "is_state" "is_state" (defArgs s_is_state) (defBody s_is_state) (defScope s_is_state) .none kV6 dc6 pm6 an6 cd6 ct6), sl6⟩)
    (c6 : PySem.W.codeIn K cd6 "is_state" = true)
    (k6 : PySem.W.keepIn K (.ref f6) = true)
    (a7 : PySem.W.nsIn K mainGlobals "need_state" = some (some (.ref f7)))
    (l7 : K.lookup f7 = some ⟨oc7, od7, .func (PySem.W.fnOf "need_state" "need_state" (defArgs s_need_state) (defBody s_need_state) (defScope s_need_state) .none kV7 dc7 pm7 an7 cd7 ct7), sl7⟩)
    (c7 : PySem.W.codeIn K cd7 "need_state" = true)
    (k7 : PySem.W.keepIn K (.ref f7) = true)
    (a8 : PySem.W.nsIn K mainGlobals "need_bounds" = some (some (.ref f8)))
    (l8 : K.lookup f8 = some ⟨oc8, od8, .func (PySem.W.fnOf "need_bounds" "need_bounds" (defArgs s_need_bounds) (defBody s_need_bounds) (defScope s_need_bounds) .none kV8 dc8 pm8 an8 cd8 ct8), sl8⟩)
    (c8 : PySem.W.codeIn K cd8 "need_bounds" = true)
    (k8 : PySem.W.keepIn K (.ref f8) = true)
    (a9 : PySem.W.nsIn K mainGlobals "plan" = some (some (.ref f9)))
    (l9 : K.lookup f9 = some ⟨oc9, od9, .func (PySem.W.fnOf "plan" "plan" (defArgs s_plan) (defBody s_plan) (defScope s_plan) .none kV9 dc9 pm9 an9 cd9 ct9), sl9⟩)
    (c9 : PySem.W.codeIn K cd9 "plan" = true)
    (k9 : PySem.W.keepIn K (.ref f9) = true)
    (a10 : PySem.W.nsIn K mainGlobals "may_widen" = some (some (.ref f10)))
    (l10 : K.lookup f10 = some ⟨oc10, od10, .func (PySem.W.fnOf "may_widen" "may_widen" (defArgs s_may_widen) (defBody s_may_widen) (defScope s_may_widen) .none kV10 dc10 pm10 an10 cd10 ct10), sl10⟩)
    (c10 : PySem.W.codeIn K cd10 "may_widen" = true)
    (k10 : PySem.W.keepIn K (.ref f10) = true)
    (a11 : PySem.W.nsIn K mainGlobals "new_ends" = some (some (.ref f11)))
    (l11 : K.lookup f11 = some ⟨oc11, od11, .func (PySem.W.fnOf "new_ends" "new_ends" (defArgs s_new_ends) (defBody s_new_ends) (defScope s_new_ends) .none kV11 dc11 pm11 an11 cd11 ct11), sl11⟩)
    (c11 : PySem.W.codeIn K cd11 "new_ends" = true)
    (k11 : PySem.W.keepIn K (.ref f11) = true)
    (a12 : PySem.W.nsIn K mainGlobals "even_values" = some (some (.ref f12)))
    (l12 : K.lookup f12 = some ⟨oc12, od12, .func (PySem.W.fnOf "even_values" "even_values" (defArgs s_even_values) (defBody s_even_values) (defScope s_even_values) .none kV12 dc12 pm12 an12 cd12 ct12), sl12⟩)
    (c12 : PySem.W.codeIn K cd12 "even_values" = true)
    (k12 : PySem.W.keepIn K (.ref f12) = true)
    (a13 : PySem.W.nsIn K mainGlobals "reach" = some (some (.ref f13)))
    (l13 : K.lookup f13 = some ⟨oc13, od13, .func (PySem.W.fnOf "reach" "reach" (defArgs s_reach) (defBody s_reach) (defScope s_reach) .none kV13 dc13 pm13 an13 cd13 ct13), sl13⟩)
    (c13 : PySem.W.codeIn K cd13 "reach" = true)
    (k13 : PySem.W.keepIn K (.ref f13) = true)
    (a14 : PySem.W.nsIn K mainGlobals "_law_cell" = some (some (.ref f14)))
    (l14 : K.lookup f14 = some ⟨oc14, od14, .func (PySem.W.fnOf "_law_cell" "_law_cell" (defArgs s_law_cell) (defBody s_law_cell) (defScope s_law_cell) .none kV14 dc14 pm14 an14 cd14 ct14), sl14⟩)
    (c14 : PySem.W.codeIn K cd14 "_law_cell" = true)
    (k14 : PySem.W.keepIn K (.ref f14) = true)
    (a15 : PySem.W.nsIn K mainGlobals "_law_pot" = some (some (.ref f15)))
    (l15 : K.lookup f15 = some ⟨oc15, od15, .func (PySem.W.fnOf "_law_pot" "_law_pot" (defArgs s_law_pot) (defBody s_law_pot) (defScope s_law_pot) .none kV15 dc15 pm15 an15 cd15 ct15), sl15⟩)
    (c15 : PySem.W.codeIn K cd15 "_law_pot" = true)
    (k15 : PySem.W.keepIn K (.ref f15) = true)
    (a16 : PySem.W.nsIn K mainGlobals "_law_take" = some (some (.ref f16)))
    (l16 : K.lookup f16 = some ⟨oc16, od16, .func (PySem.W.fnOf "_law_take" "_law_take" (defArgs s_law_take) (defBody s_law_take) (defScope s_law_take) .none kV16 dc16 pm16 an16 cd16 ct16), sl16⟩)
    (c16 : PySem.W.codeIn K cd16 "_law_take" = true)
    (k16 : PySem.W.keepIn K (.ref f16) = true)
    (a17 : PySem.W.nsIn K mainGlobals "_law_wide" = some (some (.ref f17)))
    (l17 : K.lookup f17 = some ⟨oc17, od17, .func (PySem.W.fnOf "_law_wide" "_law_wide" (defArgs s_law_wide) (defBody s_law_wide) (defScope s_law_wide) .none kV17 dc17 pm17 an17 cd17 ct17), sl17⟩)
    (c17 : PySem.W.codeIn K cd17 "_law_wide" = true)
    (k17 : PySem.W.keepIn K (.ref f17) = true)
    (a18 : PySem.W.nsIn K mainGlobals "_law_state" = some (some (.ref f18)))
    (l18 : K.lookup f18 = some ⟨oc18, od18, .func (PySem.W.fnOf "_law_state" "_law_state" (defArgs s_law_state) (defBody s_law_state) (defScope s_law_state) .none kV18 dc18 pm18 an18 cd18 ct18), sl18⟩)
    (c18 : PySem.W.codeIn K cd18 "_law_state" = true)
    (k18 : PySem.W.keepIn K (.ref f18) = true)
    (a19 : PySem.W.nsIn K mainGlobals "_law_bounds" = some (some (.ref f19)))
    (l19 : K.lookup f19 = some ⟨oc19, od19, .func (PySem.W.fnOf "_law_bounds" "_law_bounds" (defArgs s_law_bounds) (defBody s_law_bounds) (defScope s_law_bounds) .none kV19 dc19 pm19 an19 cd19 ct19), sl19⟩)
    (c19 : PySem.W.codeIn K cd19 "_law_bounds" = true)
    (k19 : PySem.W.keepIn K (.ref f19) = true)
    (a20 : PySem.W.nsIn K mainGlobals "_law_no_state" = some (some (.ref f20)))
    (l20 : K.lookup f20 = some ⟨oc20, od20, .func (PySem.W.fnOf "_law_no_state" "_law_no_state" (defArgs s_law_no_state) (defBody s_law_no_state) (defScope s_law_no_state) .none kV20 dc20 pm20 an20 cd20 ct20), sl20⟩)
    (c20 : PySem.W.codeIn K cd20 "_law_no_state" = true)
    (k20 : PySem.W.keepIn K (.ref f20) = true)
    (a21 : PySem.W.nsIn K mainGlobals "_law_no_bounds" = some (some (.ref f21)))
    (l21 : K.lookup f21 = some ⟨oc21, od21, .func (PySem.W.fnOf "_law_no_bounds" "_law_no_bounds" (defArgs s_law_no_bounds) (defBody s_law_no_bounds) (defScope s_law_no_bounds) .none kV21 dc21 pm21 an21 cd21 ct21), sl21⟩)
    (c21 : PySem.W.codeIn K cd21 "_law_no_bounds" = true)
    (k21 : PySem.W.keepIn K (.ref f21) = true)
    (a22 : PySem.W.nsIn K mainGlobals "_law_name" = some (some (.ref f22)))
    (l22 : K.lookup f22 = some ⟨oc22, od22, .func (PySem.W.fnOf "_law_name" "_law_name" (defArgs s_law_name) (defBody s_law_name) (defScope s_law_name) .none kV22 dc22 pm22 an22 cd22 ct22), sl22⟩)
    (c22 : PySem.W.codeIn K cd22 "_law_name" = true)
    (k22 : PySem.W.keepIn K (.ref f22) = true)
    (a23 : PySem.W.nsIn K mainGlobals "_law_tried" = some (some (.ref f23)))
    (l23 : K.lookup f23 = some ⟨oc23, od23, .func (PySem.W.fnOf "_law_tried" "_law_tried" (defArgs s_law_tried) (defBody s_law_tried) (defScope s_law_tried) .none kV23 dc23 pm23 an23 cd23 ct23), sl23⟩)
    (c23 : PySem.W.codeIn K cd23 "_law_tried" = true)
    (k23 : PySem.W.keepIn K (.ref f23) = true)
    (a24 : PySem.W.nsIn K mainGlobals "law" = some (some (.ref f24)))
    (l24 : K.lookup f24 = some ⟨oc24, od24, .func (PySem.W.fnOf "law" "law" (defArgs s_law) (defBody s_law) (defScope s_law) .none kV24 dc24 pm24 an24 cd24 ct24), sl24⟩)
    (c24 : PySem.W.codeIn K cd24 "law" = true)
    (k24 : PySem.W.keepIn K (.ref f24) = true)
    (c_WIDE_END : PySem.W.nsIn K mainGlobals "WIDE_END" = some (some (.int 1000000000000000000000000000000 t_WIDE_END)))
    (c_MOST_COUNT : PySem.W.nsIn K mainGlobals "MOST_COUNT" = some (some (.int 1000000000000000000000000000000 t_MOST_COUNT)))
    (c_MOST_MORE : PySem.W.nsIn K mainGlobals "MOST_MORE" = some (some (.int 200 t_MOST_MORE)))
    (b_ValueError : PySem.W.nsIn K mainGlobals "ValueError" = some none)
    (b_abs : PySem.W.nsIn K mainGlobals "abs" = some none)
    (b_all : PySem.W.nsIn K mainGlobals "all" = some none)
    (b_bool : PySem.W.nsIn K mainGlobals "bool" = some none)
    (b_divmod : PySem.W.nsIn K mainGlobals "divmod" = some none)
    (b_int : PySem.W.nsIn K mainGlobals "int" = some none)
    (b_isinstance : PySem.W.nsIn K mainGlobals "isinstance" = some none)
    (b_len : PySem.W.nsIn K mainGlobals "len" = some none)
    (b_list : PySem.W.nsIn K mainGlobals "list" = some none)
    (b_max : PySem.W.nsIn K mainGlobals "max" = some none)
    (b_min : PySem.W.nsIn K mainGlobals "min" = some none)
    (b_range : PySem.W.nsIn K mainGlobals "range" = some none)
    (b_repr : PySem.W.nsIn K mainGlobals "repr" = some none)
    (b_sorted : PySem.W.nsIn K mainGlobals "sorted" = some none)
    (b_sum : PySem.W.nsIn K mainGlobals "sum" = some none)
    (b_tuple : PySem.W.nsIn K mainGlobals "tuple" = some none)
    (esp : PySem.W.specialIn K (.builtin "object.__class__") "__get__" = some (some (.builtin "getset_descriptor.__get__")))
    (etk : PySem.W.takesIn K (.builtin "object.__class__") = some true)
    (ea_PeakError : PySem.W.nsIn K mainGlobals "PeakError" = some (some (.ref c_PeakError)))
    (eo_PeakError : PySem.W.excIn K c_PeakError bmV "ValueError.__new__" = true)
    (eg_PeakError : PySem.W.findIn K (.ref c_PeakError) "__getattribute__" = some (some (.builtin "BaseException.__getattribute__")))
    (en_PeakError : PySem.W.findIn K (.ref c_PeakError) "__getattr__" = some none)
    (ef_PeakError : PySem.W.findIn K (.ref c_PeakError) "__class__" = some (some (.builtin "object.__class__")))
    (em_PeakError : PySem.W.mroIn K c_PeakError (.type "object") = some true)
    (es_PeakError : PySem.W.subIn K (.ref c_PeakError) (.type "BaseException") = some true)
    (ec_PeakError : PySem.W.clsIn K c_PeakError = some cd_PeakError)
    (ea_NoNumber : PySem.W.nsIn K mainGlobals "NoNumber" = some (some (.ref c_NoNumber)))
    (eo_NoNumber : PySem.W.excIn K c_NoNumber bmV "ValueError.__new__" = true)
    (eg_NoNumber : PySem.W.findIn K (.ref c_NoNumber) "__getattribute__" = some (some (.builtin "BaseException.__getattribute__")))
    (en_NoNumber : PySem.W.findIn K (.ref c_NoNumber) "__getattr__" = some none)
    (ef_NoNumber : PySem.W.findIn K (.ref c_NoNumber) "__class__" = some (some (.builtin "object.__class__")))
    (em_NoNumber : PySem.W.mroIn K c_NoNumber (.type "object") = some true)
    (es_NoNumber : PySem.W.subIn K (.ref c_NoNumber) (.type "BaseException") = some true)
    (ec_NoNumber : PySem.W.clsIn K c_NoNumber = some cd_NoNumber)
    (ea_NoText : PySem.W.nsIn K mainGlobals "NoText" = some (some (.ref c_NoText)))
    (eo_NoText : PySem.W.excIn K c_NoText bmV "ValueError.__new__" = true)
    (eg_NoText : PySem.W.findIn K (.ref c_NoText) "__getattribute__" = some (some (.builtin "BaseException.__getattribute__")))
    (en_NoText : PySem.W.findIn K (.ref c_NoText) "__getattr__" = some none)
    (ef_NoText : PySem.W.findIn K (.ref c_NoText) "__class__" = some (some (.builtin "object.__class__")))
    (em_NoText : PySem.W.mroIn K c_NoText (.type "object") = some true)
    (es_NoText : PySem.W.subIn K (.ref c_NoText) (.type "BaseException") = some true)
    (ec_NoText : PySem.W.clsIn K c_NoText = some cd_NoText)
    (ea_NoBounds : PySem.W.nsIn K mainGlobals "NoBounds" = some (some (.ref c_NoBounds)))
    (eo_NoBounds : PySem.W.excIn K c_NoBounds bmV "ValueError.__new__" = true)
    (eg_NoBounds : PySem.W.findIn K (.ref c_NoBounds) "__getattribute__" = some (some (.builtin "BaseException.__getattribute__")))
    (en_NoBounds : PySem.W.findIn K (.ref c_NoBounds) "__getattr__" = some none)
    (ef_NoBounds : PySem.W.findIn K (.ref c_NoBounds) "__class__" = some (some (.builtin "object.__class__")))
    (em_NoBounds : PySem.W.mroIn K c_NoBounds (.type "object") = some true)
    (es_NoBounds : PySem.W.subIn K (.ref c_NoBounds) (.type "BaseException") = some true)
    (ec_NoBounds : PySem.W.clsIn K c_NoBounds = some cd_NoBounds)
    (ea_NoState : PySem.W.nsIn K mainGlobals "NoState" = some (some (.ref c_NoState)))
    (eo_NoState : PySem.W.excIn K c_NoState bmV "ValueError.__new__" = true)
    (eg_NoState : PySem.W.findIn K (.ref c_NoState) "__getattribute__" = some (some (.builtin "BaseException.__getattribute__")))
    (en_NoState : PySem.W.findIn K (.ref c_NoState) "__getattr__" = some none)
    (ef_NoState : PySem.W.findIn K (.ref c_NoState) "__class__" = some (some (.builtin "object.__class__")))
    (em_NoState : PySem.W.mroIn K c_NoState (.type "object") = some true)
    (es_NoState : PySem.W.subIn K (.ref c_NoState) (.type "BaseException") = some true)
    (ec_NoState : PySem.W.clsIn K c_NoState = some cd_NoState)
    (ea_Gone : PySem.W.nsIn K mainGlobals "Gone" = some (some (.ref c_Gone)))
    (eo_Gone : PySem.W.excIn K c_Gone bmV "ValueError.__new__" = true)
    (eg_Gone : PySem.W.findIn K (.ref c_Gone) "__getattribute__" = some (some (.builtin "BaseException.__getattribute__")))
    (en_Gone : PySem.W.findIn K (.ref c_Gone) "__getattr__" = some none)
    (ef_Gone : PySem.W.findIn K (.ref c_Gone) "__class__" = some (some (.builtin "object.__class__")))
    (em_Gone : PySem.W.mroIn K c_Gone (.type "object") = some true)
    (es_Gone : PySem.W.subIn K (.ref c_Gone) (.type "BaseException") = some true)
    (ec_Gone : PySem.W.clsIn K c_Gone = some cd_Gone)
    (kv_NoBounds : PySem.W.kitOne K (.ref c_NoBounds) (.type "ValueError") = some true)
    (k_NoBounds_PeakError : PySem.W.kitOne K (.ref c_NoBounds) (.ref c_PeakError) = some true)
    (e_NoBounds_PeakError : PySem.W.exmOne K (.ref c_NoBounds) (.ref c_PeakError) = some true)
    (k_NoBounds_NoNumber : PySem.W.kitOne K (.ref c_NoBounds) (.ref c_NoNumber) = some false)
    (e_NoBounds_NoNumber : PySem.W.exmOne K (.ref c_NoBounds) (.ref c_NoNumber) = some false)
    (k_NoBounds_NoText : PySem.W.kitOne K (.ref c_NoBounds) (.ref c_NoText) = some false)
    (e_NoBounds_NoText : PySem.W.exmOne K (.ref c_NoBounds) (.ref c_NoText) = some false)
    (k_NoBounds_NoBounds : PySem.W.kitOne K (.ref c_NoBounds) (.ref c_NoBounds) = some true)
    (e_NoBounds_NoBounds : PySem.W.exmOne K (.ref c_NoBounds) (.ref c_NoBounds) = some true)
    (k_NoBounds_NoState : PySem.W.kitOne K (.ref c_NoBounds) (.ref c_NoState) = some false)
    (e_NoBounds_NoState : PySem.W.exmOne K (.ref c_NoBounds) (.ref c_NoState) = some false)
    (k_NoBounds_Gone : PySem.W.kitOne K (.ref c_NoBounds) (.ref c_Gone) = some false)
    (e_NoBounds_Gone : PySem.W.exmOne K (.ref c_NoBounds) (.ref c_Gone) = some false)
    (kv_NoState : PySem.W.kitOne K (.ref c_NoState) (.type "ValueError") = some true)
    (k_NoState_PeakError : PySem.W.kitOne K (.ref c_NoState) (.ref c_PeakError) = some true)
    (e_NoState_PeakError : PySem.W.exmOne K (.ref c_NoState) (.ref c_PeakError) = some true)
    (k_NoState_NoNumber : PySem.W.kitOne K (.ref c_NoState) (.ref c_NoNumber) = some false)
    (e_NoState_NoNumber : PySem.W.exmOne K (.ref c_NoState) (.ref c_NoNumber) = some false)
    (k_NoState_NoText : PySem.W.kitOne K (.ref c_NoState) (.ref c_NoText) = some false)
    (e_NoState_NoText : PySem.W.exmOne K (.ref c_NoState) (.ref c_NoText) = some false)
    (k_NoState_NoBounds : PySem.W.kitOne K (.ref c_NoState) (.ref c_NoBounds) = some false)
    (e_NoState_NoBounds : PySem.W.exmOne K (.ref c_NoState) (.ref c_NoBounds) = some false)
    (k_NoState_NoState : PySem.W.kitOne K (.ref c_NoState) (.ref c_NoState) = some true)
    (e_NoState_NoState : PySem.W.exmOne K (.ref c_NoState) (.ref c_NoState) = some true)
    (k_NoState_Gone : PySem.W.kitOne K (.ref c_NoState) (.ref c_Gone) = some false)
    (e_NoState_Gone : PySem.W.exmOne K (.ref c_NoState) (.ref c_Gone) = some false) : Txt K mg C :=
  ⟨⟨_, _, fun_mk (st := s_is_whole) l1 c1 k1, PySem.W.mg_of X G a1, (fun_mk (st := s_is_whole) l1 c1 k1).b1 fun _ _ _ _ _ _ _ => rfl⟩,
   ⟨_, _, fun_mk (st := s_is_whole_from) l2 c2 k2, PySem.W.mg_of X G a2, (fun_mk (st := s_is_whole_from) l2 c2 k2).b3 fun _ _ _ _ _ _ _ _ _ => rfl⟩,
   ⟨_, _, fun_mk (st := s_is_wide) l3 c3 k3, PySem.W.mg_of X G a3, (fun_mk (st := s_is_wide) l3 c3 k3).b1 fun _ _ _ _ _ _ _ => rfl⟩,
   ⟨_, _, fun_mk (st := s_is_list) l4 c4 k4, PySem.W.mg_of X G a4, (fun_mk (st := s_is_list) l4 c4 k4).b1 fun _ _ _ _ _ _ _ => rfl⟩,
   ⟨_, _, fun_mk (st := s_is_list_from) l5 c5 k5, PySem.W.mg_of X G a5, (fun_mk (st := s_is_list_from) l5 c5 k5).b3 fun _ _ _ _ _ _ _ _ _ => rfl⟩,
   ⟨_, _, fun_mk (st := s_is_state) l6 c6 k6, PySem.W.mg_of X G a6, (fun_mk (st := s_is_state) l6 c6 k6).b1 fun _ _ _ _ _ _ _ => rfl⟩,
   ⟨_, _, fun_mk (st := s_need_state) l7 c7 k7, PySem.W.mg_of X G a7, (fun_mk (st := s_need_state) l7 c7 k7).b1 fun _ _ _ _ _ _ _ => rfl⟩,
   ⟨_, _, fun_mk (st := s_need_bounds) l8 c8 k8, PySem.W.mg_of X G a8, (fun_mk (st := s_need_bounds) l8 c8 k8).b2 fun _ _ _ _ _ _ _ _ => rfl⟩,
   ⟨_, _, fun_mk (st := s_plan) l9 c9 k9, PySem.W.mg_of X G a9, (fun_mk (st := s_plan) l9 c9 k9).b4 fun _ _ _ _ _ _ _ _ _ _ => rfl⟩,
   ⟨_, _, fun_mk (st := s_may_widen) l10 c10 k10, PySem.W.mg_of X G a10, (fun_mk (st := s_may_widen) l10 c10 k10).b2 fun _ _ _ _ _ _ _ _ => rfl⟩,
   ⟨_, _, fun_mk (st := s_new_ends) l11 c11 k11, PySem.W.mg_of X G a11, (fun_mk (st := s_new_ends) l11 c11 k11).b2 fun _ _ _ _ _ _ _ _ => rfl⟩,
   ⟨_, _, fun_mk (st := s_even_values) l12 c12 k12, PySem.W.mg_of X G a12, (fun_mk (st := s_even_values) l12 c12 k12).b4 fun _ _ _ _ _ _ _ _ _ _ => rfl⟩,
   ⟨_, _, fun_mk (st := s_reach) l13 c13 k13, PySem.W.mg_of X G a13, (fun_mk (st := s_reach) l13 c13 k13).b4 fun _ _ _ _ _ _ _ _ _ _ => rfl⟩,
   ⟨_, _, fun_mk (st := s_law_cell) l14 c14 k14, PySem.W.mg_of X G a14, (fun_mk (st := s_law_cell) l14 c14 k14).b2 fun _ _ _ _ _ _ _ _ => rfl⟩,
   ⟨_, _, fun_mk (st := s_law_pot) l15 c15 k15, PySem.W.mg_of X G a15, (fun_mk (st := s_law_pot) l15 c15 k15).b1 fun _ _ _ _ _ _ _ => rfl⟩,
   ⟨_, _, fun_mk (st := s_law_take) l16 c16 k16, PySem.W.mg_of X G a16, (fun_mk (st := s_law_take) l16 c16 k16).b2 fun _ _ _ _ _ _ _ _ => rfl⟩,
   ⟨_, _, fun_mk (st := s_law_wide) l17 c17 k17, PySem.W.mg_of X G a17, (fun_mk (st := s_law_wide) l17 c17 k17).b1 fun _ _ _ _ _ _ _ => rfl⟩,
   ⟨_, _, fun_mk (st := s_law_state) l18 c18 k18, PySem.W.mg_of X G a18, (fun_mk (st := s_law_state) l18 c18 k18).b1 fun _ _ _ _ _ _ _ => rfl⟩,
   ⟨_, _, fun_mk (st := s_law_bounds) l19 c19 k19, PySem.W.mg_of X G a19, (fun_mk (st := s_law_bounds) l19 c19 k19).b1 fun _ _ _ _ _ _ _ => rfl⟩,
   ⟨_, _, fun_mk (st := s_law_no_state) l20 c20 k20, PySem.W.mg_of X G a20, (fun_mk (st := s_law_no_state) l20 c20 k20).b2 fun _ _ _ _ _ _ _ _ => rfl⟩,
   ⟨_, _, fun_mk (st := s_law_no_bounds) l21 c21 k21, PySem.W.mg_of X G a21, (fun_mk (st := s_law_no_bounds) l21 c21 k21).b2 fun _ _ _ _ _ _ _ _ => rfl⟩,
   ⟨_, _, fun_mk (st := s_law_name) l22 c22 k22, PySem.W.mg_of X G a22, (fun_mk (st := s_law_name) l22 c22 k22).b1 fun _ _ _ _ _ _ _ => rfl⟩,
   ⟨_, _, fun_mk (st := s_law_tried) l23 c23 k23, PySem.W.mg_of X G a23, (fun_mk (st := s_law_tried) l23 c23 k23).b2 fun _ _ _ _ _ _ _ _ => rfl⟩,
   ⟨_, _, fun_mk (st := s_law) l24 c24 k24, PySem.W.mg_of X G a24, (fun_mk (st := s_law) l24 c24 k24).b1 fun _ _ _ _ _ _ _ => rfl⟩,
   ⟨_, PySem.W.mg_of X G c_WIDE_END⟩,
   ⟨_, PySem.W.mg_of X G c_MOST_COUNT⟩,
   ⟨_, PySem.W.mg_of X G c_MOST_MORE⟩,
   PySem.W.mg_none_of X G b_ValueError,
   PySem.W.mg_none_of X G b_abs,
   PySem.W.mg_none_of X G b_all,
   PySem.W.mg_none_of X G b_bool,
   PySem.W.mg_none_of X G b_divmod,
   PySem.W.mg_none_of X G b_int,
   PySem.W.mg_none_of X G b_isinstance,
   PySem.W.mg_none_of X G b_len,
   PySem.W.mg_none_of X G b_list,
   PySem.W.mg_none_of X G b_max,
   PySem.W.mg_none_of X G b_min,
   PySem.W.mg_none_of X G b_range,
   PySem.W.mg_none_of X G b_repr,
   PySem.W.mg_none_of X G b_sorted,
   PySem.W.mg_none_of X G b_sum,
   PySem.W.mg_none_of X G b_tuple,
   xc_mk (PySem.W.mg_of X G ea_PeakError) eo_PeakError eg_PeakError en_PeakError ef_PeakError esp etk em_PeakError es_PeakError ec_PeakError,
   xc_mk (PySem.W.mg_of X G ea_NoNumber) eo_NoNumber eg_NoNumber en_NoNumber ef_NoNumber esp etk em_NoNumber es_NoNumber ec_NoNumber,
   xc_mk (PySem.W.mg_of X G ea_NoText) eo_NoText eg_NoText en_NoText ef_NoText esp etk em_NoText es_NoText ec_NoText,
   xc_mk (PySem.W.mg_of X G ea_NoBounds) eo_NoBounds eg_NoBounds en_NoBounds ef_NoBounds esp etk em_NoBounds es_NoBounds ec_NoBounds,
   xc_mk (PySem.W.mg_of X G ea_NoState) eo_NoState eg_NoState en_NoState ef_NoState esp etk em_NoState es_NoState ec_NoState,
   xc_mk (PySem.W.mg_of X G ea_Gone) eo_Gone eg_Gone en_Gone ef_Gone esp etk em_Gone es_Gone ec_Gone,
   (by rw [cOf_eq (PySem.W.mg_of X G ea_NoBounds)]; exact kv_NoBounds),
   (by rw [cOf_eq (PySem.W.mg_of X G ea_NoBounds), cOf_eq (PySem.W.mg_of X G ea_PeakError)]; exact k_NoBounds_PeakError),
   (by rw [cOf_eq (PySem.W.mg_of X G ea_NoBounds), cOf_eq (PySem.W.mg_of X G ea_PeakError)]; exact e_NoBounds_PeakError),
   (by rw [cOf_eq (PySem.W.mg_of X G ea_NoBounds), cOf_eq (PySem.W.mg_of X G ea_NoNumber)]; exact k_NoBounds_NoNumber),
   (by rw [cOf_eq (PySem.W.mg_of X G ea_NoBounds), cOf_eq (PySem.W.mg_of X G ea_NoNumber)]; exact e_NoBounds_NoNumber),
   (by rw [cOf_eq (PySem.W.mg_of X G ea_NoBounds), cOf_eq (PySem.W.mg_of X G ea_NoText)]; exact k_NoBounds_NoText),
   (by rw [cOf_eq (PySem.W.mg_of X G ea_NoBounds), cOf_eq (PySem.W.mg_of X G ea_NoText)]; exact e_NoBounds_NoText),
   (by rw [cOf_eq (PySem.W.mg_of X G ea_NoBounds)]; exact k_NoBounds_NoBounds),
   (by rw [cOf_eq (PySem.W.mg_of X G ea_NoBounds)]; exact e_NoBounds_NoBounds),
   (by rw [cOf_eq (PySem.W.mg_of X G ea_NoBounds), cOf_eq (PySem.W.mg_of X G ea_NoState)]; exact k_NoBounds_NoState),
   (by rw [cOf_eq (PySem.W.mg_of X G ea_NoBounds), cOf_eq (PySem.W.mg_of X G ea_NoState)]; exact e_NoBounds_NoState),
   (by rw [cOf_eq (PySem.W.mg_of X G ea_NoBounds), cOf_eq (PySem.W.mg_of X G ea_Gone)]; exact k_NoBounds_Gone),
   (by rw [cOf_eq (PySem.W.mg_of X G ea_NoBounds), cOf_eq (PySem.W.mg_of X G ea_Gone)]; exact e_NoBounds_Gone),
   (by rw [cOf_eq (PySem.W.mg_of X G ea_NoState)]; exact kv_NoState),
   (by rw [cOf_eq (PySem.W.mg_of X G ea_NoState), cOf_eq (PySem.W.mg_of X G ea_PeakError)]; exact k_NoState_PeakError),
   (by rw [cOf_eq (PySem.W.mg_of X G ea_NoState), cOf_eq (PySem.W.mg_of X G ea_PeakError)]; exact e_NoState_PeakError),
   (by rw [cOf_eq (PySem.W.mg_of X G ea_NoState), cOf_eq (PySem.W.mg_of X G ea_NoNumber)]; exact k_NoState_NoNumber),
   (by rw [cOf_eq (PySem.W.mg_of X G ea_NoState), cOf_eq (PySem.W.mg_of X G ea_NoNumber)]; exact e_NoState_NoNumber),
   (by rw [cOf_eq (PySem.W.mg_of X G ea_NoState), cOf_eq (PySem.W.mg_of X G ea_NoText)]; exact k_NoState_NoText),
   (by rw [cOf_eq (PySem.W.mg_of X G ea_NoState), cOf_eq (PySem.W.mg_of X G ea_NoText)]; exact e_NoState_NoText),
   (by rw [cOf_eq (PySem.W.mg_of X G ea_NoState), cOf_eq (PySem.W.mg_of X G ea_NoBounds)]; exact k_NoState_NoBounds),
   (by rw [cOf_eq (PySem.W.mg_of X G ea_NoState), cOf_eq (PySem.W.mg_of X G ea_NoBounds)]; exact e_NoState_NoBounds),
   (by rw [cOf_eq (PySem.W.mg_of X G ea_NoState)]; exact k_NoState_NoState),
   (by rw [cOf_eq (PySem.W.mg_of X G ea_NoState)]; exact e_NoState_NoState),
   (by rw [cOf_eq (PySem.W.mg_of X G ea_NoState), cOf_eq (PySem.W.mg_of X G ea_Gone)]; exact k_NoState_Gone),
   (by rw [cOf_eq (PySem.W.mg_of X G ea_NoState), cOf_eq (PySem.W.mg_of X G ea_Gone)]; exact e_NoState_Gone)⟩
end Pr
set_option Elab.async false
set_option linter.all false
set_option maxRecDepth 100000
open PySem PySem.W PyProof.Rows
set_option maxHeartbeats 0 in
open_top hd for PySem.Challenge.rw_peakroll_k75_no_states
set_option maxHeartbeats 0 in
theorem PySem.Challenge.cw_peakroll_k75_no_states_holds : PySem.Challenge.rw_peakroll_k75_no_states.Holds := by
  refine hd ?_
  k_fill
  refine Pr.walk (l := PySem.Challenge.rw_peakroll_k75_no_states) rfl rfl (fun w h Y => PySem.W.kIn_of Y) ?F
  case F =>
    intro w mg fa h KX G hmg
    have T : ∃ C, Pr.Txt (L2.KOf KX) mg C := by
      dsimp only [L2.KOf]
      refine' ⟨0, Pr.txt_mk (C := 0) KX G ?a1 ?l1 ?c1 ?k1 ?a2 ?l2 ?c2 ?k2 ?a3 ?l3 ?c3 ?k3 ?a4 ?l4 ?c4 ?k4 ?a5 ?l5 ?c5 ?k5 ?a6 ?l6 ?c6 ?k6 ?a7 ?l7 ?c7 ?k7 ?a8 ?l8 ?c8 ?k8 ?a9 ?l9 ?c9 ?k9 ?a10 ?l10 ?c10 ?k10 ?a11 ?l11 ?c11 ?k11 ?a12 ?l12 ?c12 ?k12 ?a13 ?l13 ?c13 ?k13 ?a14 ?l14 ?c14 ?k14 ?a15 ?l15 ?c15 ?k15 ?a16 ?l16 ?c16 ?k16 ?a17 ?l17 ?c17 ?k17 ?a18 ?l18 ?c18 ?k18 ?a19 ?l19 ?c19 ?k19 ?a20 ?l20 ?c20 ?k20 ?a21 ?l21 ?c21 ?k21 ?a22 ?l22 ?c22 ?k22 ?a23 ?l23 ?c23 ?k23 ?a24 ?l24 ?c24 ?k24 ?c_WIDE_END ?c_MOST_COUNT ?c_MOST_MORE ?b_ValueError ?b_abs ?b_all ?b_bool ?b_divmod ?b_int ?b_isinstance ?b_len ?b_list ?b_max ?b_min ?b_range ?b_repr ?b_sorted ?b_sum ?b_tuple ?esp ?etk ?ea_PeakError ?eo_PeakError ?eg_PeakError ?en_PeakError ?ef_PeakError ?em_PeakError ?es_PeakError ?ec_PeakError ?ea_NoNumber ?eo_NoNumber ?eg_NoNumber ?en_NoNumber ?ef_NoNumber ?em_NoNumber ?es_NoNumber ?ec_NoNumber ?ea_NoText ?eo_NoText ?eg_NoText ?en_NoText ?ef_NoText ?em_NoText ?es_NoText ?ec_NoText ?ea_NoBounds ?eo_NoBounds ?eg_NoBounds ?en_NoBounds ?ef_NoBounds ?em_NoBounds ?es_NoBounds ?ec_NoBounds ?ea_NoState ?eo_NoState ?eg_NoState ?en_NoState ?ef_NoState ?em_NoState ?es_NoState ?ec_NoState ?ea_Gone ?eo_Gone ?eg_Gone ?en_Gone ?ef_Gone ?em_Gone ?es_Gone ?ec_Gone ?kv_NoBounds ?k_NoBounds_PeakError ?e_NoBounds_PeakError ?k_NoBounds_NoNumber ?e_NoBounds_NoNumber ?k_NoBounds_NoText ?e_NoBounds_NoText ?k_NoBounds_NoBounds ?e_NoBounds_NoBounds ?k_NoBounds_NoState ?e_NoBounds_NoState ?k_NoBounds_Gone ?e_NoBounds_Gone ?kv_NoState ?k_NoState_PeakError ?e_NoState_PeakError ?k_NoState_NoNumber ?e_NoState_NoNumber ?k_NoState_NoText ?e_NoState_NoText ?k_NoState_NoBounds ?e_NoState_NoBounds ?k_NoState_NoState ?e_NoState_NoState ?k_NoState_Gone ?e_NoState_Gone⟩
      (case a1 => k_is)
      (case l1 => k_is)
      (case c1 => k_is)
      (case k1 => k_is)
      (case a2 => k_is)
      (case l2 => k_is)
      (case c2 => k_is)
      (case k2 => k_is)
      (case a3 => k_is)
      (case l3 => k_is)
      (case c3 => k_is)
      (case k3 => k_is)
      (case a4 => k_is)
      (case l4 => k_is)
      (case c4 => k_is)
      (case k4 => k_is)
      (case a5 => k_is)
      (case l5 => k_is)
      (case c5 => k_is)
      (case k5 => k_is)
      (case a6 => k_is)
      (case l6 => k_is)
      (case c6 => k_is)
      (case k6 => k_is)
      (case a7 => k_is)
      (case l7 => k_is)
      (case c7 => k_is)
      (case k7 => k_is)
      (case a8 => k_is)
      (case l8 => k_is)
      (case c8 => k_is)
      (case k8 => k_is)
      (case a9 => k_is)
      (case l9 => k_is)
      (case c9 => k_is)
      (case k9 => k_is)
      (case a10 => k_is)
      (case l10 => k_is)
      (case c10 => k_is)
      (case k10 => k_is)
      (case a11 => k_is)
      (case l11 => k_is)
      (case c11 => k_is)
      (case k11 => k_is)
      (case a12 => k_is)
      (case l12 => k_is)
      (case c12 => k_is)
      (case k12 => k_is)
      (case a13 => k_is)
      (case l13 => k_is)
      (case c13 => k_is)
      (case k13 => k_is)
      (case a14 => k_is)
      (case l14 => k_is)
      (case c14 => k_is)
      (case k14 => k_is)
      (case a15 => k_is)
      (case l15 => k_is)
      (case c15 => k_is)
      (case k15 => k_is)
      (case a16 => k_is)
      (case l16 => k_is)
      (case c16 => k_is)
      (case k16 => k_is)
      (case a17 => k_is)
      (case l17 => k_is)
      (case c17 => k_is)
      (case k17 => k_is)
      (case a18 => k_is)
      (case l18 => k_is)
      (case c18 => k_is)
      (case k18 => k_is)
      (case a19 => k_is)
      (case l19 => k_is)
      (case c19 => k_is)
      (case k19 => k_is)
      (case a20 => k_is)
      (case l20 => k_is)
      (case c20 => k_is)
      (case k20 => k_is)
      (case a21 => k_is)
      (case l21 => k_is)
      (case c21 => k_is)
      (case k21 => k_is)
      (case a22 => k_is)
      (case l22 => k_is)
      (case c22 => k_is)
      (case k22 => k_is)
      (case a23 => k_is)
      (case l23 => k_is)
      (case c23 => k_is)
      (case k23 => k_is)
      (case a24 => k_is)
      (case l24 => k_is)
      (case c24 => k_is)
      (case k24 => k_is)
      (case c_WIDE_END => k_is)
      (case c_MOST_COUNT => k_is)
      (case c_MOST_MORE => k_is)
      (case b_ValueError => k_is)
      (case b_abs => k_is)
      (case b_all => k_is)
      (case b_bool => k_is)
      (case b_divmod => k_is)
      (case b_int => k_is)
      (case b_isinstance => k_is)
      (case b_len => k_is)
      (case b_list => k_is)
      (case b_max => k_is)
      (case b_min => k_is)
      (case b_range => k_is)
      (case b_repr => k_is)
      (case b_sorted => k_is)
      (case b_sum => k_is)
      (case b_tuple => k_is)
      (case esp => k_is)
      (case etk => k_is)
      (case ea_PeakError => k_is)
      (case eo_PeakError => k_exc)
      (case eg_PeakError => k_is)
      (case en_PeakError => k_is)
      (case ef_PeakError => k_is)
      (case em_PeakError => k_is)
      (case es_PeakError => k_is)
      (case ec_PeakError => k_is)
      (case ea_NoNumber => k_is)
      (case eo_NoNumber => k_exc)
      (case eg_NoNumber => k_is)
      (case en_NoNumber => k_is)
      (case ef_NoNumber => k_is)
      (case em_NoNumber => k_is)
      (case es_NoNumber => k_is)
      (case ec_NoNumber => k_is)
      (case ea_NoText => k_is)
      (case eo_NoText => k_exc)
      (case eg_NoText => k_is)
      (case en_NoText => k_is)
      (case ef_NoText => k_is)
      (case em_NoText => k_is)
      (case es_NoText => k_is)
      (case ec_NoText => k_is)
      (case ea_NoBounds => k_is)
      (case eo_NoBounds => k_exc)
      (case eg_NoBounds => k_is)
      (case en_NoBounds => k_is)
      (case ef_NoBounds => k_is)
      (case em_NoBounds => k_is)
      (case es_NoBounds => k_is)
      (case ec_NoBounds => k_is)
      (case ea_NoState => k_is)
      (case eo_NoState => k_exc)
      (case eg_NoState => k_is)
      (case en_NoState => k_is)
      (case ef_NoState => k_is)
      (case em_NoState => k_is)
      (case es_NoState => k_is)
      (case ec_NoState => k_is)
      (case ea_Gone => k_is)
      (case eo_Gone => k_exc)
      (case eg_Gone => k_is)
      (case en_Gone => k_is)
      (case ef_Gone => k_is)
      (case em_Gone => k_is)
      (case es_Gone => k_is)
      (case ec_Gone => k_is)
      (case kv_NoBounds => kit_is)
      (case k_NoBounds_PeakError => kit_is)
      (case e_NoBounds_PeakError => kts_exm)
      (case k_NoBounds_NoNumber => kit_is)
      (case e_NoBounds_NoNumber => kts_exm)
      (case k_NoBounds_NoText => kit_is)
      (case e_NoBounds_NoText => kts_exm)
      (case k_NoBounds_NoBounds => kit_is)
      (case e_NoBounds_NoBounds => kts_exm)
      (case k_NoBounds_NoState => kit_is)
      (case e_NoBounds_NoState => kts_exm)
      (case k_NoBounds_Gone => kit_is)
      (case e_NoBounds_Gone => kts_exm)
      (case kv_NoState => kit_is)
      (case k_NoState_PeakError => kit_is)
      (case e_NoState_PeakError => kts_exm)
      (case k_NoState_NoNumber => kit_is)
      (case e_NoState_NoNumber => kts_exm)
      (case k_NoState_NoText => kit_is)
      (case e_NoState_NoText => kts_exm)
      (case k_NoState_NoBounds => kit_is)
      (case e_NoState_NoBounds => kts_exm)
      (case k_NoState_NoState => kit_is)
      (case e_NoState_NoState => kts_exm)
      (case k_NoState_Gone => kit_is)
      (case e_NoState_Gone => kts_exm)
    obtain ⟨C, T⟩ := T
    exact Pr.law_all T hmg
