import PyProof.Rows.All
import Wide.All
import OpenK.AllK
import Wide.FinOn
import Lean
import PyProof.EqAt
import PyProof.EqKinds
import PyProof.TupleCall
import KE.KTryMore
import PyProof.RaisesMany
import PyProof.RulesAs
import PyProof.ExcBaseAll.ValueError
import PyProof.NsDelKeeps
import KE.KIsNot
import PyProof.ExcArgs
import KE.RegKIsAll
import KE.RegKTryMore
import KE.KSortTup
import KE.KDictList
import PyProof.DictRoadsH
import PyProof.FactsAll.NoneType_1
import PyProof.SetRoads
import PyProof.CollectWalk
import PyProof.Walks
import PyProof.Rows.SortShell
import KE.KDictSum
import PyProof.Rows.SortWalk
import KE.KSortAsk
import PyProof.TupleOfSeq
import KE.KIntText
import PyProof.FactsCmp
import PyProof.ExcClass2
import PyProof.StrLawsNeg
import PyProof.Rows.StrJoinRep
import PyProof.Rows.StrSplitCount
import KE.KRevIter
import PySem.Challenge.RW_peakroll_k64_locks_text
set_option Elab.async false
set_option linter.all false
set_option maxRecDepth 100000
/-! THE HAND LAYER, for ints, bools, texts, own classes, LISTS and tuples (index, slices, in, append, pop ..), calls, loops. Paste it whole ahead of your own text; what your proof does not reach may be deleted. -/
namespace L2
open PySem PySem.Spec PyProof.Rows

/-- a key: an int or a str -/
abbrev Key := Sum Int Str
def keyIs : Key → Value → Bool
  | .inl k, v => Value.isInt k v
  | .inr x, v => Value.isStrOf x v
def keyH (w : World) : Key → Int
  | .inl k => hashInt k
  | .inr x => hashStr w x
theorem keyIs_shape : ∀ {k : Key} {v : Value}, keyIs k v = true → (∃ i t, k = Sum.inl i ∧ v = Value.int i t) ∨ (∃ x t, k = Sum.inr x ∧ v = Value.str x t)
  | .inl i, v, h => by
    obtain ⟨t, e⟩ := Value.isInt_shape (k := i) (v := v) h
    exact .inl ⟨i, t, rfl, e⟩
  | .inr x, v, h => by
    obtain ⟨t, e⟩ := Value.isStrOf_shape (x := x) (v := v) h
    exact .inr ⟨x, t, rfl, e⟩
theorem keyIs_int (i : Int) (t : Tok) : keyIs (.inl i) (.int i t) = true := by simp [keyIs, Value.isInt]
theorem keyIs_str (x : Str) (t : Tok) : keyIs (.inr x) (.str x t) = true := by simp [keyIs, Value.isStrOf]
theorem key_ll (a b : Int) : decide ((Sum.inl a : Key) = Sum.inl b) = (a == b) := by
  by_cases e : a = b
  · subst e; simp
  · have h : ¬ (Sum.inl a : Key) = Sum.inl b := fun q => e (Sum.inl.inj q)
    rw [decide_eq_false h]
    exact (beq_eq_false_iff_ne.mpr e).symm
theorem key_rr (a b : Str) : decide ((Sum.inr a : Key) = Sum.inr b) = decide (a = b) := by
  by_cases e : a = b
  · subst e; simp
  · have h : ¬ (Sum.inr a : Key) = Sum.inr b := fun q => e (Sum.inr.inj q)
    rw [decide_eq_false h, decide_eq_false e]
theorem key_lr (a : Int) (b : Str) : decide ((Sum.inl a : Key) = Sum.inr b) = false := decide_eq_false (fun q => nomatch q)
theorem key_rl (a : Str) (b : Int) : decide ((Sum.inr a : Key) = Sum.inl b) = false := decide_eq_false (fun q => nomatch q)

def mixKind (prog : Program) (w : World) : PySem.KeyKind prog w Key where
  is := keyIs
  hash := keyH w
  inj := fun v a b ha hb => by
    rcases keyIs_shape ha with ⟨i, t, rfl, rfl⟩ | ⟨x, t, rfl, rfl⟩
    · rcases keyIs_shape hb with ⟨j, u, rfl, e⟩ | ⟨y, u, rfl, e⟩
      · injection e with e1 _; rw [e1]
      · exact nomatch e
    · rcases keyIs_shape hb with ⟨j, u, rfl, e⟩ | ⟨y, u, rfl, e⟩
      · exact nomatch e
      · injection e with e1 _; rw [e1]
  byValue := fun k v h => by
    rcases keyIs_shape h with ⟨i, t, rfl, rfl⟩ | ⟨x, t, rfl, rfl⟩ <;> rfl
  pyHash := fun hv h => by
    rcases keyIs_shape hv with ⟨i, t, rfl, rfl⟩ | ⟨x, t, rfl, rfl⟩
    · exact wpAny_pyHash_int h
    · exact wpAny_pyHash_str h
  eqBool := fun hu hv h => by
    rcases keyIs_shape hu with ⟨i, t, rfl, rfl⟩ | ⟨x, t, rfl, rfl⟩
    · rcases keyIs_shape hv with ⟨j, u, rfl, rfl⟩ | ⟨y, u, rfl, rfl⟩
      · rw [key_ll] at h; exact wpAny_eqBool_int h
      · rw [key_lr] at h; exact SeqAt.EqAt.int_str i t y u _ _ _ _ h
    · rcases keyIs_shape hv with ⟨j, u, rfl, rfl⟩ | ⟨y, u, rfl, rfl⟩
      · rw [key_rl] at h; exact SeqAt.EqAt.str_int x t j u _ _ _ _ h
      · rw [key_rr] at h; exact wpAny_eqBool_str h
  «strs» := fun k x t v h => by
    rcases keyIs_shape h with ⟨i, u, rfl, e⟩ | ⟨y, u, rfl, e⟩
    · exact nomatch e
    · injection e with e1 _
      subst e1
      cases v <;> rfl

theorem mixKind_int (prog : Program) (w : World) (i : Int) (t : Tok) : (mixKind prog w).is (.inl i) (.int i t) = true := keyIs_int i t
theorem mixKind_str (prog : Program) (w : World) (x : Str) (t : Tok) : (mixKind prog w).is (.inr x) (.str x t) = true := keyIs_str x t
end L2

namespace L2
open PySem PySem.Spec PyProof.Rows

/-- a value, without the heap -/
inductive V where
  | non | bl (b : Bool) | int (i : Int) | str (x : Str) | byt (b : Array UInt8) | flt (b : UInt64) | ref (a : Addr) | ty (n : String)
  deriving DecidableEq

def RelV : V → Value → Prop
  | .non, u => u = Value.none
  | .bl b, u => u = Value.bool b
  | .int i, u => ∃ t, u = Value.int i t
  | .str x, u => ∃ t, u = Value.str x t
  | .byt b, u => ∃ t, u = Value.bytes b t
  | .flt b, u => ∃ t, u = Value.float b t
  | .ref a, u => u = Value.ref a
  | .ty n, u => u = Value.type n

abbrev Vals : List V → List Value → Prop := Paired RelV
theorem Vals.length {xs : List V} {us : List Value} (r : Vals xs us) : xs.length = us.length := Paired.length r
theorem Vals.get : ∀ {xs : List V} {us : List Value} {i : Nat} {x : V}, Vals xs us → xs[i]? = some x → ∃ u, us[i]? = some u ∧ RelV x u
  | _, _, _, _, .nil, e => by simp at e
  | _, _, 0, _, .cons r _, e => by simp at e; subst e; exact ⟨_, rfl, r⟩
  | _, _, i + 1, x, .cons _ t, e => by
    obtain ⟨u, h1, h2⟩ := Vals.get (i := i) (x := x) t (by simpa using e)
    exact ⟨u, by simpa using h1, h2⟩
theorem Vals.set {x : V} {u : Value} (r : RelV x u) : ∀ {xs : List V} {us : List Value} (i : Nat), Vals xs us → Vals (xs.set i x) (us.set i u)
  | _, _, _, .nil => .nil
  | _, _, 0, .cons _ t => .cons r t
  | _, _, i + 1, .cons q t => .cons q (Vals.set r i t)
theorem Vals.append : ∀ {xs ys : List V} {us ws : List Value}, Vals xs us → Vals ys ws → Vals (xs ++ ys) (us ++ ws)
  | _, _, _, _, .nil, s => s
  | _, _, _, _, .cons r t, s => .cons r (Vals.append t s)
theorem Vals.take : ∀ {xs : List V} {us : List Value} (n : Nat), Vals xs us → Vals (xs.take n) (us.take n)
  | _, _, 0, _ => .nil
  | _, _, _ + 1, .nil => .nil
  | _, _, n + 1, .cons r t => .cons r (Vals.take n t)
theorem Vals.drop : ∀ {xs : List V} {us : List Value} (n : Nat), Vals xs us → Vals (xs.drop n) (us.drop n)
  | _, _, 0, r => r
  | _, _, _ + 1, .nil => .nil
  | _, _, n + 1, .cons _ t => Vals.drop n t

def RelO : Option V → Option Value → Prop
  | some v, some u => RelV v u
  | none, none => True
  | _, _ => False
def KV {κ : Type} : List (κ × V) → List (κ × Value) → Prop := Paired fun (p : κ × V) (q : κ × Value) => p.1 = q.1 ∧ RelV p.2 q.2

/-- a key of a dict (00_mix): an int or a text -/
def kV : Key → V
  | .inl i => .int i
  | .inr x => .str x

/-- what stands at a tracked address -/
inductive HO where
  /-- a list -/
  | lst (xs : List V)
  /-- a tuple (never changes) -/
  | tup (xs : List V)
  /-- a dict whose keys are ints and texts; one whose keys are tuples of ints and texts (the empty one is both) -/
  | dK (kvs : List (Key × V)) | dT (kvs : List (List Key × V))
  /-- a set of ints: its members, its size -/
  | set (S : Int → Bool) (n : Nat)
  /-- an instance of the class at C, its dict at dx, its attributes -/
  | ins (C dx : Addr) (fs : List (Str × V))
  /-- the dict of the instance at x -/
  | own (x : Addr)
  /-- the dict of an exception -/
  | xd (fs : List (Str × V))
  /-- a bound method, f of x -/
  | met (f x : Addr)
  /-- a range object lo, lo + 1, .. below hi -/
  | rng (lo hi : Int)
  /-- a thing that is known to the object (the script; a dict while a loop walks it): read, never written while it is so -/
  | frz (o : Obj) (u : HO)
  /-- a code object's table -/
  | tbl (ps : Array Value)
  /-- any other thing, by what is true of its one object (a def of one's own: SetO a S n := HO.ext fun h => ..) -/
  | ext (φ : Heap → Prop)

abbrev Hp := Addr → Option HO
def upd (H : Hp) (a : Addr) (o : HO) : Hp := fun b => if b = a then some o else H b
theorem upd_same {H : Hp} {a : Addr} {o : HO} : upd H a o a = some o := by unfold upd; rw [if_pos rfl]
theorem upd_ne {H : Hp} {a b : Addr} {o : HO} (h : b ≠ a) : upd H a o b = H b := by unfold upd; rw [if_neg h]
/-- two objects of different content stand apart -/
theorem ne_of {H : Hp} {a b : Addr} {o u : HO} (h : H a = some o) (h' : H b = some u) (d : o ≠ u) : a ≠ b := by
  intro e; subst e; rw [h] at h'; exact d (Option.some.inj h')
theorem ne_of_none {H : Hp} {a b : Addr} {o : HO} (h : H a = some o) (h' : H b = none) : a ≠ b := by
  intro e; subst e; rw [h] at h'; cases h'

section
variable (P : Program) (w : World)
def ObjOk (H : Hp) (h : Heap) (a : Addr) : HO → Prop
  | .lst xs => xs.length ≤ sizeLine ∧ ∃ (its : List Value) (n : Nat), Vals xs its ∧ h.get? a = some { cls := .type "list", data := .seq its.toArray n }
  | .tup xs => xs.length ≤ sizeLine ∧ ∃ its : List Value, Vals xs its ∧ IsTup h a its.toArray
  | .dK kvs => kvs.length ≤ sizeLine ∧ (a == sysModules) = false ∧ ∃ vs, KV kvs vs ∧ h.DictOf (mixKind P w) a vs
  | .dT kvs => kvs.length ≤ sizeLine ∧ (a == sysModules) = false ∧ ∃ xs : List (List Key × Addr × Value),
      Paired (fun (p : List Key × V) (q : List Key × Addr × Value) => p.1 = q.1 ∧ H q.2.1 = some (.tup (p.1.map kV)) ∧ RelV p.2 q.2.2) kvs xs ∧
      ∃ o es ep, h.get? a = some o ∧ o.ExactDict ∧ o.data = .dict es ep ∧ es.toList = xs.map (entryOfKey (tupleKind (mixKind P w))) ∧ (xs.map (·.1)).Nodup
  | .set S n => h.SetOf (intKind P w) a S n
  | .ins C dx fs => H dx = some (.own a) ∧ fs.length ≤ 1000 ∧ dx ≠ a ∧ h.get? a = some (PySem.W.instObj C dx) ∧
      ∃ mA, h.Ns1 dx mA ∧ (∀ f, RelO (fs.lookup f) (mA f)) ∧ PySem.Within mA (fs.map (·.1))
  | .own _ => ∃ o, h.get? a = some o
  | .xd fs => ∃ mA, h.Ns1 a mA ∧ ∀ f, RelO (fs.lookup f) (mA f)
  | .rng lo hi => ∃ t u v, h.get? a = some { cls := .type "range", data := .fields #[.int lo t, .int hi u, .int 1 v] }
  | .frz o u => h.get? a = some o ∧ ObjOk H h a u
  | .tbl ps => h.get? a = some { cls := .none, data := .fields ps }
  | .met f x => h.get? a = some (PySem.W.methodObj (.ref f) (.ref x))
  | .ext φ => φ h ∧ (∃ o, h.get? a = some o) ∧ ∀ h1 h2 : Heap, φ h1 → (∀ o, h1.get? a = some o → h2.get? a = some o) → φ h2
/-- the abstract heap is held -/
def HOk (H : Hp) (h : Heap) : Prop := ∀ a o, H a = some o → ObjOk P w H h a o
end

section
variable {P : Program} {w : World} {H H' : Hp} {h h' : Heap} {a : Addr} {o : HO}
theorem ObjOk.lt (x : ObjOk P w H h a o) : a < h.objs.size := by
  cases o with
  | lst xs => obtain ⟨_, _, _, _, e⟩ := x; exact Heap.lt_size e
  | tup xs => obtain ⟨_, _, _, p⟩ := x; exact p.lt
  | dK kvs => obtain ⟨_, _, _, _, o, _, _, e, _⟩ := x; exact Heap.lt_size e
  | dT kvs => obtain ⟨_, _, _, _, o, _, _, e, _⟩ := x; exact Heap.lt_size e
  | set S n => obtain ⟨o, _, _, _, e, _⟩ := x; exact Heap.lt_size e
  | ins C dx fs => obtain ⟨_, _, _, e, _⟩ := x; exact Heap.lt_size e
  | own y => obtain ⟨_, e⟩ := x; exact Heap.lt_size e
  | xd fs => obtain ⟨_, ⟨_, _, _, e, _⟩, _⟩ := x; exact Heap.lt_size e
  | rng lo hi => obtain ⟨_, _, _, e⟩ := x; exact Heap.lt_size e
  | frz ob u => obtain ⟨e, _⟩ := x; exact Heap.lt_size e
  | tbl ps => exact Heap.lt_size (show h.get? a = some _ from x)
  | met f y => exact Heap.lt_size (show h.get? a = some _ from x)
  | ext φ => obtain ⟨_, ⟨_, e⟩, _⟩ := x; exact Heap.lt_size e
theorem Paired.mapP {α β : Type} {F G : α → β → Prop} : ∀ {l₁ : List α} {l₂ : List β}, Paired F l₁ l₂ → (∀ a b, F a b → G a b) → Paired G l₁ l₂
  | _, _, .nil, _ => .nil
  | _, _, .cons r t, f => .cons (f _ _ r) (Paired.mapP t f)
/-- what an object's description leans on: its own object, its own dict, the tuples -/
theorem ObjOk.stay (x : ObjOk P w H h a o) (k : ∀ b u, (b = a ∨ H b = some (.own a)) → h.get? b = some u → h'.get? b = some u)
    (ho : ∀ b, H b = some (.own a) → H' b = some (.own a)) (ht : ∀ b xs, H b = some (.tup xs) → H' b = some (.tup xs)) : ObjOk P w H' h' a o := by
  induction o with
  | lst xs => obtain ⟨z, its, n, r, e⟩ := x; exact ⟨z, its, n, r, k _ _ (.inl rfl) e⟩
  | tup xs => obtain ⟨z, its, r, ob, e, c⟩ := x; exact ⟨z, its, r, ob, k _ _ (.inl rfl) e, c⟩
  | dK kvs => obtain ⟨z, y, vs, r, ob, es, ep, e, c⟩ := x; exact ⟨z, y, vs, r, ob, es, ep, k _ _ (.inl rfl) e, c⟩
  | dT kvs =>
    obtain ⟨z, y, xs, r, ob, es, ep, e, c⟩ := x
    exact ⟨z, y, xs, Paired.mapP r fun p q z => ⟨z.1, ht _ _ z.2.1, z.2.2⟩, ob, es, ep, k _ _ (.inl rfl) e, c⟩
  | set S n => obtain ⟨ob, es, ep, t, e, c⟩ := x; exact ⟨ob, es, ep, t, k _ _ (.inl rfl) e, c⟩
  | ins C dx fs =>
    obtain ⟨d, z, ne, e, mA, ⟨od, es, ep, e2, c⟩, r⟩ := x
    exact ⟨ho _ d, z, ne, k _ _ (.inl rfl) e, mA, ⟨od, es, ep, k _ _ (.inr d) e2, c⟩, r⟩
  | own y => obtain ⟨ob, e⟩ := x; exact ⟨ob, k _ _ (.inl rfl) e⟩
  | xd fs => obtain ⟨mA, ⟨od, es, ep, e, c⟩, r⟩ := x; exact ⟨mA, ⟨od, es, ep, k _ _ (.inl rfl) e, c⟩, r⟩
  | rng lo hi => obtain ⟨t, u, v, e⟩ := x; exact ⟨t, u, v, k _ _ (.inl rfl) e⟩
  | frz ob u ih => obtain ⟨e, q⟩ := x; exact ⟨k _ _ (.inl rfl) e, ih q⟩
  | tbl ps =>
    have e : h.get? a = some { cls := .none, data := .fields ps } := x
    show h'.get? a = some { cls := .none, data := .fields ps }
    exact k a _ (.inl rfl) e
  | met f y =>
    have e : h.get? a = some (PySem.W.methodObj (.ref f) (.ref y)) := x
    show h'.get? a = some (PySem.W.methodObj (.ref f) (.ref y))
    exact k a _ (.inl rfl) e
  | ext φ => obtain ⟨p, ⟨o, e⟩, st⟩ := x; exact ⟨st _ _ p fun o q => k _ _ (.inl rfl) q, ⟨o, k _ _ (.inl rfl) e⟩, st⟩
theorem HOk.lt (x : HOk P w H h) (e : H a = some o) : a < h.objs.size := (x a o e).lt
theorem HOk.fresh (x : HOk P w H h) (e : h.objs.size ≤ a) : H a = none := by
  cases q : H a with
  | none => rfl
  | some u => exact absurd (Nat.lt_of_lt_of_le (x.lt q) e) (Nat.lt_irrefl _)
/-- every object of the heap is kept -/
theorem HOk.kept (x : HOk P w H h) (k : ∀ b u, h.get? b = some u → h'.get? b = some u) : HOk P w H h' := fun a o e =>
  (x a o e).stay (fun b u _ q => k b u q) (fun _ q => q) fun _ _ q => q
/-- a new object is laid and tracked -/
theorem HOk.laid (x : HOk P w H h) (k : ∀ b u, h.get? b = some u → h'.get? b = some u) (hp : h.objs.size ≤ a) (new : ObjOk P w (upd H a o) h' a o) : HOk P w (upd H a o) h' := fun b u e => by
  have hn := x.fresh hp
  by_cases hb : b = a
  · subst hb; rw [upd_same] at e; cases e; exact new
  · rw [upd_ne hb] at e
    exact (x b u e).stay (fun c v _ q => k c v q) (fun c q => by rw [upd_ne (ne_of_none q hn)]; exact q) fun c xs q => by rw [upd_ne (ne_of_none q hn)]; exact q
end

/-- what may be read as u: it is u, or a known u -/
def Rd (H : Hp) (a : Addr) (u : HO) : Prop := H a = some u ∨ ∃ o, H a = some (.frz o u)
theorem Rd.ok {P : Program} {w : World} {H : Hp} {h : Heap} {a : Addr} {u : HO} (r : Rd H a u) (x : HOk P w H h) : ObjOk P w H h a u := by
  rcases r with r | ⟨o, r⟩
  · exact x a u r
  · obtain ⟨_, q⟩ := x a _ r
    exact q
/-- what may be written -/
def Mut : Option HO → Prop
  | some (.lst _) => True
  | some (.dK _) => True
  | some (.dT _) => True
  | some (.set _ _) => True
  | some (.ins _ _ _) => True
  | some (.ext _) => True
  | _ => False
section
variable {P : Program} {w : World} {H : Hp} {h h' : Heap} {x e : Addr} {o' : HO}
/-- the object at e is changed: x itself, or the dict of the instance x -/
theorem HOk.write (ok : HOk P w H h) (mu : Mut (H x)) (he : e = x ∨ H e = some (.own x)) (k : ∀ b u, b ≠ e → h.get? b = some u → h'.get? b = some u) (heo : ∃ u, h'.get? e = some u)
    (new : ObjOk P w (upd H x o') h' x o') : HOk P w (upd H x o') h' := fun b u q => by
  have nown : ∀ c y, H c = some (.own y) → c ≠ x := fun c y r z => by subst z; rw [r] at mu; exact mu
  have ntup : ∀ c xs, H c = some (.tup xs) → c ≠ x := fun c xs r z => by subst z; rw [r] at mu; exact mu
  by_cases hb : b = x
  · subst hb; rw [upd_same] at q; cases q; exact new
  · rw [upd_ne hb] at q
    by_cases hbe : b = e
    · have q' : H b = some (.own x) := by
        rcases he with z | z
        · exact absurd (hbe.trans z) hb
        · rw [hbe]; exact z
      rw [q] at q'; cases q'
      obtain ⟨v, hv⟩ := heo
      exact ⟨v, by rw [hbe]; exact hv⟩
    · refine (ok b u q).stay (fun c v hc r => k c v ?_ r) (fun c r => by rw [upd_ne (nown c b r)]; exact r) fun c xs r => by rw [upd_ne (ntup c xs r)]; exact r
      rcases hc with rfl | hc
      · exact hbe
      · rintro rfl
        rcases he with z | z
        · exact nown c b hc z
        · rw [hc] at z; cases z; exact hb rfl
end

/-! ### kept unless tracked; of the frames at fs (the callers') the slots may change (an exception that passes writes there); of the records at ex (iterators) nothing is said -/
structure Un (fs ex : List Addr) (H H' : Hp) (h h' : Heap) : Prop where
  keep : ∀ b o, h.get? b = some o → H b = none → b ∉ fs → b ∉ ex → h'.get? b = some o
  slot : ∀ b o, h.get? b = some o → H b = none → b ∈ fs → b ∉ ex → ∃ sl, h'.get? b = some { o with slots := sl }
  free : ∀ b o, h.get? b = some o → H b = none → b ∉ ex → H' b = none
  there : ∀ b o, h.get? b = some o → b ∉ ex → ∃ o', h'.get? b = some o'
  tups : ∀ b xs, H b = some (.tup xs) → H' b = some (.tup xs)
  frzs : ∀ b o u, H b = some (.frz o u) → H' b = some (.frz o u)
  tbls : ∀ b ps, H b = some (.tbl ps) → ∃ more, H' b = some (.tbl (ps ++ more))
section
variable {fs fs' ex ex' : List Addr} {H H1 H2 : Hp} {h h1 h2 h' : Heap} {a x e : Addr} {o : HO}
theorem Un.any (u : Un fs ex H H1 h h1) {b : Addr} {ob : Obj} (q : h.get? b = some ob) (n : H b = none) (hx : b ∉ ex) : ∃ sl, h1.get? b = some { ob with slots := sl } := by
  by_cases hb : b ∈ fs
  · exact u.slot b ob q n hb hx
  · exact ⟨ob.slots, u.keep b ob q n hb hx⟩
theorem Un.kept (k : ∀ b u, h.get? b = some u → h'.get? b = some u) : Un fs ex H H h h' :=
  ⟨fun b ob q _ _ _ => k b ob q, fun b ob q _ _ _ => ⟨ob.slots, k b ob q⟩, fun _ _ _ n _ => n, fun b ob q _ => ⟨ob, k b ob q⟩, fun _ _ q => q, fun _ _ _ q => q, fun _ ps q => ⟨#[], by rw [q]; simp⟩⟩
theorem Un.refl : Un fs ex H H h h := Un.kept fun _ _ q => q
theorem Un.laid (k : ∀ b u, h.get? b = some u → h'.get? b = some u) (hp : h.objs.size ≤ a) (hn : H a = none) : Un fs ex H (upd H a o) h h' where
  keep := fun b u q _ _ _ => k b u q
  slot := fun b u q _ _ _ => ⟨u.slots, k b u q⟩
  free := fun b u q n _ => by rw [upd_ne (Nat.ne_of_lt (Nat.lt_of_lt_of_le (Heap.lt_size q) hp))]; exact n
  there := fun b u q _ => ⟨u, k b u q⟩
  tups := fun b xs q => by rw [upd_ne (ne_of_none q hn)]; exact q
  frzs := fun b u xs q => by rw [upd_ne (ne_of_none q hn)]; exact q
  tbls := fun b ps q => ⟨#[], by rw [upd_ne (ne_of_none q hn), q]; simp⟩
theorem Un.write (mu : Mut (H x)) (he : e = x ∨ H e = some (.own x)) (k : ∀ b u, b ≠ e → h.get? b = some u → h'.get? b = some u) (heo : ∃ u, h'.get? e = some u) : Un fs ex H (upd H x o) h h' := by
  have hx : ∀ b, H b = none → b ≠ x := fun b n z => by subst z; rw [n] at mu; exact mu
  have hb : ∀ b, H b = none → b ≠ e := fun b n z => by
    subst z
    rcases he with r | r
    · exact hx b n r
    · rw [n] at r; cases r
  have hm : ∀ b u, H b = some u → ¬ Mut (some u) → b ≠ x := fun b u q nm z => by subst z; rw [q] at mu; exact nm mu
  refine ⟨fun b u q n _ _ => k b u (hb b n) q, fun b u q n _ _ => ⟨u.slots, k b u (hb b n) q⟩, fun b u q n _ => by rw [upd_ne (hx b n)]; exact n, fun b u q _ => ?_,
    fun b xs q => by rw [upd_ne (hm b _ q fun z => z)]; exact q, fun b u xs q => by rw [upd_ne (hm b _ q fun z => z)]; exact q, fun b ps q => ⟨#[], by rw [upd_ne (hm b _ q fun z => z), q]; simp⟩⟩
  by_cases hbe : b = e
  · subst hbe; exact heo
  · exact ⟨u, k b u hbe q⟩
end

/-! ### the heap without what is tracked -/
def trk (h : Heap) (H : Hp) : List Addr := (List.range h.objs.size).filter fun a => (H a).isSome
def hidT (h : Heap) (H : Hp) : Heap := PySem.W.hideAll h (trk h H)
theorem hidT_size (h : Heap) (H : Hp) : (hidT h H).objs.size = h.objs.size := PySem.W.hideAll_size _ _
theorem hidT_get {h : Heap} {H : Hp} {b : Addr} {o : Obj} (e : h.get? b = some o) (n : H b = none) : (hidT h H).get? b = some o :=
  PySem.W.hideAll_get _ e fun hm => by
    have q : (H b).isSome = true := (List.mem_filter.mp hm).2
    rw [n] at q; simp at q
theorem of_hidT {h : Heap} {H : Hp} {b : Addr} {o : Obj} (e : (hidT h H).get? b = some o) : h.get? b = some o ∧ H b = none := by
  have e' : h.get? b = some o := PySem.W.of_hideAll (trk h H) e
  refine ⟨e', ?_⟩
  cases q : H b with
  | none => rfl
  | some x =>
    have hm : b ∈ trk h H := List.mem_filter.mpr ⟨List.mem_range.mpr (Heap.lt_size e'), by simp [q]⟩
    have z : (hidT h H).get? b = none := PySem.W.hideAll_none (trk h H) hm
    rw [z] at e; cases e

/-! ### OpenK's ledger, filled with every new object but one -/
end L2

namespace L2
open PySem PySem.Spec PyProof.Rows

/-- the module's facts, over the base: the heap at the law's entry without what is tracked there -/
structure Mod (K : PySem.W.Frag) (mg : Str → Option Value) (base : Heap) : Prop where
  kin : K.In base
  glob : base.Ns mainGlobals mg
  blt : ∃ mb, base.Ns builtinsNs mb ∧ ∀ x : Str, x ≠ "__name__" → mb x = bootBuiltins x
  nolimit : base.NoLimit

/-- the context: a def's body (or a comprehension's block) running. base: fixed through the whole law; s₀, H₀: the entry; outer: the frames whose slots others may change (a def's callers); stack: all frames that run;
   ex: iterators that were made ahead of the entry and are walked here (a comprehension's); fn: the names whose cells were made at the entry (a def: all; a comprehension's block: its own); calm: not within an except suite; pn: pins that every state bears; xe: what is wanted of an exception that leaves the code -/
structure Cx where
  prog : Program
  w : World
  K : PySem.W.Frag
  mg : Str → Option Value
  base : Heap
  A : Around
  N : List Str
  s₀ : Shared
  H₀ : Hp
  env : Env
  outer : List Env
  stack : List Env
  ex : List Addr
  fn : Str → Bool
  calm : Bool
  pn : List (Addr × Obj)
  xe : Value → Shared → Prop
/-- the callers' frames -/
def frs (l : List Env) : List Addr := l.filterMap (·.frame)
abbrev Cx.fs (X : Cx) : List Addr := frs X.outer

def Vis (sc : Scope) (x : Str) : Prop := sc.names.lookup x = some .local ∨ sc.names.lookup x = some .cell ∨ sc.names.lookup x = some .free
def Loc (sc : Scope) (x : Str) : Prop := sc.names.lookup x = some .local ∨ sc.names.lookup x = some .cell
def Look (env : Env) (h : Heap) (m : Str → Option Value) (x : Str) (u : Value) : Prop :=
  (env.kindOf x = some .local ∧ m x = some u) ∨ ((env.kindOf x = some .cell ∨ env.kindOf x = some .free) ∧ ∃ c, env.cells.lookup x = some c ∧ h.IsCell c (some u))

structure Cx.Ok (X : Cx) : Prop where
  mod : Mod X.K X.mg X.base
  kind : X.env.scope.kind = .function
  glob : X.env.globals = mainGlobals
  blt : X.env.builtins = builtinsNs
  above : X.s₀.heap.objs.size ≤ X.env.locals
  inj : ∀ x y c, X.env.cells.lookup x = some c → X.env.cells.lookup y = some c → x = y
  has : ∀ x, (X.env.kindOf x = some .cell ∨ X.env.kindOf x = some .free) → ∃ c, X.env.cells.lookup x = some c
  cab : ∀ x c, X.fn x = true → X.env.cells.lookup x = some c → X.s₀.heap.objs.size ≤ c
  hd : X.calm = true → X.A.handled = none
  frames : X.A.frames = some X.stack
  stk : X.stack = X.outer ∨ (X.stack = X.env :: X.outer ∧ X.env.frame = some X.env.locals)
  exf : ∀ b ∈ X.ex, b ≠ X.env.locals ∧ ∀ x c, X.env.cells.lookup x = some c → c ≠ b
  bs : ∀ b o, X.base.get? b = some o → X.s₀.heap.get? b = some o ∧ X.H₀ b = none
  bsz : X.base.objs.size ≤ X.s₀.heap.objs.size
  noex : ∀ b o, X.base.get? b = some o → b ∉ X.ex
  exfs : ∀ b ∈ X.ex, b ∉ X.fs
  funs : X.s₀.heap.FunFrames X.base X.outer
  frf : ∀ b ∈ X.fs, X.H₀ b = none

structure Inv (X : Cx) (pins : List (Addr × Obj)) (σ : List (Option V)) (H : Hp) (s : Shared) : Prop where
  ok : X.Ok
  os : s.os = X.s₀.os
  bare : AllBare s.gens
  base : Un X.fs X.ex X.H₀ H X.s₀.heap s.heap
  loc : ∃ m, s.heap.Ns X.env.locals m ∧ ∀ (i : Nat) (x : Str) (v : V), X.N[i]? = some x → σ[i]? = some (some v) → Vis X.env.scope x → ∃ u, RelV v u ∧ Look X.env s.heap m x u
  cell : ∀ x c, X.env.cells.lookup x = some c → ∃ v, s.heap.IsCell c v
  free : H X.env.locals = none
  freeC : ∀ x c, X.env.cells.lookup x = some c → H c = none
  pin : ∀ p ∈ X.pn ++ pins, s.heap.get? p.1 = some p.2 ∧ H p.1 = none ∧ p.1 ≠ X.env.locals ∧ p.1 ∉ X.fs ∧ ∀ v, p.2.data ≠ .cell v
  hok : HOk X.prog X.w H s.heap
  len : σ.length = X.N.length

section
variable {X : Cx} {pins : List (Addr × Obj)} {σ : List (Option V)} {H H' : Hp} {s : Shared} {h' : Heap}

theorem Cx.Ok.nofr (ok : X.Ok) {b : Addr} {o : Obj} (e : X.base.get? b = some o) : b ∉ X.fs := fun hb => by
  have := (ok.funs.mem hb).1
  rw [e] at this; cases this
theorem Inv.bs (I : Inv X pins σ H s) : ∀ b o, X.base.get? b = some o → s.heap.get? b = some o ∧ H b = none := fun b o e =>
  ⟨I.base.keep b o (I.ok.bs b o e).1 (I.ok.bs b o e).2 (I.ok.nofr e) (I.ok.noex b o e), I.base.free b o (I.ok.bs b o e).1 (I.ok.bs b o e).2 (I.ok.noex b o e)⟩
theorem Inv.bk (I : Inv X pins σ H s) : ∀ b o, X.base.get? b = some o → s.heap.get? b = some o := fun b o e => (I.bs b o e).1
theorem Inv.mod (I : Inv X pins σ H s) : Mod X.K X.mg X.base := I.ok.mod
theorem Inv.kIn (I : Inv X pins σ H s) : X.K.In s.heap := I.ok.mod.kin.keeps I.bk
theorem Inv.lt (I : Inv X pins σ H s) : X.env.locals < s.heap.objs.size := let ⟨_, hn, _⟩ := I.loc; hn.lt
theorem Inv.sz (I : Inv X pins σ H s) : X.s₀.heap.objs.size ≤ s.heap.objs.size := Nat.le_trans I.ok.above (Nat.le_of_lt I.lt)
theorem Inv.nofs (I : Inv X pins σ H s) {a : Addr} (h : s.heap.objs.size ≤ a) : a ∉ X.fs := fun hb => by
  obtain ⟨_, o, ho, _⟩ := I.ok.funs.mem hb
  exact absurd (Nat.lt_of_lt_of_le (Heap.lt_size ho) (Nat.le_trans I.sz h)) (Nat.lt_irrefl _)
theorem Inv.cne (I : Inv X pins σ H s) : ∀ x c, X.env.cells.lookup x = some c → c ≠ X.env.locals := fun x c e z => by
  obtain ⟨v, o, ho, hd⟩ := I.cell x c e
  obtain ⟨m, ⟨o', es, ep, ho', hd', _⟩, _⟩ := I.loc
  rw [z, ho'] at ho; cases ho; rw [hd'] at hd; cases hd
theorem Inv.funs (I : Inv X pins σ H s) : s.heap.FunFrames X.base X.outer := by
  have all : ∀ (l : List Env), (∀ b ∈ frs l, b ∈ X.fs) → X.s₀.heap.FunFrames X.base l → s.heap.FunFrames X.base l := by
    intro l
    induction l with
    | nil => intro _ _; trivial
    | cons env r ih =>
      intro hs hl
      obtain ⟨hk, ⟨L, o, hf, hn, ho, hd⟩, hr⟩ := hl
      have hL : L ∈ X.fs := hs L (by unfold frs; rw [List.filterMap_cons, hf]; exact List.mem_cons_self)
      obtain ⟨sl, e⟩ := I.base.slot L o ho (I.ok.frf L hL) hL fun z => I.ok.exfs L z hL
      exact ⟨hk, ⟨L, _, hf, hn, e, hd⟩, ih (fun b hb => hs b (by unfold frs; rw [List.filterMap_cons, hf]; exact List.mem_cons_of_mem _ hb)) hr⟩
  exact all X.outer (fun _ hb => hb) I.ok.funs

/-- the frames that run, for a call -/
theorem Inv.stack (I : Inv X pins σ H s) : s.heap.FunFrames X.base X.stack := by
  rcases I.ok.stk with e | ⟨e, hf⟩
  · rw [e]; exact I.funs
  · rw [e]
    obtain ⟨m, hn, _⟩ := I.loc
    refine .cons (by rw [I.ok.kind]; decide) hf hn ?_ I.funs
    exact Heap.get?_none_of_le (Nat.le_trans I.ok.bsz I.ok.above)
theorem Inv.stkSub (I : Inv X pins σ H s) : ∀ b ∈ frs X.stack, b ∈ X.env.locals :: X.fs := fun b hb => by
  rcases I.ok.stk with e | ⟨e, hf⟩
  · rw [e] at hb; exact List.mem_cons_of_mem _ hb
  · rw [e] at hb
    unfold frs at hb
    rw [List.filterMap_cons, hf] at hb
    exact hb
theorem Inv.stkFree (I : Inv X pins σ H s) : ∀ b ∈ frs X.stack, H b = none := fun b hb => by
  rcases List.mem_cons.mp (I.stkSub b hb) with e | hb
  · rw [e]; exact I.free
  · obtain ⟨_, o, ho, _⟩ := I.ok.funs.mem hb
    exact I.base.free b o ho (I.ok.frf b hb) fun z => I.ok.exfs b z hb

/-- THE STEP: the untracked objects but the frame and the records at ch are kept (the callers' frames up to slots), the frame's map is kept, the new abstract heap is held -/
theorem Inv.step {g' : Array GenState} {t' : Nat} {d' : Drawn} {ch : List Addr} (I : Inv X pins σ H s)
    (hch : ∀ b ∈ ch, (b ∈ X.ex ∨ X.s₀.heap.objs.size ≤ b) ∧ b ≠ X.env.locals ∧ (∀ x c, X.env.cells.lookup x = some c → c ≠ b) ∧ ∀ p ∈ X.pn ++ pins, p.1 ≠ b)
    (keep : ∀ b o, b ≠ X.env.locals → b ∉ X.fs → b ∉ ch → s.heap.get? b = some o → H b = none → h'.get? b = some o)
    (slot : ∀ b o, b ≠ X.env.locals → b ∈ X.fs → b ∉ ch → s.heap.get? b = some o → H b = none → ∃ sl, h'.get? b = some { o with slots := sl }) (free : ∀ b o, b ∉ ch → s.heap.get? b = some o → H b = none → H' b = none)
    (there : ∀ b o, b ∉ ch → s.heap.get? b = some o → ∃ o', h'.get? b = some o')
    (tups : ∀ b xs, H b = some (.tup xs) → H' b = some (.tup xs)) (frzs : ∀ b o u, H b = some (.frz o u) → H' b = some (.frz o u)) (tbls : ∀ b ps, H b = some (.tbl ps) → ∃ more, H' b = some (.tbl (ps ++ more)))
    (ns : ∀ m, s.heap.Ns X.env.locals m → h'.Ns X.env.locals m) (hok : HOk X.prog X.w H' h') (hg : AllBare g') :
    Inv X pins σ H' { s with heap := h', gens := g', drawn := d', toks := t' } := by
  have neL : ∀ b o, X.s₀.heap.get? b = some o → b ≠ X.env.locals := fun b o e => Nat.ne_of_lt (Nat.lt_of_lt_of_le (Heap.lt_size e) I.ok.above)
  have neC : ∀ b o, X.s₀.heap.get? b = some o → b ∉ X.ex → b ∉ ch := fun b o e hx hb => by
    rcases (hch b hb).1 with z | z
    · exact hx z
    · exact absurd (Nat.lt_of_lt_of_le (Heap.lt_size e) z) (Nat.lt_irrefl _)
  have cellK : ∀ x c, X.env.cells.lookup x = some c → ∀ v, s.heap.IsCell c v → h'.IsCell c v := fun x c e v ⟨o, ho, hd⟩ => by
    have nch : c ∉ ch := fun z => (hch c z).2.2.1 x c e rfl
    by_cases hc : c ∈ X.fs
    · obtain ⟨sl, q⟩ := slot c o (I.cne x c e) hc nch ho (I.freeC x c e)
      exact ⟨_, q, hd⟩
    · exact ⟨o, keep c o (I.cne x c e) hc nch ho (I.freeC x c e), hd⟩
  refine ⟨I.ok, I.os, hg, ⟨fun b o e n hb hx => ?_, fun b o e n hb hx => ?_, fun b o e n hx => ?_, fun b o e hx => ?_, fun b xs e => tups b xs (I.base.tups b xs e), fun b o xs e => frzs b o xs (I.base.frzs b o xs e), fun b ps e => ?_⟩, ?_, fun x c e => ?_, ?_, fun x c e => ?_, fun p hp => ?_, hok, I.len⟩
  · exact keep b o (neL b o e) hb (neC b o e hx) (I.base.keep b o e n hb hx) (I.base.free b o e n hx)
  · obtain ⟨sl, e1⟩ := I.base.slot b o e n hb hx
    obtain ⟨sl', e2⟩ := slot b _ (neL b o e) hb (neC b o e hx) e1 (I.base.free b o e n hx)
    exact ⟨sl', e2⟩
  · obtain ⟨o', e1⟩ := I.base.there b o e hx
    exact free b o' (neC b o e hx) e1 (I.base.free b o e n hx)
  · obtain ⟨o', e1⟩ := I.base.there b o e hx
    exact there b o' (neC b o e hx) e1
  · obtain ⟨m1, e1⟩ := I.base.tbls b ps e
    obtain ⟨m2, e2⟩ := tbls b _ e1
    exact ⟨m1 ++ m2, by rw [e2, Array.append_assoc]⟩
  · obtain ⟨m, hn, hl⟩ := I.loc
    refine ⟨m, ns m hn, fun i x v e1 e2 e3 => ?_⟩
    obtain ⟨u, r, l⟩ := hl i x v e1 e2 e3
    refine ⟨u, r, ?_⟩
    rcases l with l | ⟨k, c, e, z⟩
    · exact .inl l
    · exact .inr ⟨k, c, e, cellK x c e _ z⟩
  · obtain ⟨v, z⟩ := I.cell x c e
    exact ⟨v, cellK x c e v z⟩
  · obtain ⟨m, ⟨o, _, _, ho, _⟩, _⟩ := I.loc
    exact free _ o (fun z => (hch _ z).2.1 rfl) ho I.free
  · obtain ⟨v, o, ho, hd⟩ := I.cell x c e
    exact free c o (fun z => (hch c z).2.2.1 x c e rfl) ho (I.freeC x c e)
  · obtain ⟨e, n, ne, nf, d⟩ := I.pin p hp
    have nch : p.1 ∉ ch := fun z => (hch p.1 z).2.2.2 p hp rfl
    exact ⟨keep p.1 p.2 ne nf nch e n, free p.1 p.2 nch e n, ne, nf, d⟩
/-- .. where the frame's own object is kept too -/
theorem Inv.un {t' : Nat} (I : Inv X pins σ H s) (u : Un X.fs [] H H' s.heap h') (hok : HOk X.prog X.w H' h') : Inv X pins σ H' { s with heap := h', toks := t' } := by
  obtain ⟨m, ⟨o, es, ep, ho, r⟩, _⟩ := id I.loc
  obtain ⟨sl, hL⟩ := u.any ho I.free (by simp)
  exact I.step (g' := s.gens) (d' := s.drawn) (ch := []) (fun _ z => nomatch z) (fun b o _ hb _ e n => u.keep b o e n hb (by simp)) (fun b o _ hb _ e n => u.slot b o e n hb (by simp)) (fun b o _ e n => u.free b o e n (by simp)) (fun b o _ e => u.there b o e (by simp)) u.tups u.frzs u.tbls (fun m' hm => by
    obtain ⟨o', es', ep', ho', r'⟩ := hm
    rw [ho] at ho'; cases ho'
    exact ⟨_, es', ep', hL, r'⟩) hok I.bare
/-- behind a call (or a comprehension's block): the slots of this frame may have changed too, the records at ch may have turned -/
theorem Inv.call {g' : Array GenState} {t' : Nat} {d' : Drawn} {ch : List Addr} (I : Inv X pins σ H s) (u : Un (frs X.stack) ch H H' s.heap h') (hok : HOk X.prog X.w H' h') (hg : AllBare g')
    (hch : ∀ b ∈ ch, (b ∈ X.ex ∨ X.s₀.heap.objs.size ≤ b) ∧ b ≠ X.env.locals ∧ (∀ x c, X.env.cells.lookup x = some c → c ≠ b) ∧ ∀ p ∈ X.pn ++ pins, p.1 ≠ b) :
    Inv X pins σ H' { s with heap := h', gens := g', drawn := d', toks := t' } := by
  obtain ⟨m, ⟨o, es, ep, ho, r⟩, _⟩ := id I.loc
  obtain ⟨sl, hL⟩ := u.any ho I.free fun z => (hch _ z).2.1 rfl
  exact I.step (ch := ch) hch (fun b o hL hb hc e n => u.keep b o e n (fun z => (List.mem_cons.mp (I.stkSub b z)).elim hL hb) hc) (fun b o _ _ hc e n => u.any e n hc) (fun b o hc e n => u.free b o e n hc) (fun b o hc e => u.there b o e hc) u.tups u.frzs u.tbls (fun m' hm => by
    obtain ⟨o', es', ep', ho', r'⟩ := hm
    rw [ho] at ho'; cases ho'
    exact ⟨_, es', ep', hL, r'⟩) hok hg
/-- an untracked record of ours (an iterator) has turned -/
theorem Inv.turned {t' : Nat} {it : Addr} (I : Inv X pins σ H s) (k : ∀ b o, b ≠ it → s.heap.get? b = some o → h'.get? b = some o) (hn : H it = none) (hL : it ≠ X.env.locals)
    (h1 : it ∈ X.ex ∨ X.s₀.heap.objs.size ≤ it) (h2 : ∀ x c, X.env.cells.lookup x = some c → c ≠ it) (h3 : ∀ p ∈ X.pn ++ pins, p.1 ≠ it) : Inv X pins σ H { s with heap := h', toks := t' } := by
  have nit : ∀ b u, H b = some u → b ≠ it := fun b u e z => by rw [z, hn] at e; cases e
  refine I.step (g' := s.gens) (d' := s.drawn) (ch := [it]) (fun b hb => ?_) (fun b o _ _ hc e _ => k b o (fun z => hc (by simp [z])) e) (fun b o _ _ hc e _ => ⟨o.slots, k b o (fun z => hc (by simp [z])) e⟩) (fun _ _ _ _ n => n)
    (fun b o hc e => ⟨o, k b o (fun z => hc (by simp [z])) e⟩) (fun _ _ e => e) (fun _ _ _ e => e) (fun b ps e => ⟨#[], by rw [e]; simp⟩) (fun m hm => ?_) (fun b u e => ?_) I.bare
  · have e : b = it := by simpa using hb
    subst e
    exact ⟨h1, hL, h2, h3⟩
  · obtain ⟨o, es, ep, ho, r⟩ := hm
    exact ⟨o, es, ep, k _ o (Ne.symm hL) ho, r⟩
  · refine (I.hok b u e).stay (fun c v hc q => k c v ?_ q) (fun _ q => q) fun _ _ q => q
    rcases hc with z | z
    · rw [z]; exact nit b u e
    · exact nit c _ z
theorem Inv.tok (I : Inv X pins σ H s) (t : Nat) : Inv X pins σ H { s with toks := t } := I.un (h' := s.heap) (t' := t) Un.refl I.hok
/-- all objects kept -/
theorem Inv.kept {t' : Nat} (I : Inv X pins σ H s) (k : ∀ b u, s.heap.get? b = some u → h'.get? b = some u) : Inv X pins σ H { s with heap := h', toks := t' } := I.un (Un.kept k) (I.hok.kept k)
/-- a new object laid and tracked -/
theorem Inv.laid {a : Addr} {o : HO} {t' : Nat} (I : Inv X pins σ H s) (k : ∀ b u, s.heap.get? b = some u → h'.get? b = some u) (hp : s.heap.objs.size ≤ a) (new : ObjOk X.prog X.w (upd H a o) h' a o) :
    Inv X pins σ (upd H a o) { s with heap := h', toks := t' } := I.un (Un.laid k hp (I.hok.fresh hp)) (I.hok.laid k hp new)
/-- an object written -/
theorem Inv.write {x e : Addr} {o : HO} {t' : Nat} (I : Inv X pins σ H s) (mu : Mut (H x)) (he : e = x ∨ H e = some (.own x)) (k : ∀ b u, b ≠ e → s.heap.get? b = some u → h'.get? b = some u) (heo : ∃ u, h'.get? e = some u)
    (new : ObjOk X.prog X.w (upd H x o) h' x o) : Inv X pins σ (upd H x o) { s with heap := h', toks := t' } := I.un (Un.write mu he k heo) (I.hok.write mu he k heo new)
theorem Inv.pins_of {pins' : List (Addr × Obj)} (I : Inv X pins σ H s) (h : ∀ p ∈ pins', s.heap.get? p.1 = some p.2 ∧ H p.1 = none ∧ p.1 ≠ X.env.locals ∧ p.1 ∉ X.fs ∧ ∀ v, p.2.data ≠ .cell v) : Inv X pins' σ H s :=
  ⟨I.ok, I.os, I.bare, I.base, I.loc, I.cell, I.free, I.freeC, fun p hp => (List.mem_append.mp hp).elim (fun z => I.pin p (List.mem_append_left _ z)) (h p), I.hok, I.len⟩

theorem nodup_ix {N : List Str} (hN : N.Nodup) {i j : Nat} {x : Str} (a : N[i]? = some x) (b : N[j]? = some x) : i = j := by
  obtain ⟨h1, e1⟩ := List.getElem?_eq_some_iff.mp a
  obtain ⟨h2, e2⟩ := List.getElem?_eq_some_iff.mp b
  exact (List.getElem_inj hN).mp (e1.trans e2.symm)

/-- a name is stored; what changed -/
theorem store_ok2 {M : Model} {A : Around} {E : Value → Shared → Prop} {i : Nat} {x : Str} {v : V} {u : Value} {Q : Unit → Shared → Prop} (I : Inv X pins σ H s) (hN : X.N.Nodup) (hi : X.N[i]? = some x) (hx : Loc X.env.scope x) (r : RelV v u)
    (h : ∀ s', Inv X pins (σ.set i (some v)) H s' → (∃ a, Heap.SameBut a s.heap s'.heap ∧ (a = X.env.locals ∨ X.env.cells.lookup x = some a)) → Q () s') (hf : X.fn x = true ∨ X.env.scope.names.lookup x = some .local := by first | exact .inl rfl | exact .inr rfl | assumption) : wpAny M A (storeName X.env x u) Q E s := by
  obtain ⟨m, hn, hl⟩ := id I.loc
  have hcls : (X.env.scope.kind == .class || (X.env.scope.kind == .module && X.env.locals != X.env.globals)) = false := by rw [I.ok.kind]; rfl
  have hiσ : i < σ.length := by rw [I.len]; exact (List.getElem?_eq_some_iff.mp hi).1
  have cne := I.cne
  have tracked : ∀ {a : Addr} {h' : Heap}, (∃ o, s.heap.get? a = some o ∧ H a = none) → Heap.SameBut a s.heap h' → HOk X.prog X.w H h' := fun {a h'} ha hs b ob e => by
    obtain ⟨_, _, hfree⟩ := ha
    refine (I.hok b ob e).stay (fun c w' hc q => (hs.2 c ?_).trans q) (fun _ q => q) fun _ _ q => q
    rintro rfl
    rcases hc with rfl | hc
    · rw [hfree] at e; cases e
    · rw [hfree] at hc; cases hc
  rcases hx with hk | hk
  · refine wpAny_storeName_local hk hn (fun h' hn' hs => ?_) hcls
    obtain ⟨oL, _, _, hoL, _⟩ := id hn
    refine h _ ⟨I.ok, I.os, I.bare, ⟨fun b o e n hb hx => ?_, fun b o e n hb hx => ?_, I.base.free, fun b o e hx => ?_, I.base.tups, I.base.frzs, I.base.tbls⟩, ⟨_, hn', fun j y v' e1 e2 e3 => ?_⟩, fun y c e => ?_, I.free, I.freeC, fun p hp => ?_, tracked ⟨oL, hoL, I.free⟩ hs, by simpa using I.len⟩ ⟨_, hs, .inl rfl⟩
    · exact (hs.2 b (Nat.ne_of_lt (Nat.lt_of_lt_of_le (Heap.lt_size e) I.ok.above))).trans (I.base.keep b o e n hb hx)
    · obtain ⟨sl, e1⟩ := I.base.slot b o e n hb hx
      exact ⟨sl, (hs.2 b (Nat.ne_of_lt (Nat.lt_of_lt_of_le (Heap.lt_size e) I.ok.above))).trans e1⟩
    · obtain ⟨o', e1⟩ := I.base.there b o e hx
      exact ⟨o', (hs.2 b (Nat.ne_of_lt (Nat.lt_of_lt_of_le (Heap.lt_size e) I.ok.above))).trans e1⟩
    · by_cases hj : j = i
      · subst hj
        rw [hi] at e1; cases e1
        rw [List.getElem?_set_self hiσ] at e2
        cases e2
        exact ⟨u, r, .inl ⟨hk, by simp⟩⟩
      · rw [List.getElem?_set_ne (Ne.symm hj)] at e2
        obtain ⟨u', r', q⟩ := hl j y v' e1 e2 e3
        refine ⟨u', r', ?_⟩
        rcases q with ⟨k, e⟩ | ⟨k, c, e, z⟩
        · refine .inl ⟨k, ?_⟩
          have : y ≠ x := fun e => hj (nodup_ix hN e1 (e ▸ hi))
          simp [this, e]
        · exact .inr ⟨k, c, e, z.sameBut hs (cne y c e)⟩
    · obtain ⟨w', z⟩ := I.cell y c e
      exact ⟨w', z.sameBut hs (cne y c e)⟩
    · obtain ⟨e, n, ne, nf, d⟩ := I.pin p hp
      exact ⟨(hs.2 p.1 ne).trans e, n, ne, nf, d⟩
  · have hfn : X.fn x = true := by
      rcases hf with z | z
      · exact z
      · rw [z] at hk; cases hk
    obtain ⟨c, hc⟩ := I.ok.has x (.inl hk)
    obtain ⟨w', z⟩ := I.cell x c hc
    refine wpAny_storeName_cell I.ok.kind hk hc z (fun h' hc' hs => ?_)
    obtain ⟨oc, hoc, hocd⟩ := id z
    refine h { s with heap := h' } ⟨I.ok, I.os, I.bare, ⟨fun b o e n hb hx => ?_, fun b o e n hb hx => ?_, I.base.free, fun b o e hx => ?_, I.base.tups, I.base.frzs, I.base.tbls⟩, ⟨m, hn.sameBut hs (Ne.symm (cne x c hc)), fun j y v' e1 e2 e3 => ?_⟩, fun y c' e => ?_, I.free, I.freeC, fun p hp => ?_, tracked ⟨oc, hoc, I.freeC x c hc⟩ hs, by simpa using I.len⟩ ⟨c, hs, .inr hc⟩
    · exact (hs.2 b (Nat.ne_of_lt (Nat.lt_of_lt_of_le (Heap.lt_size e) (I.ok.cab x c hfn hc)))).trans (I.base.keep b o e n hb hx)
    · obtain ⟨sl, e1⟩ := I.base.slot b o e n hb hx
      exact ⟨sl, (hs.2 b (Nat.ne_of_lt (Nat.lt_of_lt_of_le (Heap.lt_size e) (I.ok.cab x c hfn hc)))).trans e1⟩
    · obtain ⟨o', e1⟩ := I.base.there b o e hx
      exact ⟨o', (hs.2 b (Nat.ne_of_lt (Nat.lt_of_lt_of_le (Heap.lt_size e) (I.ok.cab x c hfn hc)))).trans e1⟩
    · by_cases hj : j = i
      · subst hj
        rw [hi] at e1; cases e1
        rw [List.getElem?_set_self hiσ] at e2
        cases e2
        exact ⟨u, r, .inr ⟨.inl hk, c, hc, hc'⟩⟩
      · rw [List.getElem?_set_ne (Ne.symm hj)] at e2
        obtain ⟨u', r', q⟩ := hl j y v' e1 e2 e3
        refine ⟨u', r', ?_⟩
        rcases q with q | ⟨k, c', e, z'⟩
        · exact .inl q
        · refine .inr ⟨k, c', e, z'.sameBut hs ?_⟩
          rintro rfl
          exact hj (nodup_ix hN e1 (I.ok.inj _ _ _ e hc ▸ hi))
    · by_cases hcc : c' = c
      · subst hcc; exact ⟨_, hc'⟩
      · obtain ⟨w2, z2⟩ := I.cell y c' e
        exact ⟨w2, z2.sameBut hs hcc⟩
    · obtain ⟨e, n, ne, nf, d⟩ := I.pin p hp
      refine ⟨(hs.2 p.1 ?_).trans e, n, ne, nf, d⟩
      intro q
      rw [q, hoc] at e
      have q' : oc = p.2 := Option.some.inj e
      exact d w' (by rw [← q']; exact hocd)
theorem store_ok {M : Model} {A : Around} {E : Value → Shared → Prop} {i : Nat} {x : Str} {v : V} {u : Value} {Q : Unit → Shared → Prop} (I : Inv X pins σ H s) (hN : X.N.Nodup) (hi : X.N[i]? = some x) (hx : Loc X.env.scope x) (r : RelV v u)
    (h : ∀ s', Inv X pins (σ.set i (some v)) H s' → Q () s') (hf : X.fn x = true ∨ X.env.scope.names.lookup x = some .local := by first | exact .inl rfl | exact .inr rfl | assumption) : wpAny M A (storeName X.env x u) Q E s :=
  store_ok2 I hN hi hx r (fun s' I' _ => h s' I') hf
/-- behind a call or a block, the state as it is -/
theorem Inv.call' {s' : Shared} {ch : List Addr} (I : Inv X pins σ H s) (ho : s'.os = s.os) (u : Un (frs X.stack) ch H H' s.heap s'.heap) (hok : HOk X.prog X.w H' s'.heap) (hg : AllBare s'.gens)
    (hch : ∀ b ∈ ch, (b ∈ X.ex ∨ X.s₀.heap.objs.size ≤ b) ∧ b ≠ X.env.locals ∧ (∀ x c, X.env.cells.lookup x = some c → c ≠ b) ∧ ∀ p ∈ X.pn ++ pins, p.1 ≠ b) : Inv X pins σ H' s' := by
  obtain ⟨h', g', d', t', o'⟩ := s'
  have e : o' = s.os := ho
  subst e
  exact I.call (g' := g') (t' := t') (d' := d') u hok hg hch
end

/-! ### the judgements -/
/-- an exception: its class, its own dict's address (where it has one), the abstract heap behind it -/
abbrev XK := Value → Option Addr → Hp → Prop
abbrev St := List (Option V)
abbrev VK := V → Hp → Prop
/-- an expression's reading; a test's; an argument list's -/
abbrev TE := St → Hp → VK → Prop
abbrev TT := St → Hp → (Bool → Hp → Prop) → Prop
abbrev TA := St → Hp → (List V → Hp → Prop) → Prop
/-- what is wanted behind a statement -/
structure Ends where
  nx : St → Hp → Prop
  rt : VK
  bk : St → Hp → Prop := fun _ _ => False
  ct : St → Hp → Prop := fun _ _ => False
abbrev TS := Ends → St → Hp → Prop

def EP (X : Cx) (pins : List (Addr × Obj)) (σ : St) (Q : VK) (u : Value) (s' : Shared) : Prop := ∃ v H', Inv X pins σ H' s' ∧ RelV v u ∧ Q v H'
def TP (X : Cx) (pins : List (Addr × Obj)) (σ : St) (Q : Bool → Hp → Prop) (b : Bool) (s' : Shared) : Prop := ∃ H', Inv X pins σ H' s' ∧ Q b H'
def AP (X : Cx) (pins : List (Addr × Obj)) (σ : St) (Q : List V → Hp → Prop) (us : List Value) (s' : Shared) : Prop := ∃ vs H', Inv X pins σ H' s' ∧ Vals vs us ∧ Q vs H'
def SP (X : Cx) (pins : List (Addr × Obj)) (D : Ends) (f : Flow) (s' : Shared) : Prop :=
  match f with
  | .next => ∃ σ' H', Inv X pins σ' H' s' ∧ D.nx σ' H'
  | .brk => ∃ σ' H', Inv X pins σ' H' s' ∧ D.bk σ' H'
  | .cont => ∃ σ' H', Inv X pins σ' H' s' ∧ D.ct σ' H'
  | .ret u => ∃ v σ' H', Inv X pins σ' H' s' ∧ RelV v u ∧ D.rt v H'

structure PE (X : Cx) (e : Expr) (t : TE) : Prop where
  go : ∀ (pins : List (Addr × Obj)) (s : Shared) (σ : St) (H : Hp) (Q : VK), Inv X pins σ H s → t σ H Q → wpAny (model X.prog X.w) X.A (eval e X.env) (EP X pins σ Q) X.xe s
instance {X : Cx} {e : Expr} {t : TE} : CoeFun (PE X e t) (fun _ => ∀ (pins : List (Addr × Obj)) (s : Shared) (σ : St) (H : Hp) (Q : VK), Inv X pins σ H s → t σ H Q → wpAny (model X.prog X.w) X.A (eval e X.env) (EP X pins σ Q) X.xe s) := ⟨PE.go⟩
structure PT (X : Cx) (e : Expr) (t : TT) : Prop where
  go : ∀ (pins : List (Addr × Obj)) (s : Shared) (σ : St) (H : Hp) (Q : Bool → Hp → Prop), Inv X pins σ H s → t σ H Q → wpAny (model X.prog X.w) X.A (isTrue e X.env (eval e X.env)) (TP X pins σ Q) X.xe s
instance {X : Cx} {e : Expr} {t : TT} : CoeFun (PT X e t) (fun _ => ∀ (pins : List (Addr × Obj)) (s : Shared) (σ : St) (H : Hp) (Q : Bool → Hp → Prop), Inv X pins σ H s → t σ H Q → wpAny (model X.prog X.w) X.A (isTrue e X.env (eval e X.env)) (TP X pins σ Q) X.xe s) := ⟨PT.go⟩
/-- a test whatever its 'whole' is (and, or) -/
structure PW (X : Cx) (e : Expr) (t : TT) : Prop where
  go : ∀ (whole : Sem Value) (pins : List (Addr × Obj)) (s : Shared) (σ : St) (H : Hp) (Q : Bool → Hp → Prop), Inv X pins σ H s → t σ H Q → wpAny (model X.prog X.w) X.A (isTrue e X.env whole) (TP X pins σ Q) X.xe s
instance {X : Cx} {e : Expr} {t : TT} : CoeFun (PW X e t) (fun _ => ∀ (whole : Sem Value) (pins : List (Addr × Obj)) (s : Shared) (σ : St) (H : Hp) (Q : Bool → Hp → Prop), Inv X pins σ H s → t σ H Q → wpAny (model X.prog X.w) X.A (isTrue e X.env whole) (TP X pins σ Q) X.xe s) := ⟨PW.go⟩
theorem PW.pt {X : Cx} {e : Expr} {t : TT} (h : PW X e t) : PT X e t := .mk (h _)
/-- an argument list (no star), from the left -/
structure PA (X : Cx) (es : List Expr) (t : TA) : Prop where
  go : ∀ (pos : Pos) (pins : List (Addr × Obj)) (s : Shared) (σ : St) (H : Hp) (Q : List V → Hp → Prop), Inv X pins σ H s → t σ H Q → wpAny (model X.prog X.w) X.A (spliced (backTo pos (starEach es X.env))) (AP X pins σ Q) X.xe s
instance {X : Cx} {es : List Expr} {t : TA} : CoeFun (PA X es t) (fun _ => ∀ (pos : Pos) (pins : List (Addr × Obj)) (s : Shared) (σ : St) (H : Hp) (Q : List V → Hp → Prop), Inv X pins σ H s → t σ H Q → wpAny (model X.prog X.w) X.A (spliced (backTo pos (starEach es X.env))) (AP X pins σ Q) X.xe s) := ⟨PA.go⟩
structure PS (X : Cx) (st : Stmt) (t : TS) : Prop where
  go : ∀ (pins : List (Addr × Obj)) (s : Shared) (σ : St) (H : Hp) (D : Ends), Inv X pins σ H s → t D σ H → wpAny (model X.prog X.w) X.A (exec st X.env) (SP X pins D) X.xe s
instance {X : Cx} {st : Stmt} {t : TS} : CoeFun (PS X st t) (fun _ => ∀ (pins : List (Addr × Obj)) (s : Shared) (σ : St) (H : Hp) (D : Ends), Inv X pins σ H s → t D σ H → wpAny (model X.prog X.w) X.A (exec st X.env) (SP X pins D) X.xe s) := ⟨PS.go⟩
structure PSs (X : Cx) (st : List Stmt) (t : TS) : Prop where
  go : ∀ (pins : List (Addr × Obj)) (s : Shared) (σ : St) (H : Hp) (D : Ends), Inv X pins σ H s → t D σ H → wpAny (model X.prog X.w) X.A (execs st X.env) (SP X pins D) X.xe s
instance {X : Cx} {st : List Stmt} {t : TS} : CoeFun (PSs X st t) (fun _ => ∀ (pins : List (Addr × Obj)) (s : Shared) (σ : St) (H : Hp) (D : Ends), Inv X pins σ H s → t D σ H → wpAny (model X.prog X.w) X.A (execs st X.env) (SP X pins D) X.xe s) := ⟨PSs.go⟩
/-- weaken the end -/
theorem thn {α : Type} {t : Sem α} {Q Q' : α → Shared → Prop} {M : Model} {A : Around} {E : Value → Shared → Prop} {s : Shared} (h : wpAny M A t Q E s) (hQ : ∀ a s, Q a s → Q' a s) : wpAny M A t Q' E s := wpAny_mono h hQ fun _ _ x => x
end L2

namespace L2
open PySem PySem.Spec PyProof.Rows
section
variable {X : Cx}


/-! ### names and constants -/
inductive tVar (i : Nat) (σ : St) (H : Hp) (Q : VK) : Prop
  | mk (v : V) (e : σ[i]? = some (some v)) (q : Q v H) : tVar i σ H Q
abbrev tC (v : V) : TE := fun _ H Q => Q v H
theorem pe_var {i : Nat} {x : Str} {pos : Pos} (hN : X.N[i]? = some x) (hv : Vis X.env.scope x) (hd : (x == ("__debug__" : Str)) = false := by decide) (hcd : (x == ("__classdict__" : Str)) = false := by decide) : PE X (.Name x pos) (tVar i) := by
  refine ⟨?_⟩
  intro pins s σ H Q I h
  obtain ⟨v, e, h⟩ := h
  obtain ⟨m, hn, hl⟩ := I.loc
  obtain ⟨u, r, l⟩ := hl i x v hN e hv
  have fin : EP X pins σ Q u s := ⟨v, H, I, r, h⟩
  rcases l with ⟨hk, hm⟩ | ⟨hk, c, hc, hcell⟩
  · exact wpAny_Name (wpAny_loadName_local I.ok.kind hk hn hm fin) hd
  · rcases hk with hk | hk
    · exact wpAny_Name (wpAny_loadName_cell I.ok.kind hk hc hcell fin) hd
    · exact wpAny_Name (wpAny_loadName_free I.ok.kind hk hc hcell fin hcd) hd
theorem pe_int {i j pos} : PE X (.Constant (.int i) j pos) (tC (.int i)) := .mk fun _ _ _ H _ I h => wpAny_Constant_int ⟨.int i, H, I.tok _, ⟨_, rfl⟩, h⟩
theorem pe_bl {b j pos} : PE X (.Constant (.bool b) j pos) (tC (.bl b)) := .mk fun _ _ _ H _ I h => Constant_bool ⟨.bl b, H, I, rfl, h⟩
theorem pe_non {j pos} : PE X (.Constant .none j pos) (tC .non) := .mk fun _ _ _ H _ I h => Constant_none ⟨.non, H, I, rfl, h⟩
theorem pe_str {x j pos} : PE X (.Constant (.str x) j pos) (tC (.str x)) := .mk fun _ _ _ H _ I h => Calls.Constant_str ⟨.str x, H, I.tok _, ⟨_, rfl⟩, h⟩

/-- a global name of the def -/
def Gl (X : Cx) (x : Str) : Prop := X.env.kindOf x = some .globalImplicit
theorem ld_glob {E : Value → Shared → Prop} {pins : List (Addr × Obj)} {s : Shared} {σ : St} {H : Hp} {x : Str} {u : Value} {pos : Pos} {Q : Value → Shared → Prop} (I : Inv X pins σ H s) (hg : Gl X x) (hm : X.mg x = some u) (h : Q u s)
    (hd : (x == ("__debug__" : Str)) = false := by decide) : wpAny (model X.prog X.w) X.A (eval (.Name x pos) X.env) Q E s :=
  Calls.Name_function_global I.ok.kind hg (Calls.loadGlobal_global (by rw [I.ok.glob]; exact I.mod.glob.keeps I.bk) hm h) hd
theorem ld_blt {E : Value → Shared → Prop} {pins : List (Addr × Obj)} {s : Shared} {σ : St} {H : Hp} {x : Str} {u : Value} {pos : Pos} {Q : Value → Shared → Prop} (I : Inv X pins σ H s) (hg : Gl X x) (hm : X.mg x = none) (hv : bootBuiltins x = some u) (h : Q u s)
    (hn : x ≠ "__name__" := by decide) (hd : (x == ("__debug__" : Str)) = false := by decide) : wpAny (model X.prog X.w) X.A (eval (.Name x pos) X.env) Q E s := by
  obtain ⟨mb, h1, h2⟩ := I.mod.blt
  exact Calls.Name_function_global I.ok.kind hg (Calls.loadGlobal_builtin (by rw [I.ok.glob]; exact I.mod.glob.keeps I.bk) hm (by rw [I.ok.blt]; exact h1.keeps I.bk) ((h2 x hn).trans hv) h) hd
/-- a module's constant, a class, a function, as a value -/
theorem pe_glob {x : Str} {v : V} {u : Value} {pos : Pos} (hg : Gl X x) (hm : X.mg x = some u) (r : RelV v u) (hd : (x == ("__debug__" : Str)) = false := by decide) : PE X (.Name x pos) (tC v) := .mk
  fun _ _ _ H _ I h => ld_glob I hg hm ⟨v, H, I, r, h⟩ hd
theorem pe_bltn {x : Str} {v : V} {u : Value} {pos : Pos} (hg : Gl X x) (hm : X.mg x = none) (hv : bootBuiltins x = some u) (r : RelV v u) (hn : x ≠ "__name__" := by decide) (hd : (x == ("__debug__" : Str)) = false := by decide) : PE X (.Name x pos) (tC v) := .mk
  fun _ _ _ H _ I h => ld_blt I hg hm hv ⟨v, H, I, r, h⟩ hn hd

/-! ### arithmetic -/
variable {a b : Expr} {ta tb : TE} {pos : Pos}

/-! ### comparisons -/
def PC (X : Cx) (op : CmpOp) (a b : Expr) (t : TE) : Prop :=
  ∀ (pins : List (Addr × Obj)) (s : Shared) (σ : St) (H : Hp) (Q : VK), Inv X pins σ H s → t σ H Q →
    wpAny (model X.prog X.w) X.A (eval a X.env) (fun v s₁ => wpAny (model X.prog X.w) X.A (eval b X.env) (fun u s₂ => wpAny (model X.prog X.w) X.A (compareOp op v u) (EP X pins σ Q) X.xe s₂) X.xe s₁) X.xe s
/-- a comparison as a value, as a test -/
inductive tBx (x : V) (H1 : Hp) (Q : Bool → Hp → Prop) : Prop
  | mk (c : Bool) (e : x = .bl c) (q : Q c H1) : tBx x H1 Q
def tB (t : TE) : TT := fun σ H Q => t σ H fun x H1 => tBx x H1 Q
theorem pe_cmp {op : CmpOp} {t : TE} (h : PC X op a b t) (h1 : behindInMarks op b = false := by first | exact nobehind _ (by decide) (by decide) | rfl) : PE X (.Compare a [op] [b] pos) t := .mk fun pins s σ H Q I hw => wpAny_Compare1 (h pins s σ H Q I hw) h1
/-- an expression whose value is a bool, as a test -/
theorem pt_val {e : Expr} {t : TE} (h : PE X e t) (he : ∀ whole, isTrue e X.env whole = (do let v ← whole; standAt e.pos; holding [v] (truthy v)) := by intro _; rfl) : PT X e (tB t) := by
  refine ⟨?_⟩
  intro pins s σ H Q I hw
  refine isTrue_plain (thn (h pins s σ H _ I hw) fun v s1 ⟨x, H1, I1, r1, q1⟩ => ?_) (he _)
  obtain ⟨d, rfl, q⟩ := q1
  cases r1
  exact wpAny_truthy_bool ⟨H1, I1, q⟩

/-! ### and, or, not -/
variable {tA tB' : TT} {rest : List Expr}
def tAnd (t u : TT) : TT := fun σ H Q => t σ H fun c H1 => if c = true then u σ H1 Q else Q false H1
def tOr (t u : TT) : TT := fun σ H Q => t σ H fun c H1 => if c = true then Q true H1 else u σ H1 Q
def tNot (t : TT) : TT := fun σ H Q => t σ H fun c H1 => Q (!c) H1
theorem pw_and1 (ha : PT X a tA) : PW X (.BoolOp .And [a] pos) tA := by
  refine ⟨?_⟩
  intro wh pins s σ H Q I h
  refine isTrue_and (thn (ha pins s σ H Q I h) fun c s1 e => ?_)
  cases c with
  | true => exact isTrue_and_nil e
  | false => exact e
theorem pw_or1 (ha : PT X a tA) : PW X (.BoolOp .Or [a] pos) tA := by
  refine ⟨?_⟩
  intro wh pins s σ H Q I h
  refine isTrue_or (thn (ha pins s σ H Q I h) fun c s1 e => ?_)
  cases c with
  | false => exact isTrue_or_nil e
  | true => exact e
theorem pw_and (ha : PT X a tA) (hb : PW X (.BoolOp .And (b :: rest) pos) tB') : PW X (.BoolOp .And (a :: b :: rest) pos) (tAnd tA tB') := by
  refine ⟨?_⟩
  intro wh pins s σ H Q I h
  refine isTrue_and (thn (ha pins s σ H _ I h) fun c s1 ⟨H1, I1, q1⟩ => ?_)
  cases c with
  | true => exact hb wh pins s1 σ H1 Q I1 q1
  | false => exact ⟨H1, I1, q1⟩
theorem pw_or (ha : PT X a tA) (hb : PW X (.BoolOp .Or (b :: rest) pos) tB') : PW X (.BoolOp .Or (a :: b :: rest) pos) (tOr tA tB') := by
  refine ⟨?_⟩
  intro wh pins s σ H Q I h
  refine isTrue_or (thn (ha pins s σ H _ I h) fun c s1 ⟨H1, I1, q1⟩ => ?_)
  cases c with
  | true => exact ⟨H1, I1, q1⟩
  | false => exact hb wh pins s1 σ H1 Q I1 q1
theorem pt_not (ha : PT X a tA) : PT X (.UnaryOp .Not a pos) (tNot tA) := by
  refine ⟨?_⟩
  intro pins s σ H Q I h
  exact isTrue_not (ha pins s σ H (fun c H1 => Q (!c) H1) I h)
/-- .. as values (bools) -/
inductive tAndX (tb : TE) (σ : St) (x : V) (H1 : Hp) (Q : VK) : Prop
  | mk (c : Bool) (e : x = .bl c) (q : if c = true then tb σ H1 Q else Q (.bl false) H1) : tAndX tb σ x H1 Q
def tAndV (ta tb : TE) : TE := fun σ H Q => ta σ H fun x H1 => tAndX tb σ x H1 Q
def tNotV (ta : TE) : TE := fun σ H Q => ta σ H fun x H1 => ∃ c, x = .bl c ∧ Q (.bl (!c)) H1
theorem pe_one {op} {t : TE} (h : PE X a t) : PE X (.BoolOp op [a] pos) t := .mk fun pins s σ H Q I hw => BoolOp_one (h pins s σ H Q I hw)
theorem pe_and (ha : PE X a ta) (hb : PE X (.BoolOp .And (b :: rest) pos) tb) : PE X (.BoolOp .And (a :: b :: rest) pos) (tAndV ta tb) := by
  refine ⟨?_⟩
  intro pins s σ H Q I h
  refine BoolOp_and (thn (ha pins s σ H _ I h) fun v s1 ⟨x, H1, I1, r1, q1⟩ => ?_)
  obtain ⟨c, rfl, q1⟩ := q1
  cases r1
  refine wpAny_truthy_bool ?_
  cases c with
  | true => exact hb pins s1 σ H1 Q I1 q1
  | false => exact ⟨.bl false, H1, I1, rfl, q1⟩
theorem pe_not (ha : PE X a ta) : PE X (.UnaryOp .Not a pos) (tNotV ta) := by
  refine ⟨?_⟩
  intro pins s σ H Q I h
  refine UnaryOp_ (thn (ha pins s σ H _ I h) fun v s1 ⟨x, H1, I1, r1, q1⟩ => ?_)
  obtain ⟨c, rfl, q1⟩ := q1
  cases r1
  exact not_of (wpAny_truthy_bool ⟨.bl (!c), H1, I1, rfl, q1⟩)
end
end L2

namespace L2
open PySem PySem.Spec PyProof.Rows

/-! ### a list, a tuple that is read: tracked, frozen, or an object of the module -/
def SqL (K : PySem.W.Frag) (H : Hp) (a : Addr) (xs : List V) : Prop :=
  Rd H a (.lst xs) ∨
    ∃ (o : Obj) (its : Array Value) (n : Nat), K.lookup a = some o ∧ o.cls = .type "list" ∧ o.dict = none ∧ o.data = .seq its n ∧ its.size ≤ sizeLine ∧ Vals xs its.toList
def SqT (K : PySem.W.Frag) (H : Hp) (a : Addr) (xs : List V) : Prop :=
  Rd H a (.tup xs) ∨
    ∃ (o : Obj) (its : Array Value) (n : Nat), K.lookup a = some o ∧ o.cls = .type "tuple" ∧ o.data = .seq its n ∧ its.size ≤ sizeLine ∧ Vals xs its.toList
def absV : Value → Option V
  | .none => some .non
  | .bool b => some (.bl b)
  | .int i _ => some (.int i)
  | .str x _ => some (.str x)
  | .bytes b _ => some (.byt b)
  | .float b _ => some (.flt b)
  | .ref a => some (.ref a)
  | .type n => some (.ty n)
  | _ => none
theorem RelV.abs {x : V} {u : Value} (r : RelV x u) : absV u = some x := by
  cases x with
  | non => cases r; rfl
  | bl _ => cases r; rfl
  | int _ => obtain ⟨t, rfl⟩ := r; rfl
  | str _ => obtain ⟨t, rfl⟩ := r; rfl
  | byt _ => obtain ⟨t, rfl⟩ := r; rfl
  | flt _ => obtain ⟨t, rfl⟩ := r; rfl
  | ref _ => cases r; rfl
  | ty _ => cases r; rfl
theorem RelV.inj {x y : V} {u : Value} (r : RelV x u) (q : RelV y u) : x = y := Option.some.inj (r.abs.symm.trans q.abs)
theorem Vals.inj : ∀ {xs ys : List V} {us : List Value}, Vals xs us → Vals ys us → xs = ys
  | _, _, _, .nil, .nil => rfl
  | _, _, _, .cons r t, .cons r' t' => by rw [r.inj r', Vals.inj t t']
section
variable {X : Cx} {pins : List (Addr × Obj)} {σ : St} {H : Hp} {s : Shared} {a : Addr} {xs ys : List V}
theorem SqL.of {K : PySem.W.Frag} (h : H a = some (.lst xs)) : SqL K H a xs := .inl (.inl h)
theorem SqT.of {K : PySem.W.Frag} (h : H a = some (.tup xs)) : SqT K H a xs := .inl (.inl h)
theorem Inv.list (I : Inv X pins σ H s) (h : SqL X.K H a xs) : ∃ its : List Value, Vals xs its ∧ PlainL s.heap a its.toArray ∧ xs.length ≤ sizeLine := by
  rcases h with h | ⟨o, its, n, hk, hc, hd, hs, hz, r⟩
  · obtain ⟨z, its, n, r, e⟩ := h.ok I.hok
    exact ⟨its, r, ⟨_, n, e, rfl, rfl, rfl⟩, z⟩
  · refine ⟨its.toList, r, ⟨o, n, I.kIn a o hk, hc, hd, by simpa using hs⟩, ?_⟩
    have e := r.length
    simp only [Array.length_toList] at e
    omega
theorem Inv.tuple (I : Inv X pins σ H s) (h : SqT X.K H a xs) : ∃ its : List Value, Vals xs its ∧ IsTup s.heap a its.toArray ∧ xs.length ≤ sizeLine := by
  rcases h with h | ⟨o, its, n, hk, hc, hs, hz, r⟩
  · obtain ⟨z, its, r, p⟩ := h.ok I.hok
    exact ⟨its, r, p, z⟩
  · refine ⟨its.toList, r, ⟨o, I.kIn a o hk, hc, n, by simpa using hs⟩, ?_⟩
    have e := r.length
    simp only [Array.length_toList] at e
    omega
theorem Inv.list_inj (I : Inv X pins σ H s) (h : SqL X.K H a xs) (h' : SqL X.K H a ys) : xs = ys := by
  obtain ⟨its, r, ⟨o, n, e, _, _, d⟩, _⟩ := I.list h
  obtain ⟨its', r', ⟨o', n', e', _, _, d'⟩, _⟩ := I.list h'
  rw [e] at e'; cases e'
  rw [d] at d'
  injection d' with d1 _
  have : its = its' := by simpa using congrArg Array.toList d1
  subst this
  exact r.inj r'
theorem Inv.tuple_inj (I : Inv X pins σ H s) (h : SqT X.K H a xs) (h' : SqT X.K H a ys) : xs = ys := by
  obtain ⟨its, r, ⟨o, e, _, n, d⟩, _⟩ := I.tuple h
  obtain ⟨its', r', ⟨o', e', _, n', d'⟩, _⟩ := I.tuple h'
  rw [e] at e'; cases e'
  rw [d] at d'
  injection d' with d1 _
  have : its = its' := by simpa using congrArg Array.toList d1
  subst this
  exact r.inj r'
end

/-! ### another wish about exceptions -/
abbrev Cx.wish (X : Cx) (E : Value → Shared → Prop) : Cx := { X with xe := E }
/-- no exception leaves -/
abbrev Cx.nox (X : Cx) : Cx := X.wish fun _ _ => False
theorem Cx.Ok.wish {X : Cx} (ok : X.Ok) (E : Value → Shared → Prop) : (X.wish E).Ok :=
  ⟨ok.mod, ok.kind, ok.glob, ok.blt, ok.above, ok.inj, ok.has, ok.cab, ok.hd, ok.frames, ok.stk, ok.exf, ok.bs, ok.bsz, ok.noex, ok.exfs, ok.funs, ok.frf⟩
theorem Cx.Ok.unwish {X : Cx} {E : Value → Shared → Prop} (ok : (X.wish E).Ok) : X.Ok :=
  ⟨ok.mod, ok.kind, ok.glob, ok.blt, ok.above, ok.inj, ok.has, ok.cab, ok.hd, ok.frames, ok.stk, ok.exf, ok.bs, ok.bsz, ok.noex, ok.exfs, ok.funs, ok.frf⟩
section
variable {X : Cx} {pins : List (Addr × Obj)} {σ : St} {H : Hp} {s : Shared} {E : Value → Shared → Prop}
theorem Inv.wish (I : Inv X pins σ H s) (E : Value → Shared → Prop) : Inv (X.wish E) pins σ H s := ⟨I.ok.wish E, I.os, I.bare, I.base, I.loc, I.cell, I.free, I.freeC, I.pin, I.hok, I.len⟩
theorem Inv.unwish (I : Inv (X.wish E) pins σ H s) : Inv X pins σ H s := ⟨I.ok.unwish, I.os, I.bare, I.base, I.loc, I.cell, I.free, I.freeC, I.pin, I.hok, I.len⟩
theorem SP.unwish {D : Ends} {f : Flow} {s' : Shared} (h : SP (X.wish E) pins D f s') : SP X pins D f s' := by
  cases f with
  | next => obtain ⟨σ', H', I, q⟩ := h; exact ⟨σ', H', I.unwish, q⟩
  | brk => obtain ⟨σ', H', I, q⟩ := h; exact ⟨σ', H', I.unwish, q⟩
  | cont => obtain ⟨σ', H', I, q⟩ := h; exact ⟨σ', H', I.unwish, q⟩
  | ret u => obtain ⟨v, σ', H', I, r, q⟩ := h; exact ⟨v, σ', H', I.unwish, r, q⟩
theorem PSs.nox {st : List Stmt} {t : TS} (h : PSs X.nox st t) : PSs X st t := .mk fun pins s σ H D I hw =>
  wpAny_mono (h pins s σ H D (I.wish _) hw) (fun _ _ q => q.unwish) fun _ _ z => False.elim z
end

/-! ### blocks and small statements -/
section
variable {X : Cx} {st : Stmt} {rest : List Stmt} {t u : TS} {e : Expr} {te : TE} {pos : Pos}
def tNext : TS := fun D σ H => D.nx σ H
def tSeq (t u : TS) : TS := fun D σ H => t { D with nx := u D } σ H
theorem pss_nil : PSs X [] tNext := .mk fun _ _ σ H _ I h => wpAny_execs_nil ⟨σ, H, I, h⟩
theorem pss_cons (h1 : PS X st t) (h2 : PSs X rest u) : PSs X (st :: rest) (tSeq t u) := by
  refine ⟨?_⟩
  intro pins s σ H D I h
  refine wpAny_execs_cons (thn (h1 pins s σ H { D with nx := u D } I h) fun f s1 q => ?_)
  cases f with
  | next =>
    obtain ⟨σ', H', I', q⟩ := q
    exact h2 pins s1 σ' H' D I' q
  | ret v => exact q
  | brk => exact q
  | cont => exact q
theorem pss_one (h1 : PS X st t) : PSs X [st] t := by
  refine ⟨?_⟩
  intro pins s σ H D I h
  refine wpAny_execs_cons (thn (h1 pins s σ H D I h) fun f s1 q => ?_)
  cases f with
  | next => exact wpAny_execs_nil q
  | ret v => exact q
  | brk => exact q
  | cont => exact q
/-- in a def's body nothing is shown -/
theorem Inv.quiet {pins : List (Addr × Obj)} {σ : St} {H : Hp} {s : Shared} (I : Inv X pins σ H s) : interactive X.env = false := by simp [interactive, I.ok.kind]
/-- an expression whose value is dropped -/
def tDrop (te : TE) : TS := fun D σ H => te σ H fun _ H1 => D.nx σ H1
theorem ps_expr (he : PE X e te) (hs : swapsWith e none pos.line X.env = pure false := by rfl) : PS X (.Expr e pos) (tDrop te) := by
  refine ⟨?_⟩
  intro pins s σ H D I h
  exact wpAny_Expr_any (thn (he pins s σ H _ I h) fun v s1 ⟨x, H1, I1, r1, q1⟩ => ⟨σ, H1, I1, q1⟩) I.quiet hs
def tRet (te : TE) : TS := fun D σ H => te σ H D.rt
theorem ps_ret (he : PE X e te) : PS X (.Return (some e) pos) (tRet te) := by
  refine ⟨?_⟩
  intro pins s σ H D I h
  exact wpAny_Return_some (thn (he pins s σ H _ I h) fun v s1 ⟨x, H1, I1, r1, q1⟩ => ⟨x, σ, H1, I1, r1, q1⟩)
def tIfS (c : TT) (t u : TS) : TS := fun D σ H => c σ H fun b H1 => if b = true then t D σ H1 else u D σ H1
theorem ps_if {c : Expr} {a b : List Stmt} {tc : TT} (hc : PT X c tc) (ha : PSs X a t) (hb : PSs X b u) : PS X (.If c a b pos) (tIfS tc t u) := by
  refine ⟨?_⟩
  intro pins s σ H D I h
  refine wpAny_If (thn (hc pins s σ H _ I h) fun d s1 ⟨H1, I1, q1⟩ => ?_)
  cases d with
  | true => exact ha pins s1 σ H1 D I1 q1
  | false => exact hb pins s1 σ H1 D I1 q1
/-- code that the proof never comes to -/
def tNever : TS := fun _ _ _ => False
theorem pss_never {sts : List Stmt} : PSs X sts tNever := .mk fun _ _ _ _ _ _ h => h.elim
end

/-! ### targets -/
abbrev TG := V → St → Hp → (St → Hp → Prop) → Prop
abbrev TGs := List V → St → Hp → (St → Hp → Prop) → Prop
def PG (X : Cx) (target : Expr) (t : TG) : Prop :=
  ∀ (pins : List (Addr × Obj)) (s : Shared) (σ : St) (H : Hp) (v : V) (u : Value) (Q : St → Hp → Prop), Inv X pins σ H s → RelV v u → t v σ H Q →
    wpAny (model X.prog X.w) X.A (assign target X.env u) (fun _ s' => ∃ σ' H', Inv X pins σ' H' s' ∧ Q σ' H') X.xe s
/-- several targets, one after another -/
def PGs (X : Cx) (ts : List Expr) (t : TGs) : Prop :=
  ∀ (pins : List (Addr × Obj)) (s : Shared) (σ : St) (H : Hp) (vs : List V) (us : List Value) (Q : St → Hp → Prop), Inv X pins σ H s → Vals vs us → t vs σ H Q →
    wpAny (model X.prog X.w) X.A (assignInOrder ((assignEach ts X.env).map (·.2)) us) (fun _ s' => ∃ σ' H', Inv X pins σ' H' s' ∧ Q σ' H') X.xe s
/-- o[i] = v, by values -/
abbrev TSet := V → V → V → Hp → (Hp → Prop) → Prop
def PSet (X : Cx) (t : TSet) : Prop :=
  ∀ (pins : List (Addr × Obj)) (s : Shared) (σ : St) (H : Hp) (o i v : V) (ov iv u : Value) (Q : Hp → Prop), Inv X pins σ H s → RelV o ov → RelV i iv → RelV v u → t o i v H Q →
    wpAny (model X.prog X.w) X.A (setItem ov iv u) (fun _ s' => ∃ H', Inv X pins σ H' s' ∧ Q H') X.xe s
/-- a op= b, by values -/
abbrev TIp := V → V → Hp → VK → Prop
def PIp (X : Cx) (op : Operator) (t : TIp) : Prop :=
  ∀ (pins : List (Addr × Obj)) (s : Shared) (σ : St) (H : Hp) (x y : V) (v u : Value) (Q : VK), Inv X pins σ H s → RelV x v → RelV y u → t x y H Q →
    wpAny (model X.prog X.w) X.A (inplaceOp op v u) (EP X pins σ Q) X.xe s
section
variable {X : Cx} {pos : Pos}
def gName (i : Nat) : TG := fun v σ H Q => Q (σ.set i (some v)) H
theorem pg_name {i : Nat} {x : Str} (hN : X.N.Nodup) (hi : X.N[i]? = some x) (hx : Loc X.env.scope x) (hf : X.fn x = true ∨ X.env.scope.names.lookup x = some .local := by first | exact .inl rfl | exact .inr rfl | assumption) : PG X (.Name x pos) (gName i) := by
  intro pins s σ H v u Q I r h
  exact wpAny_assign_Name (store_ok I hN hi hx r (fun s' I' => ⟨_, H, I', h⟩) hf)
def gNil : TGs := fun vs σ H Q => vs = [] ∧ Q σ H
inductive gCons (t : TG) (u : TGs) (vs : List V) (σ : St) (H : Hp) (Q : St → Hp → Prop) : Prop
  | mk (v : V) (r : List V) (e : vs = v :: r) (q : t v σ H fun σ' H' => u r σ' H' Q) : gCons t u vs σ H Q
theorem pgs_nil : PGs X [] gNil := by
  intro pins s σ H vs us Q I r h
  obtain ⟨e, h⟩ := h
  subst e
  cases r
  exact assignInOrder_nil ⟨σ, H, I, h⟩
theorem pgs_cons {e : Expr} {es : List Expr} {t : TG} {u : TGs} (h1 : PG X e t) (h2 : PGs X es u)
    (hs : (assignEach (e :: es) X.env).map (·.2) = assign e X.env :: (assignEach es X.env).map (·.2) := by rfl) : PGs X (e :: es) (gCons t u) := by
  intro pins s σ H vs us Q I r h
  obtain ⟨v, vr, e1, h⟩ := h
  subst e1
  cases r with
  | cons r rr =>
    rw [hs]
    refine assignInOrder_cons (thn (h1 pins s σ H _ _ _ I r h) fun _ s1 ⟨σ1, H1, I1, q1⟩ => ?_)
    exact h2 pins s1 σ1 H1 _ _ Q I1 rr q1
/-- (a, b, ..) = a tuple of that length -/
inductive gTup (K : PySem.W.Frag) (n : Nat) (t : TGs) (v : V) (σ : St) (H : Hp) (Q : St → Hp → Prop) : Prop
  | mk (a : Addr) (xs : List V) (e : v = .ref a) (h : SqT K H a xs) (l : xs.length = n) (q : t xs σ H Q) : gTup K n t v σ H Q
theorem pg_tup {es : List Expr} {k : Nat} {t : TGs} {n : Nat} (hc : X.calm = true) (h : PGs X es t)
    (hn : (assignEach es X.env).length = n := by rfl) (hst : (assignEach es X.env).findIdx? (·.1) = none := by rfl) : PG X (.Tuple es k pos) (gTup X.K n t) := by
  intro pins s σ H v u Q I r hw
  obtain ⟨a, xs, e1, hq, hl, hw⟩ := hw
  subst e1
  cases r
  obtain ⟨its, rv, ht, hz⟩ := I.tuple hq
  refine assign_Tuple_tuple (I.ok.hd hc) ht (by simp [hn, ← hl, rv.length]) hst fun h' hx => ?_
  have I1 : Inv X pins σ H { s with heap := h' } := I.kept (t' := s.toks) fun b o e => hx b o (Nat.ne_of_lt (Heap.lt_size e)) e
  exact h pins _ σ H xs _ Q I1 (by simpa using rv) hw
/-- o[i] = .. -/
def gSub (to ti : TE) (t : TSet) : TG := fun v σ H Q => to σ H fun o H1 => ti σ H1 fun i H2 => t o i v H2 fun H3 => Q σ H3
theorem pg_sub {o i : Expr} {to ti : TE} {t : TSet} (ho : PE X o to) (hi : PE X i ti) (hs : PSet X t)
    (ha : ∀ v, assign (.Subscript o i pos) X.env v = (do
      let ov ← holding [v] (eval o X.env)
      let iv ← holding [v, ov] (eval i X.env)
      standAt pos
      holding [v, ov, iv] (setItem ov iv v)
      release [v, ov, iv] []) := by intro _; rfl) : PG X (.Subscript o i pos) (gSub to ti t) := by
  intro pins s σ H v u Q I r h
  rw [ha]
  refine wpAny_bind (wpAny_holding (thn (ho pins s σ H _ I h) fun ov s1 ⟨x, H1, I1, r1, q1⟩ => ?_))
  refine wpAny_bind (wpAny_holding (thn (hi pins s1 σ H1 _ I1 q1) fun iv s2 ⟨y, H2, I2, r2, q2⟩ => ?_))
  refine wpAny_bind (wpAny_standAt (wpAny_bind (wpAny_holding (thn (hs pins s2 σ H2 x y v ov iv u _ I2 r1 r2 r q2) fun _ s3 ⟨H3, I3, q3⟩ => ?_))))
  exact wpAny_release ⟨σ, H3, I3, q3⟩
/-- target = value -/
def tAsg (te : TE) (g : TG) : TS := fun D σ H => te σ H fun x H1 => g x σ H1 D.nx
theorem ps_asg {tg e : Expr} {te : TE} {g : TG} (he : PE X e te) (hg : PG X tg g) (hs : swapsWithSole [tg] e pos.line X.env = pure false := by rfl) (hw : swappedStores [tg] e X.env = pure none := by rfl)
    (h1 : (assignEach [tg] X.env).map (·.2) = [assign tg X.env] := by rfl) : PS X (.Assign [tg] e pos) (tAsg te g) := by
  refine ⟨?_⟩
  intro pins s σ H D I h
  refine wpAny_Assign_stores (thn (he pins s σ H _ I h) fun v s1 ⟨x, H1, I1, r1, q1⟩ => ?_) hs hw
  rw [h1]
  exact thn (hg pins s1 σ H1 x v _ I1 r1 q1) fun _ s2 q => q
/-- name = value -/
theorem ps_set {i : Nat} {x : Str} {e : Expr} {te : TE} {pos' : Pos} (hN : X.N.Nodup) (hi : X.N[i]? = some x) (hx : Loc X.env.scope x) (he : PE X e te) (hs : swapsWith e (some (.Name x pos')) pos.line X.env = pure false := by rfl) (hf : X.fn x = true ∨ X.env.scope.names.lookup x = some .local := by first | exact .inl rfl | exact .inr rfl | assumption) :
    PS X (.Assign [.Name x pos'] e pos) (tAsg te (gName i)) := by
  refine ⟨?_⟩
  intro pins s σ H D I h
  refine wpAny_Assign_Name (thn (he pins s σ H _ I h) fun v s1 ⟨y, H1, I1, r1, q1⟩ => ?_) hs
  exact store_ok I1 hN hi hx r1 (fun s2 I2 => ⟨_, H1, I2, q1⟩) hf
/-- o[i] op= e -/
def tAugS (to ti te : TE) (tget : V → V → Hp → VK → Prop) (tip : TIp) (tset : TSet) : TS := fun D σ H => to σ H fun o H1 => ti σ H1 fun i H2 => tget o i H2 fun x H3 => te σ H3 fun y H4 => tip x y H4 fun z H5 => tset o i z H5 fun H6 => D.nx σ H6
/-- o[i], by values -/
def PGet (X : Cx) (t : V → V → Hp → VK → Prop) : Prop :=
  ∀ (pins : List (Addr × Obj)) (s : Shared) (σ : St) (H : Hp) (o i : V) (ov iv : Value) (Q : VK), Inv X pins σ H s → RelV o ov → RelV i iv → t o i H Q →
    wpAny (model X.prog X.w) X.A (getItem ov iv) (EP X pins σ Q) X.xe s
theorem ps_augS {o i e : Expr} {to ti te : TE} {tget : V → V → Hp → VK → Prop} {tip : TIp} {tset : TSet} {op : Operator} {tpos : Pos} (ho : PE X o to) (hi : PE X i ti) (hg : PGet X tget) (he : PE X e te) (hp : PIp X op tip) (hs : PSet X tset)
    (ha : ∀ ov iv new, augStore i ov iv new = (do holding [new, ov, iv] (setItem ov iv new); release [new, ov, iv] []; pure .next) := by intros; rfl) : PS X (.AugAssign (.Subscript o i tpos) op e pos) (tAugS to ti te tget tip tset) := by
  refine ⟨?_⟩
  intro pins s σ H D I h
  refine wpAny_AugAssign_SubscriptAny (thn (ho pins s σ H _ I h) fun ov s1 ⟨x1, H1, I1, r1, q1⟩ => ?_) ha
  refine thn (hi pins s1 σ H1 _ I1 q1) fun iv s2 ⟨x2, H2, I2, r2, q2⟩ => ?_
  refine thn (hg pins s2 σ H2 x1 x2 ov iv _ I2 r1 r2 q2) fun old s3 ⟨x3, H3, I3, r3, q3⟩ => ?_
  refine thn (he pins s3 σ H3 _ I3 q3) fun v s4 ⟨x4, H4, I4, r4, q4⟩ => ?_
  refine thn (hp pins s4 σ H4 x3 x4 old v _ I4 r3 r4 q4) fun new s5 ⟨x5, H5, I5, r5, q5⟩ => ?_
  exact thn (hs pins s5 σ H5 x1 x2 x5 ov iv new _ I5 r1 r2 r5 q5) fun _ s6 ⟨H6, I6, q6⟩ => ⟨σ, H6, I6, q6⟩
/-- ints -/
def ipI (f : Int → Int → Int) : TIp := fun x y H Q => ∃ i j, x = .int i ∧ y = .int j ∧ Q (.int (f i j)) H
theorem ip_sub : PIp X .Sub (ipI fun i j => i - j) := by
  intro pins s σ H x y v u Q I r1 r2 h
  obtain ⟨i, j, e1, e2, q⟩ := h
  subst e1; subst e2
  obtain ⟨t, rfl⟩ := r1
  obtain ⟨t', rfl⟩ := r2
  exact isub_int ⟨.int _, H, I.tok _, ⟨_, rfl⟩, q⟩
end

/-! ### while -/
section
variable {X : Cx} {pos : Pos}
end

/-! ### what a loop or a comprehension walks -/
/-- at turn i: it yields x (the heap may grow), or it stops -/
structure It where
  go : Nat → Hp → Prop
  yld : Nat → Hp → V → Hp → Prop
  stop : Nat → Hp → Prop
/-- the iterator's own objects may turn: they are not the frame's, not pinned, younger than the entry (or a comprehension's own) -/
def FpOk (X : Cx) (pins : List (Addr × Obj)) (H : Hp) (b : Addr) : Prop :=
  H b = none ∧ b ≠ X.env.locals ∧ b ∉ X.fs ∧ (b ∈ X.ex ∨ X.s₀.heap.objs.size ≤ b) ∧ (∀ x c, X.env.cells.lookup x = some c → c ≠ b) ∧ ∀ p ∈ X.pn ++ pins, p.1 ≠ b
theorem Inv.fpOk {X : Cx} {pins : List (Addr × Obj)} {σ : St} {H H' : Hp} {s : Shared} {b : Addr} (I : Inv X pins σ H s) (hb : s.heap.objs.size ≤ b) (hn : H' b = none) : FpOk X pins H' b := by
  refine ⟨hn, Nat.ne_of_gt (Nat.lt_of_lt_of_le I.lt hb), I.nofs hb, .inr (Nat.le_trans I.sz hb), fun x c e z => ?_, fun p hp z => ?_⟩
  · obtain ⟨v, q⟩ := I.cell x c e
    exact absurd (Nat.lt_of_lt_of_le q.lt (by rw [z]; exact hb)) (Nat.lt_irrefl _)
  · exact absurd (Nat.lt_of_lt_of_le (Heap.lt_size (I.pin p hp).1) (by rw [z]; exact hb)) (Nat.lt_irrefl _)
structure Turn (P : Program) (w : World) (K : PySem.W.Frag) (tg : Expr) (J : It) (fp : List Addr) (it : Addr) (tn : Nat → Heap → Prop) : Prop where
  mem : it ∈ fp
  obj : ∀ i h, tn i h → ∀ b ∈ fp, ∃ o, h.get? b = some o ∧ ∀ v, o.data ≠ .cell v
  keep : ∀ i h h', tn i h → (∀ b ∈ fp, ∀ o, h.get? b = some o → h'.get? b = some o) → tn i h'
  item : ∀ (X : Cx), X.prog = P → X.w = w → X.K = K → X.calm = true → ∀ (i : Nat) (pins : List (Addr × Obj)) (s : Shared) (σ : St) (H : Hp) (E : Value → Shared → Prop), Inv X pins σ H s → (∀ b ∈ fp, FpOk X pins H b) → tn i s.heap → J.go i H →
    wpAny (model P w) X.A (pyNext (.ref it)) (fun r s1 => ∃ u, r = some u ∧
      wpAny (model P w) X.A (letOwnedTupleGo tg (.ref it) u) (fun _ s2 => ∃ x H', Inv X pins σ H' s2 ∧ RelV x u ∧ J.yld i H x H' ∧ tn (i + 1) s2.heap ∧ ∀ b ∈ fp, H' b = none) E s1) E s
  done : ∀ (X : Cx), X.prog = P → X.w = w → X.K = K → X.calm = true → ∀ (i : Nat) (pins : List (Addr × Obj)) (s : Shared) (σ : St) (H : Hp) (E : Value → Shared → Prop), Inv X pins σ H s → (∀ b ∈ fp, FpOk X pins H b) → tn i s.heap → J.stop i H →
    wpAny (model P w) X.A (pyNext (.ref it)) (fun r s1 => r = none ∧ Inv X pins σ H s1) E s
  self : ∀ (A : Around) (i : Nat) (s : Shared) (Q : Value → Shared → Prop) (E : Value → Shared → Prop), tn i s.heap → Q (.ref it) s → wpAny (model P w) A (pyIter (.ref it)) Q E s
abbrev TI := St → Hp → (It → Hp → Prop) → Prop
/-- an iterator has come -/
def PIE (X : Cx) (pins : List (Addr × Obj)) (σ : St) (tg : Expr) (R : It → Hp → Prop) (itv : Value) (s2 : Shared) : Prop :=
  ∃ (it : Addr) (fp : List Addr) (tn : Nat → Heap → Prop) (J : It) (H' : Hp), itv = .ref it ∧ Inv X pins σ H' s2 ∧ Turn X.prog X.w X.K tg J fp it tn ∧ tn 0 s2.heap ∧ (∀ b ∈ fp, FpOk X pins H' b) ∧ R J H'
def PI (X : Cx) (tg iter : Expr) (wi : TI) : Prop :=
  ∀ (pins : List (Addr × Obj)) (s : Shared) (σ : St) (H : Hp) (R : It → Hp → Prop), Inv X pins σ H s → wi σ H R →
    wpAny (model X.prog X.w) X.A (eval iter X.env) (fun v s1 => wpAny (model X.prog X.w) X.A (pyIter v) (PIE X pins σ tg R) X.xe s1) X.xe s

/-- the step ahead of the store is nothing for an iterator that keeps no tuple -/
theorem go_of {M : Model} {A : Around} {E : Value → Shared → Prop} {s : Shared} {tg : Expr} {it : Addr} {u : Value} {o : Obj} {n : String} {vs : Array Value} {Q : Unit → Shared → Prop} (ho : s.heap.get? it = some o) (hc : o.cls = .type n) (hd : o.data = .fields vs)
    (hn : ["enumerate", "zip", "dict_itemiterator", "dict_reverseitemiterator", "odict_iterator", "itertools.zip_longest", "itertools.pairwise"].contains n = false) (hQ : Q () s) : wpAny M A (letOwnedTupleGo tg (.ref it) u) Q E s := by
  unfold letOwnedTupleGo
  cases tg <;> first
    | exact wpAny_pure hQ
    | (cases u <;> first
        | exact wpAny_pure hQ
        | (refine wpAny_bind (wpAny_load ho ?_)
           rw [hc, hd]
           show wpAny M A (if (["enumerate", "zip", "dict_itemiterator", "dict_reverseitemiterator", "odict_iterator", "itertools.zip_longest", "itertools.pairwise"].contains n && vs[0]? == some (rawInt _)) = true then _ else _) Q E s
           rw [if_neg (by intro h; rw [hn, Bool.false_and] at h; cases h)]
           exact wpAny_pure hQ))

/-- the list at a, as it stands at each turn (a loop may append to it) -/
def Itl (K : PySem.W.Frag) (a : Addr) : It :=
  ⟨fun i H => ∃ xs x, SqL K H a xs ∧ xs[i]? = some x, fun i H x H' => H' = H ∧ ∀ xs, SqL K H a xs → xs[i]? = some x, fun i H => ∃ xs, SqL K H a xs ∧ xs.length ≤ i⟩
def Itt (K : PySem.W.Frag) (a : Addr) : It :=
  ⟨fun i H => ∃ xs x, SqT K H a xs ∧ xs[i]? = some x, fun i H x H' => H' = H ∧ ∀ xs, SqT K H a xs → xs[i]? = some x, fun i H => ∃ xs, SqT K H a xs ∧ xs.length ≤ i⟩
/-- lo, lo + 1, .. (n of them) -/
def Itr (lo : Int) (n : Nat) : It := ⟨fun i _ => i < n, fun i H x H' => H' = H ∧ x = .int (lo + i), fun i _ => n ≤ i⟩
theorem turn_list {P : Program} {w : World} {K : PySem.W.Frag} {tg : Expr} (a it : Addr) : Turn P w K tg (Itl K a) [it] it (fun i h => h.IsListIter it a i) where
  mem := by simp
  obj := fun i h st b hb => by
    have e : b = it := by simpa using hb
    subst e
    obtain ⟨o, e, c, d⟩ := st
    exact ⟨o, e, fun v z => by rw [d] at z; cases z⟩
  keep := fun i h h' st k => st.at fun o e => k it (by simp) o e
  item := by
    intro X hP hw hK hc i pins s σ H E I hf st hg
    subst hP hw hK
    obtain ⟨xs, x, hq, hx⟩ := hg
    obtain ⟨its, rv, p, hz⟩ := I.list hq
    obtain ⟨u, hu, ru⟩ := rv.get hx
    obtain ⟨f0, f1, f2, f3, f4, f5⟩ := hf it (by simp)
    refine wpAny_pyNext_list_item st p.isList (x := u) (by simpa using hu) fun h' st' sb => ?_
    have I1 : Inv X pins σ H { s with heap := h' } := I.turned (t' := s.toks) (fun b o hb e => (sb.2 b hb).trans e) f0 f1 f3 f4 f5
    obtain ⟨o, e, c, d⟩ := id st'
    exact ⟨u, rfl, go_of (s := { s with heap := h' }) e c d (by decide) ⟨x, H, I1, ru, ⟨rfl, fun ys hy => by rw [I.list_inj hy hq]; exact hx⟩, st', fun b hb => (hf b hb).1⟩⟩
  done := by
    intro X hP hw hK hc i pins s σ H E I hf st hg
    subst hP hw hK
    obtain ⟨xs, hq, hx⟩ := hg
    obtain ⟨its, rv, p, hz⟩ := I.list hq
    obtain ⟨f0, f1, f2, f3, f4, f5⟩ := hf it (by simp)
    have hl := rv.length
    exact wpAny_pyNext_list_end (I.ok.hd hc) st p.isList (by simp; omega) fun h' eb => ⟨rfl, I.turned (t' := s.toks) (fun b o hb e => eb b o hb e) f0 f1 f3 f4 f5⟩
  self := fun _ _ _ _ _ st h => wpAny_pyIter_listiter st h
theorem turn_tuple {P : Program} {w : World} {K : PySem.W.Frag} {tg : Expr} (a it : Addr) : Turn P w K tg (Itt K a) [it] it (fun i h => h.IsTupleIter it a i) where
  mem := by simp
  obj := fun i h st b hb => by
    have e : b = it := by simpa using hb
    subst e
    obtain ⟨o, e, c, d⟩ := st
    exact ⟨o, e, fun v z => by rw [d] at z; cases z⟩
  keep := fun i h h' st k => st.at fun o e => k it (by simp) o e
  item := by
    intro X hP hw hK hc i pins s σ H E I hf st hg
    subst hP hw hK
    obtain ⟨xs, x, hq, hx⟩ := hg
    obtain ⟨its, rv, p, hz⟩ := I.tuple hq
    obtain ⟨u, hu, ru⟩ := rv.get hx
    obtain ⟨f0, f1, f2, f3, f4, f5⟩ := hf it (by simp)
    refine wpAny_pyNext_tuple_item st (show s.heap.IsTuple a its.toArray from p) (x := u) (by simpa using hu) fun h' st' sb => ?_
    have I1 : Inv X pins σ H { s with heap := h' } := I.turned (t' := s.toks) (fun b o hb e => (sb.2 b hb).trans e) f0 f1 f3 f4 f5
    obtain ⟨o, e, c, d⟩ := id st'
    exact ⟨u, rfl, go_of (s := { s with heap := h' }) e c d (by decide) ⟨x, H, I1, ru, ⟨rfl, fun ys hy => by rw [I.tuple_inj hy hq]; exact hx⟩, st', fun b hb => (hf b hb).1⟩⟩
  done := by
    intro X hP hw hK hc i pins s σ H E I hf st hg
    subst hP hw hK
    obtain ⟨xs, hq, hx⟩ := hg
    obtain ⟨its, rv, p, hz⟩ := I.tuple hq
    obtain ⟨f0, f1, f2, f3, f4, f5⟩ := hf it (by simp)
    have hl := rv.length
    exact wpAny_pyNext_tuple_end (I.ok.hd hc) st (show s.heap.IsTuple a its.toArray from p) (by simp; omega) fun h' eb => ⟨rfl, I.turned (t' := s.toks) (fun b o hb e => eb b o hb e) f0 f1 f3 f4 f5⟩
  self := fun _ _ _ _ _ st h => wpAny_pyIter_tupleiter st h
theorem turn_range {P : Program} {w : World} {K : PySem.W.Frag} {tg : Expr} (it : Addr) (lo : Int) (n : Nat) : Turn P w K tg (Itr lo n) [it] it (fun i h => IsRangeIter h it (lo + (i : Nat) * 1) ((n : Int) - (i : Nat)) 1) where
  mem := by simp
  obj := fun i h st b hb => by
    have e : b = it := by simpa using hb
    subst e
    exact ⟨_, st, fun v z => by
      have z' : Data.fields _ = Data.cell v := z
      cases z'⟩
  keep := fun i h h' st k => k it (by simp) _ st
  item := by
    intro X hP hw hK hc i pins s σ H E I hf st hg
    subst hP hw hK
    obtain ⟨f0, f1, f2, f3, f4, f5⟩ := hf it (by simp)
    have W := Walks.range (prog := X.prog) (w := X.w) (I.ok.hd hc) it lo 1 n
    refine W.item i s _ _ hg st fun v h' tk hv st' kk => ?_
    obtain ⟨t, rfl⟩ := hv
    have I1 : Inv X pins σ H { s with heap := h', toks := tk } := I.turned (fun b o hb e => kk b o (by simpa using hb) e) f0 f1 f3 f4 f5
    refine ⟨_, rfl, go_of (s := { s with heap := h', toks := tk }) (n := "range_iterator") st' rfl rfl (by decide) ⟨.int (lo + i), H, I1, ⟨t, ?_⟩, ⟨rfl, rfl⟩, st', fun b hb => (hf b hb).1⟩⟩
    rw [Int.mul_one]
  done := by
    intro X hP hw hK hc i pins s σ H E I hf st hg
    subst hP hw hK
    obtain ⟨f0, f1, f2, f3, f4, f5⟩ := hf it (by simp)
    exact wpAny_pyNext_range_end (I.ok.hd hc) st (by have : n ≤ i := hg; omega) fun h' eb => ⟨rfl, I.turned (t' := s.toks) (fun b o hb e => eb b o hb e) f0 f1 f3 f4 f5⟩
  self := fun _ _ _ _ _ st h => wpAny_pyIter_rangeiter st h
end L2

namespace L2
open PySem PySem.Spec PyProof.Rows
section
variable {X : Cx} {tg : Expr}
inductive iListX (K : PySem.W.Frag) (R : It → Hp → Prop) (x : V) (H1 : Hp) : Prop
  | mk (a : Addr) (e : x = .ref a) (h : ∃ xs, SqL K H1 a xs) (q : R (Itl K a) H1) : iListX K R x H1
def iList (K : PySem.W.Frag) (tl : TE) : TI := fun σ H R => tl σ H fun x H1 => iListX K R x H1
theorem pi_list {l : Expr} {tl : TE} (hl : PE X l tl) : PI X tg l (iList X.K tl) := by
  intro pins s σ H R I h
  refine thn (hl pins s σ H _ I h) fun v s1 ⟨x, H1, I1, r1, q1⟩ => ?_
  obtain ⟨a, e, ⟨xs, hq⟩, q⟩ := q1
  subst e
  cases r1
  obtain ⟨its, rv, p, hz⟩ := I1.list hq
  refine wpAny_pyIter_list p.isList ?_
  refine ⟨s1.heap.objs.size, [s1.heap.objs.size], _, _, H1, rfl, I1.kept (t' := s1.toks) fun b o e => Heap.get?_push_of_some _ e, turn_list a _, ⟨_, Heap.get?_push_size _ rfl, rfl, rfl⟩, fun b hb => ?_, q⟩
  have e : b = s1.heap.objs.size := by simpa using hb
  subst e
  exact I1.fpOk (Nat.le_refl _) (I1.hok.fresh (Nat.le_refl _))
/-- a range object just made, walked -/
theorem range_it {pins : List (Addr × Obj)} {σ : St} {H : Hp} {s : Shared} {R : It → Hp → Prop} {E : Value → Shared → Prop} {lo hi : Int} {t u v : Tok} {tk : Nat} (I : Inv X pins σ H s) (h1 : -(2 ^ 62) ≤ lo) (h2 : lo < 2 ^ 62) (h3 : -(2 ^ 62) ≤ hi) (h4 : hi < 2 ^ 62)
    (q : R (Itr lo (hi - lo).toNat) H) : wpAny (model X.prog X.w) X.A (pyIter (.ref s.heap.objs.size)) (PIE X pins σ tg R) E { s with heap := s.heap.push { cls := .type "range", data := .fields #[.int lo t, .int hi u, .int 1 v] }, toks := tk } := by
  refine wpAny_pyIter_range (IsRange.new ..) (small_one h1 h2 h3 h4) ?_
  have I1 : Inv X pins σ H { s with heap := s.heap.push { cls := .type "range", data := .fields #[.int lo t, .int hi u, .int 1 v] }, toks := tk } := I.kept fun b o e => Heap.get?_push_of_some _ e
  refine ⟨(s.heap.push { cls := .type "range", data := .fields #[.int lo t, .int hi u, .int 1 v] }).objs.size, [(s.heap.push { cls := .type "range", data := .fields #[.int lo t, .int hi u, .int 1 v] }).objs.size], _, _, H, rfl,
    I1.kept (t' := tk) fun b o e => Heap.get?_push_of_some _ e, turn_range _ lo (hi - lo).toNat, ?_, fun b hb => ?_, q⟩
  · have e1 : lo + ((0 : Nat) : Int) * 1 = lo := by simp
    have e2 : (((hi - lo).toNat : Nat) : Int) - ((0 : Nat) : Int) = Builtin.Range.rangeSize lo hi 1 := by rw [rangeSize_one]; split <;> omega
    show IsRangeIter _ _ (lo + ((0 : Nat) : Int) * 1) ((((hi - lo).toNat : Nat) : Int) - ((0 : Nat) : Int)) 1
    rw [e1, e2]
    exact Heap.get?_push_size _ rfl
  · have e : b = (s.heap.push { cls := .type "range", data := .fields #[.int lo t, .int hi u, .int 1 v] }).objs.size := by simpa using hb
    subst e
    exact I1.fpOk (Nat.le_refl _) (I1.hok.fresh (Nat.le_refl _))
inductive iRng1X (R : It → Hp → Prop) (vs : List V) (H1 : Hp) : Prop
  | mk (j : Int) (e : vs = [.int j]) (h1 : -(2 ^ 62) ≤ j) (h2 : j < 2 ^ 62) (q : R (Itr 0 j.toNat) H1) : iRng1X R vs H1
def iRng1 (ta : TA) : TI := fun σ H R => ta σ H fun vs H1 => iRng1X R vs H1
theorem pi_range1 {a : Expr} {ta : TA} {p pos : Pos} (hg : Gl X "range") (hm : X.mg "range" = none) (ha : PA X [a] ta) (hs : starEach [a] X.env = [(false, eval a X.env)] := by rfl) : PI X tg (.Call (.Name "range" p) [a] [] pos) (iRng1 ta) := by
  intro pins s σ H R I h
  refine Call_ (ld_blt I hg hm boot_range (PyProof.Rows.callWith_type1 (thn (ha pos pins s σ H _ I h) fun us s1 ⟨vs, H1, I1, r1, q1⟩ => ?_) hs rfl))
  obtain ⟨j, e, q1, q2, q⟩ := q1
  subst e
  cases r1 with
  | cons r rr =>
    cases rr
    obtain ⟨t, rfl⟩ := r
    exact call_range_1 (range_it I1 (by omega) (by omega) q1 q2 (by simpa using q))

/-! ### for -/
/-- W: the invariant by the turn and a measure; N: what the body is to reach -/
def tFor (wi : TI) (g : TG) (tb : TS) : TS := fun D σ H => wi σ H fun J H1 => ∃ W : Nat → Nat → St → Hp → Prop, (∃ m, W 0 m σ H1) ∧ ∀ i m σ H, W i m σ H →
  (J.stop i H ∧ D.nx σ H) ∨ (J.go i H ∧ ∃ N : St → Hp → Prop, (∀ σ' H', N σ' H' → ∃ m', m' < m ∧ W (i + 1) m' σ' H') ∧ ∀ x H', J.yld i H x H' → g x σ H' fun σ2 H2 => tb { D with nx := N, ct := N, bk := D.nx } σ2 H2)
/-- the records at fp as they stand -/
def pinsAt (fp : List Addr) (h : Heap) : List (Addr × Obj) := fp.filterMap fun b => (h.get? b).map fun o => (b, o)
theorem mem_pinsAt {fp : List Addr} {h : Heap} {b : Addr} {o : Obj} (hb : b ∈ fp) (e : h.get? b = some o) : (b, o) ∈ pinsAt fp h := List.mem_filterMap.mpr ⟨b, hb, by rw [e]; rfl⟩
theorem of_pinsAt {fp : List Addr} {h : Heap} {p : Addr × Obj} (hp : p ∈ pinsAt fp h) : p.1 ∈ fp ∧ h.get? p.1 = some p.2 := by
  obtain ⟨b, hb, e⟩ := List.mem_filterMap.mp hp
  cases q : h.get? b with
  | none => rw [q] at e; cases e
  | some o =>
    rw [q] at e
    have e' : (b, o) = p := Option.some.inj e
    subst e'
    exact ⟨hb, q⟩
theorem Inv.pinned {pins : List (Addr × Obj)} {σ : St} {H : Hp} {s : Shared} {fp : List Addr} (I : Inv X pins σ H s) (hf : ∀ b ∈ fp, FpOk X pins H b) (ho : ∀ b ∈ fp, ∃ o, s.heap.get? b = some o ∧ ∀ v, o.data ≠ .cell v) : Inv X (pins ++ pinsAt fp s.heap) σ H s :=
  I.pins_of fun p hp => (List.mem_append.mp hp).elim (fun z => I.pin p (List.mem_append_right _ z)) fun z => by
    obtain ⟨hb, e⟩ := of_pinsAt z
    obtain ⟨f0, f1, f2, _⟩ := hf p.1 hb
    obtain ⟨o, e', d⟩ := ho p.1 hb
    rw [e] at e'; cases e'
    exact ⟨e, f0, f1, f2, d⟩
theorem Inv.unpinned {pins pl : List (Addr × Obj)} {σ : St} {H : Hp} {s : Shared} (I : Inv X (pins ++ pl) σ H s) : Inv X pins σ H s := I.pins_of fun p hp => I.pin p (List.mem_append_right _ (List.mem_append_left _ hp))
theorem ps_for {iter : Expr} {body : List Stmt} {wi : TI} {g : TG} {tb : TS} {pos : Pos} (hp : PassesOwn (model X.prog X.w) X.A X.env X.xe) (hc : X.calm = true) (hi : PI X tg iter wi) (hg : PG X tg g) (hb : PSs X body tb)
    (hs : ∀ x, foldedSetIterable iter X.env x = pure x := by intro _; rfl) : PS X (.For tg iter body [] pos) (tFor wi g tb) := by
  refine ⟨?_⟩
  intro pins s σ H D I h
  refine wpAny_For (thn (hi pins s σ H _ I h) fun v s1 h1 => thn h1 fun itv s2 h2 => ?_) hs
  obtain ⟨it, fp, tn, J, H2, e, I2, T, st2, f2, W, ⟨m0, w0⟩, turn⟩ := h2
  subst e
  have stat : ∀ {H' : Hp}, (∀ b ∈ fp, H' b = none) → ∀ b ∈ fp, FpOk X pins H' b := fun hn b hb => ⟨hn b hb, (f2 b hb).2⟩
  refine codeAny_forLoop_any (fun n s' => ∃ i σ' H', Inv X pins σ' H' s' ∧ tn i s'.heap ∧ (∀ b ∈ fp, H' b = none) ∧ W i n σ' H') ?_ m0 ⟨0, σ, H2, I2, st2, fun b hb => (f2 b hb).1, w0⟩
  rintro n s3 ⟨i, σ3, H3, I3, st3, fr3, w3⟩
  rcases turn i n σ3 H3 w3 with ⟨stop, qn⟩ | ⟨go, N, hN, step⟩
  · refine wpAny_passesOwn hp (thn (T.done X rfl rfl rfl hc i pins s3 σ3 H3 X.xe I3 (stat fr3) st3 stop) fun r s4 ⟨hr, I4⟩ => ?_)
    subst hr
    exact wpAny_execs_nil ⟨σ3, H3, I4, qn⟩
  · refine wpAny_passesOwn hp (thn (T.item X rfl rfl rfl hc i pins s3 σ3 H3 X.xe I3 (stat fr3) st3 go) fun r s4 ⟨u, hr, h4⟩ => ?_)
    subst hr
    refine wpAny_passesOwn hp (thn h4 fun _ s5 ⟨x, H5, I5, r5, y5, st5, fr5⟩ => ?_)
    have I5' := I5.pinned (stat fr5) (T.obj _ _ st5)
    refine wpAny_passesOwn hp (thn (hg _ s5 σ3 H5 x u _ I5' r5 (step x H5 y5)) fun _ s6 ⟨σ6, H6, I6, q6⟩ => ?_)
    refine wpAny_passesOwn hp (thn (hb _ s6 σ6 H6 _ I6 q6) fun f s7 q7 => ?_)
    have again : ∀ {σ7 : St} {H7 : Hp}, Inv X (pins ++ pinsAt fp s5.heap) σ7 H7 s7 → N σ7 H7 → ∃ m, m < n ∧ ∃ i σ' H', Inv X pins σ' H' s7 ∧ tn i s7.heap ∧ (∀ b ∈ fp, H' b = none) ∧ W i m σ' H' := fun {σ7 H7} I7 n7 => by
      obtain ⟨m', hm, w7⟩ := hN σ7 H7 n7
      refine ⟨m', hm, i + 1, σ7, H7, I7.unpinned, T.keep _ _ _ st5 fun b hb o e => (I7.pin (b, o) (List.mem_append_right _ (List.mem_append_right _ (mem_pinsAt hb e)))).1, fun b hb => ?_, w7⟩
      obtain ⟨o, e, d⟩ := T.obj _ _ st5 b hb
      exact (I7.pin (b, o) (List.mem_append_right _ (List.mem_append_right _ (mem_pinsAt hb e)))).2.1
    cases f with
    | next => obtain ⟨σ7, H7, I7, n7⟩ := q7; exact again I7 n7
    | cont => obtain ⟨σ7, H7, I7, n7⟩ := q7; exact again I7 n7
    | brk => obtain ⟨σ7, H7, I7, q7⟩ := q7; exact ⟨σ7, H7, I7.unpinned, q7⟩
    | ret v => obtain ⟨x7, σ7, H7, I7, r7, q7⟩ := q7; exact ⟨x7, σ7, H7, I7.unpinned, r7, q7⟩
end

/-! ### the forms one uses -/
/-- over a list that the body leaves as it is -/
theorem for_list {K : PySem.W.Frag} {a : Addr} {xs : List V} {g : TG} {tb : TS} {D : Ends} {σ : St} {H : Hp} (Pv : Nat → St → Hp → Prop) (h0 : Pv 0 σ H) (hl : ∀ i σ H, i ≤ xs.length → Pv i σ H → SqL K H a xs)
    (hs : ∀ i x σ H, xs[i]? = some x → Pv i σ H → g x σ H fun σ2 H2 => tb { D with nx := Pv (i + 1), ct := Pv (i + 1), bk := D.nx } σ2 H2) (hd : ∀ σ H, Pv xs.length σ H → D.nx σ H) :
    ∃ W : Nat → Nat → St → Hp → Prop, (∃ m, W 0 m σ H) ∧ ∀ i m σ H, W i m σ H →
      ((Itl K a).stop i H ∧ D.nx σ H) ∨ ((Itl K a).go i H ∧ ∃ N : St → Hp → Prop, (∀ σ' H', N σ' H' → ∃ m', m' < m ∧ W (i + 1) m' σ' H') ∧ ∀ x H', (Itl K a).yld i H x H' → g x σ H' fun σ2 H2 => tb { D with nx := N, ct := N, bk := D.nx } σ2 H2) := by
  refine ⟨fun i m σ H => m = xs.length - i ∧ i ≤ xs.length ∧ Pv i σ H, ⟨xs.length, by simp, Nat.zero_le _, h0⟩, ?_⟩
  rintro i m σ H ⟨rfl, hi, p⟩
  have q := hl i σ H hi p
  by_cases hlt : i < xs.length
  · refine .inr ⟨⟨xs, xs[i], q, by simp [hlt]⟩, Pv (i + 1), fun σ' H' p' => ⟨xs.length - (i + 1), by omega, rfl, hlt, p'⟩, fun x H' y => ?_⟩
    obtain ⟨e, y⟩ := y
    subst e
    exact hs i x σ _ (y xs q) p
  · have e : i = xs.length := by omega
    subst e
    exact .inl ⟨⟨xs, q, Nat.le_refl _⟩, hd σ H p⟩
theorem for_range {lo : Int} {n : Nat} {g : TG} {tb : TS} {D : Ends} {σ : St} {H : Hp} (Pv : Nat → St → Hp → Prop) (h0 : Pv 0 σ H)
    (hs : ∀ i σ H, i < n → Pv i σ H → g (.int (lo + i)) σ H fun σ2 H2 => tb { D with nx := Pv (i + 1), ct := Pv (i + 1), bk := D.nx } σ2 H2) (hd : ∀ σ H, Pv n σ H → D.nx σ H) :
    ∃ W : Nat → Nat → St → Hp → Prop, (∃ m, W 0 m σ H) ∧ ∀ i m σ H, W i m σ H →
      ((Itr lo n).stop i H ∧ D.nx σ H) ∨ ((Itr lo n).go i H ∧ ∃ N : St → Hp → Prop, (∀ σ' H', N σ' H' → ∃ m', m' < m ∧ W (i + 1) m' σ' H') ∧ ∀ x H', (Itr lo n).yld i H x H' → g x σ H' fun σ2 H2 => tb { D with nx := N, ct := N, bk := D.nx } σ2 H2) := by
  refine ⟨fun i m σ H => m = n - i ∧ i ≤ n ∧ Pv i σ H, ⟨n, by simp, Nat.zero_le _, h0⟩, ?_⟩
  rintro i m σ H ⟨rfl, hi, p⟩
  by_cases hlt : i < n
  · refine .inr ⟨hlt, Pv (i + 1), fun σ' H' p' => ⟨n - (i + 1), by omega, rfl, hlt, p'⟩, fun x H' y => ?_⟩
    obtain ⟨e, y⟩ := y
    subst e y
    exact hs i σ _ hlt p
  · have e : i = n := by omega
    subst e
    exact .inl ⟨Nat.le_refl _, hd σ H p⟩
end L2

namespace L2
open PySem PySem.Spec PyProof.Rows

abbrev R2 := V → V → Hp → VK → Prop
/-- a two-place operation on values: f is binaryOp op, inplaceOp op or compareOp op -/
def OpR (X : Cx) (f : Value → Value → Sem Value) (r : R2) : Prop :=
  ∀ (pins : List (Addr × Obj)) (s : Shared) (σ : St) (H : Hp) (x y : V) (v u : Value) (Q : VK), Inv X pins σ H s → RelV x v → RelV y u → r x y H Q →
    wpAny (model X.prog X.w) X.A (f v u) (EP X pins σ Q) X.xe s
/-- a one-place operation -/
def UnR (X : Cx) (f : Value → Sem Value) (r : V → Hp → VK → Prop) : Prop :=
  ∀ (pins : List (Addr × Obj)) (s : Shared) (σ : St) (H : Hp) (x : V) (v : Value) (Q : VK), Inv X pins σ H s → RelV x v → r x H Q →
    wpAny (model X.prog X.w) X.A (f v) (EP X pins σ Q) X.xe s
/-- a call of a value that is known (a builtin, a type) with values -/
def CallR (X : Cx) (f : Value) (r : List V → Hp → VK → Prop) : Prop :=
  ∀ (pins : List (Addr × Obj)) (s : Shared) (σ : St) (H : Hp) (xs : List V) (us : List Value) (Q : VK), Inv X pins σ H s → Vals xs us → r xs H Q →
    wpAny (model X.prog X.w) X.A (call f us) (EP X pins σ Q) X.xe s

def tOp (r : R2) (ta tb : TE) : TE := fun σ H Q => ta σ H fun x H1 => tb σ H1 fun y H2 => r x y H2 Q
def tUn (r : V → Hp → VK → Prop) (ta : TE) : TE := fun σ H Q => ta σ H fun x H1 => r x H1 Q
/-- ints in, under C, and a value out -/
inductive rI (C : Int → Int → Prop) (g : Int → Int → V) (x y : V) (H : Hp) (Q : VK) : Prop
  | mk (i j : Int) (e1 : x = .int i) (e2 : y = .int j) (c : C i j) (q : Q (g i j) H) : rI C g x y H Q
inductive rI0 (g : Int → Int → V) (x y : V) (H : Hp) (Q : VK) : Prop
  | mk (i j : Int) (e1 : x = .int i) (e2 : y = .int j) (q : Q (g i j) H) : rI0 g x y H Q
def rU (g : Int → V) : V → Hp → VK → Prop := fun x H Q => ∃ i, x = .int i ∧ Q (g i) H

section
variable {X : Cx} {a b c : Expr} {ta tb tc : TE} {pos : Pos}

theorem binT (ha : PE X a ta) (hb : PE X b tb) {pins : List (Addr × Obj)} {s : Shared} {σ : St} {H : Hp} {R : V → V → Hp → Prop} (I : Inv X pins σ H s)
    (h : ta σ H fun x H1 => tb σ H1 fun y H2 => R x y H2) {Q : Value → Shared → Prop} {f : Value → Value → Sem Value}
    (hf : ∀ v u s2 x y H2, Inv X pins σ H2 s2 → RelV x v → RelV y u → R x y H2 → wpAny (model X.prog X.w) X.A (f v u) Q X.xe s2) :
    wpAny (model X.prog X.w) X.A (eval a X.env) (fun v s₁ => wpAny (model X.prog X.w) X.A (eval b X.env) (fun u s₂ => wpAny (model X.prog X.w) X.A (f v u) Q X.xe s₂) X.xe s₁) X.xe s := by
  refine thn (ha pins s σ H _ I h) fun v s1 ⟨x, H1, I1, r1, q1⟩ => ?_
  refine thn (hb pins s1 σ H1 _ I1 q1) fun u s2 ⟨y, H2, I2, r2, q2⟩ => ?_
  exact hf v u s2 x y H2 I2 r1 r2 q2

theorem pe_op {op : Operator} {r : R2} (ho : OpR X (binaryOp op) r) (ha : PE X a ta) (hb : PE X b tb) : PE X (.BinOp a op b pos) (tOp r ta tb) := by
  refine ⟨?_⟩
  intro pins s σ H Q I h
  exact wpAny_BinOp (binT ha hb I h fun v u s2 x y H2 I2 rx ry q => ho pins s2 σ H2 x y v u Q I2 rx ry q)
theorem pe_un {op : UnaryOp} {r : V → Hp → VK → Prop} (ho : UnR X (unaryOp op) r) (ha : PE X a ta) : PE X (.UnaryOp op a pos) (tUn r ta) := by
  refine ⟨?_⟩
  intro pins s σ H Q I h
  exact UnaryOp_ (thn (ha pins s σ H _ I h) fun v s1 ⟨x, H1, I1, r1, q1⟩ => ho pins s1 σ H1 x v Q I1 r1 q1)

/-! ### ints -/
theorem opI {f : Value → Value → Sem Value} {C : Int → Int → Prop} {g : Int → Int → Int}
    (rule : ∀ (i j : Int) (t u : Tok) (s : Shared) (Q : Value → Shared → Prop) (E : Value → Shared → Prop), C i j → Q (.int (g i j) s.toks) { s with toks := s.toks + 1 } → wpAny (model X.prog X.w) X.A (f (.int i t) (.int j u)) Q E s) :
    OpR X f (rI C fun i j => .int (g i j)) := by
  intro pins s σ H x y v u Q I rx ry h
  obtain ⟨i, j, rfl, rfl, hc, q⟩ := h
  obtain ⟨t, rfl⟩ := rx
  obtain ⟨t', rfl⟩ := ry
  exact rule i j t t' s _ _ hc ⟨.int (g i j), H, I.tok _, ⟨_, rfl⟩, q⟩
theorem opI0 {f : Value → Value → Sem Value} {g : Int → Int → Int}
    (rule : ∀ (i j : Int) (t u : Tok) (s : Shared) (Q : Value → Shared → Prop) (E : Value → Shared → Prop), Q (.int (g i j) s.toks) { s with toks := s.toks + 1 } → wpAny (model X.prog X.w) X.A (f (.int i t) (.int j u)) Q E s) :
    OpR X f (rI0 fun i j => .int (g i j)) := by
  intro pins s σ H x y v u Q I rx ry h
  obtain ⟨i, j, rfl, rfl, q⟩ := h
  obtain ⟨t, rfl⟩ := rx
  obtain ⟨t', rfl⟩ := ry
  exact rule i j t t' s _ _ ⟨.int (g i j), H, I.tok _, ⟨_, rfl⟩, q⟩
theorem opB0 {f : Value → Value → Sem Value} {g : Int → Int → Bool}
    (rule : ∀ (i j : Int) (t u : Tok) (s : Shared) (Q : Value → Shared → Prop) (E : Value → Shared → Prop), Q (.bool (g i j)) s → wpAny (model X.prog X.w) X.A (f (.int i t) (.int j u)) Q E s) :
    OpR X f (rI0 fun i j => .bl (g i j)) := by
  intro pins s σ H x y v u Q I rx ry h
  obtain ⟨i, j, rfl, rfl, q⟩ := h
  obtain ⟨t, rfl⟩ := rx
  obtain ⟨t', rfl⟩ := ry
  exact rule i j t t' s _ _ ⟨.bl (g i j), H, I, rfl, q⟩

def CPow (i j : Int) : Prop := 0 ≤ j ∧ j ≤ 1000000 ∧ i.natAbs < 2 ^ 64
def CMul (i j : Int) : Prop := (-(2 ^ 64) < i ∧ i < 2 ^ 64) ∨ (-(2 ^ 64) < j ∧ j < 2 ^ 64)
theorem CMul.ok {i j : Int} (h : CMul i j) : IntMulOk i j := by
  rcases h with ⟨h1, h2⟩ | ⟨h1, h2⟩
  · exact .of_left (intBits_le_64 h1 h2)
  · exact .of_right (intBits_le_64 h1 h2)

theorem op_add : OpR X (binaryOp .Add) (rI0 fun i j => .int (i + j)) := opI0 fun _ _ _ _ _ _ _ q => add_int q
theorem op_sub : OpR X (binaryOp .Sub) (rI0 fun i j => .int (i - j)) := opI0 fun _ _ _ _ _ _ _ q => sub_int q
theorem op_mul : OpR X (binaryOp .Mult) (rI CMul fun i j => .int (i * j)) := opI fun _ _ _ _ _ _ _ hc q => mul_int q hc.ok
/-- % by a positive divisor of any size -/
theorem op_mod : OpR X (binaryOp .Mod) (rI (fun _ j => 0 < j) fun i j => .int (i % j)) := opI fun i j _ _ _ _ _ hc q => by
  have h1 : (0 : Int) < j := hc
  exact mod_int' (by omega) (by rw [Int.fmod_eq_emod_of_nonneg i (by omega)]; exact q)
theorem op_pow : OpR X (binaryOp .Pow) (rI CPow fun i j => .int (i ^ j.toNat)) := opI fun _ _ _ _ _ _ _ hc q => pow_int_small hc.1 hc.2.1 hc.2.2 q


theorem unI {f : Value → Sem Value} {g : Int → Int}
    (rule : ∀ (i : Int) (t : Tok) (s : Shared) (Q : Value → Shared → Prop) (E : Value → Shared → Prop), Q (.int (g i) s.toks) { s with toks := s.toks + 1 } → wpAny (model X.prog X.w) X.A (f (.int i t)) Q E s) :
    UnR X f (rU fun i => .int (g i)) := by
  intro pins s σ H x v Q I rx h
  obtain ⟨i, rfl, q⟩ := h
  obtain ⟨t, rfl⟩ := rx
  exact rule i t s _ _ ⟨.int (g i), H, I.tok _, ⟨_, rfl⟩, q⟩
theorem un_neg : UnR X (unaryOp .USub) (rU fun i => .int (-i)) := unI fun _ _ _ _ _ q => neg_int q

/-! ### bools among ints: n += (a < b) -/
end

/-! ### comparisons -/
/-- the scalars that == tells apart as data does -/
def scal : V → V → Bool
  | .non, .non => true | .non, .int _ => true | .int _, .non => true | .non, .bl _ => true | .bl _, .non => true | .non, .str _ => true | .str _, .non => true
  | .int _, .int _ => true | .bl _, .bl _ => true | .str _, .str _ => true | .byt _, .byt _ => true
  | .int _, .str _ => true | .str _, .int _ => true | .bl _, .str _ => true | .str _, .bl _ => true
  | _, _ => false
def rEq : R2 := fun x y H Q => scal x y = true ∧ Q (.bl (decide (x = y))) H
def rNe : R2 := fun x y H Q => scal x y = true ∧ Q (.bl (!decide (x = y))) H

theorem dec_int {i j : Int} : decide (V.int i = V.int j) = (i == j) := by
  rw [Bool.eq_iff_iff]
  simp
theorem dec_bl {i j : Bool} : decide (V.bl i = V.bl j) = (i == j) := by
  rw [Bool.eq_iff_iff]
  simp
theorem dec_str {i j : Str} : decide (V.str i = V.str j) = (i == j) := by
  rw [Bool.eq_iff_iff]
  simp
theorem dec_byt {i j : Array UInt8} : decide (V.byt i = V.byt j) = (i.toList == j.toList) := by
  rw [Bool.eq_iff_iff]
  cases i
  cases j
  simp

section
variable {X : Cx} {a b c : Expr} {ta tb tc : TE} {pos : Pos}
theorem fin_bl {pins : List (Addr × Obj)} {σ : St} {H : Hp} {s : Shared} {Q : VK} {k k' : Bool} (I : Inv X pins σ H s) (q : Q (.bl k) H) (e : k = k') : EP X pins σ Q (.bool k') s := by
  subst e
  exact ⟨.bl k, H, I, rfl, q⟩
theorem op_eq : OpR X (compareOp .Eq) rEq := by
  intro pins s σ H x y v u Q I rx ry h
  obtain ⟨hs, q⟩ := h
  cases x with
  | non =>
    cases rx
    cases y with
    | non => cases ry; exact PySem.EqNone.eq_none_none (fin_bl I q (by simp))
    | bl j => cases ry; exact PySem.EqNone.eq_none_bool (fin_bl I q (by simp))
    | int j => obtain ⟨t', rfl⟩ := ry; exact PySem.EqNone.eq_none_int (fin_bl I q (by simp))
    | str j => obtain ⟨t', rfl⟩ := ry; exact PySem.EqNone.eq_none_str (fin_bl I q (by simp))
    | _ => exact absurd (show false = true from hs) Bool.false_ne_true
  | bl i =>
    cases rx
    cases y with
    | non => cases ry; exact PySem.EqNone.eq_bool_none (fin_bl I q (by simp))
    | bl j => cases ry; exact eq_bool (fin_bl I q dec_bl)
    | str j => obtain ⟨t', rfl⟩ := ry; exact PySem.EqMixed.eq_bool_str (fin_bl I q (by simp))
    | _ => exact absurd (show false = true from hs) Bool.false_ne_true
  | int i =>
    obtain ⟨t, rfl⟩ := rx
    cases y with
    | non => cases ry; exact PySem.EqNone.eq_int_none (fin_bl I q (by simp))
    | int j => obtain ⟨t', rfl⟩ := ry; exact eq_int (fin_bl I q dec_int)
    | str j => obtain ⟨t', rfl⟩ := ry; exact PySem.EqMixed.eq_int_str (fin_bl I q (by simp))
    | _ => exact absurd (show false = true from hs) Bool.false_ne_true
  | str i =>
    obtain ⟨t, rfl⟩ := rx
    cases y with
    | non => cases ry; exact PySem.EqNone.eq_str_none (fin_bl I q (by simp))
    | bl j => cases ry; exact PySem.EqMixed.eq_str_bool (fin_bl I q (by simp))
    | int j => obtain ⟨t', rfl⟩ := ry; exact PySem.EqMixed.eq_str_int (fin_bl I q (by simp))
    | str j => obtain ⟨t', rfl⟩ := ry; exact eq_str (fin_bl I q dec_str)
    | _ => exact absurd (show false = true from hs) Bool.false_ne_true
  | byt i =>
    obtain ⟨t, rfl⟩ := rx
    cases y with
    | byt j => obtain ⟨t', rfl⟩ := ry; exact PySem.W.eq_bytes (fin_bl I q dec_byt)
    | _ => exact absurd (show false = true from hs) Bool.false_ne_true
  | _ => cases y <;> exact absurd (show false = true from hs) Bool.false_ne_true
theorem op_ne : OpR X (compareOp .NotEq) rNe := by
  intro pins s σ H x y v u Q I rx ry h
  obtain ⟨hs, q⟩ := h
  cases x with
  | non =>
    cases rx
    cases y with
    | non => cases ry; exact PySem.EqNone.ne_none_none (fin_bl I q (by simp))
    | bl j => cases ry; exact PySem.EqNone.ne_none_bool (fin_bl I q (by simp))
    | int j => obtain ⟨t', rfl⟩ := ry; exact PySem.EqNone.ne_none_int (fin_bl I q (by simp))
    | str j => obtain ⟨t', rfl⟩ := ry; exact PySem.EqNone.ne_none_str (fin_bl I q (by simp))
    | _ => exact absurd (show false = true from hs) Bool.false_ne_true
  | bl i =>
    cases rx
    cases y with
    | non => cases ry; exact PySem.EqNone.ne_bool_none (fin_bl I q (by simp))
    | bl j => cases ry; exact ne_bool (fin_bl I q (congrArg not dec_bl))
    | str j => obtain ⟨t', rfl⟩ := ry; exact PySem.EqMixed.ne_bool_str (fin_bl I q (by simp))
    | _ => exact absurd (show false = true from hs) Bool.false_ne_true
  | int i =>
    obtain ⟨t, rfl⟩ := rx
    cases y with
    | non => cases ry; exact PySem.EqNone.ne_int_none (fin_bl I q (by simp))
    | int j => obtain ⟨t', rfl⟩ := ry; exact ne_int (fin_bl I q (congrArg not dec_int))
    | str j => obtain ⟨t', rfl⟩ := ry; exact PySem.EqMixed.ne_int_str (fin_bl I q (by simp))
    | _ => exact absurd (show false = true from hs) Bool.false_ne_true
  | str i =>
    obtain ⟨t, rfl⟩ := rx
    cases y with
    | non => cases ry; exact PySem.EqNone.ne_str_none (fin_bl I q (by simp))
    | bl j => cases ry; exact PySem.EqMixed.ne_str_bool (fin_bl I q (by simp))
    | int j => obtain ⟨t', rfl⟩ := ry; exact PySem.EqMixed.ne_str_int (fin_bl I q (by simp))
    | str j => obtain ⟨t', rfl⟩ := ry; exact ne_str (fin_bl I q (congrArg not dec_str))
    | _ => exact absurd (show false = true from hs) Bool.false_ne_true
  | byt i =>
    obtain ⟨t, rfl⟩ := rx
    cases y with
    | byt j => obtain ⟨t', rfl⟩ := ry; exact PySem.W.ne_bytes (fin_bl I q (congrArg not dec_byt))
    | _ => exact absurd (show false = true from hs) Bool.false_ne_true
  | _ => cases y <;> exact absurd (show false = true from hs) Bool.false_ne_true

theorem op_lt : OpR X (compareOp .Lt) (rI0 fun i j => .bl (decide (i < j))) := opB0 fun _ _ _ _ _ _ _ q => lt_int q
theorem op_le : OpR X (compareOp .LtE) (rI0 fun i j => .bl (decide (i ≤ j))) := opB0 fun _ _ _ _ _ _ _ q => le_int q
theorem op_gt : OpR X (compareOp .Gt) (rI0 fun i j => .bl (decide (j < i))) := opB0 fun _ _ _ _ _ _ _ q => gt_int q
theorem op_ge : OpR X (compareOp .GtE) (rI0 fun i j => .bl (decide (j ≤ i))) := opB0 fun _ _ _ _ _ _ _ q => ge_int q
/-- the one string within the other -/
theorem op_in_str : OpR X (compareOp .In) (fun x y H Q => ∃ i j, x = .str i ∧ y = .str j ∧ Q (.bl (!(Builtin.Str.occurrences j i 0 j.length 1).isEmpty)) H) := by
  intro pins s σ H x y v u Q I rx ry h
  obtain ⟨i, j, rfl, rfl, q⟩ := h
  obtain ⟨t, rfl⟩ := rx
  obtain ⟨t', rfl⟩ := ry
  exact in_str (fin_bl I q rfl)

/-- is None, is not None: the right side a value none -/
theorem op_isN : OpR X (compareOp .Is) (fun x y H Q => y = .non ∧ Q (.bl (decide (x = .non))) H) := by
  intro pins s σ H x y v u Q I rx ry h
  obtain ⟨rfl, q⟩ := h
  cases ry
  refine is_none_gen (fin_bl I q ?_)
  cases x <;> first
    | (cases rx; rfl)
    | (obtain ⟨t, rfl⟩ := rx; rfl)
theorem op_notN : OpR X (compareOp .IsNot) (fun x y H Q => y = .non ∧ Q (.bl (!decide (x = .non))) H) := by
  intro pins s σ H x y v u Q I rx ry h
  obtain ⟨rfl, q⟩ := h
  cases ry
  refine isnot_none_gen (fin_bl I q ?_)
  cases x <;> first
    | (cases rx; rfl)
    | (obtain ⟨t, rfl⟩ := rx; rfl)



theorem nomark (b : Expr) {op : CmpOp} (h : op ≠ .In := by decide) (h2 : op ≠ .NotIn := by decide) : behindInMarks op b = false := by
  have e1 : (op == CmpOp.In) = false := by cases op <;> first | rfl | exact absurd rfl h
  have e2 : (op == CmpOp.NotIn) = false := by cases op <;> first | rfl | exact absurd rfl h2
  cases b <;> simp [behindInMarks, e1, e2]
/-- a comparison as a value; hm: nomark b, or (for in, not in) by with_unfolding_all rfl -/
theorem pe_cmpR {op : CmpOp} {r : R2} (ho : OpR X (compareOp op) r) (ha : PE X a ta) (hb : PE X b tb) (hm : behindInMarks op b = false) : PE X (.Compare a [op] [b] pos) (tOp r ta tb) := by
  refine ⟨?_⟩
  intro pins s σ H Q I h
  exact wpAny_Compare1 (binT ha hb I h fun v u s2 x y H2 I2 rx ry q => ho pins s2 σ H2 x y v u Q I2 rx ry q) hm
/-- a reading of a value as a test -/
def tTest (t : TE) : TT := fun σ H Q => t σ H fun x H' => ∃ k, x = .bl k ∧ Q k H'
theorem pt_cmpR {op : CmpOp} {r : R2} (ho : OpR X (compareOp op) r) (ha : PE X a ta) (hb : PE X b tb) (hm : behindInMarks op b = false) : PT X (.Compare a [op] [b] pos) (tTest (tOp r ta tb)) := by
  refine ⟨?_⟩
  intro pins s σ H Q I h
  refine wpAny_isTrue_Compare1 (thn (ha pins s σ H _ I h) fun v s1 ⟨x, H1, I1, r1, q1⟩ => thn (hb pins s1 σ H1 _ I1 q1) fun u s2 ⟨y, H2, I2, r2, q2⟩ =>
    thn (ho pins s2 σ H2 x y v u _ I2 r1 r2 q2) fun c s3 ⟨z, H3, I3, r3, k, e, q3⟩ => ?_) hm
  subst e
  cases r3
  exact wpAny_truthy_bool ⟨H3, I3, q3⟩
/-- a op1 b op2 c -/
def tChain (r r' : R2) (ta tb tc : TE) : TE := fun σ H Q => ta σ H fun x H1 => tb σ H1 fun y H2 => r x y H2 fun z H3 => ∃ k, z = .bl k ∧
  (if k = true then tc σ H3 fun w' H4 => r' y w' H4 Q else Q (.bl false) H3)
theorem pe_chain {op op' : CmpOp} {r r' : R2} (ho : OpR X (compareOp op) r) (ho' : OpR X (compareOp op') r') (ha : PE X a ta) (hb : PE X b tb) (hc : PE X c tc)
    (hm : lastMarks [op, op'] [b, c] = false := by with_unfolding_all rfl) : PE X (.Compare a [op, op'] [b, c] pos) (tChain r r' ta tb tc) := by
  refine ⟨?_⟩
  intro pins s σ H Q I h
  refine Compare_chain (thn (ha pins s σ H _ I h) fun v s1 ⟨x, H1, I1, r1, q1⟩ => chain_link (thn (hb pins s1 σ H1 _ I1 q1) fun u s2 ⟨y, H2, I2, r2, q2⟩ =>
    thn (ho pins s2 σ H2 x y v u _ I2 r1 r2 q2) fun d s3 ⟨z, H3, I3, r3, k, e, q3⟩ => ?_)) hm
  subst e
  cases r3
  refine wpAny_truthy_bool ?_
  cases k with
  | false => exact ite_ff ⟨.bl false, H3, I3, rfl, q3⟩
  | true => exact ite_tt (chain_last (thn (hc pins s3 σ H3 _ I3 q3) fun w' s4 ⟨z', H4, I4, r4, q4⟩ => ho' pins s4 σ H4 y z' u w' Q I4 r2 r4 q4))
theorem pt_chain {op op' : CmpOp} {r r' : R2} (ho : OpR X (compareOp op) r) (ho' : OpR X (compareOp op') r') (ha : PE X a ta) (hb : PE X b tb) (hc : PE X c tc)
    (hm : lastMarks [op, op'] [b, c] = false := by with_unfolding_all rfl) : PT X (.Compare a [op, op'] [b, c] pos) (tTest (tChain r r' ta tb tc)) := by
  refine ⟨?_⟩
  intro pins s σ H Q I h
  refine isTrue_chain (thn (ha pins s σ H _ I h) fun v s1 ⟨x, H1, I1, r1, q1⟩ => test_link (thn (hb pins s1 σ H1 _ I1 q1) fun u s2 ⟨y, H2, I2, r2, q2⟩ =>
    thn (ho pins s2 σ H2 x y v u _ I2 r1 r2 q2) fun d s3 ⟨z, H3, I3, r3, k, e, q3⟩ => ?_)) hm
  subst e
  cases r3
  refine wpAny_truthy_bool ?_
  cases k with
  | false =>
    obtain ⟨k', e', q'⟩ := q3
    cases e'
    exact ite_ff ⟨H3, I3, q'⟩
  | true =>
    refine ite_tt (test_last (thn (hc pins s3 σ H3 _ I3 q3) fun w' s4 ⟨z', H4, I4, r4, q4⟩ => thn (ho' pins s4 σ H4 y z' u w' _ I4 r2 r4 q4) fun d' s5 ⟨z2, H5, I5, r5, k2, e2, q5⟩ => ?_))
    subst e2
    cases r5
    exact wpAny_truthy_bool ⟨H5, I5, q5⟩

/-! ### truth -/
theorem line63 : (sizeLine : Nat) < 2 ^ 63 := by rw [sizeLine_eq]; decide

/-! ### strs and bytes -/
theorem op_add_str : OpR X (binaryOp .Add) (fun x y H Q => ∃ i j, x = .str i ∧ y = .str j ∧ i.length + j.length ≤ sizeLine ∧ Q (.str (i ++ j)) H) := by
  intro pins s σ H x y v u Q I rx ry h
  obtain ⟨i, j, rfl, rfl, hz, q⟩ := h
  obtain ⟨t, rfl⟩ := rx
  obtain ⟨t', rfl⟩ := ry
  exact add_str (fun t' tk => ⟨.str (i ++ j), H, I.tok _, ⟨_, rfl⟩, q⟩) hz


/-! ### scalar builtins, by CallR -/
theorem vals1 {x : V} {us : List Value} (r : Vals [x] us) : ∃ u, us = [u] ∧ RelV x u := by
  cases r with
  | cons r1 r2 => cases r2; exact ⟨_, rfl, r1⟩
theorem vals2 {x y : V} {us : List Value} (r : Vals [x, y] us) : ∃ u w', us = [u, w'] ∧ RelV x u ∧ RelV y w' := by
  cases r with
  | cons r1 r2 =>
    cases r2 with
    | cons r3 r4 => cases r4; exact ⟨_, _, rfl, r1, r3⟩
theorem call_abs : CallR X (.builtin "abs") (fun xs H Q => ∃ i, xs = [.int i] ∧ Q (.int (if i < 0 then -i else i)) H) := by
  intro pins s σ H xs us Q I r h
  obtain ⟨i, rfl, q⟩ := h
  obtain ⟨u, rfl, t, rfl⟩ := vals1 r
  exact call_abs_int fun u tk => ⟨.int (if i < 0 then -i else i), H, I.tok _, ⟨_, rfl⟩, q⟩
theorem call_max2 (hc : X.calm = true) : CallR X (.builtin "max") (fun xs H Q => ∃ i j, xs = [.int i, .int j] ∧ Q (.int (if j > i then j else i)) H) := by
  intro pins s σ H xs us Q I r h
  obtain ⟨i, j, rfl, q⟩ := h
  obtain ⟨u, w', rfl, ⟨t, rfl⟩, ⟨t', rfl⟩⟩ := vals2 r
  refine max_two_ints (I.ok.hd hc) fun h' tk k => ⟨_, H, I.kept k, ?_, q⟩
  by_cases hj : j > i
  · rw [if_pos hj, if_pos hj]; exact ⟨_, rfl⟩
  · rw [if_neg hj, if_neg hj]; exact ⟨_, rfl⟩
theorem call_min2 (hc : X.calm = true) : CallR X (.builtin "min") (fun xs H Q => ∃ i j, xs = [.int i, .int j] ∧ Q (.int (if j < i then j else i)) H) := by
  intro pins s σ H xs us Q I r h
  obtain ⟨i, j, rfl, q⟩ := h
  obtain ⟨u, w', rfl, ⟨t, rfl⟩, ⟨t', rfl⟩⟩ := vals2 r
  refine min_two_ints (I.ok.hd hc) fun h' tk k => ⟨_, H, I.kept k, ?_, q⟩
  by_cases hj : j < i
  · rw [if_pos hj, if_pos hj]; exact ⟨_, rfl⟩
  · rw [if_neg hj, if_neg hj]; exact ⟨_, rfl⟩
theorem call_int1 : CallR X (.type "int") (fun xs H Q => (∃ i, xs = [.int i] ∧ Q (.int i) H) ∨ ∃ k, xs = [.bl k] ∧ Q (.int (if k then 1 else 0)) H) := by
  intro pins s σ H xs us Q I r h
  rcases h with ⟨i, rfl, q⟩ | ⟨k, rfl, q⟩
  · obtain ⟨u, rfl, t, rfl⟩ := vals1 r
    exact call_int_int ⟨.int i, H, I, ⟨_, rfl⟩, q⟩
  · obtain ⟨u, rfl, r1⟩ := vals1 r
    cases r1
    exact call_int_bool ⟨.int (if k then 1 else 0), H, I.tok _, ⟨_, rfl⟩, q⟩
theorem call_str_int : CallR X (.type "str") (fun xs H Q => ∃ i, xs = [.int i] ∧ i.natAbs.log2 < 1920 ∧ Q (.str (toString i)) H) := by
  intro pins s σ H xs us Q I r h
  obtain ⟨i, rfl, hz, q⟩ := h
  obtain ⟨u, rfl, t, rfl⟩ := vals1 r
  exact PySem.P.str_of_int hz ⟨.str _, H, I.tok _, ⟨_, rfl⟩, q⟩
end
end L2

namespace L2
open PySem PySem.Spec PyProof.Rows

/-! ### an instance, its attributes a map -/
structure ObjM (h : Heap) (x dx C : Addr) (mA : Str → Option Value) : Prop where
  obj : h.get? x = some (PySem.W.instObj C dx)
  ns : h.Ns1 dx mA
  ne : dx ≠ x

theorem lookIn_ns {h : Heap} {dx : Addr} {mA : Str → Option Value} (n : h.Ns1 dx mA) : ∃ od, h.get? dx = some od ∧ ∀ name, PySem.W.lookIn name od = some (mA name) := by
  obtain ⟨o, es, ep, ho, hd, hk, _, hm⟩ := n
  refine ⟨o, ho, fun name => ?_⟩
  have e := hm name
  unfold nsFind findBy at e
  rw [← Array.find?_toList] at e
  unfold PySem.W.lookIn
  rw [hd]
  dsimp only
  split
  · rename_i y q
    rw [q] at e
    exact congrArg some e
  · rename_i q
    rw [q] at e
    have a : es.toList.any (·.refKey) = false := by
      rw [List.any_eq_false]
      intro y hy
      obtain ⟨z, t, hkey⟩ := hk y (Array.mem_toList_iff.mp hy)
      simp [DictEntry.refKey, hkey]
    have a' : ¬ es.toList.any (·.refKey) = true := by rw [a]; exact Bool.false_ne_true
    rw [if_neg a']
    exact congrArg some e

theorem ObjM.look {h : Heap} {x dx C : Addr} {mA : Str → Option Value} (I : ObjM h x dx C mA) : ∃ od, PySem.W.InstAt h x (PySem.W.instObj C dx) C (some od) ∧ ∀ name, PySem.W.lookIn name od = some (mA name) :=
  let ⟨od, ho, hl⟩ := lookIn_ns I.ns
  ⟨od, ⟨I.obj, rfl, rfl, ho⟩, hl⟩

section
variable {prog : Program} {w : World} {A : Around} {E : Value → Shared → Prop} {s : Shared} {K : PySem.W.Frag} {x dx C f : Addr} {mA : Str → Option Value} {name : Str} {v : Value}

theorem get_map {expr : Bool} {Q : Value → Shared → Prop} (X : K.In s.heap) (I : ObjM s.heap x dx C mA) (hg : PySem.W.plainGet K C name = true) (hh : PySem.W.hasDictIn K C = true)
    (ha : PySem.W.findIn K (.ref C) name = some none) (hv : mA name = some v) (hv' : PySem.W.handedIn v = true) (h : Q v { s with toks := s.toks + 1 }) :
    wpAny (model prog w) A (getAttr (.ref x) name expr) Q E s := by
  obtain ⟨od, J, hl⟩ := I.look
  exact PySem.W.get_value X J (PySem.W.plainGet_of hg).1 (PySem.W.findObj_own hh ha rfl (by rw [hl, hv])) hv' h


theorem get_meth {pl : Sem Bool} {Q : Value × List Value → Shared → Prop} (X : K.In s.heap) (I : ObjM s.heap x dx C mA) (hg : PySem.W.plainGet K C name = true)
    (hf : PySem.W.findIn K (.ref C) name = some (some (.ref f))) (ht : PySem.W.isFn K (.ref f) = true) (hv : mA name = none) (h : Q (.ref f, [.ref x]) s) :
    wpAny (model prog w) A (getMethod (.ref x) name pl) Q E s := by
  obtain ⟨od, J, hl⟩ := I.look
  exact PySem.W.method_fn X J (PySem.W.plainGet_of hg).1 (PySem.W.plainGet_of hg).2 hf (beq_iff_eq.mp ht) (by show (PySem.W.lookIn name od).map (·.isSome) = some false; rw [hl, hv]; rfl) h

theorem set_map {ns : List Str} {Q : Unit → Shared → Prop} (X : K.In s.heap) (I : ObjM s.heap x dx C mA)
    (hs : PySem.W.findIn K (.ref C) "__setattr__" = some (some (.builtin "object.__setattr__"))) (hp : PySem.W.plainOver K C = true) (ht : PySem.W.takerIn K C name = some none) (hh : PySem.W.hasDictIn K C = true)
    (hw : PySem.Within mA ns) (hsz : ns.length ≤ sizeLine)
    (h : ∀ h', ObjM h' x dx C (fun y => if y = name then some v else mA y) → Heap.SameBut dx s.heap h' → Q () { s with heap := h', toks := s.toks + 2 }) :
    wpAny (model prog w) A (setAttr (.ref x) name v) Q E s := by
  obtain ⟨od, J, hl⟩ := I.look
  refine PySem.W.set_plain X J hs (PySem.W.osa_open (s := { s with toks := s.toks + 1 }) (r := none) X J hp ht fun b => ?_)
  obtain ⟨cd, hc, hd'⟩ := PySem.W.any_some hh
  have hx : s.heap.get? x = some ⟨.ref C, some dx, .plain, #[]⟩ := I.obj
  refine wpAny_bind (wpAny_pure (wpAny_bind (wpAny_bind (wpAny_loadPart hx (wpAny_bind (PySem.W.Looks.here (s := { s with toks := s.toks + 1 }) (PySem.W.looks_clsIn X hc) ?_))))))
  rw [hd']
  refine wpAny_pure (a := some dx) (wpAny_bind (wpAny_pure (wpAny_bind ?_)))
  refine wpAny_nsSet1 (s := { s with toks := s.toks + 1 }) I.ns fun h' hn2 hs2 => ?_
  obtain ⟨oD, esD, epD, hoD, hdD, hcD⟩ := hn2.count (PySem.Within.cons name v hw)
  refine wpAny_bind (wpAny_lookBehind hoD (by rw [hdD]; exact pastItsLine_dict (Nat.le_trans hcD (by rw [List.length_cons]; omega))) ?_)
  exact wpAny_pure (h _ ⟨(hs2.2 _ (Ne.symm I.ne)).trans I.obj, hn2, I.ne⟩ hs2)

/-- C(..): the dict at the heap's end, the instance behind it; then its __init__ -/
theorem make_map {R : Result → Shared → Prop} {vs : List Value} {kw : List (Str × Value)} (X : K.In s.heap) (hm : PySem.W.makesIn K C = true)
    (hi : PySem.W.findIn K (.ref C) "__init__" = some (some (.ref f))) (hf : PySem.W.typeIn K (.ref f) = some (.type "function"))
    (h : codeAny (model prog w) (A.under (.builtin "type.__call__" ⟨.ref C :: vs, kw⟩)) (.call (.ref f) ⟨.ref (s.heap.objs.size + 1) :: vs, kw⟩) (PySem.W.InitBack (s.heap.objs.size + 1) R)
      { s with heap := (s.heap.push PySem.W.emptyDict).push (PySem.W.instObj C s.heap.objs.size) }) :
    codeAny (model prog w) A (.call (.ref C) ⟨vs, kw⟩) R s := by
  obtain ⟨hh, g, d, t, os⟩ := s
  exact PySem.W.make_core (PySem.W.makes_of X hm) (PySem.W.looks_findIn X hi) (fun self => PySem.W.bind_fn X self hf) (.inl rfl) h
end

/-! ### the attributes as a list of pairs -/
def putF (f : Str) (v : V) : List (Str × V) → List (Str × V)
  | [] => [(f, v)]
  | (g, x) :: r => if g = f then (g, v) :: r else (g, x) :: putF f v r
theorem lookup_putF (f g : Str) (v : V) : ∀ fs : List (Str × V), (putF f v fs).lookup g = if g = f then some v else fs.lookup g
  | [] => by
    show List.lookup g [(f, v)] = _
    by_cases h : g = f
    · have hb : (g == f) = true := beq_iff_eq.mpr h
      simp only [List.lookup, hb, if_pos h]
    · have hb : (g == f) = false := beq_eq_false_iff_ne.mpr h
      simp only [List.lookup, hb, if_neg h]
  | (k, x) :: r => by
    have ih := lookup_putF f g v r
    rw [show putF f v ((k, x) :: r) = (if k = f then (k, v) :: r else (k, x) :: putF f v r) from rfl]
    by_cases hk : k = f
    · rw [if_pos hk]
      by_cases h : g = k
      · have hb : (g == k) = true := beq_iff_eq.mpr h
        simp only [List.lookup, hb, if_pos (h.trans hk)]
      · have hb : (g == k) = false := beq_eq_false_iff_ne.mpr h
        simp only [List.lookup, hb, if_neg (fun e : g = f => h (e.trans hk.symm))]
    · rw [if_neg hk]
      by_cases h : g = k
      · have hb : (g == k) = true := beq_iff_eq.mpr h
        simp only [List.lookup, hb, if_neg (fun e : g = f => hk (h.symm.trans e))]
      · have hb : (g == k) = false := beq_eq_false_iff_ne.mpr h
        simp only [List.lookup, hb]
        exact ih
theorem keys_putF (f : Str) (v : V) : ∀ fs : List (Str × V), f ∈ (putF f v fs).map (·.1) ∧ ∀ g, g ∈ fs.map (·.1) → g ∈ (putF f v fs).map (·.1)
  | [] => ⟨by simp [putF], fun g h => by simp at h⟩
  | (k, x) :: r => by
    obtain ⟨i1, i2⟩ := keys_putF f v r
    rw [show putF f v ((k, x) :: r) = (if k = f then (k, v) :: r else (k, x) :: putF f v r) from rfl]
    by_cases hk : k = f
    · rw [if_pos hk]
      subst hk
      exact ⟨by simp, fun g h => by simpa using h⟩
    · rw [if_neg hk]
      refine ⟨?_, fun g h => ?_⟩
      · rw [List.map_cons]
        exact List.mem_cons_of_mem _ i1
      · rw [List.map_cons] at h ⊢
        rcases List.mem_cons.mp h with e | e
        · exact List.mem_cons.mpr (.inl e)
        · exact List.mem_cons_of_mem _ (i2 g e)
theorem length_putF (f : Str) (v : V) : ∀ fs : List (Str × V), (putF f v fs).length ≤ fs.length + 1
  | [] => by simp [putF]
  | (k, x) :: r => by
    have ih := length_putF f v r
    rw [show putF f v ((k, x) :: r) = (if k = f then (k, v) :: r else (k, x) :: putF f v r) from rfl]
    by_cases hk : k = f
    · rw [if_pos hk, List.length_cons, List.length_cons]; omega
    · rw [if_neg hk, List.length_cons, List.length_cons]; omega

theorem RelO.some_of {v : V} {o : Option Value} (r : RelO (some v) o) : ∃ u, o = some u ∧ RelV v u := by
  cases o with
  | none => exact (show False from r).elim
  | some u => exact ⟨u, rfl, r⟩
theorem RelO.none_of {o : Option Value} (r : RelO none o) : o = none := by
  cases o with
  | none => rfl
  | some u => exact (show False from r).elim
theorem handed_of {v : V} {u : Value} (r : RelV v u) : PySem.W.handedIn u = true := by
  cases v with
  | non => cases (show u = Value.none from r); rfl
  | bl b => cases (show u = Value.bool b from r); rfl
  | int i => obtain ⟨t, e⟩ := (show ∃ t, u = Value.int i t from r); cases e; rfl
  | str x => obtain ⟨t, e⟩ := (show ∃ t, u = Value.str x t from r); cases e; rfl
  | byt b => obtain ⟨t, e⟩ := (show ∃ t, u = Value.bytes b t from r); cases e; rfl
  | flt b => obtain ⟨t, e⟩ := (show ∃ t, u = Value.float b t from r); cases e; rfl
  | ref a => cases (show u = Value.ref a from r); rfl
  | ty n => cases (show u = Value.type n from r); rfl

section
variable {P : Program} {w : World} {H H' : Hp} {h h' : Heap} {a C dx : Addr} {fs fs' : List (Str × V)}
theorem ins_get (hok : HOk P w H h) (e : H a = some (.ins C dx fs)) : ∃ mA, ObjM h a dx C mA ∧ (∀ f, RelO (fs.lookup f) (mA f)) ∧ PySem.Within mA (fs.map (·.1)) ∧ fs.length ≤ 1000 ∧ H dx = some (.own a) := by
  obtain ⟨d, z, ne, ob, mA, n, r, q⟩ := (show ObjOk P w H h a (.ins C dx fs) from hok a _ e)
  exact ⟨mA, ⟨ob, n, ne⟩, r, q, z, d⟩
end

/-! ### what of the text a class must have -/
structure Cls (K : PySem.W.Frag) (C : Addr) : Prop where
  pg : PySem.W.plainGet K C Str.empty = true
  hd : PySem.W.hasDictIn K C = true
  po : PySem.W.plainOver K C = true
  sa : PySem.W.findIn K (.ref C) "__setattr__" = some (some (.builtin "object.__setattr__"))
theorem Cls.get {K : PySem.W.Frag} {C : Addr} (c : Cls K C) (f : Str) : PySem.W.plainGet K C f = true := c.pg
/-- no class of it has the name -/
def NoAttr (K : PySem.W.Frag) (C : Addr) (f : Str) : Prop := PySem.W.findIn K (.ref C) f = some none
theorem NoAttr.taker {K : PySem.W.Frag} {C : Addr} {f : Str} (n : NoAttr K C f) : PySem.W.takerIn K C f = some none := by
  unfold PySem.W.takerIn
  rw [show PySem.W.findIn K (.ref C) f = some none from n]
  rfl
/-- a method: a plain def of the class or of one above it -/
structure Meth (K : PySem.W.Frag) (C : Addr) (m : Str) (f : Addr) : Prop where
  at_ : PySem.W.findIn K (.ref C) m = some (some (.ref f))
  fn : PySem.W.isFn K (.ref f) = true
  kp : PySem.W.keepIn K (.ref f) = true

section
variable {X : Cx} {pins : List (Addr × Obj)} {σ : St} {H : Hp} {s : Shared} {a C dx : Addr} {fs : List (Str × V)} {f : Str} {v : V} {A : Around} {E : Value → Shared → Prop}

theorem getattr_ok {b : Bool} {Q : Value → Shared → Prop} (I : Inv X pins σ H s) (e : H a = some (.ins C dx fs)) (c : Cls X.K C) (n : NoAttr X.K C f) (l : fs.lookup f = some v)
    (h : ∀ u s', Inv X pins σ H s' → RelV v u → Q u s') : wpAny (model X.prog X.w) A (getAttr (.ref a) f b) Q E s := by
  obtain ⟨mA, O, r, _, _, _⟩ := ins_get I.hok e
  obtain ⟨u, hu, ru⟩ := RelO.some_of (v := v) (o := mA f) (by rw [← l]; exact r f)
  exact get_map I.kIn O (c.get f) c.hd n hu (handed_of ru) (h u _ (I.tok _) ru)


theorem getmeth_ok {m : Str} {g : Addr} {pl : Sem Bool} {Q : Value × List Value → Shared → Prop} (I : Inv X pins σ H s) (e : H a = some (.ins C dx fs)) (c : Cls X.K C) (k : Meth X.K C m g) (l : fs.lookup m = none)
    (h : Q (.ref g, [.ref a]) s) : wpAny (model X.prog X.w) A (getMethod (.ref a) m pl) Q E s := by
  obtain ⟨mA, O, r, _, _, _⟩ := ins_get I.hok e
  have hn : mA m = none := RelO.none_of (by rw [← l]; exact r m)
  exact get_meth I.kIn O (c.get m) k.at_ k.fn hn h

theorem setattr_ok {y : V} {u : Value} {Q : Unit → Shared → Prop} (I : Inv X pins σ H s) (e : H a = some (.ins C dx fs)) (c : Cls X.K C) (n : NoAttr X.K C f) (hl : fs.length < 1000) (ry : RelV y u)
    (h : ∀ s', Inv X pins σ (upd H a (.ins C dx (putF f y fs))) s' → Q () s') : wpAny (model X.prog X.w) A (setAttr (.ref a) f u) Q E s := by
  obtain ⟨mA, O, r, wi, _, ho⟩ := ins_get I.hok e
  have hz : (fs.map (·.1)).length ≤ sizeLine := by rw [List.length_map, sizeLine_eq]; omega
  refine set_map I.kIn O c.sa c.po n.taker c.hd wi hz fun h' O' sb => h _ ?_
  have hd : ∃ o, h'.get? dx = some o := let ⟨o, _, _, e', _⟩ := O'.ns; ⟨o, e'⟩
  refine I.write (x := a) (e := dx) (by rw [e]; exact True.intro) (.inr ho) (fun b q hb z => (sb.2 b hb).trans z) hd ?_
  refine ⟨by rw [upd_ne O.ne]; exact ho, ?_, O.ne, O'.obj, _, O'.ns, fun g => ?_, fun g hg => ?_⟩
  · have := length_putF f y fs; omega
  · show RelO ((putF f y fs).lookup g) (if g = f then some u else mA g)
    rw [lookup_putF]
    by_cases q : g = f
    · rw [if_pos q, if_pos q]; exact ry
    · rw [if_neg q, if_neg q]; exact r g
  · by_cases q : g = f
    · rw [q]; exact (keys_putF f y fs).1
    · refine (keys_putF f y fs).2 g (wi g fun z => hg ?_)
      show (if g = f then some u else mA g) = none
      rw [if_neg q]; exact z

/-- a new instance, tracked, without attributes -/
theorem Inv.made (I : Inv X pins σ H s) : Inv X pins σ (upd (upd H s.heap.objs.size (.own (s.heap.objs.size + 1))) (s.heap.objs.size + 1) (.ins C s.heap.objs.size []))
    { s with heap := (s.heap.push PySem.W.emptyDict).push (PySem.W.instObj C s.heap.objs.size) } := by
  have e1 : (s.heap.push PySem.W.emptyDict).get? s.heap.objs.size = some PySem.W.emptyDict := Heap.get?_push_size s.heap rfl
  have e2 : ((s.heap.push PySem.W.emptyDict).push (PySem.W.instObj C s.heap.objs.size)).get? (s.heap.objs.size + 1) = some (PySem.W.instObj C s.heap.objs.size) := by
    have := Heap.get?_push_size (s.heap.push PySem.W.emptyDict) (o := PySem.W.instObj C s.heap.objs.size) rfl
    rwa [Heap.size_push] at this
  have e3 : (s.heap.push PySem.W.emptyDict).Ns s.heap.objs.size (fun _ => none) := ⟨PySem.W.emptyDict, #[], _, e1, rfl, (fun e he => absurd he (by simp)), fun _ => rfl⟩
  have I1 := I.laid (a := s.heap.objs.size) (o := .own (s.heap.objs.size + 1)) (h' := s.heap.push PySem.W.emptyDict) (t' := s.toks) (fun b u q => Heap.get?_push_of_some _ q) (Nat.le_refl _) ⟨_, e1⟩
  refine I1.laid (a := s.heap.objs.size + 1) (o := .ins C s.heap.objs.size []) (t' := s.toks) (fun b u q => Heap.get?_push_of_some _ q) (Nat.le_of_eq (Heap.size_push _ _)) ?_
  have ne : s.heap.objs.size ≠ s.heap.objs.size + 1 := Nat.ne_of_lt (Nat.lt_succ_self _)
  refine ⟨by rw [upd_ne ne, upd_same], Nat.zero_le _, ne, e2, fun _ => none, (Heap.Ns1.of_empty e3).at fun o q => Heap.get?_push_of_some _ q, fun _ => True.intro, fun y hy => absurd rfl hy⟩

/-- e.f where nothing but the object is asked: through attributeBase (super) and the last hold -/
theorem attr_of {prog : Program} {w : World} {env : Env} {e : Expr} {f : Str} {pos : Pos} {s : Shared} {Q : Value → Shared → Prop} (hb : attributeBase e f env (eval e env) = eval e env)
    (h : wpAny (model prog w) A (eval e env) (fun o s₁ => wpAny (model prog w) A (getAttr o f true) Q E s₁) E s) : wpAny (model prog w) A (eval (.Attribute e f pos) env) Q E s :=
  Attribute_any_ h (by rw [arm_eval_Attribute, hb])
end

/-! ### readings and rules -/
/-- e.f, an attribute of the instance -/
inductive rFld (K : PySem.W.Frag) (f : Str) (x : V) (H1 : Hp) (Q : VK) : Prop
  | mk (a C dx : Addr) (fs : List (Str × V)) (v : V) (e : x = .ref a) (h : H1 a = some (.ins C dx fs)) (c : Cls K C) (n : NoAttr K C f) (l : fs.lookup f = some v) (q : Q v H1) : rFld K f x H1 Q
def tFld (K : PySem.W.Frag) (ta : TE) (f : Str) : TE := fun σ H Q => ta σ H fun x H1 => rFld K f x H1 Q
/-- e.f = value -/
def sFld (K : PySem.W.Frag) (ta tv : TE) (f : Str) : TS := fun D σ H => tv σ H fun y H1 => ta σ H1 fun x H2 => ∃ a C dx fs, x = .ref a ∧ H2 a = some (.ins C dx fs) ∧ Cls K C ∧ NoAttr K C f ∧ fs.length < 1000 ∧
  D.nx σ (upd H2 a (.ins C dx (putF f y fs)))

section
variable {X : Cx} {o e value : Expr} {f : Str} {pos pos' tpos : Pos} {ta tv : TE}
theorem pe_fld (he : PE X e ta) (hb : attributeBase e f X.env (eval e X.env) = eval e X.env) : PE X (.Attribute e f pos) (tFld X.K ta f) := by
  refine ⟨?_⟩
  intro pins s σ H Q I h
  refine attr_of hb (thn (he pins s σ H _ I h) fun u s1 ⟨x, H1, I1, rx, a, C, dx, fs, v, ex, ea, c, n, l, q⟩ => ?_)
  subst ex
  obtain rfl : u = Value.ref a := rx
  exact getattr_ok I1 ea c n l fun u' s2 I2 ru => ⟨v, H1, I2, ru, q⟩
theorem ps_fld (ha : PE X o ta) (hv : PE X value tv) (hs : swapsWith value (some (.Attribute o f pos')) pos.line X.env = pure false) : PS X (.Assign [.Attribute o f pos'] value pos) (sFld X.K ta tv f) := by
  refine ⟨?_⟩
  intro pins s σ H D I h
  refine plainObj_wpAny_Assign_Attribute (thn (hv pins s σ H _ I h) fun u s1 ⟨y, H1, I1, ry, q⟩ => thn (ha pins s1 σ H1 _ I1 q) fun ov s2 ⟨x, H2, I2, rx, a, C, dx, fs, ex, ea, c, n, l, q2⟩ => ?_) hs
  subst ex
  obtain rfl : ov = Value.ref a := rx
  exact setattr_ok I2 ea c n l ry fun s3 I3 => ⟨σ, _, I3, q2⟩

end

/-! ### isinstance -/
section
variable {X : Cx} {pins : List (Addr × Obj)} {σ : St} {H : Hp} {s : Shared} {A : Around} {E : Value → Shared → Prop} {Q : Value → Shared → Prop} {c : Value} {b : Bool}
end
end L2

namespace L2
open PySem PySem.Spec PyProof.Rows

/-! ### room -/
structure Room (k : Nat) (A : Around) : Prop where
  hd : A.handled = none
  dp : A.depth + 3 * k + 5 < recursionLimit
  un : A.units + 16 * k + 200 < cLine
  gd : A.guards = some []
theorem Room.mono {j k : Nat} {A : Around} (r : Room k A) (h : j ≤ k) : Room j A := ⟨r.hd, by have := r.dp; omega, by have := r.un; omega, r.gd⟩
theorem Room.deeper {k : Nat} {A : Around} (r : Room (k + 1) A) (env : Env) : Room k (A.deeper env) :=
  ⟨r.hd, by have := r.dp; show A.depth + 1 + 3 * k + 5 < _; omega, by have := r.un; show A.units + 3 + 16 * k + 200 < _; omega, r.gd⟩
theorem make_depth {A : Around} {C : Addr} {us : List Value} {kw : List (Str × Value)} : (A.under (.builtin "type.__call__" ⟨.ref C :: us, kw⟩)).depth = A.depth + 1 := by
  first | rfl | simp [Around.under, Code.weight, Code.isCreation, Code.isGuard, Code.isCaller, Code.frames, Code.isFrame, guardIds]
theorem make_units {A : Around} {C : Addr} {us : List Value} {kw : List (Str × Value)} : (A.under (.builtin "type.__call__" ⟨.ref C :: us, kw⟩)).units = A.units + 1 := by
  first | rfl | simp [Around.under, Code.cUnits, Code.frames, Code.isFrame]
theorem make_guards {A : Around} {C : Addr} {us : List Value} {kw : List (Str × Value)} : (A.under (.builtin "type.__call__" ⟨.ref C :: us, kw⟩)).guards = A.guards := by
  first | rfl | simp [Around.under, Code.weight, Code.isCreation, Code.isGuard, Code.isCaller, Code.frames, Code.isFrame, guardIds]
theorem Room.make {k : Nat} {A : Around} (r : Room (k + 1) A) (C : Addr) (us : List Value) (kw : List (Str × Value)) : Room k (A.under (.builtin "type.__call__" ⟨.ref C :: us, kw⟩)) :=
  ⟨r.hd, by have := r.dp; rw [make_depth]; omega, by have := r.un; rw [make_units]; omega, by rw [make_guards]; exact r.gd⟩
theorem Room.depth {k : Nat} {A : Around} (r : Room k A) : A.depth < recursionLimit := by have := r.dp; omega
theorem Room.units {k : Nat} {A : Around} (r : Room k A) : A.units + 64 < cLine := by have := r.un; omega

/-! ### argument lists and displays -/
abbrev tNil : TA := fun _ H Q => Q [] H
abbrev tCons (ta : TE) (tr : TA) : TA := fun σ H Q => ta σ H fun x H1 => tr σ H1 fun xs H2 => Q (x :: xs) H2
section
variable {X : Cx} {e : Expr} {es : List Expr} {te : TE} {t : TA} {pos : Pos}
theorem pa_nil : PA X [] tNil := .mk fun _ _ _ _ H Q I h => Calls.spliced_nil ⟨[], H, I, .nil, h⟩
theorem pa_cons (ha : PE X e te) (hr : PA X es t) (hs : starEach (e :: es) X.env = (false, eval e X.env) :: starEach es X.env := by rfl) : PA X (e :: es) (tCons te t) := by
  refine ⟨?_⟩
  intro pos pins s σ H Q I h
  rw [hs]
  show wpAny _ _ (spliced ((false, eval e X.env) :: backTo pos (starEach es X.env))) _ _ s
  refine Calls.spliced_cons (thn (ha pins s σ H _ I h) fun u s1 ⟨x, H1, I1, r1, q1⟩ => ?_)
  exact thn (hr pos pins s1 σ H1 _ I1 q1) fun us s2 ⟨xs, H2, I2, r2, q2⟩ => ⟨x :: xs, H2, I2, .cons r1 r2, q2⟩

/-- a tuple, a list of written items -/
def tTup (t : TA) : TE := fun σ H Q => t σ H fun xs H1 => xs.length ≤ sizeLine ∧ ∀ p, H1 p = none → Q (.ref p) (upd H1 p (.tup xs))
def tLst (t : TA) : TE := fun σ H Q => t σ H fun xs H1 => xs.length ≤ sizeLine ∧ ∀ p, H1 p = none → Q (.ref p) (upd H1 p (.lst xs))
theorem pe_tup {x1} (h : PA X es t) : PE X (.Tuple es x1 pos) (tTup t) := by
  refine ⟨?_⟩
  intro pins s σ H Q I hq
  refine wpAny_Tuple_spliced (thn (h pos pins s σ H _ I hq) fun us s1 ⟨xs, H1, I1, r, z, q⟩ => ⟨by rw [← r.length]; exact z, ?_⟩)
  have hf : H1 s1.heap.objs.size = none := I1.hok.fresh (Nat.le_refl _)
  refine ⟨.ref s1.heap.objs.size, upd H1 s1.heap.objs.size (.tup xs), I1.laid (t' := s1.toks) (fun b u e => Heap.get?_push_of_some _ e) (Nat.le_refl _) ?_, rfl, q _ hf⟩
  exact ⟨z, us, r, ⟨_, Heap.get?_push_size _ rfl, rfl, _, rfl⟩⟩
theorem pe_lst (h : PA X es t) : PE X (.List es pos) (tLst t) := by
  refine ⟨?_⟩
  intro pins s σ H Q I hq
  refine wpAny_List_spliced (thn (h pos pins s σ H _ I hq) fun us s1 ⟨xs, H1, I1, r, z, q⟩ => ⟨by rw [← r.length]; exact z, ?_⟩)
  have hf : H1 s1.heap.objs.size = none := I1.hok.fresh (Nat.le_refl _)
  refine ⟨.ref s1.heap.objs.size, upd H1 s1.heap.objs.size (.lst xs), I1.laid (t' := s1.toks) (fun b u e => Heap.get?_push_of_some _ e) (Nat.le_refl _) ?_, rfl, q _ hf⟩
  exact ⟨z, us, 0, r, Heap.get?_push_size _ rfl⟩
end

/-! ### what a def promises -/
/-- a def's promise: the bound arguments in the parameters' order, the heap, the wanted end, the wanted exception -/
abbrev Sp := List V → Hp → VK → XK → Prop
/-- how an exception lies behind a call (file 08 gives it): the callers' frames, abstract heap and state ahead of the call, the wish, the exception, the state -/
abbrev CXT := List Env → Hp → Shared → XK → Value → Shared → Prop

/-- the state at a call -/
structure Env0 (P : Program) (w : World) (K : PySem.W.Frag) (mg : Str → Option Value) (base : Heap) (A : Around) (outer : List Env) (s : Shared) (H : Hp) : Prop where
  frames : A.frames = some outer
  mod : Mod K mg base
  bs : ∀ b o, base.get? b = some o → s.heap.get? b = some o ∧ H b = none
  bsz : base.objs.size ≤ s.heap.objs.size
  funs : s.heap.FunFrames base outer
  frf : ∀ b ∈ frs outer, H b = none
  hok : HOk P w H s.heap
  bare : AllBare s.gens
/-- a call's end -/
def CE (outer : List Env) (P : Program) (w : World) (H : Hp) (s : Shared) (Q : VK) (u : Value) (s' : Shared) : Prop :=
  ∃ v H', s'.os = s.os ∧ AllBare s'.gens ∧ Un (frs outer) [] H H' s.heap s'.heap ∧ HOk P w H' s'.heap ∧ RelV v u ∧ Q v H'
def CR (CX : CXT) (outer : List Env) (P : Program) (w : World) (H : Hp) (s : Shared) (Q : VK) (E : XK) (r : Result) (s' : Shared) : Prop :=
  match r with
  | .ok (.ret u) => CE outer P w H s Q u s'
  | .ok _ => False
  | .error e => CX outer H s E e s'
structure FnOk (P : Program) (w : World) (K : PySem.W.Frag) (mg : Str → Option Value) (base : Heap) (CX : CXT) (k : Nat) (f : Addr) (fd : FuncData) (ps : List Str) (sp : Sp) : Prop where
  len : ∀ vs H Q E, sp vs H Q E → vs.length = ps.length
  run : ∀ (A : Around) (outer : List Env) (s : Shared) (H : Hp) (args : Args) (us : List Value) (vs : List V) (Q : VK) (E : XK), Room k A → Env0 P w K mg base A outer s H → BindsTo s fd args (ps.zip us) → Vals vs us → sp vs H Q E →
    codeAny (model P w) A (.call (.ref f) args) (CR CX outer P w H s Q E) s

theorem Env0.make {P : Program} {w : World} {K : PySem.W.Frag} {mg : Str → Option Value} {base : Heap} {A : Around} {outer : List Env} {s : Shared} {H : Hp} (e : Env0 P w K mg base A outer s H) (C : Addr) (us : List Value) (kw : List (Str × Value)) :
    Env0 P w K mg base (A.under (.builtin "type.__call__" ⟨.ref C :: us, kw⟩)) outer s H := ⟨by first | exact e.frames | (simpa [Around.under, Code.envs, Code.isFrame, pushEnvs] using e.frames), e.mod, e.bs, e.bsz, e.funs, e.frf, e.hok, e.bare⟩

section
variable {X : Cx} {pins : List (Addr × Obj)} {σ : St} {H : Hp} {s s' : Shared}
/-- from a body: what a callee wants -/
theorem Inv.env0 (I : Inv X pins σ H s) : Env0 X.prog X.w X.K X.mg X.base X.A X.stack s H :=
  ⟨I.ok.frames, I.ok.mod, I.bs, Nat.le_trans I.ok.bsz I.sz, I.stack, I.stkFree, I.hok, I.bare⟩
/-- behind a call -/
theorem Inv.after {Q : VK} {u : Value} (I : Inv X pins σ H s) (h : CE X.stack X.prog X.w H s Q u s') : EP X pins σ Q u s' := by
  obtain ⟨v, H', os, bare, un, hok, r, q⟩ := h
  obtain ⟨hh, g, d, t, os'⟩ := s'
  obtain rfl : os' = s.os := os
  exact ⟨v, H', I.call (h' := hh) (g' := g) (d' := d) (t' := t) (ch := []) un hok bare (fun b z => absurd z (by simp)), r, q⟩
end

/-! ### calls -/
/-- f(..): the written arguments, then the defaults dvs; E: what is wanted of an exception -/
abbrev tCall (sp : Sp) (dvs : List V) (E : XK) (t : TA) : TE := fun σ H Q => t σ H fun vs H1 => sp (vs ++ dvs) H1 Q E
/-- o.m(..) of an instance of the class at C -/
inductive rMeth (C : Addr) (m : Str) (x : V) (H1 : Hp) (R : Prop) : Prop
  | mk (a dx : Addr) (fs : List (Str × V)) (e : x = .ref a) (h : H1 a = some (.ins C dx fs)) (l : fs.lookup m = none) (q : R) : rMeth C m x H1 R
def tMeth (C : Addr) (m : Str) (sp : Sp) (dvs : List V) (E : XK) (ta : TE) (t : TA) : TE := fun σ H Q => ta σ H fun x H1 => rMeth C m x H1 (t σ H1 fun vs H2 => sp (x :: (vs ++ dvs)) H2 Q E)
/-- C(..): a new instance and its dict, then __init__ -/
def tMake (C : Addr) (sp : Sp) (dvs : List V) (E : XK) (t : TA) : TE := fun σ H Q => t σ H fun vs H1 => ∀ x dx, H1 x = none → H1 dx = none → dx ≠ x →
  sp (.ref x :: (vs ++ dvs)) (upd (upd H1 dx (.own x)) x (.ins C dx [])) (fun v H2 => v = .non ∧ Q (.ref x) H2) E

/-- how the parameters are bound: us the positional arguments, kw the keywords' values by name, ds the defaults that fill up -/
def Binds (K : PySem.W.Frag) (fd : FuncData) (ps : List Str) (ds : List Value) : Prop :=
  ∀ (s : Shared) (us : List Value), K.In s.heap → (us ++ ds).length = ps.length → BindsTo s fd ⟨us, []⟩ (ps.zip (us ++ ds))
/-- every parameter is given -/
theorem Binds.all {K : PySem.W.Frag} {fd : FuncData} {ps : List Str} (h : ∀ us : List Value, us.length = ps.length → bindArgs fd ⟨us, []⟩ = pure (ps.zip us)) : Binds K fd ps [] := fun s us _ hl => by
  rw [List.append_nil] at hl ⊢
  exact .of_eq (h us hl)

/-- an exception of a callee reaches what this body wants of exceptions -/
def Passes (CX : CXT) (X : Cx) (E : XK) : Prop := ∀ (pins : List (Addr × Obj)) (σ : St) (H : Hp) (s : Shared) (e : Value) (s' : Shared), Inv X pins σ H s → CX X.stack H s E e s' → X.xe e s'

section
variable {X : Cx} {CX : CXT} {k : Nat} {f C : Addr} {fd : FuncData} {ps : List Str} {sp : Sp} {dvs : List V} {ds : List Value} {E : XK} {x m : Str} {p pos apos : Pos} {e o : Expr} {es : List Expr} {ta : TE} {t : TA}

/-- the callee runs -/
theorem run_fn {pins : List (Addr × Obj)} {σ : St} {H : Hp} {s : Shared} {Q : VK} {us : List Value} {vs : List V} (F : FnOk X.prog X.w X.K X.mg X.base CX k f fd ps sp) (hr : Room k X.A) (hb : Binds X.K fd ps ds) (hd : Vals dvs ds) (hx : Passes CX X E)
    (I : Inv X pins σ H s) (r : Vals vs us) (h : sp (vs ++ dvs) H Q E) : wpAny (model X.prog X.w) X.A (call (.ref f) us) (EP X pins σ Q) X.xe s := by
  have r2 : Vals (vs ++ dvs) (us ++ ds) := r.append hd
  have hl : (us ++ ds).length = ps.length := by rw [← r2.length]; exact F.len _ _ _ _ h
  refine wpAny_call (codeAny_mono (F.run X.A X.stack s H ⟨us, []⟩ (us ++ ds) (vs ++ dvs) Q E hr I.env0 (hb s us I.kIn hl) r2 h) fun r s' hq => ?_)
  cases r with
  | error e => exact hx pins σ H s e s' I hq
  | ok fl =>
    cases fl with
    | ret u => exact I.after hq
    | next => exact False.elim hq
    | brk => exact False.elim hq
    | cont => exact False.elim hq

theorem pe_call (F : FnOk X.prog X.w X.K X.mg X.base CX k f fd ps sp) (hr : Room k X.A) (hg : Gl X x) (hm : X.mg x = some (.ref f)) (hk : PySem.W.keepIn X.K (.ref f) = true) (hb : Binds X.K fd ps ds) (hd : Vals dvs ds) (hx : Passes CX X E)
    (ha : PA X (e :: es) t) (hdb : (x == ("__debug__" : Str)) = false := by decide) (he : starEach (e :: es) X.env = (false, eval e X.env) :: starEach es X.env := by rfl) (hpl : (backTo pos (starEach es X.env)).any (·.1) = false := by rfl) :
    PE X (.Call (.Name x p) (e :: es) [] pos) (tCall sp dvs E t) := by
  refine ⟨?_⟩
  intro pins s σ H Q I h
  refine wpAny_Call_Name_kw (ld_glob I hg hm ?_ hdb)
  refine PySem.W.callWith_K (h₀ := X.base) I.ok.mod.kin hk (thn (ha pos pins s σ H _ I h) fun us s1 ⟨vs, H1, I1, r, q⟩ => ⟨I1.kIn, ?_⟩) he hpl
  exact run_fn F hr hb hd hx I1 r q

/-- o.m(e, ..) -/
theorem pe_meth {pl : Sem Bool} (he : PE X o ta) (c : Cls X.K C) (hm : Meth X.K C m f) (F : FnOk X.prog X.w X.K X.mg X.base CX k f fd ps sp) (hr : Room k X.A) (hb : Binds X.K fd ps ds) (hd : Vals dvs ds) (hx : Passes CX X E) (ha : PA X (e :: es) t)
    (hst : starEach (e :: es) X.env = (false, eval e X.env) :: starEach es X.env := by rfl) (hpl : (backTo pos (starEach es X.env)).any (·.1) = false := by rfl)
    (ht : eval (.Call (.Attribute o m apos) (e :: es) [] pos) X.env = (do
      let ov ← eval o X.env
      standAt apos.atName
      let (f, first) ← holding [ov] (getMethod ov m pl)
      callWith pos f first (backTo pos (starEach (e :: es) X.env)) (backToKw pos (keywordEach [] X.env))) := by rfl) :
    PE X (.Call (.Attribute o m apos) (e :: es) [] pos) (tMeth C m sp dvs E ta t) := by
  refine ⟨?_⟩
  intro pins s σ H Q I h
  refine PySem.W.methodCall_KW (pl := pl) (thn (he pins s σ H _ I h) fun u s1 ⟨x, H1, I1, rx, a, dx, fs, ex, ea, l, q⟩ => ?_) ht
  subst ex
  obtain rfl : u = Value.ref a := rx
  refine getmeth_ok I1 ea c hm l ?_
  refine PySem.W.callWith_K (first := [.ref a]) (h₀ := X.base) I.ok.mod.kin hm.kp (thn (ha pos pins s1 σ H1 _ I1 q) fun us s2 ⟨vs, H2, I2, r, q2⟩ => ⟨I2.kIn, ?_⟩) hst hpl
  exact run_fn (us := .ref a :: us) (vs := .ref a :: vs) F hr hb hd hx I2 (.cons rfl r) q2
/-- o.m() -/
theorem pe_meth0 {pl : Sem Bool} (he : PE X o ta) (c : Cls X.K C) (hm : Meth X.K C m f) (F : FnOk X.prog X.w X.K X.mg X.base CX k f fd ps sp) (hr : Room k X.A) (hb : Binds X.K fd ps ds) (hd : Vals dvs ds) (hx : Passes CX X E)
    (ht : eval (.Call (.Attribute o m apos) [] [] pos) X.env = (do
      let ov ← eval o X.env
      standAt apos.atName
      let (f, first) ← holding [ov] (getMethod ov m pl)
      callWith pos f first (backTo pos (starEach [] X.env)) (backToKw pos (keywordEach [] X.env))) := by rfl) :
    PE X (.Call (.Attribute o m apos) [] [] pos) (tMeth C m sp dvs E ta tNil) := by
  refine ⟨?_⟩
  intro pins s σ H Q I h
  refine PySem.W.methodCall_KW (pl := pl) (thn (he pins s σ H _ I h) fun u s1 ⟨x, H1, I1, rx, a, dx, fs, ex, ea, l, q⟩ => ?_) ht
  subst ex
  obtain rfl : u = Value.ref a := rx
  refine getmeth_ok I1 ea c hm l ?_
  exact PySem.W.callWith_K0 (first := [.ref a]) I1.kIn hm.kp (run_fn (us := [.ref a]) (vs := [.ref a]) F hr hb hd hx I1 (.cons rfl .nil) q)

/-- what a class must have to be made -/
structure Mk (K : PySem.W.Frag) (C f : Addr) : Prop where
  makes : PySem.W.makesIn K C = true
  init : PySem.W.findIn K (.ref C) "__init__" = some (some (.ref f))
  fn : PySem.W.isFn K (.ref f) = true
  kp : PySem.W.keepIn K (.ref C) = true

theorem run_make {pins : List (Addr × Obj)} {σ : St} {H : Hp} {s : Shared} {Q : VK} {us : List Value} {vs : List V} (M : Mk X.K C f) (F : FnOk X.prog X.w X.K X.mg X.base CX k f fd ps sp) (hr : Room (k + 1) X.A) (hb : Binds X.K fd ps ds) (hd : Vals dvs ds)
    (hx : Passes CX X E) (I : Inv X pins σ H s) (r : Vals vs us)
    (h : ∀ x dx, H x = none → H dx = none → dx ≠ x → sp (.ref x :: (vs ++ dvs)) (upd (upd H dx (.own x)) x (.ins C dx [])) (fun v H2 => v = .non ∧ Q (.ref x) H2) E) :
    wpAny (model X.prog X.w) X.A (call (.ref C) us) (EP X pins σ Q) X.xe s := by
  have hq := h (s.heap.objs.size + 1) s.heap.objs.size (I.hok.fresh (Nat.le_succ _)) (I.hok.fresh (Nat.le_refl _)) (Nat.ne_of_lt (Nat.lt_succ_self _))
  have I2 := Inv.made (C := C) I
  have r2 : Vals (V.ref (s.heap.objs.size + 1) :: (vs ++ dvs)) (Value.ref (s.heap.objs.size + 1) :: (us ++ ds)) := .cons rfl (r.append hd)
  have hl : (Value.ref (s.heap.objs.size + 1) :: us ++ ds).length = ps.length := by
    have e := r2.length
    rw [F.len _ _ _ _ hq] at e
    exact e.symm
  refine wpAny_call (make_map (f := f) I.kIn M.makes M.init (beq_iff_eq.mp M.fn) (codeAny_mono (F.run _ X.stack _ _ ⟨Value.ref (s.heap.objs.size + 1) :: us, []⟩ (Value.ref (s.heap.objs.size + 1) :: (us ++ ds)) _ _ E (hr.make C us [])
    (I2.env0.make C us []) (hb _ (Value.ref (s.heap.objs.size + 1) :: us) I2.kIn hl) r2 hq) fun r s' hq' => ?_))
  cases r with
  | error e => exact hx pins σ _ _ e s' I2 hq'
  | ok fl =>
    cases fl with
    | ret u =>
      obtain ⟨v, H', I3, rv, ev, q3⟩ := I2.after hq'
      subst ev
      exact ⟨rv, ⟨V.ref (s.heap.objs.size + 1), H', I3, rfl, q3⟩⟩
    | next => exact False.elim hq'
    | brk => exact False.elim hq'
    | cont => exact False.elim hq'
theorem pe_make (M : Mk X.K C f) (F : FnOk X.prog X.w X.K X.mg X.base CX k f fd ps sp) (hr : Room (k + 1) X.A) (hg : Gl X x) (hm : X.mg x = some (.ref C)) (hb : Binds X.K fd ps ds) (hd : Vals dvs ds) (hx : Passes CX X E)
    (ha : PA X (e :: es) t) (hdb : (x == ("__debug__" : Str)) = false := by decide) (he : starEach (e :: es) X.env = (false, eval e X.env) :: starEach es X.env := by rfl) (hpl : (backTo pos (starEach es X.env)).any (·.1) = false := by rfl) :
    PE X (.Call (.Name x p) (e :: es) [] pos) (tMake C sp dvs E t) := by
  refine ⟨?_⟩
  intro pins s σ H Q I h
  refine wpAny_Call_Name_kw (ld_glob I hg hm ?_ hdb)
  refine PySem.W.callWith_K (h₀ := X.base) I.ok.mod.kin M.kp (thn (ha pos pins s σ H _ I h) fun us s1 ⟨vs, H1, I1, r, q⟩ => ⟨I1.kIn, ?_⟩) he hpl
  exact run_make M F hr hb hd hx I1 r q
end

/-! ### keywords -/
section
variable {X : Cx} {CX : CXT} {k : Nat} {f C : Addr} {fd : FuncData} {ps ks : List Str} {sp : Sp} {E : XK} {x m : Str} {p pos apos kpos : Pos} {e o : Expr} {es : List Expr} {kws : List Keyword} {te ta : TE} {t tk : TA} {nm : Option Str}

variable {g : List Value → List Value → List Value} {gV : List V → List V → List V}
end

/-! ### a def's body keeps its promise -/
/-- names: the parameters first -/
structure FnScope (N P : List Str) (sc : Scope) : Prop where
  kind : sc.kind = .function
  co : sc.isCoroutine = false
  gen : sc.isGenerator = false
  nd : N.Nodup
  pre : N.take P.length = P
  par : ∀ x ∈ P, sc.names.lookup x = some .local ∨ sc.names.lookup x = some .cell
  nofree : ∀ y ∈ sc.names, y.2 ≠ .free

theorem bindL_out {kindOf : Str → Option NameKind} {x : Str} : ∀ {binds : List (Str × Value)} {m : Str → Option Value}, (∀ v, (x, v) ∉ binds) → bindL kindOf binds m x = m x
  | [], _, _ => rfl
  | (n, v) :: r, m, h => by
    unfold bindL
    rw [bindL_out fun w hw => h w (List.mem_cons_of_mem _ hw)]
    split
    · have : x ≠ n := by rintro rfl; exact h v List.mem_cons_self
      simp [this]
    · rfl
theorem bindC_out {kindOf : Str → Option NameKind} {x : Str} : ∀ {binds : List (Str × Value)} {m : Str → Option Value}, (∀ v, (x, v) ∉ binds) → bindC kindOf binds m x = m x
  | [], _, _ => rfl
  | (n, v) :: r, m, h => by
    unfold bindC
    rw [bindC_out fun w hw => h w (List.mem_cons_of_mem _ hw)]
    split
    · rfl
    · have : x ≠ n := by rintro rfl; exact h v List.mem_cons_self
      simp [this]
theorem bindL_get {kindOf : Str → Option NameKind} {x : Str} {v : Value} : ∀ {P : List Str} {vs : List Value} {i : Nat} {m : Str → Option Value}, P.Nodup → P[i]? = some x → vs[i]? = some v → kindOf x = some .local →
    bindL kindOf (P.zip vs) m x = some v
  | [], _, _, _, _, h, _, _ => by simp at h
  | _ :: _, [], _, _, _, _, h, _ => by simp at h
  | p :: P, w :: vs, 0, m, nd, h1, h2, hk => by
    simp at h1 h2; subst h1; subst h2
    show bindL kindOf ((p, w) :: P.zip vs) m p = _
    unfold bindL
    rw [bindL_out fun v hv => (List.nodup_cons.mp nd).1 (List.of_mem_zip hv).1, if_pos hk]
    simp
  | p :: P, w :: vs, i + 1, m, nd, h1, h2, hk => by
    show bindL kindOf ((p, w) :: P.zip vs) m x = _
    unfold bindL
    exact bindL_get (i := i) (List.nodup_cons.mp nd).2 (by simpa using h1) (by simpa using h2) hk
theorem bindC_get {kindOf : Str → Option NameKind} {x : Str} {v : Value} : ∀ {P : List Str} {vs : List Value} {i : Nat} {m : Str → Option Value}, P.Nodup → P[i]? = some x → vs[i]? = some v → kindOf x ≠ some .local →
    bindC kindOf (P.zip vs) m x = some v
  | [], _, _, _, _, h, _, _ => by simp at h
  | _ :: _, [], _, _, _, _, h, _ => by simp at h
  | p :: P, w :: vs, 0, m, nd, h1, h2, hk => by
    simp at h1 h2; subst h1; subst h2
    show bindC kindOf ((p, w) :: P.zip vs) m p = _
    unfold bindC
    rw [bindC_out fun v hv => (List.nodup_cons.mp nd).1 (List.of_mem_zip hv).1, if_neg hk]
    simp
  | p :: P, w :: vs, i + 1, m, nd, h1, h2, hk => by
    show bindC kindOf ((p, w) :: P.zip vs) m x = _
    unfold bindC
    exact bindC_get (i := i) (List.nodup_cons.mp nd).2 (by simpa using h1) (by simpa using h2) hk

/-- the names' values at the entry -/
def start (N : List Str) (vs : List V) : St := vs.map some ++ List.replicate (N.length - vs.length) none

/-- the context of a def's body, at its entry; an exception leaves the frame, then lies as CX says -/
def cxOf (CX : CXT) (P : Program) (w : World) (K : PySem.W.Frag) (mg : Str → Option Value) (base : Heap) (N : List Str) (qual : Str) (scope : Scope) (f : Addr) (cd : Value) (A : Around) (outer : List Env) (s : Shared) (H : Hp) (E : XK) : Cx where
  prog := P
  w := w
  K := K
  mg := mg
  base := base
  A := A.deeper (envOfC qual scope s.heap.objs.size f cd)
  N := N
  s₀ := s
  H₀ := H
  env := envOfC qual scope s.heap.objs.size f cd
  outer := outer
  stack := envOfC qual scope s.heap.objs.size f cd :: outer
  ex := []
  calm := true
  fn := fun _ => true
  pn := []
  xe := fun e s' => wpAny (model P w) (A.deeper (envOfC qual scope s.heap.objs.size f cd)) (leaving (envOfC qual scope s.heap.objs.size f cd) e) (fun _ s'' => CX outer H s E e s'') (fun e' s'' => CX outer H s E e' s'') s'

theorem cell_has {sc : Scope} {n : Nat} {x : Str} (h : sc.names.lookup x = some .cell) : ∃ c, (cellsFrom n sc.names []).lookup x = some c := by
  have q := PySem.W.cellsFrom_some sc.names n [] (.inl h)
  exact Option.isSome_iff_exists.mp q

theorem inv_start {CX : CXT} {P : Program} {w : World} {K : PySem.W.Frag} {mg : Str → Option Value} {base : Heap} {N ps : List Str} {qual : Str} {scope : Scope} {f : Addr} {cd : Value} {A : Around} {outer : List Env} {s s1 : Shared} {H : Hp} {E : XK} {us : List Value} {vs : List V}
    (S : FnScope N ps scope) (hd : A.handled = none) (e0 : Env0 P w K mg base A outer s H) (hl : vs.length = ps.length) (r : Vals vs us)
    (x : InCallC s s.heap.objs.size (bindL (envOfC qual scope s.heap.objs.size f cd).kindOf (ps.zip us) fun _ => none) (cellsFrom (s.heap.objs.size + 1) scope.names []) (bindC (envOfC qual scope s.heap.objs.size f cd).kindOf (ps.zip us) fun _ => none) s1) :
    Inv (cxOf CX P w K mg base N qual scope f cd A outer s H E) [] (start N vs) H s1 := by
  have hpl : ps.length ≤ N.length := by have := congrArg List.length S.pre; rw [List.length_take] at this; omega
  obtain ⟨h1, tk, rfl, hk⟩ := x.done
  have noA : ∀ b : Addr, b ∉ (cxOf CX P w K mg base N qual scope f cd A outer s H E).ex := fun b z => absurd (show b ∈ ([] : List Addr) from z) (by simp)
  refine ⟨⟨e0.mod, S.kind, rfl, rfl, Nat.le_refl _, fun y z c h1 h2 => ?_, fun y hy => ?_, fun y c _ h => ?_, fun _ => hd, Around.frames_deeper e0.frames, .inr ⟨rfl, rfl⟩, fun b z => absurd z (noA b), e0.bs, e0.bsz, fun b _ _ => noA b, fun b z => absurd z (noA b), e0.funs, e0.frf⟩,
    rfl, e0.bare, Un.kept hk, ⟨_, x.toInCall.ns, fun i y v h1 h2 h3 => ?_⟩, fun y c h => ⟨_, x.cell y c h⟩, e0.hok.fresh (Nat.le_refl _), fun y c h => ?_, fun p hp => absurd (show p ∈ ([] : List (Addr × Obj)) from hp) (by simp), e0.hok.kept hk, ?_⟩
  · exact name_of_addr x.apart (PySem.mem_of_lookup h1) (PySem.mem_of_lookup h2)
  · have hy : scope.names.lookup y = some .cell ∨ scope.names.lookup y = some .free := hy
    rcases hy with hy | hy
    · exact cell_has hy
    · exact absurd rfl (S.nofree _ (PySem.mem_of_lookup hy))
  · exact Nat.le_of_lt (x.above y c (PySem.mem_of_lookup h))
  · have hi : i < vs.length := by
      unfold start at h2
      by_cases hi : i < vs.length
      · exact hi
      · rw [List.getElem?_append_right (by simpa using hi)] at h2
        rw [List.getElem?_replicate] at h2
        split at h2 <;> cases h2
    have ha : vs[i]? = some v := by
      unfold start at h2
      rw [List.getElem?_append_left (by simpa using hi), List.getElem?_map] at h2
      cases e : vs[i]? with
      | none => rw [e] at h2; cases h2
      | some a => rw [e] at h2; cases h2; rfl
    obtain ⟨u, hu, rv⟩ := r.get ha
    have hp : ps[i]? = some y := by
      rw [← S.pre, List.getElem?_take_of_lt (by omega)]; exact h1
    have ndP : ps.Nodup := by rw [← S.pre]; exact S.nd.sublist (List.take_sublist _ _)
    refine ⟨u, rv, ?_⟩
    rcases S.par y (List.mem_of_getElem? hp) with k | k
    · exact .inl ⟨k, bindL_get ndP hp hu k⟩
    · obtain ⟨c, e⟩ := cell_has (n := s.heap.objs.size + 1) k
      refine .inr ⟨.inl k, c, e, ?_⟩
      have q := x.cell y c e
      rw [bindC_get ndP hp hu (by show scope.names.lookup y ≠ _; rw [k]; decide)] at q
      exact q
  · exact e0.hok.fresh (Nat.le_of_lt (x.above y c (PySem.mem_of_lookup h)))
  · unfold start
    show _ = N.length
    rw [List.length_append, List.length_map, List.length_replicate]
    omega

/-- THE RULE: a def (or a method) of the text, by its body. The body's reading t is chosen for each entry; it is run at the parameters' values -/
theorem fn_of {CX : CXT} {P : Program} {w : World} {K : PySem.W.Frag} {mg : Str → Option Value} {base : Heap} {k : Nat} {f : Addr} {name qual : Str} {params : Arguments} {body : List Stmt} {scope : Scope} {dV kV doc pm cdv ct oc : Value} {an od : Option Addr}
    {osl : Array (Option Value)} {N ps : List Str} {sp : Sp} (lk : K.lookup f = some ⟨oc, od, .func (PySem.W.fnOf name qual params body scope dV kV doc pm an cdv ct), osl⟩) (hcd : PySem.W.codeIn K cdv qual = true) (S : FnScope N ps scope)
    (len : ∀ vs H Q E, sp vs H Q E → vs.length = ps.length)
    (hbody : ∀ (A : Around) (outer : List Env) (s : Shared) (H : Hp) (vs : List V) (Q : VK) (E : XK), Room k (A.deeper (envOfC qual scope s.heap.objs.size f cdv)) → sp vs H Q E →
      ∃ t, PSs (cxOf CX P w K mg base N qual scope f cdv A outer s H E) body t ∧ t { nx := fun _ H' => Q .non H', rt := Q } (start N vs) H) :
    FnOk P w K mg base CX (k + 1) f (PySem.W.fnOf name qual params body scope dV kV doc pm an cdv ct) ps sp := by
  refine ⟨len, fun A outer s H args us vs Q E hr e0 hb r hsp => ?_⟩
  have hl := len _ _ _ _ hsp
  have KX : K.In s.heap := e0.mod.kin.keeps fun b o e => (e0.bs b o e).1
  have lim : s.heap.NoLimit := e0.mod.nolimit.keeps fun b o e => (e0.bs b o e).1
  have hkind : ∀ y ∈ ps.zip us, scope.names.lookup y.1 = some .local ∨ (scope.names.lookup y.1 = some .cell ∧ ((cellsFrom (s.heap.objs.size + 1) scope.names []).lookup y.1).isSome = true) := fun ⟨n, v⟩ hy => by
    rcases S.par n (List.of_mem_zip hy).1 with q | q
    · exact .inl q
    · exact .inr ⟨q, PySem.W.cellsFrom_some _ _ _ (.inl q)⟩
  refine codeAny_call_function hr.depth (KX _ _ lk) rfl S.co S.gen rfl (PySem.W.codeRec_of KX hcd) (hb _ _ _ _ ?_)
  refine wpAny_newFunctionEnv_cells S.kind hkind fun env he s1 x => ?_
  subst he
  refine ⟨lim.keeps x.toInCall.keep, codeAny_func ?_⟩
  obtain ⟨t, ht, hq⟩ := hbody A outer s H vs Q E (hr.deeper _) hsp
  have I : Inv (cxOf CX P w K mg base N qual scope f cdv A outer s H E) [] (start N vs) H s1 := inv_start S hr.hd e0 hl r x
  refine wpAny_mono (ht [] s1 (start N vs) H _ I hq) (fun fl s' hs => ?_) fun e s' hs => hs
  have fin : ∀ {σ' : St} {H' : Hp} {v : V} {u : Value}, Inv (cxOf CX P w K mg base N qual scope f cdv A outer s H E) [] σ' H' s' → RelV v u → Q v H' → CE outer P w H s Q u s' :=
    fun {σ' H' v u} J rv q => ⟨v, H', J.os, J.bare, J.base, J.hok, rv, q⟩
  cases fl with
  | ret u =>
    obtain ⟨v, σ', H', J, rv, q⟩ := hs
    exact fin J rv q
  | next =>
    obtain ⟨σ', H', J, q⟩ := hs
    exact fin (v := V.non) (u := Value.none) J rfl q
  | brk =>
    obtain ⟨_, _, _, q⟩ := hs
    exact False.elim q
  | cont =>
    obtain ⟨_, _, _, q⟩ := hs
    exact False.elim q
end L2

namespace L2
open PySem PySem.Spec PyProof.Rows
section
variable {X : Cx} {x : Str} {p pos : Pos} {e : Expr} {es : List Expr} {t : TA} {id T : String} {r : List V → Hp → VK → Prop}

def tCB (r : List V → Hp → VK → Prop) (t : TA) : TE := fun σ H Q => t σ H fun vs H1 => r vs H1 Q
/-- f(e, ..), f a built-in function -/
theorem pe_callB (hc : CallR X (.builtin id) r) (hg : Gl X x) (hm : X.mg x = none) (hv : bootBuiltins x = some (.builtin id)) (ha : PA X (e :: es) t) (hn : x ≠ "__name__" := by decide) (hdb : (x == ("__debug__" : Str)) = false := by decide)
    (he : starEach (e :: es) X.env = (false, eval e X.env) :: starEach es X.env := by rfl) (hpl : (backTo pos (starEach es X.env)).any (·.1) = false := by rfl) : PE X (.Call (.Name x p) (e :: es) [] pos) (tCB r t) := by
  refine ⟨?_⟩
  intro pins s σ H Q I h
  refine wpAny_Call_Name_kw (ld_blt I hg hm hv ?_ hn hdb)
  exact PyProof.Rows.callWith_builtin1 (thn (ha pos pins s σ H _ I h) fun us s1 ⟨vs, H1, I1, r1, q1⟩ => hc pins s1 σ H1 vs us Q I1 r1 q1) he hpl
/-- T(e, ..), T a built-in type -/
theorem pe_callTy (hc : CallR X (.type T) r) (hg : Gl X x) (hm : X.mg x = none) (hv : bootBuiltins x = some (.type T)) (ha : PA X (e :: es) t) (hn : x ≠ "__name__" := by decide) (hdb : (x == ("__debug__" : Str)) = false := by decide)
    (he : starEach (e :: es) X.env = (false, eval e X.env) :: starEach es X.env := by rfl) (hpl : (backTo pos (starEach es X.env)).any (·.1) = false := by rfl) : PE X (.Call (.Name x p) (e :: es) [] pos) (tCB r t) := by
  refine ⟨?_⟩
  intro pins s σ H Q I h
  refine wpAny_Call_Name_kw (ld_blt I hg hm hv ?_ hn hdb)
  exact PyProof.Rows.callWith_type1 (thn (ha pos pins s σ H _ I h) fun us s1 ⟨vs, H1, I1, r1, q1⟩ => hc pins s1 σ H1 vs us Q I1 r1 q1) he hpl
end
end L2

namespace HT
open PySem PyProof.Rows

/-- t < u of tuples of ints -/
def lexLt : List Int → List Int → Bool
  | [], [] => false
  | [], _ :: _ => true
  | _ :: _, [] => false
  | x :: xs, y :: ys => if x = y then lexLt xs ys else decide (x < y)
theorem lexLt_cons (x y : Int) (xs ys : List Int) : lexLt (x :: xs) (y :: ys) = if x = y then lexLt xs ys else decide (x < y) := rfl
theorem lexLt_nil_nil : lexLt [] [] = false := rfl
theorem lexLt_nil_cons (y : Int) (ys : List Int) : lexLt [] (y :: ys) = true := rfl
theorem lexLt_cons_nil (x : Int) (xs : List Int) : lexLt (x :: xs) [] = false := rfl

theorem eqAt_int (A : Around) (s : Shared) (a : Int) (t : Tok) (c : Int) (u : Tok) : ∃ e, SeqAt.EqAt A s (.int a t) (.int c u) e ∧ (e = true ↔ a = c) :=
  ⟨(a == c), SeqAt.EqAt.int_int a t c u, by simp⟩
theorem rcLt_int (A : Around) (s : Shared) (a : Int) (t : Tok) (c : Int) (u : Tok) (prog : Program) (w : World) (E : Value → Shared → Prop) (Q : Value → Shared → Prop) (h : Q (.bool (decide (a < c))) s) :
    wpAny (model prog w) A (richCompare .Lt (.int a t) (.int c u)) Q E s :=
  (PyProof.Rows.lt_int h : wpAny (model prog w) A (compareOp .Lt (.int a t) (.int c u)) Q E s)

section
open PySem.SeqAt
open PySem.AutoSeq1 (wpAny_loadPart')
open PySem.MeetsSeq PySem.MeetsSeq2 PySem.MeetsSeq3

theorem tuple_lt_ints (l b : Addr) (items items2 : Array Value) (n n2 : Nat) (dd dd2 : Option Addr) (sl sl2 : Array (Option Value)) (ns ms : List Int) (hi : IntsAre items.toList ns) (hj : IntsAre items2.toList ms) :
    Meets (Builtin.«tuple.__lt__» ⟨[.ref l, .ref b], []⟩)
      (fun _ R s => s.heap.get? l = some { cls := .type "tuple", dict := dd, data := .seq items n, slots := sl } ∧ s.heap.get? b = some { cls := .type "tuple", dict := dd2, data := .seq items2 n2, slots := sl2 } ∧
        R (.ok (.ret (.bool (lexLt ns ms)))) s) :=
  .of_wp fun prog w A R s h => by
    obtain ⟨hp, g, d, tk, os⟩ := s; obtain ⟨hl, hb, h⟩ := h
    have f2 := AutoSeq1.sub_tuple_tuple
    have z1 : items.size = ns.length := by rw [← hi.length]; simp
    have z2 : items2.size = ms.length := by rw [← hj.length]; simp
    wp_walk using wpAny_loadPart' hl, wpAny_loadPart' hb, wpAny_forIn_list _ (fun rest b s' => b.1 = none ∧ s' = ⟨hp, g, d, tk, os⟩ ∧ ∃ (vs ws : List Value) (ns' ms' : List Int), rest = vs.zip ws ∧
      IntsAre vs ns' ∧ IntsAre ws ms' ∧ ns'.length + items2.size = ms'.length + items.size ∧ R (.ok (.ret (.bool (lexLt ns' ms')))) ⟨hp, g, d, tk, os⟩) _
    case turn =>
      rintro ⟨y, x⟩ rest b s' ⟨hb', rfl, vs, ws, ns', ms', hz, hvi, hwi, hlen, hR⟩
      cases hvi with
      | nil => rw [List.zip_nil_left] at hz; cases hz
      | cons a t hvi' =>
        cases hwi with
        | nil => rw [List.zip_nil_right] at hz; cases hz
        | cons c u hwi' =>
          rw [List.zip_cons_cons] at hz
          injection hz with hyx hrest
          injection hyx with hy hx
          subst hy hx
          rw [lexLt_cons] at hR
          simp only [List.length_cons] at hlen
          obtain ⟨e, he, hiff⟩ := eqAt_int A.in1 ⟨hp, g, d, tk, os⟩ a t c u
          refine wpAny_bind (he prog w _ _ ?_)
          cases e with
          | true =>
            rw [if_pos (hiff.mp rfl)] at hR
            wp_walk
            exact ⟨rfl, rfl, _, _, _, _, hrest, hvi', hwi', by omega, hR⟩
          | false =>
            rw [if_neg (fun q => absurd (hiff.mpr q) Bool.false_ne_true)] at hR
            have hri := rcLt_int A.in1 ⟨hp, g, d, tk, os⟩ a t c u prog w
            wp_walk using hri
            exact ⟨_, rfl, by simpa using hR⟩
    case fin =>
      rintro ⟨b1, b2⟩ s' ⟨hb', rfl, vs, ws, ns', ms', hz, hvi, hwi, hlen, hR⟩
      simp only at hb'
      subst hb'
      have hv : lexLt ns' ms' = decide (items.size < items2.size) := by
        cases hvi with
        | nil =>
          cases hwi with
          | nil =>
            simp only [List.length_nil] at hlen
            rw [lexLt_nil_nil]
            exact (decide_eq_false (by omega)).symm
          | cons c u hw =>
            simp only [List.length_nil, List.length_cons] at hlen
            rw [lexLt_nil_cons]
            exact (decide_eq_true (by omega)).symm
        | cons a t hv =>
          cases hwi with
          | nil =>
            simp only [List.length_nil, List.length_cons] at hlen
            rw [lexLt_cons_nil]
            exact (decide_eq_false (by omega)).symm
          | cons c u hw =>
            rw [List.zip_cons_cons] at hz
            cases hz
      rw [hv] at hR
      wp_walk
      exact ⟨_, rfl, by simpa [Builtin.Tuple.tupleCompareSizes] using hR⟩
    case h =>
      exact ⟨rfl, rfl, items.toList, items2.toList, ns, ms, rfl, hi, hj, by omega, h⟩
end

section
variable {prog : Program} {w : World} {A : Around} {E : Value → Shared → Prop} {s : Shared}

theorem lt_tupInts {l b : Addr} {items items2 : Array Value} {ns ms : List Int} {Q : Value → Shared → Prop} (hl : IsTup s.heap l items) (hb : IsTup s.heap b items2) (hi : IntsAre items.toList ns) (hj : IntsAre items2.toList ms)
    (hu : A.units < cLine) (h : Q (.bool (lexLt ns ms)) s) : wpAny (model prog w) A (compareOp .Lt (.ref l) (.ref b)) Q E s := by
  obtain ⟨⟨cls, dd, data, sl⟩, ho, hc, n, hd⟩ := id hl
  obtain ⟨⟨cls2, dd2, data2, sl2⟩, ho2, hc2, n2, hd2⟩ := id hb
  simp only at hc hd hc2 hd2
  subst hc hd hc2 hd2
  exact richCompare_meets_room (op := .Lt) ⟨_, ho, rfl⟩ ⟨_, ho2, rfl⟩ PySem.F.slot_tuple_lt PySem.F.entry_tuple_lt (PySem.F.args_tuple_lt_2 _ _) (tuple_lt_ints l b items items2 n n2 dd dd2 sl sl2 ns ms hi hj)
    ⟨ho, ho2, show Value.bool (lexLt ns ms) ≠ Value.notImplemented ∧ Q (.bool (lexLt ns ms)) s from ⟨(fun x => nomatch x), h⟩⟩ hu


/-! ### t[a:b], not the whole -/
/-- a slice's bound as a place among n (d where it is left out) -/
def sIx (n d : Nat) : Option Int → Nat
  | none => d
  | some v => if v < 0 then (v + (n : Int)).toNat else min v.toNat n
theorem sIx_none (n d : Nat) : sIx n d none = d := rfl
theorem sIx_nat (n d k : Nat) : sIx n d (some (k : Int)) = min k n := by
  show (if (k : Int) < 0 then ((k : Int) + (n : Int)).toNat else min (k : Int).toNat n) = min k n
  rw [if_neg (by omega), Int.toNat_natCast]

end
end HT

namespace L2
open PySem PySem.Spec PyProof.Rows

/-! ### the parts of a slice -/
abbrev TO := St → Hp → (Option Int → Hp → Prop) → Prop
/-- a slice's part (left out, or an int) -/
def PO (X : Cx) (e : Option Expr) (t : TO) : Prop :=
  ∀ (pins : List (Addr × Obj)) (s : Shared) (σ : St) (H : Hp) (Q : Option Int → Hp → Prop), Inv X pins σ H s → t σ H Q →
    wpAny (model X.prog X.w) X.A (evalPart e X.env) (fun u s' => ∃ o H', Inv X pins σ H' s' ∧ IsPart u o ∧ Q o H') X.xe s
def tNoPart : TO := fun _ H Q => Q none H
def tPart (t : TE) : TO := fun σ H Q => t σ H fun x H1 => ∃ i, x = .int i ∧ Q (some i) H1

theorem intsAre_of {ns : List Int} : ∀ {us : List Value}, Vals (ns.map V.int) us → IntsAre us ns := by
  induction ns with
  | nil => intro us r; rw [List.map_nil] at r; cases r; exact .nil
  | cons n ns ih =>
    intro us r
    rw [List.map_cons] at r
    cases r with
    | cons r1 r2 =>
      obtain ⟨t, e⟩ := r1
      subst e
      exact .cons n t (ih r2)

section
variable {X : Cx} {e : Expr} {te : TE} {lo hi : Option Expr} {tl th : TO} {pos p2 : Pos}

theorem po_none : PO X none tNoPart := by
  intro pins s σ H Q I h
  rw [evalPart_none]
  exact wpAny_pure ⟨none, H, I, .none, h⟩
theorem po_some (h : PE X e te) : PO X (some e) (tPart te) := by
  intro pins s σ H Q I hw
  rw [evalPart_some]
  refine thn (h pins s σ H _ I hw) fun u s1 ⟨x, H1, I1, r1, q1⟩ => ?_
  obtain ⟨i, rfl, q⟩ := q1
  obtain ⟨t, rfl⟩ := r1
  exact ⟨some i, H1, I1, .int i t, q⟩

/-- what a slice of a value is, by values: the slice object stands at sl -/
def SlR (X : Cx) (r : V → Option Int → Option Int → Hp → VK → Prop) : Prop :=
  ∀ (pins : List (Addr × Obj)) (s : Shared) (σ : St) (H : Hp) (x : V) (v vl vu : Value) (lo hi : Option Int) (sl : Addr) (Q : VK), Inv X pins σ H s → RelV x v → s.heap.IsSliceOf sl vl vu .none → IsPart vl lo → IsPart vu hi → r x lo hi H Q →
    ∃ T id, typeLookup (.type T) "__getitem__" = pure (some (.builtin id)) ∧ s.TypeIs v T ∧ wpAny (model X.prog X.w) X.A (getItem v (.ref sl)) (EP X pins σ Q) X.xe s
def tSl (r : V → Option Int → Option Int → Hp → VK → Prop) (te : TE) (tl th : TO) : TE := fun σ H Q => te σ H fun x H1 => tl σ H1 fun l H2 => th σ H2 fun u H3 => r x l u H3 Q
/-- a[lo:hi], any a -/
theorem pe_slice {r : V → Option Int → Option Int → Hp → VK → Prop} (hr : SlR X r) (he : PE X e te) (hl : PO X lo tl) (hu : PO X hi th) : PE X (.Subscript e (.Slice lo hi none p2) pos) (tSl r te tl th) := by
  refine ⟨?_⟩
  intro pins s σ H Q I h
  refine Subscript_ (thn (he pins s σ H _ I h) fun v s1 ⟨x, H1, I1, r1, q1⟩ => ?_)
  refine wpAny_Slice (thn (hl pins s1 σ H1 _ I1 q1) fun vl s2 ⟨l, H2, I2, pl, q2⟩ => thn (hu pins s2 σ H2 _ I2 q2) fun vu s3 ⟨u, H3, I3, pu, q3⟩ => ?_)
  rw [evalPart_none]
  refine wpAny_pure ?_
  have I4 : Inv X pins σ H3 { s3 with heap := s3.heap.push { cls := .type "slice", data := .fields #[vl, vu, .none] } } := I3.kept (t' := s3.toks) fun b ob q => Heap.get?_push_of_some _ q
  obtain ⟨T, id, hT, ht, hg⟩ := hr pins { s3 with heap := s3.heap.push { cls := .type "slice", data := .fields #[vl, vu, .none] } } σ H3 x v vl vu l u s3.heap.objs.size Q I4 r1 (Heap.IsSliceOf.new ..) pl pu q3
  show wpAny (model X.prog X.w) X.A (subscriptTail e (.Slice lo hi none p2) v (.ref s3.heap.objs.size)) (EP X pins σ Q) X.xe { s3 with heap := s3.heap.push { cls := .type "slice", data := .fields #[vl, vu, .none] } }
  exact tail_any (ops := [.ref s3.heap.objs.size, v]) ht hT hg (by with_unfolding_all rfl)

/-- the items of xs[lo:hi] -/
def cutV (xs : List V) (lo hi : Option Int) : List V := (xs.drop (HT.sIx xs.length 0 lo)).take (HT.sIx xs.length xs.length hi - HT.sIx xs.length 0 lo)
theorem cutV_length (xs : List V) (lo hi : Option Int) : (cutV xs lo hi).length ≤ xs.length := by
  unfold cutV
  rw [List.length_take, List.length_drop]
  omega

/-! ### t < u, t + u -/
def rLtT (K : PySem.W.Frag) : R2 := fun x y H Q => ∃ a b ns ms, x = .ref a ∧ y = .ref b ∧ SqT K H a (ns.map V.int) ∧ SqT K H b (ms.map V.int) ∧ Q (.bl (HT.lexLt ns ms)) H
theorem op_ltT (hu : X.A.units < cLine) : OpR X (compareOp .Lt) (rLtT X.K) := by
  intro pins s σ H x y v u Q I rx ry h
  obtain ⟨a, b, ns, ms, rfl, rfl, ha, hb, q⟩ := h
  cases rx
  cases ry
  obtain ⟨its, r1, p1, _⟩ := I.tuple ha
  obtain ⟨its2, r2, p2, _⟩ := I.tuple hb
  have i1 : IntsAre its.toArray.toList ns := intsAre_of r1
  have i2 : IntsAre its2.toArray.toList ms := intsAre_of r2
  exact HT.lt_tupInts p1 p2 i1 i2 hu ⟨.bl (HT.lexLt ns ms), H, I, rfl, q⟩
end
end L2

namespace L2
open PySem PySem.Spec PyProof.Rows

/-! ### places -/
/-- the place that an index of any sign means -/
def ixN (n : Nat) (i : Int) : Option Nat := if 0 ≤ i then (if i < n then some i.toNat else none) else if -(n : Int) ≤ i then some (i + n).toNat else none
def atI {α : Type} (xs : List α) (i : Int) : Option α := (ixN xs.length i).bind fun j => xs[j]?
theorem ixN_seq {n : Nat} {i : Int} {j : Nat} (h : ixN n i = some j) : seqIndex? i n = some j ∧ j < n ∧ -(n : Int) ≤ i ∧ i < n := by
  unfold ixN at h
  by_cases h0 : 0 ≤ i
  · rw [if_pos h0] at h
    by_cases h1 : i < n
    · rw [if_pos h1] at h
      have e : i.toNat = j := Option.some.inj h
      exact ⟨by rw [seqIndex_of h0 h1, e], by omega, by omega, h1⟩
    · rw [if_neg h1] at h; cases h
  · rw [if_neg h0] at h
    by_cases h1 : -(n : Int) ≤ i
    · rw [if_pos h1] at h
      have e : (i + n).toNat = j := Option.some.inj h
      exact ⟨by rw [seqIndex_neg (by omega) h1, e], by omega, h1, by omega⟩
    · rw [if_neg h1] at h; cases h
theorem atI_get {α : Type} {xs : List α} {i : Int} {v : α} (h : atI xs i = some v) : ∃ j, seqIndex? i xs.length = some j ∧ xs[j]? = some v ∧ j < xs.length ∧ -(xs.length : Int) ≤ i ∧ i < xs.length := by
  unfold atI at h
  cases e : ixN xs.length i with
  | none => rw [e] at h; cases h
  | some j =>
    rw [e] at h
    obtain ⟨h1, h2, h3, h4⟩ := ixN_seq e
    exact ⟨j, h1, h, h2, h3, h4⟩
theorem atI_nat {α : Type} {xs : List α} {j : Nat} {v : α} (h : xs[j]? = some v) : atI xs (j : Int) = some v := by
  have hj : j < xs.length := (List.getElem?_eq_some_iff.mp h).1
  have e : ixN xs.length (j : Int) = some j := by
    unfold ixN
    rw [if_pos (by omega), if_pos (by omega)]; simp
  unfold atI; rw [e]; exact h
theorem atI_last {α : Type} (xs : List α) (v : α) : atI (xs ++ [v]) (-1) = some v := by
  have hl : (xs ++ [v]).length = xs.length + 1 := by simp
  have e : ixN (xs ++ [v]).length (-1) = some xs.length := by
    unfold ixN
    rw [hl, if_neg (by decide), if_pos (by omega)]
    congr 1
    omega
  unfold atI
  rw [e]
  show (xs ++ [v])[xs.length]? = some v
  simp

/-! ### what may be subscripted -/
/-- what stands as an index of a plain subscript -/
def PlainIx (b : Expr) : Prop := ∀ o i, subscripted b false o i = operate [o, i] (getItem o i)
/-- a subscript by values -/
def IxR (X : Cx) (r : R2) : Prop :=
  ∀ (value slice : Expr) (pins : List (Addr × Obj)) (s : Shared) (σ : St) (H : Hp) (x y : V) (v u : Value) (Q : VK), Inv X pins σ H s → RelV x v → RelV y u → r x y H Q →
    subscripted slice false v u = operate [v, u] (getItem v u) → wpAny (model X.prog X.w) X.A (subscriptTail value slice v u) (EP X pins σ Q) X.xe s
/-- a call of a builtin's method by values: the receiver, the arguments -/
def MtR (X : Cx) (id : String) (r : V → List V → Hp → VK → Prop) : Prop :=
  ∀ (pins : List (Addr × Obj)) (s : Shared) (σ : St) (H : Hp) (x : V) (xs : List V) (v : Value) (us : List Value) (Q : VK), Inv X pins σ H s → RelV x v → Vals xs us → r x xs H Q →
    wpAny (model X.prog X.w) X.A (call (.builtin id) (v :: us)) (EP X pins σ Q) X.xe s
section
variable {X : Cx} {a b : Expr} {ta tb : TE} {pos : Pos}
/-- a[b] -/
theorem pe_ix {r : R2} (hr : IxR X r) (ha : PE X a ta) (hb : PE X b tb) (hs : PlainIx b) : PE X (.Subscript a b pos) (tOp r ta tb) := by
  refine ⟨?_⟩
  intro pins s σ H Q I h
  exact Subscript_ (binT ha hb I h fun v u s2 x y H2 I2 rx ry q => hr a b pins s2 σ H2 x y v u Q I2 rx ry q (hs _ _))

inductive rIxL (K : PySem.W.Frag) (x y : V) (H : Hp) (Q : VK) : Prop
  | mk (p : Addr) (xs : List V) (i : Int) (v : V) (e1 : x = .ref p) (e2 : y = .int i) (h : SqL K H p xs) (e : atI xs i = some v) (q : Q v H) : rIxL K x y H Q
inductive rIxT (K : PySem.W.Frag) (x y : V) (H : Hp) (Q : VK) : Prop
  | mk (p : Addr) (xs : List V) (i : Int) (v : V) (e1 : x = .ref p) (e2 : y = .int i) (h : SqT K H p xs) (e : atI xs i = some v) (q : Q v H) : rIxT K x y H Q
def rIxS : R2 := fun x y H Q => ∃ z i c, x = .str z ∧ y = .int i ∧ z.length ≤ sizeLine ∧ atI z.cps.toList i = some c ∧ Q (.str ⟨#[c]⟩) H
theorem ix_list : IxR X (rIxL X.K) := by
  intro value slice pins s σ H x y v u Q I rx ry h hs
  obtain ⟨p, xs, i, z, rfl, rfl, hq, he, q⟩ := h
  cases rx
  obtain ⟨t, rfl⟩ := ry
  obtain ⟨its, r, pl, hz⟩ := I.list hq
  obtain ⟨j, h1, h2, h3, h4, h5⟩ := atI_get he
  obtain ⟨w, ew, rw'⟩ := r.get h2
  have hl := r.length
  have hn := line63
  have fin : EP X pins σ Q w s := ⟨z, H, I, rw', q⟩
  by_cases h0 : 0 ≤ i
  · have hj : i.toNat = j := by
      rw [seqIndex_of h0 h5] at h1
      exact Option.some.inj h1
    exact item_listR pl.isList h0 (by omega) (by rw [hj]; simpa using ew) fin hs
  · have hj : (i + (its.toArray.size : Int)).toNat = j := by
      rw [seqIndex_neg (by omega) h4] at h1
      rw [List.size_toArray, ← hl]
      exact Option.some.inj h1
    exact subscriptTail_builtinR (x := w) pl.isList.typeIs slot_list_getitem.lookup
      (wpAny_getItem_list_neg (Q := fun r s' => r = w ∧ EP X pins σ Q r s') pl.isList (by omega) (by rw [List.size_toArray] <;> omega) (by omega) (by rw [hj]; simpa using ew) ⟨rfl, fin⟩) hs
theorem ix_tup : IxR X (rIxT X.K) := by
  intro value slice pins s σ H x y v u Q I rx ry h hs
  obtain ⟨p, xs, i, z, rfl, rfl, hq, he, q⟩ := h
  cases rx
  obtain ⟨t, rfl⟩ := ry
  obtain ⟨its, r, pl, hz⟩ := I.tuple hq
  obtain ⟨j, h1, h2, h3, h4, h5⟩ := atI_get he
  obtain ⟨w, ew, rw'⟩ := r.get h2
  have hl := r.length
  have hn := line63
  have fin : EP X pins σ Q w s := ⟨z, H, I, rw', q⟩
  exact subscriptTail_builtinR (x := w) pl.typeIs slot_tuple_getitem.lookup
    (getItem_tuple (j := j) (Q := fun r s' => r = w ∧ EP X pins σ Q r s') pl (by omega) (by omega) (by rw [List.size_toArray, ← hl]; exact h1) (by simpa using ew) ⟨rfl, fin⟩) hs
theorem ix_str : IxR X rIxS := by
  intro value slice pins s σ H x y v u Q I rx ry h hs
  obtain ⟨z, i, c, rfl, rfl, hz, he, q⟩ := h
  obtain ⟨t, rfl⟩ := rx
  obtain ⟨t', rfl⟩ := ry
  obtain ⟨j, h1, h2, h3, h4, h5⟩ := atI_get he
  have hl : z.cps.toList.length = z.length := by simp [Str.length]
  rw [hl] at h1 h4 h5
  have hn := line63
  exact tail_any (typeIs_str s z t) slot_str_getitem.lookup (getItem_str (c := c) (by
    have e1 : decide (i < -(2 ^ 63 : Int)) = false := decide_eq_false (by omega)
    have e2 : decide (i ≥ 2 ^ 63) = false := decide_eq_false (by omega)
    rw [e1, e2, Bool.or_false]) (by rw [h1]; simpa using h2) ⟨.str ⟨#[c]⟩, H, I.tok _, ⟨_, rfl⟩, q⟩) hs

/-! ### xs[i] = v, any sign -/
/-- the list's object behind a store -/
theorem mapSeq_set (its : List Value) (n j : Nat) (u : Value) : Obj.mapSeq (·.setIfInBounds j u) { cls := .type "list", data := .seq its.toArray n } = { cls := .type "list", data := .seq (its.set j u).toArray n } := by
  simp [Obj.mapSeq]
theorem Inv.lst {pins : List (Addr × Obj)} {σ : St} {H : Hp} {s : Shared} {p : Addr} {xs : List V} (I : Inv X pins σ H s) (h : H p = some (.lst xs)) :
    ∃ (its : List Value) (n : Nat), Vals xs its ∧ s.heap.get? p = some { cls := .type "list", data := .seq its.toArray n } ∧ xs.length ≤ sizeLine := by
  obtain ⟨z, its, n, r, e⟩ := I.hok p _ h
  exact ⟨its, n, r, e, z⟩
/-- the list at p is written by an update of its object -/
theorem Inv.lstUpd {pins : List (Addr × Obj)} {σ : St} {H : Hp} {s : Shared} {p : Addr} {xs ys : List V} {its its' : List Value} {n n' : Nat} {f : Obj → Obj} (I : Inv X pins σ H s) (h : H p = some (.lst xs))
    (ho : s.heap.get? p = some { cls := .type "list", data := .seq its.toArray n }) (hf : f { cls := .type "list", data := .seq its.toArray n } = { cls := .type "list", data := .seq its'.toArray n' }) (r : Vals ys its') (hz : ys.length ≤ sizeLine) (t : Nat) :
    Inv X pins σ (upd H p (.lst ys)) { s with heap := s.heap.update p f, toks := t } := by
  have e : (s.heap.update p f).get? p = some { cls := .type "list", data := .seq its'.toArray n' } := by
    rw [Heap.get?_update_self f ho (by rw [hf] <;> rfl), hf]
  refine I.write (x := p) (e := p) (by rw [h]; trivial) (.inl rfl) (fun b u hb q => (Heap.get?_update_other _ _ (Ne.symm hb)).trans q) ⟨_, e⟩ ?_
  exact ⟨hz, its', n', r, e⟩
def rSetL : V → V → V → Hp → (Hp → Prop) → Prop := fun o i v H Q => ∃ p xs k j, o = .ref p ∧ i = .int k ∧ H p = some (.lst xs) ∧ ixN xs.length k = some j ∧ Q (upd H p (.lst (xs.set j v)))
theorem set_list : PSet X rSetL := by
  intro pins s σ H o i v ov iv u Q I ro ri rv h
  obtain ⟨p, xs, k, j, rfl, rfl, hp, hj, q⟩ := h
  cases ro
  obtain ⟨t, rfl⟩ := ri
  obtain ⟨its, n, r, ho, hz⟩ := I.lst hp
  obtain ⟨h1, h2, h3, h4⟩ := ixN_seq hj
  have hl := r.length
  have hn := line63
  have I' : Inv X pins σ (upd H p (.lst (xs.set j v))) { s with heap := s.heap.update p (Obj.mapSeq (·.setIfInBounds j u)) } :=
    I.lstUpd hp ho (mapSeq_set its n j u) (r.set rv j) (by rw [List.length_set]; exact hz) s.toks
  by_cases h0 : 0 ≤ k
  · have hk : k.toNat = j := by
      rw [seqIndex_of h0 h4] at h1
      exact Option.some.inj h1
    exact PySem.W.ki_setAt ho h0 (by omega) (by rw [List.size_toArray, ← hl]; exact h4) (by rw [hk]; exact ⟨_, I', q⟩)
  · have hk : (k + (its.toArray.size : Int)).toNat = j := by
      rw [seqIndex_neg (by omega) h3] at h1
      rw [List.size_toArray, ← hl]
      exact Option.some.inj h1
    exact PySem.W.ki_setBack ho (by omega) (by rw [List.size_toArray, ← hl]; exact h3) (by omega) (by rw [hk]; exact ⟨_, I', q⟩)

/-! ### slices -/
theorem slice_bounds (lo hi : Option Int) (n : Nat) : (sliceBounds lo hi none n).1 = ((HT.sIx n 0 lo : Nat) : Int) ∧ (sliceBounds lo hi none n).2.1 = ((HT.sIx n n hi : Nat) : Int) ∧ (sliceBounds lo hi none n).2.2 = 1 := by
  refine ⟨?_, ?_, rfl⟩
  · cases lo with
    | none => simp [sliceBounds, HT.sIx]
    | some i =>
      simp only [sliceBounds, HT.sIx, Option.getD_none, show (1 : Int) > 0 by decide, if_true]
      by_cases h : i < 0
      · simp only [h, if_true] <;> omega
      · simp only [h, if_false] <;> omega
  · cases hi with
    | none => simp [sliceBounds, HT.sIx]
    | some i =>
      simp only [sliceBounds, HT.sIx, Option.getD_none, show (1 : Int) > 0 by decide, if_true]
      by_cases h : i < 0
      · simp only [h, if_true] <;> omega
      · simp only [h, if_false] <;> omega
theorem slicePick_cut (its : List Value) (lo hi : Option Int) : slicePick its.toArray lo hi none = ((its.drop (HT.sIx its.length 0 lo)).take (HT.sIx its.length its.length hi - HT.sIx its.length 0 lo)).toArray := by
  obtain ⟨h1, h2, h3⟩ := slice_bounds lo hi its.toArray.size
  unfold slicePick
  rw [h1, h2, h3]
  simp only [sliceRange_one, pick_run, List.size_toArray] <;> rfl
/-- xs[lo:hi] of a list: a new list -/
def rSlL (K : PySem.W.Frag) : V → Option Int → Option Int → Hp → VK → Prop := fun x lo hi H Q => ∃ a xs, x = .ref a ∧ SqL K H a xs ∧ ∀ p, H p = none → Q (.ref p) (upd H p (.lst (cutV xs lo hi)))
theorem sl_list : SlR X (rSlL X.K) := by
  intro pins s σ H x v vl vu lo hi sl Q I rx hs pl pu h
  obtain ⟨a, xs, rfl, hx, q⟩ := h
  cases rx
  obtain ⟨its, r, ht, hz⟩ := I.list hx
  have hlen := r.length
  refine ⟨"list", _, slot_list_getitem.lookup, ht.isList.typeIs, ?_⟩
  refine wpAny_getItem_list_slice ht.isList hs pl pu .none (by simp) ?_ (by rw [List.size_toArray] <;> omega)
  rw [slicePick_cut, ← hlen]
  refine ⟨.ref s.heap.objs.size, _, I.laid (t' := s.toks) (o := .lst (cutV xs lo hi)) (fun b ob q => Heap.get?_push_of_some _ q) (Nat.le_refl _) ?_, rfl, q _ (I.hok.fresh (Nat.le_refl _))⟩
  exact ⟨Nat.le_trans (cutV_length xs lo hi) hz, _, 0, (r.drop (HT.sIx xs.length 0 lo)).take (HT.sIx xs.length xs.length hi - HT.sIx xs.length 0 lo), Heap.get?_push_size _ rfl⟩

/-! ### in, not in: flat items -/
def flatV : V → Bool
  | .non => true
  | .bl _ => true
  | .int _ => true
  | .str _ => true
  | _ => false
/-- == of flat values -/
def eqV : V → V → Bool
  | .non, .non => true
  | .bl a, .bl b => a == b
  | .bl a, .int b => (if a then 1 else 0) == b
  | .int a, .bl b => a == (if b then 1 else 0)
  | .int a, .int b => a == b
  | .str a, .str b => a == b
  | _, _ => false
theorem eqAt_V {A : Around} {s : Shared} {y x : V} {u v : Value} (ry : RelV y u) (rx : RelV x v) (fy : flatV y = true) (fx : flatV x = true) : SeqAt.EqAt A s u v (eqV y x) := by
  cases y with
  | non =>
    cases ry
    cases x with
    | non => cases rx; exact SeqAt.EqAt.same _
    | bl b => cases rx; exact SeqAt.EqAt.none_bool b
    | int b => obtain ⟨t, rfl⟩ := rx; exact SeqAt.EqAt.none_int b t
    | str b => obtain ⟨t, rfl⟩ := rx; exact SeqAt.EqAt.none_str b t
    | _ => exact absurd (show false = true from fx) Bool.false_ne_true
  | bl a =>
    cases ry
    cases x with
    | non => cases rx; exact SeqAt.EqAt.bool_none a
    | bl b => cases rx; exact SeqAt.EqAt.bool_bool a b
    | int b => obtain ⟨t, rfl⟩ := rx; exact SeqAt.EqAt.bool_int a b t
    | str b => obtain ⟨t, rfl⟩ := rx; exact SeqAt.EqAt.bool_str a b t
    | _ => exact absurd (show false = true from fx) Bool.false_ne_true
  | int a =>
    obtain ⟨t', rfl⟩ := ry
    cases x with
    | non => cases rx; exact SeqAt.EqAt.int_none a t'
    | bl b => cases rx; exact SeqAt.EqAt.int_bool a t' b
    | int b => obtain ⟨t, rfl⟩ := rx; exact SeqAt.EqAt.int_int a t' b t
    | str b => obtain ⟨t, rfl⟩ := rx; exact SeqAt.EqAt.int_str a t' b t
    | _ => exact absurd (show false = true from fx) Bool.false_ne_true
  | str a =>
    obtain ⟨t', rfl⟩ := ry
    cases x with
    | non => cases rx; exact SeqAt.EqAt.str_none a t'
    | bl b => cases rx; exact SeqAt.EqAt.str_bool a t' b
    | int b => obtain ⟨t, rfl⟩ := rx; exact SeqAt.EqAt.str_int a t' b t
    | str b => obtain ⟨t, rfl⟩ := rx; exact SeqAt.EqAt.str_str a t' b t
    | _ => exact absurd (show false = true from fx) Bool.false_ne_true
  | _ => exact absurd (show false = true from fy) Bool.false_ne_true
/-- the items' answers, read off the values (a value's own answer does not lean on its token) -/
def eqU (x : V) (u : Value) : Bool := match u with
  | .none => eqV .non x
  | .bool b => eqV (.bl b) x
  | .int i _ => eqV (.int i) x
  | .str z _ => eqV (.str z) x
  | _ => false
theorem eqU_of {x y : V} {u : Value} (r : RelV y u) (f : flatV y = true) : eqU x u = eqV y x := by
  cases y with
  | non => cases r; rfl
  | bl b => cases r; rfl
  | int i => obtain ⟨t, rfl⟩ := r; rfl
  | str z => obtain ⟨t, rfl⟩ := r; rfl
  | _ => exact absurd (show false = true from f) Bool.false_ne_true
theorem any_eqU {x : V} : ∀ {xs : List V} {us : List Value}, Vals xs us → xs.all flatV = true → us.any (eqU x) = xs.any fun y => eqV y x
  | _, _, .nil, _ => rfl
  | y :: xs, u :: us, .cons r t, f => by
    rw [List.all_cons, Bool.and_eq_true] at f
    rw [List.any_cons, List.any_cons, eqU_of r f.1, any_eqU t f.2]
theorem mem_eqAt {A : Around} {s : Shared} {x : V} {v : Value} (rx : RelV x v) (fx : flatV x = true) : ∀ {xs : List V} {us : List Value}, Vals xs us → xs.all flatV = true → ∀ u ∈ us, SeqAt.EqAt A s u v (eqU x u)
  | _, _, .nil, _ => fun u hu => by cases hu
  | y :: xs, u :: us, .cons r t, f => fun u' hu => by
    rw [List.all_cons, Bool.and_eq_true] at f
    rcases List.mem_cons.mp hu with rfl | hu
    · rw [eqU_of r f.1]; exact eqAt_V r rx f.1 fx
    · exact mem_eqAt rx fx t f.2 u' hu
def inV (x : V) (xs : List V) : Bool := xs.any fun y => eqV y x
/-- x in a list or tuple of flat items -/
def rIn (K : PySem.W.Frag) (neg : Bool) : R2 := fun x y H Q => ∃ p xs, y = .ref p ∧ (SqL K H p xs ∨ SqT K H p xs) ∧ flatV x = true ∧ xs.all flatV = true ∧ Q (.bl (if neg then !inV x xs else inV x xs)) H
theorem op_in_seq : OpR X (compareOp .In) (rIn X.K false) := by
  intro pins s σ H x y v u Q I rx ry h
  obtain ⟨p, xs, rfl, hq, fx, fs, q⟩ := h
  cases ry
  rcases hq with hq | hq
  · obtain ⟨its, r, pl, hz⟩ := I.list hq
    refine SeqAt.in_listAt (eqU x) pl.isList (fun w hw => mem_eqAt rx fx r fs w (by simpa using hw)) ⟨.bl _, H, I, rfl, ?_⟩
    rw [show its.toArray.any (eqU x) = its.any (eqU x) by simp, any_eqU r fs]
    exact q
  · obtain ⟨its, r, pl, hz⟩ := I.tuple hq
    refine SeqAt.in_tupleAt (eqU x) pl (fun w hw => mem_eqAt rx fx r fs w (by simpa using hw)) ⟨.bl _, H, I, rfl, ?_⟩
    rw [show its.toArray.any (eqU x) = its.any (eqU x) by simp, any_eqU r fs]
    exact q

/-! ### len, list(x), tuple(x) of any list or tuple that is read -/
theorem call_len_seq : CallR X (.builtin "len") (fun xs H Q => ∃ p ys, xs = [.ref p] ∧ (SqL X.K H p ys ∨ SqT X.K H p ys) ∧ Q (.int ys.length) H) := by
  intro pins s σ H xs us Q I r h
  obtain ⟨p, ys, rfl, hq, q⟩ := h
  obtain ⟨u, rfl, rx⟩ := vals1 r
  cases rx
  have hn := line63
  rcases hq with hq | hq
  · obtain ⟨its, r', pl, hz⟩ := I.list hq
    have hlen := r'.length
    exact Calls.call_len_list pl.isList (by simp only [List.size_toArray] <;> omega) ⟨.int ys.length, H, I.tok _, ⟨s.toks + 1, by rw [List.size_toArray, hlen]⟩, q⟩
  · obtain ⟨its, r', pl, hz⟩ := I.tuple hq
    have hlen := r'.length
    exact len_tuple pl (by simp only [List.size_toArray] <;> omega) ⟨.int ys.length, H, I.tok _, ⟨s.toks + 1, by rw [List.size_toArray, hlen]⟩, q⟩
theorem call_len_str : CallR X (.builtin "len") (fun xs H Q => ∃ z, xs = [.str z] ∧ z.length ≤ sizeLine ∧ Q (.int z.length) H) := by
  intro pins s σ H xs us Q I r h
  obtain ⟨z, rfl, hz, q⟩ := h
  obtain ⟨u, rfl, t, rfl⟩ := vals1 r
  have hn := line63
  exact len_str (by omega) ⟨.int z.length, H, I.tok _, ⟨_, rfl⟩, q⟩
theorem call_list_of : CallR X (.type "list") (fun xs H Q => ∃ p ys, xs = [.ref p] ∧ (SqL X.K H p ys ∨ SqT X.K H p ys) ∧ ∀ l, H l = none → Q (.ref l) (upd H l (.lst ys))) := by
  intro pins s σ H xs us Q I r h
  obtain ⟨p, ys, rfl, hq, q⟩ := h
  obtain ⟨u, rfl, rx⟩ := vals1 r
  cases rx
  have fin : ∀ (its : List Value), Vals ys its → ys.length ≤ sizeLine → ∀ (h' : Heap) (c' : Nat), (∀ b o', s.heap.get? b = some o' → h'.get? b = some o') →
      h'.get? s.heap.objs.size = some { cls := .type "list", dict := none, data := .seq its.toArray c', slots := #[] } → EP X pins σ Q (.ref s.heap.objs.size) { s with heap := h' } := fun its r' hz h' c' kp e =>
    ⟨.ref s.heap.objs.size, _, I.laid (t' := s.toks) kp (Nat.le_refl _) (show ObjOk X.prog X.w _ h' _ (.lst ys) from ⟨hz, its, c', r', e⟩), rfl, q _ (I.hok.fresh (Nat.le_refl _))⟩
  rcases hq with hq | hq
  · obtain ⟨its, r', pl, hz⟩ := I.list hq
    have hlen := r'.length
    obtain ⟨o, ho, hc, n, hd⟩ := pl.isList
    exact call_list_seq p (.inl rfl) ho hc hd (fun h' c' kp e => fin its r' hz h' c' kp e) (by simp only [List.size_toArray] <;> omega)
  · obtain ⟨its, r', pl, hz⟩ := I.tuple hq
    have hlen := r'.length
    obtain ⟨o, ho, hc, n, hd⟩ := pl
    exact call_list_seq p (.inr rfl) ho hc hd (fun h' c' kp e => fin its r' hz h' c' kp e) (by simp only [List.size_toArray] <;> omega)
theorem call_tuple_of : CallR X (.type "tuple") (fun xs H Q => ∃ p ys, xs = [.ref p] ∧ ((SqL X.K H p ys ∧ ∀ l, H l = none → Q (.ref l) (upd H l (.tup ys))) ∨ (SqT X.K H p ys ∧ Q (.ref p) H))) := by
  intro pins s σ H xs us Q I r h
  obtain ⟨p, ys, rfl, h⟩ := h
  obtain ⟨u, rfl, rx⟩ := vals1 r
  cases rx
  rcases h with ⟨hq, q⟩ | ⟨hq, q⟩
  · obtain ⟨its, r', pl, hz⟩ := I.list hq
    have hlen := r'.length
    refine call_tuple_list pl.isList (fun h' kp => ?_) (by simp only [List.size_toArray] <;> omega)
    have I1 : Inv X pins σ H { s with heap := h' } := I.kept (t' := s.toks) kp
    have I2 : Inv X pins σ (upd H h'.objs.size (.tup ys)) { s with heap := h'.push { cls := .type "tuple", data := .seq its.toArray } } :=
      I1.laid (t' := s.toks) (fun b o e => Heap.get?_push_of_some _ e) (Nat.le_refl _) (show ObjOk X.prog X.w _ _ _ (.tup ys) from ⟨hz, its, r', IsTup.new _ _⟩)
    exact ⟨.ref h'.objs.size, _, I2, rfl, q _ (I1.hok.fresh (Nat.le_refl _))⟩
  · obtain ⟨its, r', pl, hz⟩ := I.tuple hq
    exact call_tuple_same pl ⟨.ref p, H, I, rfl, q⟩

/-! ### the call of a builtin's method: o.m(..) -/
/-- the value is of that builtin type -/
def tyV (K : PySem.W.Frag) (T : String) (x : V) (H : Hp) : Prop := match x with
  | .str _ => T = "str"
  | .int _ => T = "int"
  | .ref p => (T = "list" ∧ ∃ xs, SqL K H p xs) ∨ (T = "tuple" ∧ ∃ o, K.lookup p = some o ∧ o.cls = .type "tuple" ∧ o.dict = none) ∨
      (T = "dict" ∧ ((∃ kvs, H p = some (.dK kvs)) ∨ ∃ kvs, H p = some (.dT kvs))) ∨ (T = "set" ∧ ∃ S n, H p = some (.set S n))
  | _ => False
theorem tyV_is {pins : List (Addr × Obj)} {σ : St} {H : Hp} {s : Shared} {T : String} {x : V} {v : Value} (I : Inv X pins σ H s) (r : RelV x v) (ty : tyV X.K T x H) :
    s.TypeIs v T ∧ ∀ a, v = .ref a → ∃ ob, s.heap.get? a = some ob ∧ ob.dict = none := by
  cases x with
  | str z =>
    obtain ⟨t, rfl⟩ := r
    cases (show T = "str" from ty)
    exact ⟨typeIs_str s z t, fun _ e => nomatch e⟩
  | int i =>
    obtain ⟨t, rfl⟩ := r
    cases (show T = "int" from ty)
    exact ⟨typeIs_int s i t, fun _ e => nomatch e⟩
  | ref p =>
    cases r
    rcases ty with ⟨rfl, xs, hq⟩ | ⟨rfl, o, hk, hc, hd⟩ | ⟨rfl, hk⟩ | ⟨rfl, S, n, hk⟩
    · obtain ⟨its, _, pl, _⟩ := I.list hq
      refine ⟨pl.isList.typeIs, fun a e => ?_⟩
      cases e
      obtain ⟨o, n, e, c, hd, _⟩ := pl
      exact ⟨o, e, hd⟩
    · refine ⟨⟨o, I.kIn p o hk, hc⟩, fun a e => ?_⟩
      cases e
      exact ⟨o, I.kIn _ o hk, hd⟩
    · have z : ∃ o, s.heap.get? p = some o ∧ o.ExactDict := by
        rcases hk with ⟨kvs, hk⟩ | ⟨kvs, hk⟩
        · obtain ⟨_, _, _, _, o, _, _, e, ex, _⟩ := I.hok p _ hk
          exact ⟨o, e, ex⟩
        · obtain ⟨_, _, _, _, o, _, _, e, ex, _⟩ := I.hok p _ hk
          exact ⟨o, e, ex⟩
      obtain ⟨o, e, ex⟩ := z
      refine ⟨⟨o, e, ex.1⟩, fun a e2 => ?_⟩
      cases e2
      exact ⟨o, e, ex.2.1⟩
    · obtain ⟨o, _, _, _, e, ex, _⟩ := I.hok p _ hk
      refine ⟨⟨o, e, ex.1⟩, fun a e2 => ?_⟩
      cases e2
      exact ⟨o, e, ex.2.1⟩
  | _ => exact False.elim ty
def tBM0 (K : PySem.W.Frag) (T : String) (r : V → List V → Hp → VK → Prop) (to : TE) : TE := fun σ H Q => to σ H fun x H1 => tyV K T x H1 ∧ r x [] H1 Q
def tBM (K : PySem.W.Frag) (T : String) (r : V → List V → Hp → VK → Prop) (to : TE) (t : TA) : TE := fun σ H Q => to σ H fun x H1 => tyV K T x H1 ∧ t σ H1 fun xs H2 => r x xs H2 Q
variable {o e : Expr} {es : List Expr} {to : TE} {t : TA} {name : Str} {apos cpos : Pos} {T id : String} {r : V → List V → Hp → VK → Prop}
theorem pe_bm0 (pa : PlainAttrs T) (slot : Slot T name id) (hty : typeOf (.builtin id) = pure (.type "method_descriptor")) (hm : MtR X id r) (ho : PE X o to)
    (hbase : attributeBase o name X.env (eval o X.env) = eval o X.env := by rfl) (hline : (apos.endLine == cpos.line) = true := by rfl) : PE X (.Call (.Attribute o name apos) [] [] cpos) (tBM0 X.K T r to) := by
  refine ⟨?_⟩
  intro pins s σ H Q I h
  refine wpAny_Call_method0_late hbase hline (thn (ho pins s σ H _ I h) fun v s1 ⟨x, H1, I1, r1, ty, q1⟩ => ?_)
  obtain ⟨h1, h2⟩ := tyV_is I1 r1 ty
  exact ⟨T, id, pa, slot, hty, h1, h2, Calls.callWith_builtin rfl (PySem.evalArgs_none (hm pins s1 σ H1 x [] v [] Q I1 r1 .nil q1))⟩
theorem pe_bm (pa : PlainAttrs T) (slot : Slot T name id) (hty : typeOf (.builtin id) = pure (.type "method_descriptor")) (hm : MtR X id r) (ho : PE X o to) (ha : PA X (e :: es) t)
    (hbase : attributeBase o name X.env (eval o X.env) = eval o X.env := by rfl)
    (hfew : ((backTo cpos (starEach (e :: es) X.env)).all (fun x => !x.1) && (backToKw cpos (keywordEach [] X.env)).all (fun x => x.1.isSome)
      && decide ((e :: es).length + ([] : List Keyword).length + (if ([] : List Keyword).isEmpty then 0 else 1) < 30)) = true := by rfl)
    (hline : (apos.endLine == cpos.line) = true := by rfl) (hs : starEach (e :: es) X.env = (false, eval e X.env) :: starEach es X.env := by rfl) (hplain : (backTo cpos (starEach es X.env)).any (·.1) = false := by rfl) :
    PE X (.Call (.Attribute o name apos) (e :: es) [] cpos) (tBM X.K T r to t) := by
  refine ⟨?_⟩
  intro pins s σ H Q I h
  refine wpAny_Call_method_late hbase hfew hline rfl (thn (ho pins s σ H _ I h) fun v s1 ⟨x, H1, I1, r1, ty, q1⟩ => ?_)
  obtain ⟨h1, h2⟩ := tyV_is I1 r1 ty
  refine ⟨T, id, pa, slot, hty, h1, h2, ?_⟩
  have hA := ha cpos pins s1 σ H1 _ I1 q1
  rw [hs] at hA ⊢
  refine Calls.callWith_builtin (by show (false || (backTo cpos (starEach es X.env)).any (·.1)) = false; rw [hplain] <;> rfl) (Calls.evalArgs_plain ?_)
  exact thn hA fun us s2 ⟨vs, H2, I2, r2, q2⟩ => hm pins s2 σ H2 x vs v us Q I2 r1 r2 q2
/- xs.append(e), list.index on a module's tuple .. are MtR facts of 06m -/
end
end L2

namespace L2
open PySem PySem.Spec PyProof.Rows

def MtM (X : Cx) (id : String) (r : V → List V → Hp → VK → Prop) : Prop :=
  ∀ (pins : List (Addr × Obj)) (s : Shared) (σ : St) (H : Hp) (x : V) (xs : List V) (v : Value) (us : List Value) (Q : VK), Inv X pins σ H s → RelV x v → Vals xs us → r x xs H Q →
    wpAny (model X.prog X.w) X.A (call (.builtin id) (v :: us)) (EP X pins σ Q) X.xe s

/-! ### lists of values -/
theorem Vals.one : ∀ {x : V} {us : List Value}, Vals [x] us → ∃ u, us = [u] ∧ RelV x u
  | _, _, .cons r .nil => ⟨_, rfl, r⟩
theorem Vals.two : ∀ {x y : V} {us : List Value}, Vals [x, y] us → ∃ u v, us = [u, v] ∧ RelV x u ∧ RelV y v
  | _, _, _, .cons r (.cons q .nil) => ⟨_, _, rfl, r, q⟩

section
variable {X : Cx} {pins : List (Addr × Obj)} {σ : St} {H : Hp} {s : Shared} {l b : Addr} {xs ys zs : List V}

/-! ### the two steps: a tracked list is rewritten, a new list is laid -/
theorem Inv.lset {its its' : List Value} {n : Nat} {f : Array Value → Array Value} {t' : Nat} (I : Inv X pins σ H s) (hH : H l = some (.lst xs))
    (e : s.heap.get? l = some { cls := .type "list", data := .seq its.toArray n }) (hf : f its.toArray = its'.toArray) (hv : Vals ys its') (hz : ys.length ≤ sizeLine) :
    Inv X pins σ (upd H l (.lst ys)) { s with heap := s.heap.update l (Obj.mapSeq f), toks := t' } := by
  have q := PySem.IsL.update e f
  rw [hf] at q
  refine I.write (x := l) (e := l) (by rw [hH]; exact trivial) (.inl rfl) (fun b' u hb hu => (Heap.get?_update_other s.heap (Obj.mapSeq f) (Ne.symm hb)).trans hu) ⟨_, q⟩ ?_
  exact ⟨hz, its', _, hv, q⟩
theorem Inv.lnew {its : List Value} {t' : Nat} (I : Inv X pins σ H s) (hv : Vals ys its) (hz : ys.length ≤ sizeLine) :
    Inv X pins σ (upd H s.heap.objs.size (.lst ys)) { s with heap := s.heap.push { cls := .type "list", data := .seq its.toArray }, toks := t' } :=
  I.laid (fun _ _ q => Heap.get?_push_of_some _ q) (Nat.le_refl _) ⟨hz, its, 0, hv, Heap.get?_push_size _ rfl⟩
theorem Inv.fresh (I : Inv X pins σ H s) : H s.heap.objs.size = none := I.hok.fresh (Nat.le_refl _)
theorem Inv.lstM (I : Inv X pins σ H s) (hH : H l = some (.lst xs)) : xs.length ≤ sizeLine ∧ ∃ (its : List Value) (n : Nat), Vals xs its ∧ xs.length = its.length ∧ s.heap.get? l = some { cls := .type "list", data := .seq its.toArray n } := by
  obtain ⟨z, its, n, r, e⟩ := I.hok l _ hH
  exact ⟨z, its, n, r, r.length, e⟩

end

section
variable {X : Cx}

/-! ### methods -/
def rAppend : V → List V → Hp → VK → Prop := fun x vs H Q => ∃ l xs y, x = .ref l ∧ vs = [y] ∧ H l = some (.lst xs) ∧ xs.length < sizeLine ∧ Q .non (upd H l (.lst (xs ++ [y])))
theorem mt_append : MtM X "list.append" rAppend := by
  intro pins s σ H x vs v us Q I rx rv h
  obtain ⟨l, xs, y, rfl, rfl, hH, hz, q⟩ := h
  cases rx
  obtain ⟨u, rfl, ru⟩ := rv.one
  obtain ⟨z, its, n, r, hl, e⟩ := I.lstM hH
  refine call_meets F.slot_list_append ⟨_, e, rfl⟩ F.entry_list_append (F.args_list_append_2 _ _) (PySem.list_append l its.toArray n u (by rw [List.size_toArray]; omega)) ⟨e, ?_⟩
  refine ⟨.non, _, I.lset (its' := its ++ [u]) hH e (by simp) (r.append (.cons ru .nil)) ?_, rfl, q⟩
  rw [List.length_append, List.length_singleton]
  omega






/-! ### list + list, list += list, list * int -/
def rCat : R2 := fun x y H Q => ∃ l b xs zs, x = .ref l ∧ y = .ref b ∧ H l = some (.lst xs) ∧ H b = some (.lst zs) ∧ xs.length + zs.length ≤ sizeLine ∧ ∀ p, H p = none → Q (.ref p) (upd H p (.lst (xs ++ zs)))
theorem op_cat : OpR X (binaryOp .Add) rCat := by
  intro pins s σ H x y v u Q I rx ry h
  obtain ⟨l, b, xs, zs, rfl, rfl, hH, hB, hz, q⟩ := h
  cases rx
  cases ry
  obtain ⟨z, its, n, r, hl, e⟩ := I.lstM hH
  obtain ⟨z2, its2, n2, r2, hl2, e2⟩ := I.lstM hB
  refine PySem.P.add_list e e2 ?_ (by rw [List.size_toArray, List.size_toArray]; omega)
  have ea : its.toArray ++ its2.toArray = (its ++ its2).toArray := by simp
  rw [ea]
  exact ⟨.ref _, _, I.lnew (t' := s.toks) (r.append r2) (by rw [List.length_append]; omega), rfl, q _ I.fresh⟩

/-! ### del xs[i] -/
end

/-! ### xs[a:b] = ys -/
section
variable {prog : Program} {w : World} {A : Around} {E : Value → Shared → Prop} {s : Shared}
end

section
variable {X : Cx}
end
end L2

namespace Att
open PySem PySem.W PySem.Calls PyProof.Rows

/-! ### the script -/
theorem ints_of_wellAll {P : Params} {h : Heap} : ∀ (ns : List Int) (vs : List Value), WellAll P h vs (ns.map WData.int) → IntsAre vs ns := by
  intro ns
  induction ns with
  | nil =>
    intro vs w
    rw [List.map_nil] at w
    cases w
    exact .nil
  | cons n ns ih =>
    intro vs w
    rw [List.map_cons] at w
    cases w with
    | cons a b =>
      cases a
      exact .cons _ _ (ih _ b)

theorem script_of {l : OpenLaw} {n : Nat} (hn : l.most = some n) {P : Params} {h : Heap} {args : List WData} {vals : List Value}
    (hpre : l.row.toRowW.claim.pre args = true) (hwl : WellAll P h vals args) :
    ∃ a vs ns, vals = [Value.ref a] ∧ args = [WData.list (ns.map WData.int)] ∧ h.get? a = some { cls := .type "list", data := .seq vs.toArray } ∧ IntsAre vs ns ∧ ns.length ≤ n := by
  have hsh : WShape.hasAll [] args [.list .int] = true := (pre_splitW hpre).1
  have hc : l.pre.holds [] { args := args } = true := (pre_splitW hpre).2
  obtain ⟨d, r, rfl, h1, h2⟩ := hasAllW_cons hsh
  obtain rfl := hasAllW_nil h2
  obtain ⟨xs, rfl, h3⟩ := hasW_list h1
  obtain ⟨ns, rfl⟩ := items_int h3
  have hlen : ns.length ≤ n := by
    unfold OpenLaw.pre at hc
    have h4 : (WTm.not (.lt (.lit (.int (n : Int))) (.len (.arg 0)))).holds [] { args := [.list (ns.map .int)] } = true := by
      have h4 := (holds_andW hc).1
      rw [hn] at h4
      exact h4
    have h5 := condW_of h4 (w_not (w_lt w_lit (w_len_list (w_arg rfl))))
    rw [List.length_map] at h5
    refine Nat.le_of_not_lt fun q => ?_
    have q' : (n : Int) < ((ns.length : Nat) : Int) := by omega
    first
      | (rw [decide_eq_true q'] at h5; exact absurd h5 (by decide))
      | (simp at h5; omega)
  cases hwl with
  | cons w1 w2 =>
    cases w2
    cases w1 with
    | list ho hall => exact ⟨_, _, ns, rfl, rfl, ho, ints_of_wellAll ns _ hall, hlen⟩

theorem post_true (l : OpenLaw) (args : List WData) : l.row.toRowW.claim.post args (.bool true) args = true :=
  postW_of (r := l.row.toRowW) (X := (true == true))
    (show WShape.has [] (.bool true) .bool = true by first | rfl | decide | simp [WShape.has, WShape.arms, WShape.armsAll])
    (show (WTm.eq .res (.lit (.bool true))).value [] { args := args, res := some (.bool true), after := args } = some (.bool (true == true)) from w_eq_bool (w_res rfl) w_lit) rfl

/-! ### the attachment: holds_open's last premise (the goal 'hc' behind k_head) from a wpAny of the law's body -/

/-- the same from a codeAny of the CALL (for a layer whose function contracts speak of calls) -/
theorem attach_call {l : OpenLaw} {n : Nat} {q : Program} {loose : List Str} {XP : (Str → Option Value) → Heap → Prop} {YP : World → Heap → Prop} {d : DefRec}
    (hn : l.most = some n) (hdf : d.params.defaults = [])
    (call : ∀ (w : World) (s₀ s₁ : Shared) (mg mb : Str → Option Value) (fa : Addr) (o : Obj) (pm cd doc : Value) (a : Addr) (vs : List Value) (ns : List Int),
      Ground q loose [] XP w s₀ mg mb s₁.heap → YP w s₁.heap →
      s₁.heap.get? fa = some o → o.data = .func (docDef d.name d.params d.body d.scope pm cd doc) → s₁.heap.CodeRec cd d.name → mg d.name = some (.ref fa) →
      s₁.heap.get? a = some { cls := .type "list", data := .seq vs.toArray } → IntsAre vs ns → ns.length ≤ n → s₁.gens = #[] →
      codeAny (model l.prog w) callerA (.call (.ref fa) ⟨[.ref a], []⟩) (fun r s' => r = .ok (.ret (.bool true)) ∧ OldK s₁.heap s'.heap ∧ s'.os = s₁.os ∧ AllBare s'.gens) s₁) :
    WalkO q loose XP YP l.row.toRowW d [] (fun f vs => PySem.call f vs) := by
  intro w s₀ s₁ mg mb G Y fa o pm cd doc dV kV ho hd hcd hD hmg hg args vals as hpre hlay hrd hwl hlo
  obtain rfl : dV = .none := Dflts.none hD hdf
  obtain rfl : kV = .none := Dflts.noKw hD
  obtain ⟨a, vs, ns, rfl, rfl, hobj, hints, hlen⟩ := script_of hn hpre hwl
  refine enter_call (codeAny_mono (call w s₀ s₁ mg mb fa o pm cd doc a vs ns G Y ho (fd_plain hd) hcd hmg hobj hints hlen hg) fun r s' hq => ?_)
  obtain ⟨rfl, h2, h3, h4⟩ := hq
  exact ⟨.inl ⟨.bool true, .bool true, [], rfl, fun _ => rfl, .bool true, post_true l _, fun _ => ⟨List.Pairwise.nil, fun _ hm => (nomatch hm)⟩⟩, h2, h3, h4⟩


/-! ### rules over ANY heap (no ledger) from facts about the written part K: the library's own take a ledger (News) for what they write -/
section
variable {prog : Program} {w : World} {A : Around} {E : Value → Shared → Prop} {s : Shared} {K : Frag}





/-! the whole heap as the ledger: makes every rule that writes through a ledger a rule over any heap -/

end
end Att

namespace L2
open PySem PySem.Spec PyProof.Rows

theorem vals_ints : ∀ {vs : List Value} {ns : List Int}, IntsAre vs ns → Vals (ns.map V.int) vs
  | _, _, .nil => .nil
  | _, _, .cons n t h => .cons ⟨t, rfl⟩ (vals_ints h)

/-- nothing is tracked but the script, known to the object (or it is an object of the module) -/
def Only (H : Hp) : Prop := ∀ b, H b = none ∨ ∃ o xs, H b = some (.frz o (.lst xs))

/-- THE HEAD: the law's promise, at the heap behind the top. F, the promise of the law's def, may use that base is part of the heap (so K.In base, base.Ns mainGlobals mg stand in Mod) -/
theorem law_call {P : Program} {w : World} {K : PySem.W.Frag} {mg mb : Str → Option Value} {CX : CXT} {k : Nat} {fa a : Addr} {fd : FuncData} {x : Str} {sp : Sp} {s₁ : Shared} {vs : List Value} {ns : List Int}
    (KX : K.In s₁.heap) (hns : s₁.heap.Ns mainGlobals mg) (hb : s₁.heap.Ns builtinsNs mb) (hbb : ∀ x : Str, x ≠ "__name__" → mb x = bootBuiltins x) (hlim : s₁.heap.NoLimit) (hg : s₁.gens = #[])
    (ha : s₁.heap.get? a = some { cls := .type "list", data := .seq vs.toArray }) (hi : IntsAre vs ns) (hl : ns.length ≤ sizeLine) (hr : Room k callerA)
    (F : ∀ base : Heap, K.In base → base.Ns mainGlobals mg → FnOk P w K mg base CX k fa fd [x] sp) (hbind : ∀ (s : Shared) (u : Value), BindsTo s fd ⟨[u], []⟩ [(x, u)])
    (hsp : ∀ H : Hp, Only H → SqL K H a (ns.map V.int) → sp [.ref a] H (fun v _ => v = .bl true) fun _ _ _ => False)
    (hCX : ∀ H e s', CX [] H s₁ (fun _ _ _ => False) e s' → False) :
    codeAny (model P w) callerA (.call (.ref fa) ⟨[.ref a], []⟩) (fun r s' => r = .ok (.ret (.bool true)) ∧ OldK s₁.heap s'.heap ∧ s'.os = s₁.os ∧ AllBare s'.gens) s₁ := by
  have rv := vals_ints hi
  have lenV := hi.length
  have core : ∀ H : Hp, Only H → SqL K H a (ns.map V.int) → HOk P w H s₁.heap → (∀ b, H b ≠ none → b = a) → (H a ≠ none → K.lookup a = none) →
      codeAny (model P w) callerA (.call (.ref fa) ⟨[.ref a], []⟩) (fun r s' => r = .ok (.ret (.bool true)) ∧ OldK s₁.heap s'.heap ∧ s'.os = s₁.os ∧ AllBare s'.gens) s₁ := by
    intro H hO hS hok hA hK
    have base_of : ∀ {b : Addr} {o : Obj}, s₁.heap.get? b = some o → H b = none → (hidT s₁.heap H).get? b = some o := fun e n => hidT_get e n
    have noA : ∀ {b : Addr} {o : Obj} {es : Array DictEntry} {ep : Nat}, s₁.heap.get? b = some o → o.data = .dict es ep → H b = none := fun {b o es ep} e d => by
      cases q : H b with
      | none => rfl
      | some u =>
        have e' : b = a := hA b (by rw [q]; simp)
        subst e'
        rw [ha] at e; cases e
        have d' : Data.seq vs.toArray _ = Data.dict es ep := d
        cases d'
    have nsK : ∀ {b : Addr} {m : Str → Option Value}, s₁.heap.Ns b m → (hidT s₁.heap H).Ns b m := fun {b m} ⟨o, es, ep, e, d, r⟩ => ⟨o, es, ep, base_of e (noA e d), d, r⟩
    have hKb : K.In (hidT s₁.heap H) := fun b o e => base_of (KX b o e) (by
      cases q : H b with
      | none => rfl
      | some u =>
        have e' : b = a := hA b (by rw [q]; simp)
        subst e'
        rw [hK (by rw [q]; simp)] at e; cases e)
    have hM : Mod K mg (hidT s₁.heap H) := ⟨hKb, nsK hns, ⟨mb, nsK hb, hbb⟩, let ⟨mc, h1, h2⟩ := hlim; ⟨mc, nsK h1, h2⟩⟩
    have e0 : Env0 P w K mg (hidT s₁.heap H) callerA [] s₁ H := ⟨rfl, hM, fun b o e => of_hidT e, Nat.le_of_eq (hidT_size _ _), trivial, fun b hb => absurd (show b ∈ ([] : List Addr) from hb) (by simp), hok, .of_eq hg⟩
    refine codeAny_mono ((F _ hKb (nsK hns)).run callerA [] s₁ H ⟨[.ref a], []⟩ [.ref a] [.ref a] _ _ hr e0 (hbind s₁ (.ref a)) (.cons rfl .nil) (hsp H hO hS)) fun r s' h => ?_
    cases r with
    | error e => exact (hCX H e s' h).elim
    | ok fl =>
      cases fl with
      | next => exact False.elim h
      | brk => exact False.elim h
      | cont => exact False.elim h
      | ret u =>
        obtain ⟨v, H', os, bare, un, hok', r', q⟩ := h
        have q' : v = .bl true := q
        subst q'
        obtain rfl : u = Value.bool true := r'
        refine ⟨rfl, OldK.of_keep fun b o e => ?_, os, bare⟩
        cases q : H b with
        | none => exact un.keep b o e q (by intro z; exact absurd (show b ∈ ([] : List Addr) from z) (by simp)) (by simp)
        | some u =>
          rcases hO b with z | ⟨ob, xs, z⟩
          · rw [q] at z; cases z
          · have z2 := un.frzs b ob _ z
            obtain ⟨e1, _⟩ := hok b _ z
            obtain ⟨e2, _⟩ := hok' b _ z2
            rw [e] at e1; cases e1
            exact e2
  cases hk : K.lookup a with
  | some o =>
    have e := KX a o hk
    rw [ha] at e
    cases e
    refine core (fun _ => none) (fun _ => .inl rfl) (.inr ⟨_, vs.toArray, _, hk, rfl, rfl, rfl, by rw [List.size_toArray, lenV]; exact hl, by simpa using rv⟩) (fun b u z => by have z' : (none : Option HO) = some u := z; cases z') (fun b z => absurd rfl z) fun z => absurd rfl z
  | none =>
    refine core (fun b => if b = a then some (.frz { cls := .type "list", data := .seq vs.toArray } (.lst (ns.map V.int))) else none) (fun b => ?_) (.inl (.inr ⟨{ cls := .type "list", data := .seq vs.toArray }, if_pos rfl⟩)) (fun b u z => ?_) (fun b z => ?_) fun _ => hk
    · by_cases hb : b = a
      · exact .inr ⟨_, _, if_pos hb⟩
      · exact .inl (if_neg hb)
    · by_cases hb : b = a
      · have z' := (if_pos hb).symm.trans z
        cases z'
        subst hb
        exact ⟨ha, by rw [List.length_map]; exact hl, vs, _, rv, ha⟩
      · have z' := (if_neg hb).symm.trans z
        cases z'
    · by_cases hb : b = a
      · exact hb
      · exact absurd (if_neg hb) z
end L2

namespace L2
open PySem PySem.Spec PyProof.Rows

abbrev KOf {K : PySem.W.Frag} {h : Heap} (_ : K.In h) : PySem.W.Frag := K

/-- the goal that k_head leaves (case hc), from the law's promise. F gives the function object fd (K's own) once, then the promise over every base -/
theorem walk_of {l : PySem.W.OpenLaw} {n k : Nat} {q : Program} {loose : List Str} {XP : (Str → Option Value) → Heap → Prop} {YP : World → Heap → Prop} {d : DefRec} {K : Params → PySem.W.Frag} {CX : World → CXT} {sp : World → Sp} {x : Str}
    (hn : l.most = some n) (hn2 : n ≤ sizeLine) (hdf : d.params.defaults = []) (hr : Room k callerA)
    (hY : ∀ (w : World) (h : Heap), YP w h → (K w.params).In h)
    (F : ∀ (w : World) (mg : Str → Option Value) (fa : Addr) (h : Heap), (K w.params).In h → h.Ns mainGlobals mg → mg d.name = some (.ref fa) →
      ∃ fd : FuncData, (∀ (s : Shared) (u : Value), BindsTo s fd ⟨[u], []⟩ [(x, u)]) ∧
        ∀ base : Heap, (K w.params).In base → base.Ns mainGlobals mg → FnOk l.prog w (K w.params) mg base (CX w) k fa fd [x] (sp w))
    (hsp : ∀ (w : World) (H : Hp) (a : Addr) (ns : List Int), ns.length ≤ n → Only H → SqL (K w.params) H a (ns.map V.int) → sp w [.ref a] H (fun v _ => v = .bl true) fun _ _ _ => False)
    (hCX : ∀ (w : World) (H : Hp) (s : Shared) (e : Value) (s' : Shared), CX w [] H s (fun _ _ _ => False) e s' → False) :
    PySem.W.WalkO q loose XP YP l.row.toRowW d [] (fun f vs => PySem.call f vs) := by
  refine Att.attach_call hn hdf fun w s₀ s₁ mg mb fa o pm cd doc a vs ns G Y ho hd hcd hmg hobj hints hlen hg => ?_
  have KX := hY w _ Y
  obtain ⟨fd, hb, hF⟩ := F w mg fa _ KX G.T.g hmg
  exact law_call KX G.T.g G.T.b G.T.builtins G.T.nolimit hg hobj hints (Nat.le_trans hlen hn2) hr hF hb (fun H hO hS => hsp w H a ns hlen hO hS) fun H e s' => hCX w H s₁ e s'
end L2

/- THE LAST THEOREM (shape; LID, My.* are yours):
   My.Adr: a structure of the addresses that your layer names (classes, functions); My.Txt K t: a structure (Prop) of the equations over K;
   My.txt_mk : {K} {implicit addresses ..} (e1 : nsIn K mainGlobals "law" = some (some (.ref f))) (e2 : K.lookup f = some ⟨oc, od, .func (fnOf "law" "law" params body scope dV kV doc pm an cdv ct), sl⟩) (e3 : codeIn K cdv "law" = true) .. : ∃ t, My.Txt K t

set_option maxRecDepth 100000 in
set_option maxHeartbeats 0 in
theorem PySem.Challenge.cw_LID_holds : PySem.Challenge.rw_LID.Holds := by
  w_on; o_law; k_head; (case hw => w_witness2)
  k_fill
  refine L2.walk_of (l := PySem.Challenge.rw_LID) (n := 63) (k := 40) (x := "script") (CX := fun w => ..) (sp := fun _ => My.sp_law) rfl (by decide) rfl ⟨rfl, by decide, by decide⟩ (fun w h Y => PySem.W.kIn_of Y) ?F ?S ?C
  case F =>
    intro w mg fa h KX G hmg
    have T : ∃ t, My.Txt (L2.KOf KX) t := by
      dsimp only [L2.KOf]                          -- K must stand as «<heap const> w.params» for k_is
      refine' My.txt_mk ?e1 ?e2 ?e3 ..
      (case e1 => PySem.W.k_is)                    -- in the order: a name -> its address -> its object -> its parts
      (case e2 => PySem.W.k_is)
      ..
    obtain ⟨t, T⟩ := T
    have e0 := hmg.symm.trans (PySem.W.mg_of KX G T.law)
    cases e0                                       -- fa is the law's own address
    exact ⟨_, fun s u => .of_eq rfl, fun base kb nb => My.law_fn T kb nb⟩     -- if «.of_eq rfl» comes too early: refine' ⟨_, ?b, fun base kb nb => My.law_fn T kb nb⟩; exact fun s u => .of_eq rfl
  case S => exact fun w H a ns hl hO hS => ..
  case C => exact ..
(the tactic k_is has no namespace: write k_is) -/

/-! SHORT WORDS over the layer: a def of the text, its body, what a loop and a test want. -/
namespace L2
open PySem PySem.Spec PyProof.Rows

/-! ### the text by places -/
/-- the j-th statement of a class's body -/
def inClass (s : Stmt) (j : Nat) : Stmt := match s with
  | .ClassDef _ _ _ body _ _ _ _ _ _ _ => body.getD j (.Pass ⟨0, 0, 0, 0⟩)
  | _ => .Pass ⟨0, 0, 0, 0⟩
def defArgs (s : Stmt) : Arguments := match s with
  | .FunctionDef _ a _ _ _ _ _ _ _ _ => a
  | _ => { posonlyargs := [], args := [], vararg := none, kwonlyargs := [], kw_defaults := [], kwarg := none, defaults := [] }
def defBody (s : Stmt) : List Stmt := match s with
  | .FunctionDef _ _ b _ _ _ _ _ _ _ => b
  | _ => []
def defScope (s : Stmt) : Scope := match s with
  | .FunctionDef _ _ _ _ _ _ sc _ _ _ => sc
  | _ => { kind := .function, names := [], isGenerator := false, isCoroutine := false }

/-! ### no exception leaves a def -/
abbrev CX0 : CXT := fun _ _ _ _ _ _ => False
abbrev E0 : XK := fun _ _ _ => False
theorem pass0 {X : Cx} : Passes CX0 X E0 := fun _ _ _ _ _ _ _ h => h.elim

/-! ### a def (or method) of the text as it stands behind the top -/
structure Fun (K : PySem.W.Frag) (x qual : Str) (st : Stmt) (f : Addr) (fd : FuncData) : Prop where
  ex : ∃ (oc : Value) (od : Option Addr) (kV doc pm : Value) (an : Option Addr) (cdv ct : Value) (osl : Array (Option Value)),
    fd = PySem.W.fnOf x qual (defArgs st) (defBody st) (defScope st) .none kV doc pm an cdv ct ∧ K.lookup f = some ⟨oc, od, .func fd, osl⟩ ∧ PySem.W.codeIn K cdv qual = true
  kp : PySem.W.keepIn K (.ref f) = true
section
variable {P : Program} {w : World} {K : PySem.W.Frag} {mg : Str → Option Value} {base : Heap}
/-- THE RULE for a def: its body as a term of rules, and the reading of that term -/
theorem Fun.ok {x qual : Str} {st : Stmt} {f : Addr} {fd : FuncData} {N ps : List Str} {k : Nat} {sp : Sp} (F : Fun K x qual st f fd) (S : FnScope N ps (defScope st)) (len : ∀ vs H Q E, sp vs H Q E → vs.length = ps.length)
    (hbody : ∀ (cdv : Value) (A : Around) (outer : List Env) (s : Shared) (H : Hp) (vs : List V) (Q : VK) (E : XK), Room k (A.deeper (envOfC qual (defScope st) s.heap.objs.size f cdv)) → sp vs H Q E →
      ∃ t, PSs (cxOf CX0 P w K mg base N qual (defScope st) f cdv A outer s H E).nox (defBody st) t ∧ t { nx := fun _ H' => Q .non H', rt := Q } (start N vs) H) : FnOk P w K mg base CX0 (k + 1) f fd ps sp := by
  obtain ⟨oc, od, kV, doc, pm, an, cdv, ct, osl, rfl, lk, hcd⟩ := F.ex
  refine fn_of lk hcd S len fun A outer s H vs Q E hr hsp => ?_
  obtain ⟨t, h, q⟩ := hbody cdv A outer s H vs Q E hr hsp
  exact ⟨t, h.nox, q⟩
/-- how its arguments bind (no defaults): h is «fun _ _ _ _ _ _ us hl => match us, hl with | [_, _], _ => rfl», one _ a parameter -/
theorem Fun.binds {x qual : Str} {st : Stmt} {f : Addr} {fd : FuncData} {ps : List Str} (F : Fun K x qual st f fd)
    (h : ∀ (kV doc pm : Value) (an : Option Addr) (cdv ct : Value) (us : List Value), us.length = ps.length → bindArgs (PySem.W.fnOf x qual (defArgs st) (defBody st) (defScope st) .none kV doc pm an cdv ct) ⟨us, []⟩ = pure (ps.zip us)) : Binds K fd ps [] := by
  obtain ⟨oc, od, kV, doc, pm, an, cdv, ct, osl, rfl, lk, hcd⟩ := F.ex
  exact .all (h kV doc pm an cdv ct)
theorem fun_mk {x qual : Str} {st : Stmt} {f : Addr} {oc : Value} {od an : Option Addr} {osl : Array (Option Value)} {kV doc pm cdv ct : Value} (l : K.lookup f = some ⟨oc, od, .func (PySem.W.fnOf x qual (defArgs st) (defBody st) (defScope st) .none kV doc pm an cdv ct), osl⟩)
    (c : PySem.W.codeIn K cdv qual = true) (k : PySem.W.keepIn K (.ref f) = true) : Fun K x qual st f (PySem.W.fnOf x qual (defArgs st) (defBody st) (defScope st) .none kV doc pm an cdv ct) := ⟨⟨oc, od, kV, doc, pm, an, cdv, ct, osl, rfl, l, c⟩, k⟩
end
theorem hu_of {A : Around} {k : Nat} (hr : Room k A) : A.units + 1 < cLine := Nat.lt_of_le_of_lt (Nat.add_le_add_left (by decide : 1 ≤ 64) _) hr.units
theorem small1000 {n : Nat} (h : n ≤ 1000) : n < sizeLine := Nat.lt_of_le_of_lt h (by decide)

/-! ### expressions in short: the name that stands in the i-th slot -/
section
variable {X : Cx}
theorem pv (i : Nat) {x : Str} {pos : Pos} (hN : X.N[i]? = some x := by rfl) (hv : Vis X.env.scope x := by first | exact Or.inl rfl | exact Or.inr (Or.inl rfl) | exact Or.inr (Or.inr rfl)) (hd : (x == ("__debug__" : Str)) = false := by decide)
    (hcd : (x == ("__classdict__" : Str)) = false := by decide) : PE X (.Name x pos) (tVar i) := pe_var hN hv hd hcd
end

/-! ### tests -/
theorem iteF {A B : Prop} (h : B) : if false = true then A else B := by
  rw [if_neg Bool.false_ne_true]
  exact h
theorem iteT {A B : Prop} (h : A) : if true = true then A else B := by
  rw [if_pos rfl]
  exact h
theorem ite2 {c A B : Prop} [Decidable c] (h1 : c → A) (h2 : ¬ c → B) : if c then A else B := by
  by_cases h : c
  · rw [if_pos h]
    exact h1 h
  · rw [if_neg h]
    exact h2 h

/-! ### heaps -/
/-- all that was tracked is as it was -/
def Same (H H' : Hp) : Prop := ∀ b o, H b = some o → H' b = some o
theorem Same.refl (H : Hp) : Same H H := fun _ _ h => h
theorem Same.trans {H H1 H2 : Hp} (a : Same H H1) (b : Same H1 H2) : Same H H2 := fun c o h => b c o (a c o h)
theorem Same.free {H H' : Hp} (e : Same H H') {l : Addr} (h : H' l = Option.none) : H l = Option.none := by
  cases q : H l with
  | none => rfl
  | some o =>
    rw [e l o q] at h
    cases h
theorem Same.seq {K : PySem.W.Frag} {H H' : Hp} {a : Addr} {xs : List V} (e : Same H H') (h : SqL K H a xs) : SqL K H' a xs := by
  rcases h with (h | ⟨o, h⟩) | h
  · exact .inl (.inl (e _ _ h))
  · exact .inl (.inr ⟨o, e _ _ h⟩)
  · exact .inr h

end L2
set_option Elab.async false
set_option linter.all false
set_option maxRecDepth 100000
/-! MORE CALLS over the hand layer: sum, all, divmod, isinstance, o[i] op= e. -/
namespace L2
open PySem PySem.Spec PyProof.Rows

theorem noPylong_big {x y : Int} (h : y.natAbs < 2 ^ 300) : Builtin.divisionGoesByPylong x y = false := by
  refine PyProof.noPylong_of_log2 ?_
  by_cases h0 : y.natAbs = 0
  · rw [h0]; decide +kernel
  · have h30 : y.natAbs.log2 < 300 := (Nat.log2_lt h0).mpr h
    omega
/-- a divisor from 1 on, of at most sixty figures -/
def CDivB (_i j : Int) : Prop := 0 < j ∧ j < 2 ^ 300
section
variable {X : Cx} {a b : Expr} {ta tb : TE} {pos : Pos}
theorem op_fdivB : OpR X (binaryOp .FloorDiv) (rI CDivB fun i j => .int (i / j)) := opI fun i j _ _ _ _ _ hc q => by
  obtain ⟨h1, h2⟩ := hc
  refine floordiv_int (by omega) ?_ (.inl (noPylong_big (by omega)))
  rw [Int.fdiv_eq_ediv_of_nonneg i (by omega)]
  exact q


theorem bools_at {bs : List Bool} {its : List Value} (rv : Vals (bs.map V.bl) its) {i : Nat} {v : Value} (e : its[i]? = some v) : v = .bool (bs.getD i true) := by
  have hl := rv.length
  rw [List.length_map] at hl
  have hi : i < its.length := (List.getElem?_eq_some_iff.mp e).1
  have hn : bs[i]? = some (bs[i]'(by omega)) := List.getElem?_eq_getElem (by omega)
  obtain ⟨u, hu, ru⟩ := rv.get (i := i) (x := V.bl (bs[i]'(by omega))) (by rw [List.getElem?_map, hn]; rfl)
  rw [e] at hu
  cases hu
  rw [List.getD_eq_getElem?_getD, hn]
  exact ru
theorem all_getD (bs : List Bool) : ((List.range bs.length).all fun i => bs.getD i true) = bs.all id := by
  rw [Bool.eq_iff_iff, List.all_eq_true, List.all_eq_true]
  constructor
  · intro h b hb
    obtain ⟨i, hi, e⟩ := List.getElem_of_mem hb
    have := h i (List.mem_range.mpr hi)
    rw [List.getD_eq_getElem?_getD, List.getElem?_eq_getElem hi, e] at this
    exact this
  · intro h i hi
    have hi' := List.mem_range.mp hi
    rw [List.getD_eq_getElem?_getD, List.getElem?_eq_getElem hi']
    exact h _ (List.getElem_mem hi')
theorem call_all_seq (hc : X.calm = true) : CallR X (.builtin "all") (fun xs H Q => ∃ (p : Addr) (bs : List Bool), xs = [.ref p] ∧ SqL X.K H p (bs.map V.bl) ∧ Q (.bl (bs.all id)) H) := by
  intro pins s σ H xs us Q I r h
  obtain ⟨p, bs, rfl, hq, q⟩ := h
  obtain ⟨u, rfl, rx⟩ := vals1 r
  cases rx
  have hh : X.A.in1.handled = none := I.ok.hd hc
  obtain ⟨its, rv, pl, hz⟩ := I.list hq
  have hp : p < s.heap.objs.size := by obtain ⟨o, e, _⟩ := pl.isList; exact Heap.lt_size e
  have hl := rv.length
  rw [List.length_map] at hl
  refine call_all_walk (wpAny_pyIter_list pl.isList ?_)
  refine ⟨s.heap.objs.size, [s.heap.objs.size, p], [s.heap.objs.size], _, _, _, fun i => bs.getD i true, rfl, Walks.list hh _ p (Nat.ne_of_lt hp) its.toArray, ⟨⟨_, Heap.get?_push_size _ rfl, rfl, rfl⟩, pl.isList.at fun o e => Heap.get?_push_of_some _ e⟩, ?_, ?_⟩
  · intro i v s' Q' E' e q'
    have e' : its[i]? = some v := by simpa using e
    rw [bools_at rv e']
    exact wpAny_pure q'
  · intro h' tk k
    have e : ((List.range its.toArray.size).all fun i => bs.getD i true) = bs.all id := by rw [List.size_toArray, ← hl]; exact all_getD bs
    rw [e]
    exact ⟨.bl (bs.all id), H, I.kept fun b ob e => k b ob (by simp; exact Nat.ne_of_lt (Heap.lt_size e)) (Heap.get?_push_of_some _ e), rfl, q⟩

/-! ### isinstance -/
inductive TyS (H : Hp) : V → Value → Prop
  | bl (y : Bool) : TyS H (.bl y) (.type "bool")
  | int (i : Int) : TyS H (.int i) (.type "int")
  | lst {a : Addr} {xs : List V} (ea : H a = some (.lst xs)) : TyS H (.ref a) (.type "list")
  | tup {a : Addr} {xs : List V} (ea : H a = some (.tup xs)) : TyS H (.ref a) (.type "tuple")
theorem ty_kit {pins : List (Addr × Obj)} {σ : St} {H : Hp} {s : Shared} {x : V} {u t : Value} (I : Inv X pins σ H s) (rx : RelV x u) (ty : TyS H x t) : ∃ Hx : Heap → Prop, PySem.W.KitX X.K u t Hx ∧ Hx s.heap ∧ u ≠ .builtin "__main__.__loader__#opaque" := by
  cases ty with
  | bl y => cases (show u = Value.bool y from rx); exact ⟨_, PySem.W.kitx_bool, True.intro, fun z => nomatch z⟩
  | int i => obtain ⟨t, q⟩ := (show ∃ t, u = Value.int i t from rx); cases q; exact ⟨_, PySem.W.kitx_int, True.intro, fun z => nomatch z⟩
  | @lst a xs ea =>
    cases (show u = Value.ref a from rx)
    obtain ⟨_, _, n, _, h1⟩ := (show ObjOk X.prog X.w H s.heap a (.lst xs) from I.hok a _ ea)
    exact ⟨_, PySem.W.kitx_list, ⟨_, h1, rfl⟩, fun z => nomatch z⟩
  | @tup a xs ea =>
    cases (show u = Value.ref a from rx)
    obtain ⟨_, _, _, p⟩ := (show ObjOk X.prog X.w H s.heap a (.tup xs) from I.hok a _ ea)
    obtain ⟨o, h1, h2, _⟩ := p
    exact ⟨_, PySem.W.kitx_tuple, ⟨o, h1, h2⟩, fun z => nomatch z⟩
theorem call_isi1 : CallR X (.builtin "isinstance") (fun xs H Q => ∃ x t T b, xs = [x, .ty T] ∧ TyS H x t ∧ PySem.W.kitOne X.K t (.type T) = some b ∧ Q (.bl b) H) := by
  intro pins s σ H xs us Q I r h
  obtain ⟨x, t, T, b, rfl, ty, e, q⟩ := h
  obtain ⟨u, w', rfl, rx, rt⟩ := vals2 r
  cases rt
  obtain ⟨Hx, Z, p, hx⟩ := ty_kit I rx ty
  exact PySem.W.kia_one Z I.kIn p e hx fun tk => ⟨.bl b, H, I.tok tk, rfl, q⟩
theorem call_isi2 : CallR X (.builtin "isinstance") (fun xs H Q => ∃ x t p T U b, xs = [x, .ref p] ∧ SqT X.K H p [.ty T, .ty U] ∧ TyS H x t ∧ PySem.W.kitAny X.K t [.type T, .type U] = some b ∧ Q (.bl b) H) := by
  intro pins s σ H xs us Q I r h
  obtain ⟨x, t, tp, T, U, b, rfl, hq, ty, e, q⟩ := h
  obtain ⟨u, w', rfl, rx, rt⟩ := vals2 r
  cases rt
  obtain ⟨Hx, Z, p, hx⟩ := ty_kit I rx ty
  obtain ⟨its, rv, pl, hz⟩ := I.tuple hq
  obtain ⟨u1, u2, rfl, r1, r2⟩ := rv.two
  cases r1
  cases r2
  obtain ⟨o, ho, hc, n, hd⟩ := pl
  obtain ⟨oc, odd, odt, osl⟩ := o
  dsimp only at hc hd
  subst hc hd
  exact PySem.W.kia_tup Z I.kIn p ho e hx fun tk => ⟨.bl b, H, I.tok tk, rfl, q⟩
theorem pe_ty {x : Str} {T : String} (hg : Gl X x) (hm : X.mg x = none) (hv : bootBuiltins x = some (.type T)) (hn : x ≠ "__name__" := by decide) (hd : (x == ("__debug__" : Str)) = false := by decide) : PE X (.Name x pos) (tC (.ty T)) := pe_bltn hg hm hv rfl hn hd

/-! ### o[i] by values -/
theorem pget_list : PGet X (rIxL X.K) := by
  intro pins s σ H x y v u Q I rx ry h
  obtain ⟨p, xs, i, z, rfl, rfl, hq, he, q⟩ := h
  cases rx
  obtain ⟨t, rfl⟩ := ry
  obtain ⟨its, r, pl, hz⟩ := I.list hq
  obtain ⟨j, h1, h2, h3, h4, h5⟩ := atI_get he
  obtain ⟨w, ew, rw'⟩ := r.get h2
  have hl := r.length
  have hn := line63
  have fin : EP X pins σ Q w s := ⟨z, H, I, rw', q⟩
  by_cases h0 : 0 ≤ i
  · have hj : i.toNat = j := by
      rw [seqIndex_of h0 h5] at h1
      exact Option.some.inj h1
    exact wpAny_getItem_list pl.isList h0 (by omega) (by rw [hj]; simpa using ew) fin
  · have hj : (i + (its.toArray.size : Int)).toNat = j := by
      rw [seqIndex_neg (by omega) h4] at h1
      rw [List.size_toArray, ← hl]
      exact Option.some.inj h1
    exact wpAny_getItem_list_neg pl.isList (by omega) (by rw [List.size_toArray] <;> omega) (by omega) (by rw [hj]; simpa using ew) fin
end

example (K : PySem.W.Frag) : PySem.W.kitOne K (.type "bool") (.type "int") = some true := by rfl
example (K : PySem.W.Frag) : PySem.W.kitOne K (.type "int") (.type "bool") = some false := by rfl
example (K : PySem.W.Frag) : PySem.W.kitAny K (.type "tuple") [.type "list", .type "tuple"] = some true := by rfl
example (K : PySem.W.Frag) : PySem.W.kitAny K (.type "str") [.type "list", .type "tuple"] = some false := by rfl
end L2
set_option Elab.async false
set_option linter.all false
set_option maxRecDepth 100000
/-! reversed(t) of a tuple, walked by a for. -/
namespace L2
open PySem PySem.Spec PyProof.Rows

namespace RF
end RF



section
variable {prog : Program} {w : World} {A : Around} {E : Value → Shared → Prop} {s : Shared}
end


section
variable {X : Cx} {tg : Expr}
end
end L2
set_option Elab.async false
set_option linter.all false
set_option maxRecDepth 100000
/-! LIST COMPREHENSIONS over the hand layer: one clause, a plain name, none or one test. -/
namespace L2
open PySem PySem.Spec PyProof.Rows

/-! ### the closure -/
def clStep (cells : List (Str × Addr)) (cs : List (Str × Addr)) (p : Str × NameKind) : List (Str × Addr) :=
  if (p.2 == NameKind.free) = true then (match cells.lookup p.1 with | some a => (p.1, a) :: cs | none => cs) else cs
def clOf (sc : Scope) (cells : List (Str × Addr)) : List (Str × Addr) := sc.names.foldl (clStep cells) []

theorem closure_eq {sc : Scope} {env : Env} (h : ∀ p ∈ sc.names, p.2 = .free → ∃ a, env.cells.lookup p.1 = some a) : closureFor sc env = pure (clOf sc env.cells) := by
  have key : ∀ (l : List (Str × NameKind)) (cs : List (Str × Addr)), (∀ p ∈ l, p.2 = .free → ∃ a, env.cells.lookup p.1 = some a) →
      (forIn l cs fun (x : Str × NameKind) (r : List (Str × Addr)) => match x with
        | (name, kind) => if (kind == NameKind.free) = true then (do let a ← cellOf env name; pure (ForInStep.yield ((name, a) :: r))) else (pure (ForInStep.yield r) : Sem (ForInStep (List (Str × Addr))))) = (pure (l.foldl (clStep env.cells) cs) : Sem (List (Str × Addr))) := by
    intro l
    induction l with
    | nil => intro cs _; rfl
    | cons p r ih =>
      intro cs hp
      obtain ⟨n, k⟩ := p
      rw [List.forIn_cons, List.foldl_cons]
      by_cases hk : (k == NameKind.free) = true
      · obtain ⟨a, ea⟩ := hp (n, k) List.mem_cons_self (by simpa using hk)
        have e1 : clStep env.cells cs (n, k) = (n, a) :: cs := by unfold clStep; rw [if_pos hk]; dsimp only; dsimp only at ea; rw [ea]
        rw [e1]
        dsimp only at ea ⊢
        rw [if_pos hk]
        unfold cellOf
        rw [ea]
        simp only [pure_bind]
        exact ih _ fun q hq => hp q (List.mem_cons_of_mem _ hq)
      · have e1 : clStep env.cells cs (n, k) = cs := by unfold clStep; rw [if_neg hk]
        rw [e1]
        dsimp only
        rw [if_neg hk]
        simp only [pure_bind]
        exact ih _ fun q hq => hp q (List.mem_cons_of_mem _ hq)
  unfold closureFor clOf
  rw [← key sc.names [] h]
  simp only [bind_pure]

theorem clOf_sub (sc : Scope) (cells : List (Str × Addr)) {y : Str} {c : Addr} : (clOf sc cells).lookup y = some c → cells.lookup y = some c := by
  have key : ∀ (l : List (Str × NameKind)) (cs : List (Str × Addr)), (∀ y c, cs.lookup y = some c → cells.lookup y = some c) → ∀ y c, (l.foldl (clStep cells) cs).lookup y = some c → cells.lookup y = some c := by
    intro l
    induction l with
    | nil => intro cs h; exact h
    | cons p r ih =>
      intro cs h
      rw [List.foldl_cons]
      refine ih _ ?_
      intro y c e
      unfold clStep at e
      split at e
      · split at e
        · rename_i a ea
          rw [List.lookup_cons] at e
          cases q : y == p.1 with
          | true =>
            rw [q] at e
            cases e
            rw [eq_of_beq q]; exact ea
          | false => rw [q] at e; exact h y c e
        · exact h y c e
      · exact h y c e
  exact key sc.names [] (fun _ _ h => by cases h) y c

theorem clOf_has (sc : Scope) (cells : List (Str × Addr)) (h : ∀ p ∈ sc.names, p.2 = .free → ∃ a, cells.lookup p.1 = some a) {y : Str} (hy : (y, NameKind.free) ∈ sc.names) : ∃ c, (clOf sc cells).lookup y = some c := by
  have mono : ∀ (l : List (Str × NameKind)) (cs : List (Str × Addr)), (∃ c, cs.lookup y = some c) → ∃ c, (l.foldl (clStep cells) cs).lookup y = some c := by
    intro l
    induction l with
    | nil => intro cs h; exact h
    | cons p r ih =>
      intro cs hc
      rw [List.foldl_cons]
      refine ih _ ?_
      unfold clStep
      split
      · split
        · rw [List.lookup_cons]
          cases q : y == p.1 with
          | true => exact ⟨_, rfl⟩
          | false => exact hc
        · exact hc
      · exact hc
  have key : ∀ (l : List (Str × NameKind)) (cs : List (Str × Addr)), (∀ p ∈ l, p.2 = .free → ∃ a, cells.lookup p.1 = some a) → (y, NameKind.free) ∈ l → ∃ c, (l.foldl (clStep cells) cs).lookup y = some c := by
    intro l
    induction l with
    | nil => intro cs _ hm; cases hm
    | cons p r ih =>
      intro cs hp hm
      rw [List.foldl_cons]
      rcases List.mem_cons.mp hm with e | hm
      · subst e
        obtain ⟨a, ea⟩ := hp (y, .free) List.mem_cons_self rfl
        refine mono r _ ⟨a, ?_⟩
        unfold clStep
        rw [if_pos (show (NameKind.free == NameKind.free) = true by decide)]
        dsimp only at ea ⊢
        rw [ea, List.lookup_cons, beq_self_eq_true]
      · exact ih _ (fun q hq => hp q (List.mem_cons_of_mem _ hq)) hm
  exact key sc.names [] h hy

/-! ### the block's context -/
def cxLC (X : Cx) (x : Str) (scope : Scope) (C : Addr) (fp : List Addr) (s : Shared) (H : Hp) : Cx where
  prog := X.prog
  w := X.w
  K := X.K
  mg := X.mg
  base := X.base
  A := X.A
  N := x :: X.N
  s₀ := s
  H₀ := H
  env := compEnvC scope (clOf scope X.env.cells) C X.env
  outer := X.stack
  stack := X.stack
  ex := fp
  fn := fun _ => false
  calm := X.calm
  pn := []
  xe := fun _ _ => False

/-- what a comprehension's scope must be -/
structure LcScope (X : Cx) (x : Str) (sc : Scope) : Prop where
  kind : sc.kind = .function
  nocell : ∀ p ∈ sc.names, p.2 ≠ .cell
  loc : sc.names.lookup x = some .local
  names : ∀ p ∈ sc.names, p.2 = .local → sc.names.lookup p.1 = some .local
  apart : ∀ y ∈ X.N, sc.names.lookup y ≠ some .local
  nd : X.N.Nodup
  free : ∀ p ∈ sc.names, p.2 = .free → X.env.kindOf p.1 = some .cell ∨ X.env.kindOf p.1 = some .free

section
variable {X : Cx} {pins : List (Addr × Obj)} {σ : St} {H : Hp} {s : Shared} {x : Str} {sc : Scope} {C : Addr} {fp : List Addr}

theorem relabel_look {env : Env} : ∀ {names : List (Str × NameKind)} {y : Str} {k : NameKind}, (names.map fun (n, k) => if (k == NameKind.free && env.scope.kind == .function && env.kindOf n == some .cell) then (n, NameKind.cell) else (n, k)).lookup y = some k →
    ∃ k', names.lookup y = some k' ∧ (k = k' ∨ (k' = .free ∧ k = .cell))
  | [], _, _, h => by simp at h
  | (n, k0) :: r, y, k, h => by
    have ih := @relabel_look env r y k
    have h : List.lookup y ((if (k0 == NameKind.free && env.scope.kind == .function && env.kindOf n == some .cell) = true then (n, NameKind.cell) else (n, k0)) :: (r.map _)) = some k := h
    cases hx : y == n with
    | true =>
      refine ⟨k0, by rw [List.lookup_cons, hx], ?_⟩
      by_cases hc : (k0 == NameKind.free && env.scope.kind == .function && env.kindOf n == some .cell) = true
      · rw [if_pos hc, List.lookup_cons, hx] at h
        cases h
        simp only [Bool.and_eq_true, beq_iff_eq] at hc
        exact .inr ⟨hc.1.1, rfl⟩
      · rw [if_neg hc, List.lookup_cons, hx] at h
        cases h
        exact .inl rfl
    | false =>
      by_cases hc : (k0 == NameKind.free && env.scope.kind == .function && env.kindOf n == some .cell) = true
      · rw [if_pos hc, List.lookup_cons, hx] at h
        rw [List.lookup_cons, hx]; exact ih h
      · rw [if_neg hc, List.lookup_cons, hx] at h
        rw [List.lookup_cons, hx]; exact ih h

theorem LcScope.cells (S : LcScope X x sc) (ok : X.Ok) : ∀ p ∈ sc.names, p.2 = .free → ∃ a, X.env.cells.lookup p.1 = some a := fun p hp e => ok.has p.1 (S.free p hp e)

theorem Inv.okLC (I : Inv X pins σ H s) (S : LcScope X x sc) (hC : s.heap.objs.size ≤ C) (hf : ∀ b ∈ fp, FpOk X pins H b) (hlt : ∀ b ∈ fp, b < s.heap.objs.size) : (cxLC X x sc C fp s H).Ok where
  mod := I.ok.mod
  kind := S.kind
  glob := I.ok.glob
  blt := I.ok.blt
  above := hC
  inj := fun y z c e1 e2 => I.ok.inj y z c (clOf_sub sc X.env.cells e1) (clOf_sub sc X.env.cells e2)
  has := fun y hy => by
    have hy' : (relabel sc X.env).names.lookup y = some .cell ∨ (relabel sc X.env).names.lookup y = some .free := hy
    have fr : sc.names.lookup y = some .free := by
      rcases hy' with h | h
      · obtain ⟨k', e, q⟩ := relabel_look h
        rcases q with q | ⟨q, _⟩
        · subst q; exact absurd rfl (S.nocell _ (PySem.mem_of_lookup e))
        · rw [e, q]
      · obtain ⟨k', e, q⟩ := relabel_look h
        rcases q with q | ⟨_, q⟩
        · rw [e, ← q]
        · cases q
    exact clOf_has sc X.env.cells (S.cells I.ok) (PySem.mem_of_lookup fr)
  cab := fun y c e => by cases (show false = true from e)
  hd := I.ok.hd
  frames := I.ok.frames
  stk := .inl rfl
  exf := fun b hb => ⟨Nat.ne_of_lt (Nat.lt_of_lt_of_le (hlt b hb) hC), fun y c e => (hf b hb).2.2.2.2.1 y c (clOf_sub sc X.env.cells e)⟩
  bs := I.bs
  bsz := Nat.le_trans I.ok.bsz I.sz
  noex := fun b o e hb => by
    rcases (hf b hb).2.2.2.1 with q | q
    · exact I.ok.noex b o e q
    · exact absurd (Nat.lt_of_lt_of_le (Heap.lt_size e) (Nat.le_trans I.ok.bsz q)) (Nat.lt_irrefl _)
  exfs := fun b hb z => by
    rcases List.mem_cons.mp (I.stkSub b z) with q | q
    · exact (hf b hb).2.1 q
    · exact (hf b hb).2.2.1 q
  funs := I.stack
  frf := I.stkFree

/-- the block begins: a new list at D, a new frame at C -/
theorem Inv.startLC {D : Addr} {h1 : Heap} {m : Str → Option Value} {tk : Nat} (I : Inv X pins σ H s) (S : LcScope X x sc) (hf : ∀ b ∈ fp, FpOk X pins H b) (hlt : ∀ b ∈ fp, b < s.heap.objs.size)
    (hD : D = s.heap.objs.size) (hC : s.heap.objs.size ≤ C) (hDC : C ≠ D) (hk : ∀ b o, s.heap.get? b = some o → h1.get? b = some o) (hn : h1.Ns C m) (hl : h1.get? D = some { cls := .type "list", data := .seq ([] : List Value).toArray 0 }) :
    Inv (cxLC X x sc C fp s H) [] (none :: σ) (upd H D (.lst [])) { s with heap := h1, toks := tk } := by
  have hDle : s.heap.objs.size ≤ D := by rw [hD]; exact Nat.le_refl _
  have cells : ∀ y c, (clOf sc X.env.cells).lookup y = some c → c < s.heap.objs.size := fun y c e => by
    obtain ⟨v, q⟩ := I.cell y c (clOf_sub sc X.env.cells e)
    exact q.lt
  refine ⟨I.okLC S hC hf hlt, rfl, I.bare, Un.laid hk hDle (I.hok.fresh hDle), ⟨m, hn, fun i y v e1 e2 e3 => ?_⟩, fun y c e => ?_, ?_, fun y c e => ?_, fun p hp => absurd (show p ∈ ([] : List (Addr × Obj)) from hp) (by simp), I.hok.laid hk hDle ⟨Nat.zero_le _, [], 0, .nil, hl⟩, ?_⟩
  · cases i with
    | zero => cases (show some (none : Option V) = some (some v) from e2)
    | succ j =>
      have e1' : X.N[j]? = some y := e1
      have e2' : σ[j]? = some (some v) := e2
      have e3' : Vis (relabel sc X.env) y := e3
      have ny : sc.names.lookup y ≠ some .local := S.apart y (List.mem_of_getElem? e1')
      have fr : sc.names.lookup y = some .free ∧ ((relabel sc X.env).names.lookup y = some .cell ∨ (relabel sc X.env).names.lookup y = some .free) := by
        rcases e3' with h | h | h
        · obtain ⟨k', e, q⟩ := relabel_look h
          rcases q with q | ⟨_, q⟩
          · subst q; exact absurd e ny
          · cases q
        · obtain ⟨k', e, q⟩ := relabel_look h
          rcases q with q | ⟨q, _⟩
          · subst q; exact absurd rfl (S.nocell _ (PySem.mem_of_lookup e))
          · exact ⟨by rw [e, q], .inl h⟩
        · obtain ⟨k', e, q⟩ := relabel_look h
          rcases q with q | ⟨_, q⟩
          · exact ⟨by rw [e, ← q], .inr h⟩
          · cases q
      have ok := S.free (y, .free) (PySem.mem_of_lookup fr.1) rfl
      obtain ⟨m0, hn0, hl0⟩ := I.loc
      obtain ⟨u, r, l⟩ := hl0 j y v e1' e2' (.inr ok)
      refine ⟨u, r, .inr ⟨fr.2, ?_⟩⟩
      rcases l with ⟨k, _⟩ | ⟨_, c, ec, z⟩
      · rcases ok with q | q <;> (rw [show X.env.kindOf y = some .local from k] at q; cases q)
      · obtain ⟨c', ec'⟩ := clOf_has sc X.env.cells (S.cells I.ok) (PySem.mem_of_lookup fr.1)
        have := clOf_sub sc X.env.cells ec'
        rw [ec] at this
        cases this
        obtain ⟨o, ho, hd⟩ := z
        exact ⟨c, ec', o, hk _ _ ho, hd⟩
  · obtain ⟨v, o, ho, hd⟩ := I.cell y c (clOf_sub sc X.env.cells e)
    exact ⟨v, o, hk _ _ ho, hd⟩
  · show upd H D (.lst []) C = none
    rw [upd_ne hDC]
    exact I.hok.fresh hC
  · show upd H D (.lst []) c = none
    rw [upd_ne (Nat.ne_of_lt (Nat.lt_of_lt_of_le (cells y c e) hDle))]
    exact I.freeC y c (clOf_sub sc X.env.cells e)
  · show (none :: σ).length = (x :: X.N).length
    rw [List.length_cons, List.length_cons, I.len]

/-- the frame C of a block let go: nothing of ours stands there -/
theorem Inv.butC {h' : Heap} (I : Inv X pins σ H s) (hs : Heap.SameBut C s.heap h') (hC : X.s₀.heap.objs.size ≤ C) (hn : H C = none) (hL : C ≠ X.env.locals) (hc : ∀ y c, X.env.cells.lookup y = some c → c ≠ C) (hp : ∀ p ∈ X.pn ++ pins, p.1 ≠ C) :
    Inv X pins σ H { s with heap := h' } := I.turned (t' := s.toks) (fun b o hb e => (hs.2 b hb).trans e) hn hL (.inr hC) hc hp

/-- the block is through: back in the context around it -/
theorem Inv.endLC {s2 : Shared} {H2 : Hp} {st : St} {pl : List (Addr × Obj)} (I : Inv X pins σ H s) (J : Inv (cxLC X x sc C fp s H) pl st H2 s2) (hf : ∀ b ∈ fp, FpOk X pins H b) : Inv X pins σ H2 s2 :=
  I.call' (ch := fp) J.os J.base J.hok J.bare fun b hb => ⟨(hf b hb).2.2.2.1, (hf b hb).2.1, (hf b hb).2.2.2.2.1, (hf b hb).2.2.2.2.2⟩
end

/-! ### the tests -/
def PTs (X : Cx) (ifs : List Expr) (t : TT) : Prop :=
  ∀ (pins : List (Addr × Obj)) (s : Shared) (σ : St) (H : Hp) (Q : Bool → Hp → Prop), Inv X pins σ H s → t σ H Q →
    wpAny (model X.prog X.w) X.A (forIn ifs true fun c r => if r = true then do let ok ← isTrue c X.env (eval c X.env); pure (ForInStep.yield ok) else pure (ForInStep.yield r)) (TP X pins σ Q) X.xe s
def tYes : TT := fun _ H Q => Q true H
theorem pts_nil {X : Cx} : PTs X [] tYes := fun _ _ _ H _ I h => wpAny_tests_nil ⟨H, I, h⟩
theorem pts_one {X : Cx} {c : Expr} {t : TT} (h : PT X c t) : PTs X [c] t := fun pins s σ H Q I q => wpAny_tests_one (h pins s σ H Q I q)

/-! ### the loop, the step ahead of the store kept -/
theorem compLoop_own {prog : Program} {w : World} {A : Around} {R : Result → Shared → Prop} {s : Shared} {elt target iter : Expr} {ifs : List Expr} {scope : Scope} {pos : Pos} {it acc : Value} {env : Env} (I : Nat → Shared → Prop)
    (turn : ∀ n s, I n s → wpAny (model prog w) A (pyNext it) (fun r s1 => match r with
      | none => R (.ok .next) s1
      | some v => wpAny (model prog w) A (letOwnedTupleGo target it v) (fun _ s1 => wpAny (model prog w) A (assign target env v) (fun _ s2 =>
          wpAny (model prog w) A (forIn ifs true fun c r => if r = true then do let ok ← isTrue c env (eval c env); pure (ForInStep.yield ok) else pure (ForInStep.yield r)) (fun ok s3 =>
            if ok = true then wpAny (model prog w) A (eval elt env) (fun x s4 =>
              wpAny (model prog w) A (call (.builtin "list.append") [acc, x]) (fun _ s5 => ∃ m, m < n ∧ I m s5) (fun _ _ => False) s4) (fun _ _ => False) s3
            else ∃ m, m < n ∧ I m s3) (fun _ _ => False) s2) (fun _ _ => False) s1) (fun _ _ => False) s1) (fun _ _ => False) s)
    (n : Nat) (h : I n s) :
    codeAny (model prog w) A (.compLoop (.ListComp elt [⟨target, iter, ifs, 0⟩] scope pos) 0 it acc env) R s := by
  refine codeAny_loop rfl I (fun n s hI => ?_) n h
  show wpAny _ A ((compTurn (.ListComp elt [⟨target, iter, ifs, 0⟩] scope pos) 0 it acc env).onRaise (fun x => do noteFrame x env; theTreesLotGoes x)) _ _ s
  refine wpAny_noted ?_
  rw [compTurn_list]
  refine wpAny_bind (wpAny_standAt (wpAny_bind (wpAny_mono (turn n s hI) (fun r s1 h1 => ?_) fun _ _ h' => h'.elim)))
  cases r with
  | none => exact wpAny_pure h1
  | some v =>
    refine wpAny_bind (wpAny_mono h1 (fun _ s1 h1 => ?_) fun _ _ h' => h'.elim)
    refine wpAny_bind (wpAny_mono h1 (fun _ s2 h2 => wpAny_bind (wpAny_mono h2 (fun ok s3 h3 => ?_) fun _ _ h' => h'.elim)) fun _ _ h' => h'.elim)
    cases ok with
    | false => exact wpAny_pure ⟨rfl, h3⟩
    | true =>
      exact wpAny_bind (wpAny_bind (wpAny_mono h3 (fun x s4 h4 => wpAny_bind (wpAny_mono h4 (fun _ s5 h5 => wpAny_pure (wpAny_pure ⟨rfl, h5⟩)) fun _ _ h' => h'.elim)) fun _ _ h' => h'.elim))

/-! ### the reading -/
/-- acc = []; for x in ..: if ..: acc.append(..), the list at D -/
def lcGo (tc : TT) (te : TE) (σ : St) (J : It) (D : Addr) (Fin : Hp → Prop) (H : Hp) : Prop :=
  ∃ W : Nat → Nat → List V → Hp → Prop, (∃ m, W 0 m [] (upd H D (.lst []))) ∧ ∀ i m ys H, W i m ys H → H D = some (.lst ys) ∧
    ((J.stop i H ∧ Fin H) ∨ (J.go i H ∧ ∀ x H', J.yld i H x H' → tc (some x :: σ) H' fun b H2 => if b = true then te (some x :: σ) H2 fun y H3 => H3 D = some (.lst ys) ∧ ys.length < sizeLine ∧ ∃ m', m' < m ∧ W (i + 1) m' (ys ++ [y]) (upd H3 D (.lst (ys ++ [y])))
      else ∃ m', m' < m ∧ W (i + 1) m' ys H2))
def tLC (wi : TI) (tc : TT) (te : TE) : TE := fun σ H Q => wi σ H fun J H1 => ∀ D, H1 D = none → lcGo tc te σ J D (fun H2 => Q (.ref D) H2) H1

section
variable {X : Cx} {x : Str} {sc : Scope} {elt iter : Expr} {ifs : List Expr} {px pos : Pos} {wi : TI} {tc : TT} {te : TE}
/-- from the iterator on -/
theorem lc_block {pins : List (Addr × Obj)} {σ : St} {H : Hp} {s : Shared} {it : Addr} {fp : List Addr} {tn : Nat → Heap → Prop} {J : It} {Fin : Addr → Hp → Prop} {RR : Value → Addr → Result → Shared → Prop} {E : Value → Shared → Prop}
    (hc : X.calm = true) (S : LcScope X x sc) (I : Inv X pins σ H s) (T : Turn X.prog X.w X.K (.Name x px) J fp it tn) (st : tn 0 s.heap) (hf : ∀ b ∈ fp, FpOk X pins H b)
    (ht : ∀ C s0 H0, PTs (cxLC X x sc C fp s0 H0) ifs tc) (he : ∀ C s0 H0, PE (cxLC X x sc C fp s0 H0) elt te) (q : ∀ D, H D = none → lcGo tc te σ J D (Fin D) H)
    (hR : ∀ D C H2 s2 m, s.heap.objs.size ≤ C → Inv X pins σ H2 s2 → H2 C = none → s2.heap.Ns C m → Fin D H2 → RR (.ref D) C (.ok .next) s2) :
    wpAny (model X.prog X.w) X.A (newList []) (fun acc s3 => wpAny (model X.prog X.w) X.A (newFunctionEnv sc X.env.globals (clOf sc X.env.cells) [] X.env.qual none .none (some X.env)) (fun cenv s4 =>
      codeAny (model X.prog X.w) X.A (.compStart (.ListComp elt [⟨.Name x px, iter, ifs, 0⟩] sc pos) 0 (.ref it) acc { cenv with scope := relabel sc X.env }) (RR acc cenv.locals) s4) E s3) E s := by
  have hlt : ∀ b ∈ fp, b < s.heap.objs.size := fun b hb => by
    obtain ⟨o, e, _⟩ := T.obj 0 _ st b hb
    exact Heap.lt_size e
  refine wpAny_newObj_type (wpAny_newFunctionEnv S.nocell (by intro y hy; simp at hy) (fun h1 hns1 hsb1 => ?_) S.kind)
  dsimp only at hns1 hsb1 ⊢
  generalize hH2 : s.heap.push { cls := .type "list", dict := none, data := .seq ([] : List Value).toArray } = G at hns1 hsb1 ⊢
  have hC : G.objs.size = s.heap.objs.size + 1 := by rw [← hH2, Heap.size_push]
  have hCle : s.heap.objs.size ≤ G.objs.size := by rw [hC]; exact Nat.le_succ _
  have hDC : G.objs.size ≠ s.heap.objs.size := by rw [hC]; exact Nat.succ_ne_self _
  have old : ∀ b o, s.heap.get? b = some o → h1.get? b = some o := fun b o e => hsb1.extBut b o (Nat.ne_of_lt (Nat.lt_of_lt_of_le (Heap.lt_size e) hCle)) (Heap.get?_push_of_some _ (hH2 ▸ Heap.get?_push_of_some _ e))
  have hacc : h1.get? s.heap.objs.size = some { cls := .type "list", data := .seq ([] : List Value).toArray 0 } := hsb1.extBut _ _ (Ne.symm hDC) (Heap.get?_push_of_some _ (hH2 ▸ Heap.get?_push_size _ rfl))
  have hDn : H s.heap.objs.size = none := I.hok.fresh (Nat.le_refl _)
  obtain ⟨W, ⟨m0, w0⟩, turn⟩ := q s.heap.objs.size hDn
  have st1 : tn 0 h1 := T.keep _ _ _ st fun b _ o e => old b o e
  have I1 := fun tk => I.startLC (tk := tk) S hf hlt rfl hCle hDC old hns1 hacc
  have fr1 : ∀ b ∈ fp, upd H s.heap.objs.size (.lst []) b = none := fun b hb => by rw [upd_ne (Nat.ne_of_lt (hlt b hb))]; exact (hf b hb).1
  have loop : ∀ s3 : Shared, s3 = { s with heap := h1, toks := s.toks + ([] : List (Str × Value)).length } →
      codeAny (model X.prog X.w) X.A (.compLoop (.ListComp elt [⟨.Name x px, iter, ifs, 0⟩] sc pos) 0 (.ref it) (.ref s.heap.objs.size) (compEnvC sc (clOf sc X.env.cells) G.objs.size X.env))
        (RR (.ref s.heap.objs.size) G.objs.size) s3 := by
    rintro s3 rfl
    have fpk : ∀ {H' : Hp}, (∀ b ∈ fp, H' b = none) → ∀ b ∈ fp, FpOk (cxLC X x sc G.objs.size fp s H) [] H' b := fun hn b hb =>
      ⟨hn b hb, Nat.ne_of_lt (Nat.lt_of_lt_of_le (hlt b hb) hCle), (I.okLC (C := G.objs.size) S hCle hf hlt).exfs b hb, .inl hb, fun y c e => (hf b hb).2.2.2.2.1 y c (clOf_sub sc X.env.cells e), fun p hp => absurd (show p ∈ ([] : List (Addr × Obj)) from hp) (by simp)⟩
    refine compLoop_own (fun n s' => ∃ i w ys H', Inv (cxLC X x sc G.objs.size fp s H) [] (w :: σ) H' s' ∧ tn i s'.heap ∧ (∀ b ∈ fp, H' b = none) ∧ W i n ys H') ?_ m0 ⟨0, none, [], _, I1 _, st1, fr1, w0⟩
    rintro n s3 ⟨i, v0, ys, H3, I3, st3, fr3, w3⟩
    obtain ⟨hD3, turn3⟩ := turn i n ys H3 w3
    rcases turn3 with ⟨stop, fin⟩ | ⟨go, step⟩
    · refine thn (T.done (cxLC X x sc G.objs.size fp s H) rfl rfl rfl hc i [] s3 _ H3 _ I3 (fpk fr3) st3 stop) fun r s4 ⟨hr, I4⟩ => ?_
      subst hr
      obtain ⟨m4, hn4, _⟩ := I4.loc
      exact hR _ _ H3 s4 m4 hCle (I.endLC I4 hf) I4.free hn4 fin
    · refine thn (T.item (cxLC X x sc G.objs.size fp s H) rfl rfl rfl hc i [] s3 _ H3 _ I3 (fpk fr3) st3 go) fun r s4 ⟨u, hr, h4⟩ => ?_
      subst hr
      refine thn h4 fun _ s5 ⟨y, H5, I5, r5, y5, st5, fr5⟩ => ?_
      have I5' := I5.pinned (fpk fr5) (T.obj _ _ st5)
      have hN : (x :: X.N).Nodup := List.nodup_cons.mpr ⟨fun hm => S.apart x hm S.loc, S.nd⟩
      have pg : PG (cxLC X x sc G.objs.size fp s H) (.Name x px) (gName 0) := pg_name hN rfl (.inl (lookup_relabel_local S.loc)) (.inr (lookup_relabel_local S.loc))
      refine thn (pg _ s5 _ H5 y u (fun σ6 H6 => σ6 = some y :: σ ∧ H6 = H5) I5' r5 ⟨rfl, rfl⟩) fun _ s6 ⟨σ6, H6, I6, e6, e6'⟩ => ?_
      subst e6; subst e6'
      refine thn (ht G.objs.size s H _ s6 _ H6 _ I6 (step y H6 y5)) fun ok s7 ⟨H7, I7, q7⟩ => ?_
      have again : ∀ {H8 : Hp} {s8 : Shared} {zs : List V}, Inv (cxLC X x sc G.objs.size fp s H) ([] ++ pinsAt fp s5.heap) (some y :: σ) H8 s8 → (∃ m', m' < n ∧ W (i + 1) m' zs H8) → ∃ m, m < n ∧ ∃ i w ys H', Inv (cxLC X x sc G.objs.size fp s H) [] (w :: σ) H' s8 ∧ tn i s8.heap ∧ (∀ b ∈ fp, H' b = none) ∧ W i m ys H' := fun {H8 s8 zs} I8 ⟨m', hm, w8⟩ => by
        refine ⟨m', hm, i + 1, some y, zs, H8, I8.unpinned, T.keep _ _ _ st5 fun b hb o e => (I8.pin (b, o) (List.mem_append_right _ (List.mem_append_right _ (mem_pinsAt hb e)))).1, fun b hb => ?_, w8⟩
        obtain ⟨o, e, d⟩ := T.obj _ _ st5 b hb
        exact (I8.pin (b, o) (List.mem_append_right _ (List.mem_append_right _ (mem_pinsAt hb e)))).2.1
      cases ok with
      | false =>
        rw [if_neg Bool.false_ne_true] at q7 ⊢
        exact again I7 q7
      | true =>
        rw [if_pos rfl] at q7 ⊢
        refine thn (he G.objs.size s H _ s7 _ H7 _ I7 q7) fun z s8 ⟨zv, H8, I8, r8, hD8, hz8, w8⟩ => ?_
        refine thn (mt_append _ s8 _ H8 (.ref s.heap.objs.size) [zv] (.ref s.heap.objs.size) [z] (fun _ H9 => ∃ m', m' < n ∧ W (i + 1) m' (ys ++ [zv]) H9) I8 rfl (.cons r8 .nil) ⟨_, ys, zv, rfl, rfl, hD8, hz8, w8⟩) fun _ s9 ⟨_, H9, I9, _, w9⟩ => ?_
        exact again I9 w9
  exact codeAny_compStart_list (loop _ rfl) (T.self X.A 0 _ _ _ st1 (loop _ rfl))

theorem pe_lc (hc : X.calm = true) (S : LcScope X x sc) (hi : PI X (.Name x px) iter wi) (ht : ∀ C fp s0 H0, PTs (cxLC X x sc C fp s0 H0) ifs tc) (he : ∀ C fp s0 H0, PE (cxLC X x sc C fp s0 H0) elt te)
    (hs : ∀ v, foldedSetIterable iter X.env v = pure v := by intro _; rfl) : PE X (.ListComp elt [⟨.Name x px, iter, ifs, 0⟩] sc pos) (tLC wi tc te) := by
  refine ⟨?_⟩
  intro pins s σ H Q I h
  rw [eval_ListComp]
  refine wpAny_comprehension_free (use := none) rfl hs (closure_eq (S.cells I.ok)) S.kind S.names (thn (hi pins s σ H _ I h) fun v s1 h1 => thn h1 fun itv s2 h2 => ?_)
  obtain ⟨it, fp, tn, J, H2, e, I2, T, st2, f2, q2⟩ := h2
  subst e
  refine lc_block (RR := fun acc C => compPost (model X.prog X.w) X.A X.xe none (EP X pins σ Q) acc C) (Fin := fun D H3 => Q (.ref D) H3) hc S I2 T st2 f2 (fun C s0 H0 => ht C fp s0 H0) (fun C s0 H0 => he C fp s0 H0) q2 ?_
  intro D C H3 s3 m hC I3 hn hN q3
  refine ⟨m, hN, fun h' hs' => ⟨.ref D, H3, I3.butC hs' (Nat.le_trans I2.sz hC) hn (Nat.ne_of_gt (Nat.lt_of_lt_of_le I2.lt hC)) (fun y c e => ?_) (fun p hp => ?_), rfl, q3⟩⟩
  · obtain ⟨v, z⟩ := I2.cell y c e
    exact Nat.ne_of_lt (Nat.lt_of_lt_of_le z.lt hC)
  · exact Nat.ne_of_lt (Nat.lt_of_lt_of_le (Heap.lt_size (I2.pin p hp).1) hC)

/-- name = [.. for ..]: the name is stored ahead of the block's names' going -/
theorem ps_setLC {i : Nat} {y : Str} {py spos : Pos} (hc : X.calm = true) (hi' : X.N[i]? = some y) (hy : X.env.scope.names.lookup y = some .local) (S : LcScope X x sc) (hi : PI X (.Name x px) iter wi) (ht : ∀ C fp s0 H0, PTs (cxLC X x sc C fp s0 H0) ifs tc) (he : ∀ C fp s0 H0, PE (cxLC X x sc C fp s0 H0) elt te)
    (hsw : swapsWith (.ListComp elt [⟨.Name x px, iter, ifs, 0⟩] sc pos) (some (.Name y py)) spos.line X.env = pure true := by rfl) (hs : ∀ v, foldedSetIterable iter X.env v = pure v := by intro _; rfl) :
    PS X (.Assign [.Name y py] (.ListComp elt [⟨.Name x px, iter, ifs, 0⟩] sc pos) spos) (tAsg (tLC wi tc te) (gName i)) := by
  refine ⟨?_⟩
  intro pins s σ H Dn I h
  rw [exec_Assign_Name_used _ _ _ _ hsw]
  refine wpAny_bind (wpAny_standAt (wpAny_bind ?_))
  show wpAny _ X.A (do let _ ← comprehension (.ListComp elt [⟨.Name x px, iter, ifs, 0⟩] sc pos) sc X.env _ (newList []) false (eval iter X.env) (some (assign (.Name y py) X.env))) _ _ s
  refine wpAny_bind (wpAny_mono (wpAny_comprehension_free (use := some (assign (.Name y py) X.env)) (Q := fun _ s' => SP X pins Dn .next s') rfl hs (closure_eq (S.cells I.ok)) S.kind S.names
    (thn (hi pins s σ H _ I h) fun v s1 h1 => thn h1 fun itv s2 h2 => ?_)) (fun _ s' hq => wpAny_pure (wpAny_pure hq)) fun _ _ e => e)
  obtain ⟨it, fp, tn, J, H2, e, I2, T, st2, f2, q2⟩ := h2
  subst e
  refine lc_block (RR := fun acc C => compPost (model X.prog X.w) X.A X.xe (some (assign (.Name y py) X.env)) (fun _ s' => SP X pins Dn .next s') acc C) (Fin := fun D H3 => gName i (.ref D) σ H3 Dn.nx) hc S I2 T st2 f2 (fun C s0 H0 => ht C fp s0 H0) (fun C s0 H0 => he C fp s0 H0) q2 ?_
  intro D C H3 s3 m hC I3 hn hN q3
  show wpAny _ _ (assign (.Name y py) X.env (.ref D)) _ _ s3
  have cne : ∀ y c, X.env.cells.lookup y = some c → c ≠ C := fun y c e => by
    obtain ⟨v, z⟩ := I2.cell y c e
    exact Nat.ne_of_lt (Nat.lt_of_lt_of_le z.lt hC)
  refine wpAny_assign_Name (store_ok2 I3 S.nd hi' (.inl hy) (show RelV (.ref D) (.ref D) from rfl) (fun s4 I4 ⟨a, hs4, ha⟩ => ?_) (.inr hy))
  have haC : C ≠ a := by
    rcases ha with e | e
    · rw [e]; exact Nat.ne_of_gt (Nat.lt_of_lt_of_le I2.lt hC)
    · exact Ne.symm (cne y a e)
  refine ⟨m, hN.sameBut hs4 haC, fun h' hs' => ⟨_, H3, I4.butC hs' (Nat.le_trans I2.sz hC) hn (Nat.ne_of_gt (Nat.lt_of_lt_of_le I2.lt hC)) cne (fun p hp => ?_), q3⟩⟩
  exact Nat.ne_of_lt (Nat.lt_of_lt_of_le (Heap.lt_size (I2.pin p hp).1) hC)
end

/-! ### the forms one uses -/
end L2
set_option Elab.async false
set_option linter.all false
set_option maxRecDepth 100000
set_option Elab.async false
set_option linter.all false
set_option maxRecDepth 100000
namespace L2
open PySem PySem.Spec PyProof.Rows
/-! ### defs of the text, and what they promise -/
structure Fn (K : PySem.W.Frag) (mg : Str → Option Value) (x : Str) (st : Stmt) (ps : List Str) (f : Addr) (fd : FuncData) : Prop where
  fn : Fun K x x st f fd
  m : mg x = some (.ref f)
  b : Binds K fd ps []
structure Fm (K : PySem.W.Frag) (C : Addr) (x qual : Str) (st : Stmt) (ps : List Str) (f : Addr) (fd : FuncData) : Prop where
  fn : Fun K x qual st f fd
  m : Meth K C x f
  b : Binds K fd ps []
def Can (P : Program) (w : World) (K : PySem.W.Frag) (mg : Str → Option Value) (base : Heap) (k : Nat) (x : Str) (ps : List Str) (sp : Sp) : Prop :=
  ∃ f fd, FnOk P w K mg base CX0 k f fd ps sp ∧ mg x = some (.ref f) ∧ PySem.W.keepIn K (.ref f) = true ∧ Binds K fd ps []
def CanM (P : Program) (w : World) (K : PySem.W.Frag) (mg : Str → Option Value) (base : Heap) (C : Addr) (k : Nat) (x : Str) (ps : List Str) (sp : Sp) : Prop :=
  ∃ f fd, FnOk P w K mg base CX0 k f fd ps sp ∧ Meth K C x f ∧ Binds K fd ps []
section
variable {P : Program} {w : World} {K : PySem.W.Frag} {mg : Str → Option Value} {base : Heap}
theorem fn_can {x : Str} {st : Stmt} {N ps : List Str} {k : Nat} {sp : Sp} (h : ∃ f fd, Fn K mg x st ps f fd) (S : FnScope N ps (defScope st)) (len : ∀ vs H Q E, sp vs H Q E → vs.length = ps.length)
    (hbody : ∀ (f : Addr) (cdv : Value) (A : Around) (outer : List Env) (s : Shared) (H : Hp) (vs : List V) (Q : VK) (E : XK), Room k (A.deeper (envOfC x (defScope st) s.heap.objs.size f cdv)) → sp vs H Q E →
      ∃ t, PSs (cxOf CX0 P w K mg base N x (defScope st) f cdv A outer s H E).nox (defBody st) t ∧ t { nx := fun _ H' => Q .non H', rt := Q } (start N vs) H) : Can P w K mg base (k + 1) x ps sp := by
  obtain ⟨f, fd, F⟩ := h
  exact ⟨f, fd, F.fn.ok S len fun cdv A outer s H vs Q E hr h => hbody f cdv A outer s H vs Q E hr h, F.m, F.fn.kp, F.b⟩
theorem fm_can {C : Addr} {x qual : Str} {st : Stmt} {N ps : List Str} {k : Nat} {sp : Sp} (h : ∃ f fd, Fm K C x qual st ps f fd) (S : FnScope N ps (defScope st)) (len : ∀ vs H Q E, sp vs H Q E → vs.length = ps.length)
    (hbody : ∀ (f : Addr) (cdv : Value) (A : Around) (outer : List Env) (s : Shared) (H : Hp) (vs : List V) (Q : VK) (E : XK), Room k (A.deeper (envOfC qual (defScope st) s.heap.objs.size f cdv)) → sp vs H Q E →
      ∃ t, PSs (cxOf CX0 P w K mg base N qual (defScope st) f cdv A outer s H E).nox (defBody st) t ∧ t { nx := fun _ H' => Q .non H', rt := Q } (start N vs) H) : CanM P w K mg base C (k + 1) x ps sp := by
  obtain ⟨f, fd, F⟩ := h
  exact ⟨f, fd, F.fn.ok S len fun cdv A outer s H vs Q E hr h => hbody f cdv A outer s H vs Q E hr h, F.m, F.b⟩
end
section
variable {X : Cx} {k k' : Nat} {x m : Str} {ps : List Str} {sp : Sp} {p pos apos : Pos} {e o : Expr} {es : List Expr} {ta : TE} {t : TA} {C : Addr}
theorem pe_can (h : Can X.prog X.w X.K X.mg X.base k x ps sp) (hr : Room k' X.A) (ha : PA X (e :: es) t) (hg : Gl X x := by rfl) (hk : k ≤ k' := by decide) (hdb : (x == ("__debug__" : Str)) = false := by decide)
    (hs : starEach (e :: es) X.env = (false, eval e X.env) :: starEach es X.env := by rfl) (hpl : (backTo pos (starEach es X.env)).any (·.1) = false := by rfl) : PE X (.Call (.Name x p) (e :: es) [] pos) (tCall sp [] E0 t) := by
  obtain ⟨f, fd, F, hm, kp, b⟩ := h
  exact pe_call F (hr.mono hk) hg hm kp b .nil pass0 ha hdb hs hpl
theorem pe_canM {pl : Sem Bool} (ho : PE X o ta) (c : Cls X.K C) (h : CanM X.prog X.w X.K X.mg X.base C k m ps sp) (hr : Room k' X.A) (ha : PA X (e :: es) t) (hk : k ≤ k' := by decide)
    (hst : starEach (e :: es) X.env = (false, eval e X.env) :: starEach es X.env := by rfl) (hpl : (backTo pos (starEach es X.env)).any (·.1) = false := by rfl)
    (ht : eval (.Call (.Attribute o m apos) (e :: es) [] pos) X.env = (do
      let ov ← eval o X.env
      standAt apos.atName
      let (f, first) ← holding [ov] (getMethod ov m pl)
      callWith pos f first (backTo pos (starEach (e :: es) X.env)) (backToKw pos (keywordEach [] X.env))) := by rfl) : PE X (.Call (.Attribute o m apos) (e :: es) [] pos) (tMeth C m sp [] E0 ta t) := by
  obtain ⟨f, fd, F, hm, b⟩ := h
  exact pe_meth (pl := pl) ho c hm F (hr.mono hk) b .nil pass0 ha hst hpl ht
theorem pe_canM0 {pl : Sem Bool} (ho : PE X o ta) (c : Cls X.K C) (h : CanM X.prog X.w X.K X.mg X.base C k m ps sp) (hr : Room k' X.A) (hk : k ≤ k' := by decide)
    (ht : eval (.Call (.Attribute o m apos) [] [] pos) X.env = (do
      let ov ← eval o X.env
      standAt apos.atName
      let (f, first) ← holding [ov] (getMethod ov m pl)
      callWith pos f first (backTo pos (starEach [] X.env)) (backToKw pos (keywordEach [] X.env))) := by rfl) : PE X (.Call (.Attribute o m apos) [] [] pos) (tMeth C m sp [] E0 ta tNil) := by
  obtain ⟨f, fd, F, hm, b⟩ := h
  exact pe_meth0 (pl := pl) ho c hm F (hr.mono hk) b .nil pass0 ht
theorem pe_gi {n : Int} (h : ∃ t, X.mg x = some (.int n t)) (hg : Gl X x := by rfl) (hd : (x == ("__debug__" : Str)) = false := by decide) : PE X (.Name x pos) (tC (.int n)) := by
  obtain ⟨t, h⟩ := h
  exact pe_glob hg h ⟨t, rfl⟩ hd
/-- T-names, builtins in short -/
theorem pe_b {id : String} {r : List V → Hp → VK → Prop} (hc : CallR X (.builtin id) r) (hm : X.mg x = none) (hv : bootBuiltins x = some (.builtin id)) (ha : PA X (e :: es) t) (hg : Gl X x := by rfl) (hn : x ≠ "__name__" := by decide) (hdb : (x == ("__debug__" : Str)) = false := by decide)
    (he : starEach (e :: es) X.env = (false, eval e X.env) :: starEach es X.env := by rfl) (hpl : (backTo pos (starEach es X.env)).any (·.1) = false := by rfl) : PE X (.Call (.Name x p) (e :: es) [] pos) (tCB r t) := pe_callB hc hg hm hv ha hn hdb he hpl
theorem pe_t {T : String} {r : List V → Hp → VK → Prop} (hc : CallR X (.type T) r) (hm : X.mg x = none) (hv : bootBuiltins x = some (.type T)) (ha : PA X (e :: es) t) (hg : Gl X x := by rfl) (hn : x ≠ "__name__" := by decide) (hdb : (x == ("__debug__" : Str)) = false := by decide)
    (he : starEach (e :: es) X.env = (false, eval e X.env) :: starEach es X.env := by rfl) (hpl : (backTo pos (starEach es X.env)).any (·.1) = false := by rfl) : PE X (.Call (.Name x p) (e :: es) [] pos) (tCB r t) := pe_callTy hc hg hm hv ha hn hdb he hpl
theorem pa1 {a : Expr} {ta : TE} (ha : PE X a ta) (hs : starEach [a] X.env = (false, eval a X.env) :: starEach [] X.env := by rfl) : PA X [a] (tCons ta tNil) := pa_cons ha pa_nil hs
theorem pa2 {a b : Expr} {ta tb : TE} (ha : PE X a ta) (hb : PE X b tb) (hs : starEach [a, b] X.env = (false, eval a X.env) :: starEach [b] X.env := by rfl) (hs2 : starEach [b] X.env = (false, eval b X.env) :: starEach [] X.env := by rfl) : PA X [a, b] (tCons ta (tCons tb tNil)) := pa_cons ha (pa_cons hb pa_nil hs2) hs
theorem pa3 {a b c : Expr} {ta tb tc : TE} (ha : PE X a ta) (hb : PE X b tb) (hc : PE X c tc) (hs : starEach [a, b, c] X.env = (false, eval a X.env) :: starEach [b, c] X.env := by rfl) (hs1 : starEach [b, c] X.env = (false, eval b X.env) :: starEach [c] X.env := by rfl) (hs2 : starEach [c] X.env = (false, eval c X.env) :: starEach [] X.env := by rfl) : PA X [a, b, c] (tCons ta (tCons tb (tCons tc tNil))) := pa_cons ha (pa_cons hb (pa_cons hc pa_nil hs2) hs1) hs
end
/-- all that was tracked but p is as it was -/
def But (p : Addr) (H H' : Hp) : Prop := ∀ b o, H b = some o → b ≠ p → H' b = some o
theorem But.trans {p : Addr} {H H1 H2 : Hp} (a : But p H H1) (b : But p H1 H2) : But p H H2 := fun c o h n => b c o (a c o h n) n
theorem Same.but {p : Addr} {H H' : Hp} (a : Same H H') : But p H H' := fun b o h _ => a b o h
theorem Same.upd {H : Hp} {p : Addr} {o : HO} (h : H p = none) : Same H (upd H p o) := fun b u e => by rw [upd_ne (ne_of_none e h)]; exact e
end L2
set_option Elab.async false
set_option linter.all false
set_option maxRecDepth 100000
namespace L2
open PySem PySem.Spec PyProof.Rows
theorem ul1 : ∀ {us : List Value}, us.length = 1 → ∃ a, us = [a]
  | [a], _ => ⟨a, rfl⟩
theorem ul2 {us : List Value} (h : us.length = 2) : ∃ a b, us = [a, b] := by
  cases us with
  | nil => cases h
  | cons a r => obtain ⟨b, rfl⟩ := ul1 (Nat.succ.inj h); exact ⟨a, b, rfl⟩
theorem ul3 {us : List Value} (h : us.length = 3) : ∃ a b c, us = [a, b, c] := by
  cases us with
  | nil => cases h
  | cons a r => obtain ⟨b, c, rfl⟩ := ul2 (Nat.succ.inj h); exact ⟨a, b, c, rfl⟩
theorem ul4 {us : List Value} (h : us.length = 4) : ∃ a b c d, us = [a, b, c, d] := by
  cases us with
  | nil => cases h
  | cons a r => obtain ⟨b, c, d, rfl⟩ := ul3 (Nat.succ.inj h); exact ⟨a, b, c, d, rfl⟩
section
variable {K : PySem.W.Frag} {x qual p q r s t u : Str} {st : Stmt} {g : Addr} {fd : FuncData}
abbrev fnQ (x qual : Str) (st : Stmt) (kV doc pm : Value) (an : Option Addr) (cdv ct : Value) : FuncData := PySem.W.fnOf x qual (defArgs st) (defBody st) (defScope st) .none kV doc pm an cdv ct
theorem Fun.b1 (F : Fun K x qual st g fd) (h : ∀ kV doc pm an cdv ct a, bindArgs (fnQ x qual st kV doc pm an cdv ct) ⟨[a], []⟩ = pure [(p, a)]) : Binds K fd [p] [] := F.binds fun kV doc pm an cdv ct us hl => by
  obtain ⟨a, rfl⟩ := ul1 hl
  exact h kV doc pm an cdv ct a
theorem Fun.b2 (F : Fun K x qual st g fd) (h : ∀ kV doc pm an cdv ct a b, bindArgs (fnQ x qual st kV doc pm an cdv ct) ⟨[a, b], []⟩ = pure [(p, a), (q, b)]) : Binds K fd [p, q] [] := F.binds fun kV doc pm an cdv ct us hl => by
  obtain ⟨a, b, rfl⟩ := ul2 hl
  exact h kV doc pm an cdv ct a b
theorem Fun.b3 (F : Fun K x qual st g fd) (h : ∀ kV doc pm an cdv ct a b c, bindArgs (fnQ x qual st kV doc pm an cdv ct) ⟨[a, b, c], []⟩ = pure [(p, a), (q, b), (r, c)]) : Binds K fd [p, q, r] [] := F.binds fun kV doc pm an cdv ct us hl => by
  obtain ⟨a, b, c, rfl⟩ := ul3 hl
  exact h kV doc pm an cdv ct a b c
theorem Fun.b4 (F : Fun K x qual st g fd) (h : ∀ kV doc pm an cdv ct a b c d, bindArgs (fnQ x qual st kV doc pm an cdv ct) ⟨[a, b, c, d], []⟩ = pure [(p, a), (q, b), (r, c), (s, d)]) : Binds K fd [p, q, r, s] [] := F.binds fun kV doc pm an cdv ct us hl => by
  obtain ⟨a, b, c, d, rfl⟩ := ul4 hl
  exact h kV doc pm an cdv ct a b c d
end
end L2
set_option Elab.async false
set_option linter.all false
set_option maxRecDepth 100000
/-! errors of own classes: raise, and how they pass through defs -/
namespace L2
open PySem PySem.Spec PyProof.Rows
section
variable {P : Program} {w : World} {H H' : Hp} {h h' : Heap} {a : Addr} {o : HO}
theorem ObjOk.there (x : ObjOk P w H h a o) : ∃ ob, h.get? a = some ob := by
  cases o with
  | lst xs => obtain ⟨_, _, _, _, e⟩ := x; exact ⟨_, e⟩
  | tup xs => obtain ⟨_, _, _, ob, e, _⟩ := x; exact ⟨_, e⟩
  | dK kvs => obtain ⟨_, _, _, _, o, _, _, e, _⟩ := x; exact ⟨_, e⟩
  | dT kvs => obtain ⟨_, _, _, _, o, _, _, e, _⟩ := x; exact ⟨_, e⟩
  | set S n => obtain ⟨o, _, _, _, e, _⟩ := x; exact ⟨_, e⟩
  | ins C dx fs => obtain ⟨_, _, _, e, _⟩ := x; exact ⟨_, e⟩
  | own y => exact x
  | xd fs => obtain ⟨_, ⟨_, _, _, e, _⟩, _⟩ := x; exact ⟨_, e⟩
  | rng lo hi => obtain ⟨_, _, _, e⟩ := x; exact ⟨_, e⟩
  | frz ob u => obtain ⟨e, _⟩ := x; exact ⟨_, e⟩
  | tbl ps => exact ⟨_, x⟩
  | met f y => exact ⟨_, x⟩
  | ext φ => obtain ⟨_, ⟨_, e⟩, _⟩ := x; exact ⟨_, e⟩
theorem HOk.none (x : HOk P w H h) (e : h.get? a = .none) : H a = .none := by
  cases q : H a with
  | none => rfl
  | some u => obtain ⟨_, e'⟩ := (x a u q).there; rw [e] at e'; cases e'
theorem funs_un {base : Heap} {fs : List Addr} (u : Un fs [] H H' h h') : ∀ {l : List Env}, (∀ b ∈ frs l, b ∈ fs ∧ H b = .none) → h.FunFrames base l → h'.FunFrames base l
  | [], _, _ => trivial
  | env :: r, hs, hl => by
    obtain ⟨hk, ⟨L, o, hf, hn, ho, hd⟩, hr⟩ := hl
    have hL := hs L (by unfold frs; rw [List.filterMap_cons, hf]; exact List.mem_cons_self)
    obtain ⟨sl, e⟩ := u.slot L o ho hL.2 hL.1 (by simp)
    exact ⟨hk, ⟨L, _, hf, hn, e, hd⟩, funs_un u (fun b hb => hs b (by unfold frs; rw [List.filterMap_cons, hf]; exact List.mem_cons_of_mem _ hb)) hr⟩
end
/-- an error's class, and whether its context is none -/
abbrev XCk := Value × Option Addr
/-- how an error's record stands: new, or with its traceback; g: the heap ahead of it -/
inductive XRec (g h : Heap) (H' : Hp) (a : Addr) (cls : XCk) : Bool → Prop
  | new (oe : Obj) (vs : Array Value) (he : h.get? a = some oe) (hc : oe.cls = cls.1) (hd : oe.data = .fields vs) (hdi : oe.dict = none ∧ (cls.2 = none → vs[2]? = some .none)) (hn : H' a = none) (hg : g.get? a = none) (h1 : vs[1]? = some .none) : XRec g h H' a cls true
  | old (oe : Obj) (vs : Array Value) (he : h.get? a = some oe) (hc : oe.cls = cls.1) (hd : oe.data = .fields vs) (hdi : oe.dict = none ∧ (cls.2 = none → vs[2]? = some .none)) (hn : H' a = none) (hg : g.get? a = none) (T : Addr) (oT : Obj) (ts : Array Value) (h1 : vs[1]? = some (.ref T)) (ht : T ≠ a) (hT : h.get? T = some oT)
      (hdT : oT.data = .fields ts) (h3 : ts[3]? = some .none) (hnT : H' T = none) (hgT : g.get? T = none) : XRec g h H' a cls false
  | fl (oe : Obj) (vs : Array Value) (he : h.get? a = some oe) (hc : oe.cls = cls.1) (hd : oe.data = .fields vs) (hdi : oe.dict = none ∧ (cls.2 = none → vs[2]? = some .none)) (hn : H' a = none) (hg : g.get? a = none) (T : Addr) (oT : Obj) (ts : Array Value) (h1 : vs[1]? = some (.ref T)) (ht : T ≠ a) (hT : h.get? T = some oT)
      (hdT : oT.data = .fields ts) (f : Addr) (h3 : ts[3]? = some (rawInt f)) (hnT : H' T = none) (hgT : g.get? T = none) : XRec g h H' a cls true
theorem XRec.base {g h : Heap} {H' : Hp} {a : Addr} {cls : XCk} {b : Bool} (x : XRec g h H' a cls b) : H' a = none ∧ g.get? a = none := by
  cases x with
  | new oe vs he hc hd hdi hn hg => exact ⟨hn, hg⟩
  | old oe vs he hc hd hdi hn hg => exact ⟨hn, hg⟩
  | fl oe vs he hc hd hdi hn hg => exact ⟨hn, hg⟩
structure EX (P : Program) (w : World) (st : List Env) (H : Hp) (s : Shared) (new : Bool) (cls : XCk) (a : Addr) (H' : Hp) (s' : Shared) : Prop where
  os : s'.os = s.os
  bare : AllBare s'.gens
  un : Un (frs st) [] H H' s.heap s'.heap
  hok : HOk P w H' s'.heap
  rc : XRec s.heap s'.heap H' a cls new
def CX1 (P : Program) (w : World) : CXT := fun outer H s E e s' => ∃ a cls H', e = .ref a ∧ EX P w outer H s false cls a H' s' ∧ E cls.1 cls.2 H'
section
variable {X : Cx} {pins : List (Addr × Obj)} {σ : St} {H H' : Hp} {s s₁ : Shared} {cls : XCk} {a : Addr} {new : Bool}
/-- behind an error, in the same def -/
theorem EX.inv (I : Inv X pins σ H s) (x : EX X.prog X.w X.stack H s new cls a H' s₁) : Inv X pins σ H' s₁ := I.call' x.os x.un x.hok x.bare fun b hb => by simp at hb
/-- what a frame's note leaves -/
structure Noted (fs : List Addr) (e : Addr) (oe : Obj) (L : Addr) (h h₃ : Heap) : Prop where
  stay : ∀ b o, b ∉ fs → b ≠ e → h.get? b = some o → h₃.get? b = some o
  slot : ∀ b ∈ fs, ∀ o, h.get? b = some o → ∃ sl, h₃.get? b = some { o with slots := sl }
  tr : ∃ T oT ts, h.objs.size ≤ T ∧ h₃.get? e = some (oe.mapFields fun z => z.setIfInBounds 1 (.ref T)) ∧ h₃.get? T = some oT ∧ oT.data = .fields ts ∧ ts[3]? = some (rawInt L)
theorem x_entry {M : Model} {A : Around} {E : Value → Shared → Prop} {s : Shared} {base : Heap} {env : Env} {outer : List Env} {L e : Addr} {oe : Obj} {vs : Array Value} {head : Value} {hadNext : Bool} {Q : Unit → Shared → Prop}
    (hfr : A.frames = some (env :: outer)) (hl : s.heap.FunFrames base (env :: outer)) (hf : env.frame = some L) (he : s.heap.get? e = some oe) (hd : oe.data = .fields vs) (hsz : 1 < vs.size) (h : ∀ h₃, Noted (frs (env :: outer)) e oe L s.heap h₃ → Q () { s with heap := h₃ }) :
    wpAny M A (do let a ← frameOf env; let pl ← entryPlaceOf L hadNext; let b ← EntryCells.newEntry head a .none (rawInt L) .none pl; setField (.ref e) 1 b) Q E s := by
  have hene : e ∉ frs (env :: outer) := fun hm => by
    obtain ⟨_, o, ho, hnf⟩ := hl.mem hm
    rw [he] at ho; cases ho; exact hnf vs hd
  refine wpAny_bind (wpAny_frameOf_fun hfr hl hf fun h₁ hs₁ => wpAny_bind (wpAny_entryPlaceOf fun pl hpl => ?_))
  unfold EntryCells.newEntry newFields
  refine wpAny_bind (wpAny_newObj_type ?_ (hpl.sizeOk5 _ _ _ _ _))
  generalize htb : ({ cls := .type "traceback", dict := none, data := .fields ([head, .ref L, .none, rawInt L, .none] ++ (if pl.isEmpty then List.replicate 6 Value.none else pl)).toArray } : Obj) = tb
  have he₁ : h₁.get? e = some oe := (hs₁.2.1 e hene).trans he
  have he₂ : (h₁.push tb).get? e = some oe := Heap.get?_push_of_some _ he₁
  have nTe : h₁.objs.size ≠ e := Nat.ne_of_gt (Heap.lt_size he₁)
  have dtb : tb.data = .fields ([head, .ref L, .none, rawInt L, .none] ++ (if pl.isEmpty then List.replicate 6 Value.none else pl)).toArray := by rw [← htb]
  have htbf : tb.isFreed = false := Obj.isFreed_of_fields dtb
  have hd₃ := Obj.data_mapFields hd fun z => z.setIfInBounds 1 (Value.ref h₁.objs.size)
  have he₃ := Heap.get?_update_self (Obj.mapFields fun z => z.setIfInBounds 1 (Value.ref h₁.objs.size)) he₂ (Obj.isFreed_of_fields hd₃)
  have hT₃ := (Heap.get?_update_other (h₁.push tb) (Obj.mapFields fun z => z.setIfInBounds 1 (Value.ref h₁.objs.size)) (Ne.symm nTe)).trans (Heap.get?_push_size h₁ htbf)
  refine wpAny_setField he₂ hd hsz (h _ ⟨fun b o hb hbe hbo => ?_, fun b hb o hbo => ?_, ?_⟩)
  · have hb1 : h₁.get? b = some o := (hs₁.2.1 b hb).trans hbo
    rw [Heap.get?_update_other _ _ (Ne.symm hbe)]
    exact Heap.get?_push_of_some _ hb1
  · obtain ⟨sl, hb1⟩ := hs₁.2.2 b o hbo
    refine ⟨sl, ?_⟩
    rw [Heap.get?_update_other _ _ (fun q => hene (by rw [q]; exact hb))]
    exact Heap.get?_push_of_some _ hb1
  · exact ⟨h₁.objs.size, tb, _, Nat.le_of_eq hs₁.1.symm, he₃, hT₃, dtb, by simp⟩
theorem EX.fin (I : Inv X pins σ H s) (x : EX X.prog X.w X.stack H s new cls a H' s₁) {oe : Obj} {vs : Array Value} (he : s₁.heap.get? a = some oe) (hc : oe.cls = cls.1) (hd : oe.data = .fields vs) (hdi : oe.dict = none ∧ (cls.2 = none → vs[2]? = some .none)) (hv : 1 < vs.size) {T0 : Option Addr}
    (hT0 : ∀ T, T0 = some T → H' T = none ∧ s.heap.get? T = none) {g h₃ : Heap} (hg : ∀ b o, (∀ T, T0 = some T → b ≠ T) → s₁.heap.get? b = some o → g.get? b = some o) (hgf : ∀ b ∈ frs X.stack, ∀ o, s₁.heap.get? b = some o → g.get? b = some o) (hgs : s₁.heap.objs.size ≤ g.objs.size)
    (hge : g.get? a = some oe) {L : Addr} (nt : Noted (frs X.stack) a oe L g h₃) : EX X.prog X.w X.stack H s true cls a H' { s₁ with heap := h₃ } := by
  obtain ⟨stay, slot, T, oT, ts, hTs, heT, hT, hdT, h3⟩ := nt
  obtain ⟨b1, b2⟩ := x.rc.base
  have frm : ∀ b ∈ frs X.stack, ∀ o, s.heap.get? b = some o → ∃ sl, h₃.get? b = some { o with slots := sl } := fun b hb o e => by
    obtain ⟨sl, e1⟩ := x.un.slot b o e (I.stkFree b hb) hb (by simp)
    obtain ⟨sl', e2⟩ := slot b hb _ (hgf b hb _ e1)
    exact ⟨sl', e2⟩
  have frn : ∀ b ∈ frs X.stack, H' b = none := fun b hb => by
    obtain ⟨_, o, ho, _⟩ := I.stack.mem hb
    exact x.un.free b o ho (I.stkFree b hb) (by simp)
  refine ⟨x.os, x.bare, ⟨fun b o e n hb _ => ?_, fun b o e n hb _ => frm b hb o e, x.un.free, fun b o e _ => ?_, x.un.tups, x.un.frzs, x.un.tbls⟩, fun b ob e => ?_, ?_⟩
  · refine stay b o hb (fun q => by rw [q, b2] at e; cases e) (hg b o (fun T hT q => by rw [q, (hT0 T hT).2] at e; cases e) (x.un.keep b o e n hb (by simp)))
  · by_cases hm : b ∈ frs X.stack
    · obtain ⟨sl, e2⟩ := frm b hm o e
      exact ⟨_, e2⟩
    · obtain ⟨o', e1⟩ := x.un.there b o e (by simp)
      exact ⟨o', stay b o' hm (fun q => by rw [q, b2] at e; cases e) (hg b o' (fun T hT q => by rw [q, (hT0 T hT).2] at e; cases e) e1)⟩
  · refine (x.hok b ob e).stay (fun c u hc q => ?_) (fun _ q => q) fun _ _ q => q
    have tr : ∃ v, H' c = some v := by
      rcases hc with rfl | hc
      · exact ⟨_, e⟩
      · exact ⟨_, hc⟩
    obtain ⟨v, tr⟩ := tr
    refine stay c u (fun hm => ?_) (fun z => ?_) (hg c u (fun T hT z => ?_) q)
    · rw [frn c hm] at tr; cases tr
    · rw [z, b1] at tr; cases tr
    · rw [z, (hT0 T hT).1] at tr; cases tr
  · have hTn : s₁.heap.get? T = none := Heap.get?_none_of_le (Nat.le_trans hgs hTs)
    have hTa : T ≠ a := fun z => by rw [z, he] at hTn; cases hTn
    refine .fl _ _ heT ((Obj.cls_mapFields ..).trans hc) (Obj.data_mapFields hd _) ?_ b1 b2 T oT ts (by simp [hv]) hTa hT hdT L h3 (x.hok.none hTn) ?_
    · refine ⟨?_, ?_⟩
      · obtain ⟨c0, d0, dt, sl⟩ := oe
        have hdi1 := hdi.1
        dsimp only at hd hdi1
        subst hd hdi1
        rfl
      · intro z
        rw [Array.getElem?_setIfInBounds]
        simp [hdi.2 z]
    · cases q : s.heap.get? T with
      | none => rfl
      | some o => obtain ⟨o', e2⟩ := x.un.there T o q (by simp); rw [hTn] at e2; cases e2
/-- what lies at the traceback alone is changed -/
theorem EX.upT {P : Program} {w : World} {st : List Env} {new' : Bool} (x : EX P w st H s new cls a H' s₁) {T : Addr} {h₃ : Heap} (hk : ∀ b, b ≠ T → h₃.get? b = s₁.heap.get? b) (ho : ∃ o, h₃.get? T = some o) (hnT : H' T = none) (hgT : s.heap.get? T = none) (rc : XRec s.heap h₃ H' a cls new') : EX P w st H s new' cls a H' { s₁ with heap := h₃ } := by
  have nT : ∀ {b o}, s.heap.get? b = some o → b ≠ T := fun {b o} e z => by rw [z, hgT] at e; cases e
  refine ⟨x.os, x.bare, ⟨fun b o e n hb hx => (hk b (nT e)).trans (x.un.keep b o e n hb hx), fun b o e n hb hx => ?_, x.un.free, fun b o e hx => ?_, x.un.tups, x.un.frzs, x.un.tbls⟩, fun b ob e => ?_, rc⟩
  · obtain ⟨sl, e1⟩ := x.un.slot b o e n hb hx
    exact ⟨sl, (hk b (nT e)).trans e1⟩
  · obtain ⟨o', e1⟩ := x.un.there b o e hx
    exact ⟨o', (hk b (nT e)).trans e1⟩
  · refine (x.hok b ob e).stay (fun c u hc q => (hk c fun z => ?_).trans q) (fun _ q => q) fun _ _ q => q
    rcases hc with rfl | hc
    · rw [z, hnT] at e; cases e
    · rw [z, hnT] at hc; cases hc
/-- the frame is noted in the error's traceback -/
theorem note_fl {M : Model} {A : Around} {Q : Unit → Shared → Prop} {E : Value → Shared → Prop} {cenv : Env} (I : Inv X pins σ H s) (hst : X.stack = X.env :: X.outer) (hf : X.env.frame = some X.env.locals) (hA : A.frames = some X.stack) (hcf : cenv.frame = X.env.frame) (x : EX X.prog X.w X.stack H s new cls a H' s₁)
    (h : ∀ h₃, EX X.prog X.w X.stack H s true cls a H' { s₁ with heap := h₃ } → (∃ vs oe T oT ts, ∃ f : Addr, h₃.get? a = some oe ∧ oe.data = .fields vs ∧ vs[1]? = some (.ref T) ∧ T ≠ a ∧ h₃.get? T = some oT ∧ oT.data = .fields ts ∧ ts[3]? = some (rawInt f) ∧ H' T = none ∧ s.heap.get? T = none) → Q () { s₁ with heap := h₃ }) : wpAny M A (noteFrame (.ref a) cenv) Q E s₁ := by
  have hfun : s₁.heap.FunFrames X.base X.stack := funs_un x.un (fun b hb => ⟨hb, I.stkFree b hb⟩) I.stack
  have efr : PySem.frameOf cenv = PySem.frameOf X.env := by unfold PySem.frameOf; rw [hcf]
  have rc := x.rc
  have h' : ∀ h₃, EX X.prog X.w X.stack H s true cls a H' { s₁ with heap := h₃ } → (∀ oe vs, h₃.get? a = some oe → oe.data = .fields vs → vs[1]? ≠ some .none) → Q () { s₁ with heap := h₃ } := fun h₃ x3 hne => by
    refine h h₃ x3 ?_
    cases x3.rc with
    | new oe vs he hc hd hdi hn hg h1 => exact absurd h1 (hne oe vs he hd)
    | fl oe vs he hc hd hdi hn hg T oT ts h1 ht hT hdT f h3 hnT hgT => exact ⟨vs, oe, T, oT, ts, f, he, hd, h1, ht, hT, hdT, h3, hnT, hgT⟩
  have hne : ∀ {h₃ : Heap} {oe : Obj} {T : Addr} {vs : Array Value}, oe.data = .fields vs → h₃.get? a = some (oe.mapFields fun z => z.setIfInBounds 1 (.ref T)) → ∀ oe' vs', h₃.get? a = some oe' → oe'.data = .fields vs' → vs'[1]? ≠ some .none := fun {h₃ oe T vs} hd e oe' vs' e' hd' z => by
    rw [e] at e'; cases e'
    have q := Obj.data_mapFields hd fun z => z.setIfInBounds 1 (Value.ref T)
    rw [hd'] at q
    cases q
    rw [Array.getElem?_setIfInBounds] at z
    split at z
    · split at z <;> cases z
    · rename_i z0; exact z0 rfl
  have over : ∀ {oe : Obj} {vs : Array Value} (_ : s₁.heap.get? a = some oe) (_ : oe.cls = cls.1) (_ : oe.data = .fields vs) (_ : oe.dict = none ∧ (cls.2 = none → vs[2]? = some .none)) {T : Addr} {oT : Obj} {ts : Array Value} {v3 : Value} (_ : vs[1]? = some (.ref T)) (_ : T ≠ a) (_ : s₁.heap.get? T = some oT) (_ : oT.data = .fields ts) (_ : ts[3]? = some v3) (_ : (v3 == rawInt X.env.locals) = false) (_ : H' T = none) (_ : s.heap.get? T = none), wpAny M A (noteFrame (.ref a) cenv) Q E s₁ := by
    intro oe vs he hc hd hdi T oT ts v3 h1 ht hT hdT h3 hv3 hnT hgT
    unfold noteFrame
    simp only [hcf, hf, efr]
    refine wpAny_bind (wpAny_field he hd h1 ?_)
    rw [if_pos (show (Value.ref T != Value.none) = true by simp)]
    refine wpAny_bind (wpAny_field hT hdT h3 ?_)
    rw [if_neg (show ¬ ((v3 == rawInt X.env.locals) = true) by rw [hv3]; exact Bool.false_ne_true)]
    refine wpAny_bind (wpAny_setField hT hdT (Array.getElem?_eq_some_iff.mp h3).1 ?_)
    have oth : ∀ c, c ≠ T → (s₁.heap.update T (Obj.mapFields fun z => z.setIfInBounds 3 Value.none)).get? c = s₁.heap.get? c := fun c hc => Heap.get?_update_other _ _ (Ne.symm hc)
    have nrec : ∀ c o, s₁.heap.get? c = some o → (∀ z, o.data ≠ .fields z) → c ≠ T := fun c o hc hnf q => by rw [q, hT] at hc; cases hc; exact hnf ts hdT
    have nfr : ∀ c ∈ frs X.stack, c ≠ T := fun c hc q => by
      obtain ⟨_, o, ho, hnf⟩ := hfun.mem hc
      exact nrec c o ho hnf q
    have hfun2 : (s₁.heap.update T (Obj.mapFields fun z => z.setIfInBounds 3 Value.none)).FunFrames X.base X.stack := hfun.of_keeps fun c o hc hnf => ⟨o, (oth c (nrec c o hc hnf)).trans hc, rfl⟩
    rw [hst] at hA hfun2
    have hv := (Array.getElem?_eq_some_iff.mp h1).1
    refine x_entry hA hfun2 hf ((oth a (Ne.symm ht)).trans he) hd hv fun h₃ nt => ?_
    have nt' := nt
    obtain ⟨_, _, T', _, _, _, heT, _⟩ := nt'
    refine h' h₃ (x.fin I he hc hd hdi hv (T0 := some T) (fun T' z => by cases z; exact ⟨hnT, hgT⟩) (g := s₁.heap.update T (Obj.mapFields fun z => z.setIfInBounds 3 Value.none)) (fun c o n e => (oth c (n T rfl)).trans e) (fun c hc o e => (oth c (nfr c hc)).trans e) (Nat.le_of_eq (Heap.size_after_update ..).symm) ((oth a (Ne.symm ht)).trans he) (L := X.env.locals) ?_) (hne hd heT)
    rw [hst]
    exact nt
  cases rc with
  | new oe vs he hc hd hdi hn hg h1 =>
    unfold noteFrame
    simp only [hcf, hf, efr]
    refine wpAny_bind (wpAny_field he hd h1 ?_)
    rw [if_neg (by decide)]
    rw [hst] at hA hfun
    refine x_entry hA hfun hf he hd (Array.getElem?_eq_some_iff.mp h1).1 fun h₃ nt => ?_
    have nt' := nt
    obtain ⟨_, _, T', _, _, _, heT, _⟩ := nt'
    refine h' h₃ (x.fin I he hc hd hdi (Array.getElem?_eq_some_iff.mp h1).1 (T0 := none) (fun _ z => nomatch z) (g := s₁.heap) (fun _ _ _ e => e) (fun _ _ _ e => e) (Nat.le_refl _) he (L := X.env.locals) ?_) (hne hd heT)
    rw [hst]
    exact nt
  | old oe vs he hc hd hdi hn hg T oT ts h1 ht hT hdT h3 hnT hgT => exact over he hc hd hdi h1 ht hT hdT h3 (by simp [rawInt]) hnT hgT
  | fl oe vs he hc hd hdi hn hg T oT ts h1 ht hT hdT f h3 hnT hgT =>
    cases q : (rawInt f == rawInt X.env.locals) with
    | false => exact over he hc hd hdi h1 ht hT hdT h3 q hnT hgT
    | true =>
      unfold noteFrame
      simp only [hcf, hf, efr]
      refine wpAny_bind (wpAny_field he hd h1 ?_)
      rw [if_pos (show (Value.ref T != Value.none) = true by simp)]
      refine wpAny_bind (wpAny_field hT hdT h3 ?_)
      rw [if_pos q]
      exact wpAny_pure (h _ x ⟨vs, oe, T, oT, ts, f, he, hd, h1, ht, hT, hdT, h3, hnT, hgT⟩)
/-- the error's record with another word of its flight -/
theorem EX.flight {fl : Option Addr} (x : EX X.prog X.w X.stack H s true cls a H' s₁) {vs ts : Array Value} {oe oT : Obj} {T f : Addr} (he : s₁.heap.get? a = some oe) (hd : oe.data = .fields vs) (h1 : vs[1]? = some (.ref T)) (ht : T ≠ a) (hT : s₁.heap.get? T = some oT) (hdT : oT.data = .fields ts) (h3 : ts[3]? = some (rawInt f)) (hnT : H' T = none) (hgT : s.heap.get? T = none) :
    EX X.prog X.w X.stack H s fl.isSome cls a H' { s₁ with heap := s₁.heap.update T (Obj.mapFields fun z => z.setIfInBounds 3 (fl.elim .none fun f => rawInt f)) } := by
  have dT := Obj.data_mapFields hdT fun z => z.setIfInBounds 3 (fl.elim .none fun f => rawInt f)
  have oT' := Heap.get?_update_self (Obj.mapFields fun z => z.setIfInBounds 3 (fl.elim .none fun f => rawInt f)) hT (Obj.isFreed_of_fields dT)
  have oth : ∀ b, b ≠ T → (s₁.heap.update T (Obj.mapFields fun z => z.setIfInBounds 3 (fl.elim .none fun f => rawInt f))).get? b = s₁.heap.get? b := fun b hb => Heap.get?_update_other _ _ (Ne.symm hb)
  have h3' : (ts.setIfInBounds 3 (fl.elim .none fun f => rawInt f))[3]? = some (fl.elim .none fun f => rawInt f) := Array.getElem?_setIfInBounds_self_of_lt (Array.getElem?_eq_some_iff.mp h3).1
  refine x.upT oth ⟨_, oT'⟩ hnT hgT ?_
  have base : oe.cls = cls.1 ∧ (oe.dict = none ∧ (cls.2 = none → vs[2]? = some .none)) ∧ H' a = none ∧ s.heap.get? a = none := by
    cases x.rc with
    | new oe' vs' he' hc hd' hdi hn hg h1' => rw [he] at he'; cases he'; rw [hd] at hd'; cases hd'; exact ⟨hc, hdi, hn, hg⟩
    | fl oe' vs' he' hc hd' hdi hn hg => rw [he] at he'; cases he'; rw [hd] at hd'; cases hd'; exact ⟨hc, hdi, hn, hg⟩
  obtain ⟨hc, hdi, hn, hg⟩ := base
  cases fl with
  | none => exact .old oe vs ((oth a (Ne.symm ht)).trans he) hc hd hdi hn hg T _ _ h1 ht oT' dT h3' hnT hgT
  | some f' => exact .fl oe vs ((oth a (Ne.symm ht)).trans he) hc hd hdi hn hg T _ _ h1 ht oT' dT f' h3' hnT hgT
theorem note_ex {M : Model} {A : Around} {Q : Unit → Shared → Prop} {E : Value → Shared → Prop} (I : Inv X pins σ H s) (hst : X.stack = X.env :: X.outer) (hf : X.env.frame = some X.env.locals) (hA : A.frames = some X.stack) (x : EX X.prog X.w X.stack H s new cls a H' s₁)
    (h : ∀ h₃, EX X.prog X.w X.stack H s false cls a H' { s₁ with heap := h₃ } → Q () { s₁ with heap := h₃ }) : wpAny M A (noteFrame (.ref a) X.env) (fun _ s₂ => wpAny M A (setFlight (.ref a) none) Q E s₂) E s₁ := by
  refine note_fl I hst hf hA rfl x fun h₃ x3 ⟨vs, oe, T, oT, ts, f, he, hd, h1, ht, hT, hdT, h3, hnT, hgT⟩ => ?_
  unfold setFlight
  refine wpAny_bind (wpAny_field he hd h1 ?_)
  rw [if_pos (show (Value.ref T != Value.none) = true by simp)]
  exact wpAny_setField hT hdT (Array.getElem?_eq_some_iff.mp h3).1 (h _ (x3.flight (fl := none) he hd h1 ht hT hdT h3 hnT hgT))
/-- an error leaves a def -/
theorem leave_ex {M : Model} {A : Around} {Q : Unit → Shared → Prop} {E : Value → Shared → Prop} (I : Inv X pins σ H s) (hst : X.stack = X.env :: X.outer) (hf : X.env.frame = some X.env.locals) (hA : A.frames = some X.stack) (x : EX X.prog X.w X.stack H s new cls a H' s₁)
    (h : ∀ h₃, EX X.prog X.w X.stack H s false cls a H' { s₁ with heap := h₃ } → Q () { s₁ with heap := h₃ }) : wpAny M A (leaving X.env (.ref a)) Q E s₁ := by
  unfold leaving
  exact wpAny_bind (note_ex I hst hf hA x h)
/-- as the callers see it -/
theorem EX.out (I : Inv X pins σ H s) (hex : X.ex = []) (x : EX X.prog X.w X.stack H s false cls a H' s₁) : EX X.prog X.w X.outer X.H₀ X.s₀ false cls a H' s₁ := by
  have base := I.base
  rw [hex] at base
  have gone : ∀ {b : Addr}, s.heap.get? b = none → X.s₀.heap.get? b = none := fun {b} e => by
    cases q : X.s₀.heap.get? b with
    | none => rfl
    | some o => obtain ⟨o', e2⟩ := base.there b o q (by simp); rw [e] at e2; cases e2
  have nst : ∀ {b : Addr} {o : Obj}, X.s₀.heap.get? b = some o → b ∉ X.fs → b ∉ frs X.stack := fun {b o} e n hm => by
    rcases List.mem_cons.mp (I.stkSub b hm) with z | z
    · exact absurd (Nat.lt_of_lt_of_le (Heap.lt_size e) I.ok.above) (by rw [z]; exact Nat.lt_irrefl _)
    · exact n z
  refine ⟨x.os.trans I.os, x.bare, ⟨fun b o e n hb _ => x.un.keep b o (base.keep b o e n hb (by simp)) (base.free b o e n (by simp)) (nst e hb) (by simp), fun b o e n hb _ => ?_, fun b o e n _ => ?_, fun b o e _ => ?_, fun b xs e => x.un.tups b xs (base.tups b xs e), fun b o u e => x.un.frzs b o u (base.frzs b o u e), fun b ps e => ?_⟩, x.hok, ?_⟩
  · obtain ⟨sl, e1⟩ := base.slot b o e n hb (by simp)
    obtain ⟨sl', e2⟩ := x.un.any e1 (base.free b o e n (by simp)) (by simp)
    exact ⟨sl', e2⟩
  · obtain ⟨sl, e1⟩ := base.any e n (by simp)
    exact x.un.free b _ e1 (base.free b o e n (by simp)) (by simp)
  · obtain ⟨o', e1⟩ := base.there b o e (by simp)
    exact x.un.there b o' e1 (by simp)
  · obtain ⟨m1, e1⟩ := base.tbls b ps e
    obtain ⟨m2, e2⟩ := x.un.tbls b _ e1
    exact ⟨m1 ++ m2, by rw [e2, Array.append_assoc]⟩
  · have rc := x.rc
    cases rc with
    | old oe vs he hc hd hdi hn hg T oT ts h1 ht hT hdT h3 hnT hgT => exact .old oe vs he hc hd hdi hn (gone hg) T oT ts h1 ht hT hdT h3 hnT (gone hgT)
end
/-- what a context wishes of errors -/
structure Wish (X : Cx) (E : XK) : Prop where
  go : ∀ (pins : List (Addr × Obj)) (σ : St) (H : Hp) (s : Shared) (new : Bool) (cls : XCk) (a : Addr) (H' : Hp) (s₁ : Shared), Inv X pins σ H s → EX X.prog X.w X.stack H s new cls a H' s₁ → E cls.1 cls.2 H' → X.xe (.ref a) s₁
theorem Wish.pass {X : Cx} {E : XK} (W : Wish X E) : Passes (CX1 X.prog X.w) X E := fun pins σ H s e s' I ⟨a, cls, H', e1, x, q⟩ => by
  subst e1
  exact W.go pins σ H s false cls a H' s' I x q
/-- a def's body -/
theorem wish_def {P : Program} {w : World} {K : PySem.W.Frag} {mg : Str → Option Value} {base : Heap} {N : List Str} {qual : Str} {scope : Scope} {f : Addr} {cd : Value} {A : Around} {outer : List Env} {s : Shared} {H : Hp} {E : XK} : Wish (cxOf (CX1 P w) P w K mg base N qual scope f cd A outer s H E) E where
  go := fun pins σ H1 s1 new cls a H' s₁ I x q => by
    show wpAny (model P w) (A.deeper (envOfC qual scope s.heap.objs.size f cd)) (leaving (envOfC qual scope s.heap.objs.size f cd) (.ref a)) _ _ s₁
    refine leave_ex I rfl rfl I.ok.frames x fun h₃ x' => ⟨a, cls, H', rfl, x'.out I rfl, q⟩
end L2
set_option Elab.async false
set_option linter.all false
set_option maxRecDepth 100000
namespace L2
open PySem PySem.Spec PyProof.Rows
/-- an own class of errors, as it lies -/
theorem own_at {K : PySem.W.Frag} {h : Heap} {C : Addr} {bmB : List Value} {newId : String} (X : K.In h) (q : PySem.W.excIn K C bmB newId = true) :
    ∃ bm N nm q bs hdct sn sub ab col dd k0 k1 k2 k3 k5 mN, h.get? C = some (excClassObj nm q C N bs bm hdct sn sub ab col dd k0 k1 k2 k3 k5 newId) ∧ h.Ns N mN ∧ mN "__init__" = none ∧ OwnTail h bmB bm := by
  unfold PySem.W.excIn at q
  split at q
  · rename_i dd cd sl ho
    split at q
    · rename_i C' bm k0 k1 k2 k3 n k5 hm hs
      simp only [Bool.and_eq_true, beq_iff_eq, Bool.not_eq_true'] at q
      obtain ⟨⟨⟨⟨⟨rfl, rfl⟩, hdel⟩, ht⟩, hok⟩, hni⟩ := q
      obtain ⟨nm, bs, mro, ns, qn, hd, sn, sub, ab, col, del⟩ := cd
      dsimp only at hm hdel hok hni
      subst hm hdel
      have hsl : sl = #[k0, k1, k2, k3, some (.builtin n), k5] := by obtain ⟨l⟩ := sl; simp only at hs; rw [hs]
      subst hsl
      exact ⟨bm, ns, nm, qn, bs, hd, sn, sub, ab, col, dd, k0, k1, k2, k3, k5, _, X _ _ ho, .of_isNs (PySem.W.isNs_of_in X hok), PySem.W.nsMap_none_of_in X hok hni, PySem.W.tail_of_in X ht⟩
    · cases q
  · cases q
abbrev bmV : List Value := [.type "ValueError", .type "Exception", .type "BaseException", .type "object"]
/-- an own class of errors over ValueError, by its name -/
structure XCls (K : PySem.W.Frag) (mg : Str → Option Value) (x : Str) (C : Addr) : Prop where
  m : mg x = some (.ref C)
  ok : PySem.W.excIn K C bmV "ValueError.__new__" = true
/-- raise C(..) -/
inductive tRaise (t : TA) (cls : Value) (E : XK) (D : Ends) (σ : St) (H : Hp) : Prop
  | mk (h : t σ H fun vs H1 => vs.length ≤ sizeLine ∧ E cls none H1) : tRaise t cls E D σ H
section
variable {X : Cx} {E : XK} {x : Str} {C : Addr} {e₀ : Expr} {rest : List Expr} {t : TA} {np cpos pos : Pos}
theorem ps_raise (W : Wish X E) (hc : X.calm = true) (hC : XCls X.K X.mg x C) (ha : PA X (e₀ :: rest) t) (hg : Gl X x := by rfl) (he : starEach (e₀ :: rest) X.env = (false, eval e₀ X.env) :: starEach rest X.env := by rfl)
    (hpl : (backTo cpos (starEach rest X.env)).any (·.1) = false := by rfl) (hdb : (x == ("__debug__" : Str)) = false := by decide) : PS X (.Raise (some (.Call (.Name x np) (e₀ :: rest) [] cpos)) none pos) (tRaise t (.ref C) E) := by
  refine ⟨?_⟩
  intro pins s σ H D I h
  obtain ⟨h⟩ := h
  obtain ⟨bm, N, nm, q, bs, hdct, sn, sub, ab, col, dd, k0, k1, k2, k3, k5, mN, hCo, hN, hni, T⟩ := own_at I.mod.kin hC.ok
  refine wpAny_Raise_call_subT (C := C) (nm := nm) (q := q) (N := N) (bs := bs) (bm := bm) (hdct := hdct) (sn := sn) (sub := sub) (ab := ab) (col := col) (dd := dd) (k0 := k0) (k1 := k1) (k2 := k2) (k3 := k3) (k5 := k5) PySem.F.excBase_ValueError (mN := mN)
    (T.hasType PySem.F.excBase_ValueError.hasBase) (I.ok.hd hc) (by rw [he]; show (false || (backTo cpos (starEach rest X.env)).any (·.1)) = false; rw [hpl]; rfl) hni (ld_glob I hg hC.m ⟨rfl, ?_⟩ hdb)
  have hw := ha cpos pins s σ H _ I h
  rw [he] at hw ⊢
  refine Calls.evalArgs_plain (wpAny_mono hw (fun us s₂ h₂ => ?_) fun _ _ y => y)
  obtain ⟨vs, H1, I1, r, hl, qe⟩ := h₂
  refine ⟨rfl, by rw [← r.length]; exact hl, I1.bk _ _ hCo, hN.keeps I1.bk, T.keeps I1.bk, fun h' e hm => ?_⟩
  obtain ⟨tt, he', _, _⟩ := hm.there
  exact W.go pins σ H1 s₂ true (.ref C, none) e H1 { s₂ with heap := h' } I1 ⟨rfl, I1.bare, Un.kept hm.keeps, I1.hok.kept hm.keeps, .new _ _ he' rfl rfl ⟨rfl, fun _ => rfl⟩ (I1.hok.none hm.new) hm.new rfl⟩ qe
end
/-- a def from which errors may leave -/
def CanX (P : Program) (w : World) (K : PySem.W.Frag) (mg : Str → Option Value) (base : Heap) (k : Nat) (x : Str) (ps : List Str) (sp : Sp) : Prop :=
  ∃ f fd, FnOk P w K mg base (CX1 P w) k f fd ps sp ∧ mg x = some (.ref f) ∧ PySem.W.keepIn K (.ref f) = true ∧ Binds K fd ps []
section
variable {P : Program} {w : World} {K : PySem.W.Frag} {mg : Str → Option Value} {base : Heap}
theorem fn_canX {x : Str} {st : Stmt} {N ps : List Str} {k : Nat} {sp : Sp} (h : ∃ f fd, Fn K mg x st ps f fd) (S : FnScope N ps (defScope st)) (len : ∀ vs H Q E, sp vs H Q E → vs.length = ps.length)
    (hbody : ∀ (f : Addr) (cdv : Value) (A : Around) (outer : List Env) (s : Shared) (H : Hp) (vs : List V) (Q : VK) (E : XK), Room k (A.deeper (envOfC x (defScope st) s.heap.objs.size f cdv)) → Wish (cxOf (CX1 P w) P w K mg base N x (defScope st) f cdv A outer s H E) E → sp vs H Q E →
      ∃ t, PSs (cxOf (CX1 P w) P w K mg base N x (defScope st) f cdv A outer s H E) (defBody st) t ∧ t { nx := fun _ H' => Q .non H', rt := Q } (start N vs) H) : CanX P w K mg base (k + 1) x ps sp := by
  obtain ⟨f, fd, F⟩ := h
  obtain ⟨oc, od, kV, doc, pm, an, cdv, ct, osl, e, lk, hcd⟩ := F.fn.ex
  refine ⟨f, fd, ?_, F.m, F.fn.kp, F.b⟩
  subst e
  exact fn_of lk hcd S len fun A outer s H vs Q E hr hsp => hbody f cdv A outer s H vs Q E hr wish_def hsp
end
section
variable {X : Cx} {k k' : Nat} {x : Str} {ps : List Str} {sp : Sp} {p pos : Pos} {e : Expr} {es : List Expr} {t : TA} {E : XK}
theorem pe_canX (h : CanX X.prog X.w X.K X.mg X.base k x ps sp) (W : Wish X E) (hr : Room k' X.A) (ha : PA X (e :: es) t) (hg : Gl X x := by rfl) (hk : k ≤ k' := by decide) (hdb : (x == ("__debug__" : Str)) = false := by decide)
    (hs : starEach (e :: es) X.env = (false, eval e X.env) :: starEach es X.env := by rfl) (hpl : (backTo pos (starEach es X.env)).any (·.1) = false := by rfl) : PE X (.Call (.Name x p) (e :: es) [] pos) (tCall sp [] E t) := by
  obtain ⟨f, fd, F, hm, kp, b⟩ := h
  exact pe_call F (hr.mono hk) hg hm kp b .nil W.pass ha hdb hs hpl
end
/-! ### try -/
abbrev Cx.tryC (X : Cx) (pn : List (Addr × Obj)) (xe : Value → Shared → Prop) : Cx := { X with pn := pn, xe := xe }
abbrev Cx.mark (X : Cx) (a : Addr) : Cx := { X with A := X.A.mark (some (.ref a)), calm := false, xe := fun _ _ => False }
section
variable {X : Cx} {pins pins2 : List (Addr × Obj)} {σ : St} {H : Hp} {s : Shared} {xe : Value → Shared → Prop} {a : Addr}
theorem Cx.Ok.tryC (ok : X.Ok) (pn : List (Addr × Obj)) (xe : Value → Shared → Prop) : (X.tryC pn xe).Ok :=
  ⟨ok.mod, ok.kind, ok.glob, ok.blt, ok.above, ok.inj, ok.has, ok.cab, ok.hd, ok.frames, ok.stk, ok.exf, ok.bs, ok.bsz, ok.noex, ok.exfs, ok.funs, ok.frf⟩
theorem Cx.Ok.untry {pn : List (Addr × Obj)} (ok : (X.tryC pn xe).Ok) : X.Ok :=
  ⟨ok.mod, ok.kind, ok.glob, ok.blt, ok.above, ok.inj, ok.has, ok.cab, ok.hd, ok.frames, ok.stk, ok.exf, ok.bs, ok.bsz, ok.noex, ok.exfs, ok.funs, ok.frf⟩
theorem Inv.tryC (I : Inv X pins σ H s) (xe : Value → Shared → Prop) : Inv (X.tryC (X.pn ++ pins) xe) [] σ H s :=
  ⟨I.ok.tryC _ _, I.os, I.bare, I.base, I.loc, I.cell, I.free, I.freeC, fun p hp => I.pin p (by simpa using hp), I.hok, I.len⟩
theorem Inv.untry (I : Inv (X.tryC (X.pn ++ pins) xe) pins2 σ H s) : Inv X pins σ H s :=
  ⟨I.ok.untry, I.os, I.bare, I.base, I.loc, I.cell, I.free, I.freeC, fun p hp => I.pin p (List.mem_append_left _ hp), I.hok, I.len⟩
theorem SP.untry {D : Ends} {f : Flow} {s' : Shared} (h : SP (X.tryC (X.pn ++ pins) xe) pins2 D f s') : SP X pins D f s' := by
  cases f with
  | next => obtain ⟨σ', H', I, q⟩ := h; exact ⟨σ', H', I.untry, q⟩
  | brk => obtain ⟨σ', H', I, q⟩ := h; exact ⟨σ', H', I.untry, q⟩
  | cont => obtain ⟨σ', H', I, q⟩ := h; exact ⟨σ', H', I.untry, q⟩
  | ret u => obtain ⟨v, σ', H', I, r, q⟩ := h; exact ⟨v, σ', H', I.untry, r, q⟩
theorem Inv.mark (I : Inv X pins σ H s) (a : Addr) : Inv (X.mark a) pins σ H s :=
  ⟨⟨I.ok.mod, I.ok.kind, I.ok.glob, I.ok.blt, I.ok.above, I.ok.inj, I.ok.has, I.ok.cab, (fun z => nomatch z), I.ok.frames, I.ok.stk, I.ok.exf, I.ok.bs, I.ok.bsz, I.ok.noex, I.ok.exfs, I.ok.funs, I.ok.frf⟩, I.os, I.bare, I.base, I.loc, I.cell, I.free, I.freeC, I.pin, I.hok, I.len⟩
theorem Inv.unmark (ok : X.Ok) (I : Inv (X.mark a) pins σ H s) : Inv X pins σ H s := ⟨ok, I.os, I.bare, I.base, I.loc, I.cell, I.free, I.freeC, I.pin, I.hok, I.len⟩
theorem SP.unmark (ok : X.Ok) {D : Ends} {f : Flow} {s' : Shared} (h : SP (X.mark a) pins D f s') : SP X pins D f s' := by
  cases f with
  | next => obtain ⟨σ', H', I, q⟩ := h; exact ⟨σ', H', I.unmark ok, q⟩
  | brk => obtain ⟨σ', H', I, q⟩ := h; exact ⟨σ', H', I.unmark ok, q⟩
  | cont => obtain ⟨σ', H', I, q⟩ := h; exact ⟨σ', H', I.unmark ok, q⟩
  | ret u => obtain ⟨v, σ', H', I, r, q⟩ := h; exact ⟨v, σ', H', I.unmark ok, r, q⟩
end
/-- the clauses of a try, at an error of that class; k: none where its context is none -/
def PHsK (X : Cx) (k : Option Addr) (hs : List ExceptHandler) (th : Value → TS) : Prop :=
  ∀ (pins : List (Addr × Obj)) (s : Shared) (σ : St) (H : Hp) (D : Ends) (a : Addr) (cls : Value) (g : Heap), Inv X pins σ H s → XRec g s.heap H a (cls, k) false → X.s₀.heap.get? a = none → (∀ p ∈ X.pn ++ pins, p.1 ≠ a) → th cls D σ H → wpAny (model X.prog X.w) X.A (handleBy (.ref a) X.env hs) (SP X pins D) X.xe s
abbrev PHs (X : Cx) (hs : List ExceptHandler) (th : Value → TS) : Prop := PHsK X none hs th
def onNone (k : Option Addr) (p : Prop) : Prop := match k with | none => p | some _ => False
def tTry (n : Nat) (t : XK → TS) (th : Value → TS) : TS := fun D σ H => t (fun cls k H' => onNone k (∀ σ' : St, σ'.length = n → th cls D σ' H')) D σ H
/-- errors with any context come there -/
def tTryC (n : Nat) (t : XK → TS) (th : Value → TS) : TS := fun D σ H => t (fun cls _ H' => ∀ σ' : St, σ'.length = n → th cls D σ' H') D σ H
section
variable {X : Cx} {body : List Stmt} {h₀ : ExceptHandler} {hs : List ExceptHandler} {t : XK → TS} {th : Value → TS} {pos : Pos}
theorem ps_tryG {n : Nat} {E0 : Ends → XK} (hb : ∀ (pn : List (Addr × Obj)) (xe : Value → Shared → Prop) (E : XK), Wish (X.tryC pn xe) E → PSs (X.tryC pn xe) body (t E)) (hh : ∀ k, PHsK X k (h₀ :: hs) th ∨ ∀ D cls H', ¬ E0 D cls k H') (hE : ∀ D cls k H', E0 D cls k H' → ∀ σ' : St, σ'.length = n → th cls D σ' H') (hst : X.stack = X.env :: X.outer := by rfl) (hf : X.env.frame = some X.env.locals := by rfl) (hn : X.N.length = n := by rfl) (hex : X.ex = [] := by rfl) :
    PS X (.Try body (h₀ :: hs) [] [] pos) (fun D σ H => t (E0 D) D σ H) := by
  refine ⟨?_⟩
  intro pins s σ H D I h
  refine wpAny_Try_except (wpAny_mono (hb (X.pn ++ pins) (fun e s₁ => wpAny (model X.prog X.w) X.A (noteFrame e X.env) (fun _ s₂ => wpAny (model X.prog X.w) X.A (setFlight e none) (fun _ s₃ => wpAny (model X.prog X.w) X.A (handleBy e X.env (h₀ :: hs)) (SP X pins D) X.xe s₃) X.xe s₂) X.xe s₁) _ ⟨fun pins2 σ2 H2 s2 new cls a H' s₁ I2 x q => ?_⟩ [] s σ H D (I.tryC _) h) (fun f s₁ q => ?_) fun _ _ z => z)
  · have I2' : Inv X pins σ2 H2 s2 := I2.untry
    refine note_ex I2' hst hf I2'.ok.frames x fun h₃ x3 => ?_
    have I3 := x3.inv I2'
    have fr := x3.rc.base.2
    obtain ⟨cls, kk⟩ := cls
    refine ((hh kk).resolve_right fun z => z D cls H' q) pins _ σ2 H' D a cls s2.heap I3 x3.rc ?_ (fun p hp z => ?_) (hE D cls kk H' q σ2 (I3.len.trans hn))
    · cases e : X.s₀.heap.get? a with
      | none => rfl
      | some o => obtain ⟨o', e2⟩ := I2'.base.there a o e (by rw [hex]; simp); rw [fr] at e2; cases e2
    · have e := (I2'.pin p hp).1
      rw [z, fr] at e
      cases e
  · cases f with
    | next =>
      obtain ⟨σ', H', I', q'⟩ := q
      exact pss_nil pins s₁ σ' H' D I'.untry q'
    | ret v => exact q.untry
    | brk => exact q.untry
    | cont => exact q.untry
theorem ps_try {n : Nat} (hb : ∀ (pn : List (Addr × Obj)) (xe : Value → Shared → Prop) (E : XK), Wish (X.tryC pn xe) E → PSs (X.tryC pn xe) body (t E)) (hh : PHs X (h₀ :: hs) th) (hst : X.stack = X.env :: X.outer := by rfl) (hf : X.env.frame = some X.env.locals := by rfl) (hn : X.N.length = n := by rfl) (hex : X.ex = [] := by rfl) :
    PS X (.Try body (h₀ :: hs) [] [] pos) (tTry n t th) :=
  ps_tryG (E0 := fun D cls k H' => onNone k (∀ σ' : St, σ'.length = n → th cls D σ' H')) hb (fun k => by
    cases k with
    | none => exact .inl hh
    | some b => exact .inr fun _ _ _ z => z) (fun D cls k H' z => by
    cases k with
    | none => exact z
    | some b => exact z.elim) hst hf hn hex
theorem ps_tryC {n : Nat} (hb : ∀ (pn : List (Addr × Obj)) (xe : Value → Shared → Prop) (E : XK), Wish (X.tryC pn xe) E → PSs (X.tryC pn xe) body (t E)) (hh : ∀ k, PHsK X k (h₀ :: hs) th) (hst : X.stack = X.env :: X.outer := by rfl) (hf : X.env.frame = some X.env.locals := by rfl) (hn : X.N.length = n := by rfl) (hex : X.ex = [] := by rfl) :
    PS X (.Try body (h₀ :: hs) [] [] pos) (tTryC n t th) :=
  ps_tryG (E0 := fun D cls _ H' => ∀ σ' : St, σ'.length = n → th cls D σ' H') hb (fun k => .inl (hh k)) (fun D cls k H' z => z) hst hf hn hex
end
end L2
set_option Elab.async false
set_option linter.all false
set_option maxRecDepth 100000
/-! the clauses of a try -/
namespace L2
open PySem PySem.Spec PyProof.Rows
theorem set3 {ts : Array Value} (h : ts[3]? = some Value.none) : ts.setIfInBounds 3 Value.none = ts := by
  obtain ⟨hl, e⟩ := Array.getElem?_eq_some_iff.mp h
  refine Array.ext (by simp) fun i h1 h2 => ?_
  rw [Array.getElem_setIfInBounds h2]
  by_cases hi : 3 = i
  · subst hi; simp [e]
  · simp [hi]
theorem map3 {o : Obj} {ts : Array Value} (hd : o.data = .fields ts) (h : ts[3]? = some Value.none) : Obj.mapFields (fun z => z.setIfInBounds 3 Value.none) o = o := by
  obtain ⟨c, d, dt, sl⟩ := o
  dsimp only at hd
  subst hd
  unfold Obj.mapFields
  simp [set3 h]
theorem keep3 {h : Heap} {T : Addr} {oT : Obj} {ts : Array Value} (hT : h.get? T = some oT) (hd : oT.data = .fields ts) (h3 : ts[3]? = some Value.none) : ∀ b u, h.get? b = some u → (h.update T (Obj.mapFields fun z => z.setIfInBounds 3 Value.none)).get? b = some u := fun b u e => by
  by_cases hb : b = T
  · subst hb
    rw [hT] at e
    cases e
    rw [Heap.get?_update_self _ hT (by rw [map3 hd h3]; exact Obj.isFreed_of_fields hd), map3 hd h3]
  · rw [Heap.get?_update_other _ _ (Ne.symm hb)]; exact e
theorem XRec.kept {g h h' : Heap} {H : Hp} {a : Addr} {cls : XCk} (x : XRec g h H a cls false) (k : ∀ b u, h.get? b = some u → h'.get? b = some u) : XRec g h' H a cls false := by
  cases x with
  | old oe vs he hc hd hdi hn hg T oT ts h1 ht hT hdT h3 hnT hgT => exact .old oe vs (k _ _ he) hc hd hdi hn hg T oT ts h1 ht (k _ _ hT) hdT h3 hnT hgT
section
variable {X : Cx} {x n : Str} {C : Addr} {b₀ : Stmt} {suite : List Stmt} {rest : List ExceptHandler} {pos np : Pos} {th : Value → TS}
theorem ph_nil {k : Option Addr} : PHsK X k [] (fun _ _ _ _ => False) := fun _ _ _ _ _ _ _ _ _ _ _ _ h => h.elim
/-- the match, and the mark set down -/
theorem h_test {kk : Option Addr} {pins : List (Addr × Obj)} {σ : St} {H : Hp} {s : Shared} {a : Addr} {cls : Value} {g : Heap} {b : Bool} {name : Option Str} {Q : Flow → Shared → Prop} (I : Inv X pins σ H s) (xr : XRec g s.heap H a (cls, kk) false) (hC : X.mg x = some (.ref C)) (hg : Gl X x) (hb : PySem.W.exmOne X.K cls (.ref C) = some b) (hdb : (x == ("__debug__" : Str)) = false)
    (h : if b = true then codeAny (model X.prog X.w) (X.A.mark (some (.ref a))) (.handlers (.ref a) [.ExceptHandler none name (b₀ :: suite) pos] X.env) (fun r s₂ => match r with
          | .ok f => (match name with | none => Q f s₂ | some n => wpAny (model X.prog X.w) X.A (do bindName X.env n .none; unbindBehindTheSuite X.env n pos) (fun _ s₃ => Q f s₃) X.xe s₂)
          | .error e => cameBackBy (model X.prog X.w) X.A X.env X.xe e s₂) s
      else wpAny (model X.prog X.w) X.A (handleBy (.ref a) X.env rest) Q X.xe s) :
    wpAny (model X.prog X.w) X.A (handleBy (.ref a) X.env (.ExceptHandler (some (.Name x np)) name (b₀ :: suite) pos :: rest)) Q X.xe s := by
  refine wpAny_handleBy_cons (codeAny_handlers_test (ld_glob (X := X.mark a) (I.mark a) hg hC ?_ hdb)) (by intro z; cases z)
  have LT : PySem.W.Looks (model X.prog X.w) s.heap (typeOf (.ref a)) cls := by
    cases xr with
    | old oe vs he hc =>
      have hc' : oe.cls = cls := hc
      rw [← hc']; exact (PySem.W.Looks.ld he).andThen .now
  refine (PySem.W.exm_one (M := model X.prog X.w) I.kIn LT hb).here ?_
  cases b with
  | true => exact h
  | false => exact h
inductive tH (K : PySem.W.Frag) (C : Addr) (ts : TS) (th : Value → TS) (cls : Value) (D : Ends) (σ : St) (H : Hp) : Prop
  | mk (b : Bool) (e : PySem.W.exmOne K cls (.ref C) = some b) (q : if b = true then ts D σ H else th cls D σ H) : tH K C ts th cls D σ H
/-- except C: .. -/
theorem ph0 {kk : Option Addr} {ts : TS} (hC : X.mg x = some (.ref C)) (hs : ∀ a, PSs (X.mark a) (b₀ :: suite) ts) (hr : PHsK X kk rest th) (hg : Gl X x := by rfl) (hdb : (x == ("__debug__" : Str)) = false := by decide) : PHsK X kk (.ExceptHandler (some (.Name x np)) none (b₀ :: suite) pos :: rest) (tH X.K C ts th) := by
  intro pins s σ H D a cls g I xr x0 xp h
  obtain ⟨b, e, q⟩ := h
  refine h_test I xr hC hg e hdb ?_
  cases b with
  | false => exact hr pins s σ H D a cls g I xr x0 xp q
  | true =>
    refine codeAny_handlers_suite ?_
    cases xr with
    | old oe vs he hc hd hdi hn hgg T oT ts' h1 ht hT hdT h3 hnT hgT =>
      refine wpAny_setFlight_none he hd h1 hT hdT (Array.getElem?_eq_some_iff.mp h3).1 ?_
      have I' : Inv X pins σ H { s with heap := s.heap.update T (Obj.mapFields fun z => z.setIfInBounds 3 Value.none) } := I.kept (t' := s.toks) (keep3 hT hdT h3)
      exact wpAny_mono (hs a pins _ σ H D (I'.mark a) q) (fun f s₂ z => z.unmark I.ok) fun _ _ z => z.elim
/-- an error, as it lies -/
def Ctx0 (oe : Obj) : Prop := ∃ vs, oe.data = .fields vs ∧ vs[2]? = some .none
def XG (φ : Obj → Prop) (a : Addr) (oe : Obj) : HO := .ext fun h => h.get? a = some oe ∧ φ oe
abbrev XO (a : Addr) (oe : Obj) : HO := XG Ctx0 a oe
theorem Inv.trackH {φ : Obj → Prop} {pins : List (Addr × Obj)} {σ : St} {H : Hp} {s : Shared} {a : Addr} {oe : Obj} {vs : Array Value} (I : Inv X pins σ H s) (he : s.heap.get? a = some oe) (hd : oe.data = .fields vs) (hφ : φ oe) (hn : H a = none) (x0 : X.s₀.heap.get? a = none) (xp : ∀ p ∈ X.pn ++ pins, p.1 ≠ a) : Inv X pins σ (upd H a (XG φ a oe)) s := by
  have na : ∀ {b u}, H b = some u → b ≠ a := fun {b u} e z => by rw [z, hn] at e; cases e
  have nL : X.env.locals ≠ a := fun z => by
    obtain ⟨m, ⟨o, es, ep, ho, hdd, _⟩, _⟩ := I.loc
    rw [z, he] at ho; cases ho; rw [hd] at hdd; cases hdd
  refine ⟨I.ok, I.os, I.bare, ⟨I.base.keep, I.base.slot, fun b o e n hx => ?_, I.base.there, fun b xs e => ?_, fun b o u e => ?_, fun b ps e => ?_⟩, I.loc, I.cell, ?_, fun y c e => ?_, fun p hp => ?_, fun b ob e => ?_, I.len⟩
  · rw [upd_ne (fun z => by rw [z, x0] at e; cases e)]; exact I.base.free b o e n hx
  · have e1 := I.base.tups b xs e
    rw [upd_ne (na e1)]; exact e1
  · have e1 := I.base.frzs b o u e
    rw [upd_ne (na e1)]; exact e1
  · obtain ⟨m, e1⟩ := I.base.tbls b ps e
    exact ⟨m, by rw [upd_ne (na e1)]; exact e1⟩
  · rw [upd_ne nL]; exact I.free
  · have nc : c ≠ a := fun z => by
      obtain ⟨v, o, ho, hdd⟩ := I.cell y c e
      rw [z, he] at ho; cases ho; rw [hd] at hdd; cases hdd
    rw [upd_ne nc]; exact I.freeC y c e
  · obtain ⟨e1, e2, e3⟩ := I.pin p hp
    exact ⟨e1, by rw [upd_ne (xp p hp)]; exact e2, e3⟩
  · by_cases hb : b = a
    · subst hb
      rw [upd_same] at e
      cases e
      exact ⟨⟨he, hφ⟩, ⟨_, he⟩, fun h1 h2 z k => ⟨k _ z.1, z.2⟩⟩
    · rw [upd_ne hb] at e
      refine (I.hok b ob e).stay (fun c u _ q => q) (fun c q => ?_) fun c xs q => ?_
      · rw [upd_ne (na q)]; exact q
      · rw [upd_ne (na q)]; exact q
theorem Inv.trackX {pins : List (Addr × Obj)} {σ : St} {H : Hp} {s : Shared} {a : Addr} {oe : Obj} {vs : Array Value} (I : Inv X pins σ H s) (he : s.heap.get? a = some oe) (hd : oe.data = .fields vs) (hx : vs[2]? = some .none) (hn : H a = none) (x0 : X.s₀.heap.get? a = none) (xp : ∀ p ∈ X.pn ++ pins, p.1 ≠ a) : Inv X pins σ (upd H a (XO a oe)) s := I.trackH he hd (φ := Ctx0) ⟨vs, hd, hx⟩ hn x0 xp
end
end L2
set_option Elab.async false
set_option linter.all false
set_option maxRecDepth 100000
/-! isinstance of an error -/
namespace L2
open PySem PySem.Spec PySem.W PyProof.Rows
structure XAttr (K : Frag) (C : Addr) : Prop where
  ga : findIn K (.ref C) "__getattribute__" = some (some (.builtin "BaseException.__getattribute__"))
  gn : findIn K (.ref C) "__getattr__" = some none
  fo : findObj K C none "__class__" = some (.bind (.builtin "getset_descriptor.__get__") (.builtin "object.__class__"))
  mo : mroIn K C (.type "object") = some true
  sb : subIn K (.ref C) (.type "BaseException") = some true
section
variable {prog : Program} {w : World} {A : Around} {E : Value → Shared → Prop} {s : Shared} {K : Frag} {a C : Addr} {oe : Obj}
end
end L2
namespace L2
open PySem PySem.Spec PyProof.Rows
end L2
set_option Elab.async false
set_option linter.all false
set_option maxRecDepth 100000
namespace L2
open PySem PySem.Spec PyProof.Rows
section
variable {X : Cx} {CX : CXT} {k : Nat} {f C : Addr} {fd : FuncData} {ps : List Str} {sp : Sp} {dvs : List V} {ds : List Value} {E : XK} {x m : Str} {p pos apos : Pos} {e o : Expr} {es : List Expr} {ta : TE} {t : TA}
end
section
variable {P : Program} {w : World} {K : PySem.W.Frag} {mg : Str → Option Value} {base : Heap}
end
section
variable {X : Cx} {k k' : Nat} {x : Str} {ps : List Str} {sp : Sp} {p pos : Pos} {e : Expr} {es : List Expr} {t : TA}
end
end L2
set_option Elab.async false
set_option linter.all false
set_option maxRecDepth 100000
/-! the own classes of errors that a text names -/
namespace L2
open PySem PySem.Spec PyProof.Rows
/-- where the class stands that a name of the module means -/
def cOf (mg : Str → Option Value) (x : Str) : Addr := match mg x with
  | some (.ref C) => C
  | _ => 0
theorem cOf_eq {mg : Str → Option Value} {x : Str} {C : Addr} (h : mg x = some (.ref C)) : cOf mg x = C := by unfold cOf; rw [h]
structure XC (K : PySem.W.Frag) (mg : Str → Option Value) (x : Str) : Prop where
  m : mg x = some (.ref (cOf mg x))
  ok : PySem.W.excIn K (cOf mg x) bmV "ValueError.__new__" = true
  at_ : XAttr K (cOf mg x)
  cl : (PySem.W.clsIn K (cOf mg x)).isSome = true
theorem XC.cls {K : PySem.W.Frag} {mg : Str → Option Value} {x : Str} (h : XC K mg x) : XCls K mg x (cOf mg x) := ⟨h.m, h.ok⟩
theorem xc_mk {K : PySem.W.Frag} {mg : Str → Option Value} {x : Str} {C : Addr} (m : mg x = some (.ref C)) (ok : PySem.W.excIn K C bmV "ValueError.__new__" = true)
    (ga : PySem.W.findIn K (.ref C) "__getattribute__" = some (some (.builtin "BaseException.__getattribute__"))) (gn : PySem.W.findIn K (.ref C) "__getattr__" = some none)
    (fo : PySem.W.findIn K (.ref C) "__class__" = some (some (.builtin "object.__class__"))) (sp : PySem.W.specialIn K (.builtin "object.__class__") "__get__" = some (some (.builtin "getset_descriptor.__get__"))) (tk : PySem.W.takesIn K (.builtin "object.__class__") = some true) (mo : PySem.W.mroIn K C (.type "object") = some true) (sb : PySem.W.subIn K (.ref C) (.type "BaseException") = some true) {cd : ClassData} (cl : PySem.W.clsIn K C = some cd) : XC K mg x := by
  refine ⟨?_, ?_, ?_, ?_⟩ <;> rw [cOf_eq m]
  · exact m
  · exact ok
  · refine ⟨ga, gn, ?_, mo, sb⟩
    unfold PySem.W.findObj
    rw [cl, Option.bind_some, fo, Option.bind_some]
    simp [sp, tk]
  · rw [cl]; rfl
end L2
set_option Elab.async false
set_option linter.all false
set_option maxRecDepth 100000
namespace Pr
open PySem L2
def top (i : Nat) : Stmt := PySem.Challenge.pw_peakroll_k64_locks_text.main.body.getD i (.Pass ⟨0, 0, 0, 0⟩)
abbrev s_is_whole : Stmt := top 11
abbrev s_is_whole_from : Stmt := top 12
abbrev s_is_wide : Stmt := top 13
abbrev s_is_list : Stmt := top 14
abbrev s_is_list_from : Stmt := top 15
abbrev s_need_roll : Stmt := top 16
abbrev s_need_number : Stmt := top 17
abbrev s_need_text : Stmt := top 18
abbrev s_whole_of : Stmt := top 21
abbrev s_read_locks : Stmt := top 24
abbrev s_shut_read : Stmt := top 25
abbrev s_is_part : Stmt := top 32
abbrev s_are_parts : Stmt := top 33
abbrev s_are_sizes : Stmt := top 34
abbrev s_is_row : Stmt := top 35
abbrev s_are_rows : Stmt := top 36
abbrev s_bar_lengths : Stmt := top 37
abbrev s_law_pot : Stmt := top 40
abbrev s_law_digit : Stmt := top 41
abbrev s_law_ladder : Stmt := top 42
abbrev s_law_bars : Stmt := top 43
abbrev s_law_text : Stmt := top 44
abbrev s_law_sign_spoilt : Stmt := top 45
abbrev s_law_spoilt : Stmt := top 46
abbrev s_law_number : Stmt := top 47
abbrev s_law_read : Stmt := top 48
abbrev s_law_told : Stmt := top 49
abbrev s_law_agrees : Stmt := top 50
abbrev s_law : Stmt := top 51
abbrev sm_init : Stmt := inClass (top 38) 0
abbrev sm_begin : Stmt := inClass (top 38) 1
abbrev sm_parts : Stmt := inClass (top 38) 2
abbrev sm_rows : Stmt := inClass (top 38) 3
abbrev sm_rolls : Stmt := inClass (top 38) 4
abbrev sm_Locks_init : Stmt := inClass (top 23) 0
abbrev sm_Locks_shut : Stmt := inClass (top 23) 1
abbrev sm_Locks_is_shut : Stmt := inClass (top 23) 3
abbrev sm_Locks_written : Stmt := inClass (top 23) 6
structure Txt (K : PySem.W.Frag) (mg : Str → Option Value) (C : Addr) : Prop where
  f_is_whole : ∃ f fd, Fn K mg "is_whole" s_is_whole ["value"] f fd
  f_is_whole_from : ∃ f fd, Fn K mg "is_whole_from" s_is_whole_from ["value", "least", "greatest"] f fd
  f_is_wide : ∃ f fd, Fn K mg "is_wide" s_is_wide ["value"] f fd
  f_is_list : ∃ f fd, Fn K mg "is_list" s_is_list ["value"] f fd
  f_is_list_from : ∃ f fd, Fn K mg "is_list_from" s_is_list_from ["value", "fewest", "most"] f fd
  f_need_roll : ∃ f fd, Fn K mg "need_roll" s_need_roll ["value", "least", "greatest"] f fd
  f_need_number : ∃ f fd, Fn K mg "need_number" s_need_number ["value"] f fd
  f_need_text : ∃ f fd, Fn K mg "need_text" s_need_text ["value"] f fd
  f_whole_of : ∃ f fd, Fn K mg "whole_of" s_whole_of ["word", "most"] f fd
  f_read_locks : ∃ f fd, Fn K mg "read_locks" s_read_locks ["ladder", "text"] f fd
  f_shut_read : ∃ f fd, Fn K mg "shut_read" s_shut_read ["locks", "word"] f fd
  f_is_part : ∃ f fd, Fn K mg "is_part" s_is_part ["value"] f fd
  f_are_parts : ∃ f fd, Fn K mg "are_parts" s_are_parts ["value"] f fd
  f_are_sizes : ∃ f fd, Fn K mg "are_sizes" s_are_sizes ["value"] f fd
  f_is_row : ∃ f fd, Fn K mg "is_row" s_is_row ["value"] f fd
  f_are_rows : ∃ f fd, Fn K mg "are_rows" s_are_rows ["value"] f fd
  f_bar_lengths : ∃ f fd, Fn K mg "bar_lengths" s_bar_lengths ["parts"] f fd
  f_law_pot : ∃ f fd, Fn K mg "_law_pot" s_law_pot ["_law_script", "_law_k"] f fd
  f_law_digit : ∃ f fd, Fn K mg "_law_digit" s_law_digit ["_law_pot_here", "_law_many"] f fd
  f_law_ladder : ∃ f fd, Fn K mg "_law_ladder" s_law_ladder ["_law_pot_here"] f fd
  f_law_bars : ∃ f fd, Fn K mg "_law_bars" s_law_bars ["_law_pot_here", "_law_rolls"] f fd
  f_law_text : ∃ f fd, Fn K mg "_law_text" s_law_text ["_law_bars_here"] f fd
  f_law_sign_spoilt : ∃ f fd, Fn K mg "_law_sign_spoilt" s_law_sign_spoilt ["_law_pot_here", "_law_text_here"] f fd
  f_law_spoilt : ∃ f fd, Fn K mg "_law_spoilt" s_law_spoilt ["_law_pot_here", "_law_text_here", "_law_rolls"] f fd
  f_law_number : ∃ f fd, Fn K mg "_law_number" s_law_number ["_law_word"] f fd
  f_law_read : ∃ f fd, Fn K mg "_law_read" s_law_read ["_law_text_here", "_law_rolls"] f fd
  f_law_told : ∃ f fd, Fn K mg "_law_told" s_law_told ["_law_ladder_here", "_law_text_here"] f fd
  f_law_agrees : ∃ f fd, Fn K mg "_law_agrees" s_law_agrees ["_law_ladder_here", "_law_text_here"] f fd
  f_law : ∃ f fd, Fn K mg "law" s_law ["_law_script"] f fd
  c_WIDE_END : ∃ t, mg "WIDE_END" = some (.int 1000000000000000000000000000000 t)
  c_NUMBER_END : ∃ t, mg "NUMBER_END" = some (.int 10000000000000000000000000000000000000000 t)
  c_NUMBER_FIGURES : ∃ t, mg "NUMBER_FIGURES" = some (.int 40 t)
  c_MOST_PARTS : ∃ t, mg "MOST_PARTS" = some (.int 12 t)
  c_MOST_LENGTH : ∃ t, mg "MOST_LENGTH" = some (.int 1000000000 t)
  c_MOST_ROWS : ∃ t, mg "MOST_ROWS" = some (.int 4 t)
  c_MOST_SIZES : ∃ t, mg "MOST_SIZES" = some (.int 12 t)
  c_MOST_SIZE : ∃ t, mg "MOST_SIZE" = some (.int 1000 t)
  b_ValueError : mg "ValueError" = none
  b_abs : mg "abs" = none
  b_all : mg "all" = none
  b_bool : mg "bool" = none
  b_int : mg "int" = none
  b_isinstance : mg "isinstance" = none
  b_len : mg "len" = none
  b_list : mg "list" = none
  b_max : mg "max" = none
  b_min : mg "min" = none
  b_range : mg "range" = none
  b_reversed : mg "reversed" = none
  b_sorted : mg "sorted" = none
  b_str : mg "str" = none
  b_tuple : mg "tuple" = none
  b_zip : mg "zip" = none
  cl : Cls K C
  mgC : mg "Ladder" = some (.ref C)
  n_open_lengths : NoAttr K C "open_lengths"
  n_part_lengths : NoAttr K C "part_lengths"
  n_steps : NoAttr K C "steps"
  m_init : ∃ f fd, Fun K "__init__" "Ladder.__init__" sm_init f fd ∧ Mk K C f ∧ Binds K fd ["self", "begin", "parts", "rows"] []
  m_begin : ∃ f fd, Fm K C "begin" "Ladder.begin" sm_begin ["self"] f fd
  m_parts : ∃ f fd, Fm K C "parts" "Ladder.parts" sm_parts ["self"] f fd
  m_rows : ∃ f fd, Fm K C "rows" "Ladder.rows" sm_rows ["self"] f fd
  m_rolls : ∃ f fd, Fm K C "rolls" "Ladder.rolls" sm_rolls ["self"] f fd
  cl_Locks : Cls K (cOf mg "Locks")
  mg_Locks : mg "Locks" = some (.ref (cOf mg "Locks"))
  n_Locks_ladder : NoAttr K (cOf mg "Locks") "ladder"
  n_Locks_shut_pairs : NoAttr K (cOf mg "Locks") "shut_pairs"
  m_Locks_init : ∃ f fd, Fun K "__init__" "Locks.__init__" sm_Locks_init f fd ∧ Mk K (cOf mg "Locks") f ∧ Binds K fd ["self", "ladder"] []
  m_Locks_shut : ∃ f fd, Fm K (cOf mg "Locks") "shut" "Locks.shut" sm_Locks_shut ["self", "roll", "number"] f fd
  m_Locks_is_shut : ∃ f fd, Fm K (cOf mg "Locks") "is_shut" "Locks.is_shut" sm_Locks_is_shut ["self", "roll", "number"] f fd
  m_Locks_written : ∃ f fd, Fm K (cOf mg "Locks") "written" "Locks.written" sm_Locks_written ["self"] f fd
  x_NoRoll : XC K mg "NoRoll"
  x_NoNumber : XC K mg "NoNumber"
  x_NoText : XC K mg "NoText"
  x_NoLock : XC K mg "NoLock"
  e_NoLock_NoRoll : PySem.W.exmOne K (.ref (cOf mg "NoLock")) (.ref (cOf mg "NoRoll")) = some false
  e_NoLock_NoNumber : PySem.W.exmOne K (.ref (cOf mg "NoLock")) (.ref (cOf mg "NoNumber")) = some false
  e_NoLock_NoLock : PySem.W.exmOne K (.ref (cOf mg "NoLock")) (.ref (cOf mg "NoLock")) = some true
  e_NoNumber_NoRoll : PySem.W.exmOne K (.ref (cOf mg "NoNumber")) (.ref (cOf mg "NoRoll")) = some false
  e_NoNumber_NoNumber : PySem.W.exmOne K (.ref (cOf mg "NoNumber")) (.ref (cOf mg "NoNumber")) = some true
  e_NoNumber_NoLock : PySem.W.exmOne K (.ref (cOf mg "NoNumber")) (.ref (cOf mg "NoLock")) = some false
  e_NoRoll_NoRoll : PySem.W.exmOne K (.ref (cOf mg "NoRoll")) (.ref (cOf mg "NoRoll")) = some true
  e_NoRoll_NoNumber : PySem.W.exmOne K (.ref (cOf mg "NoRoll")) (.ref (cOf mg "NoNumber")) = some false
  e_NoRoll_NoLock : PySem.W.exmOne K (.ref (cOf mg "NoRoll")) (.ref (cOf mg "NoLock")) = some false
  e_NoText_NoText : PySem.W.exmOne K (.ref (cOf mg "NoText")) (.ref (cOf mg "NoText")) = some true
end Pr
set_option linter.all false
/-! The mathematics of ladders, over plain lists. -/
namespace Lad

/-! ### sizes one behind another -/


/-! ### steps, one above another -/
abbrev Step := Int × List Int

/-! ### parts -/
def PartsOk (ps : List Int) : Prop := (∀ p ∈ ps, p ≠ 0) ∧ ∃ p r, ps = p :: r ∧ 0 < p
def barsFrom (cur : Int) : List Int → List Int
  | [] => [cur]
  | p :: r => if 0 < p then cur :: barsFrom p r else barsFrom (cur - p) r
def bars : List Int → List Int
  | [] => []
  | p :: r => barsFrom p r
def opens (ps : List Int) : List Int := ps.filter fun p => decide (0 < p)
/-- bar_lengths' turn -/
def addPart (acc : List Int) (p : Int) : List Int := if 0 < p then acc ++ [p] else acc.dropLast ++ [acc.getLastD 0 - p]

theorem addPart_from : ∀ (r : List Int) (acc : List Int) (cur : Int), r.foldl addPart (acc ++ [cur]) = acc ++ barsFrom cur r
  | [], acc, cur => rfl
  | p :: r, acc, cur => by
    rw [List.foldl_cons]
    unfold addPart barsFrom
    by_cases h : 0 < p
    · rw [if_pos h, if_pos h]
      have := addPart_from r (acc ++ [cur]) p
      unfold addPart at this
      rw [this, List.append_assoc]
      rfl
    · rw [if_neg h, if_neg h]
      have e : (acc ++ [cur]).dropLast ++ [(acc ++ [cur]).getLastD 0 - p] = acc ++ [cur - p] := by simp
      rw [e]
      have := addPart_from r acc (cur - p)
      unfold addPart at this
      exact this
theorem foldl_bars {ps : List Int} (h : PartsOk ps) : ps.foldl addPart [] = bars ps := by
  obtain ⟨_, p, r, rfl, hp⟩ := h
  rw [List.foldl_cons]
  have e : addPart [] p = [] ++ [p] := by unfold addPart; rw [if_pos hp]
  rw [e, addPart_from]
  rfl
end Lad
set_option Elab.async false
set_option linter.all false
namespace Lad
end Lad
set_option Elab.async false
set_option linter.all false
set_option maxRecDepth 100000
namespace L2
open PySem PySem.Spec PyProof.Rows
section
variable {X : Cx} {st : Stmt} {rest : List Stmt} {t u : TS} {e : Expr} {te : TE}
def tCut (t u : TS) : TS := fun D σ H => ∃ M : St → Hp → Prop, t { D with nx := M } σ H ∧ ∀ σ' H', M σ' H' → u D σ' H'
theorem pss_cut (h1 : PS X st t) (h2 : PSs X rest u) : PSs X (st :: rest) (tCut t u) := by
  refine ⟨?_⟩
  intro pins s σ H D I h
  obtain ⟨M, a, b⟩ := h
  refine wpAny_execs_cons (thn (h1 pins s σ H { D with nx := M } I a) fun f s1 q => ?_)
  cases f with
  | next =>
    obtain ⟨σ', H', I', q⟩ := q
    exact h2 pins s1 σ' H' D I' (b _ _ q)
  | ret v => exact q
  | brk => exact q
  | cont => exact q
end
end L2
set_option Elab.async false
set_option linter.all false
set_option maxRecDepth 100000
namespace L2
open PySem PySem.Spec PyProof.Rows
/-! ### the forms of a comprehension that one uses -/
/-- an element has come: y goes onto the list at D -/
def LcNx (n i : Nat) (D : Addr) (ys : List V) (Pv : Nat → List V → Hp → Prop) (y : V) (H3 : Hp) : Prop :=
  H3 D = some (.lst ys) ∧ ys.length < sizeLine ∧ ∃ m', m' < n - i ∧ (m' = n - (i + 1) ∧ i + 1 ≤ n ∧ Pv (i + 1) (ys ++ [y]) (upd H3 D (.lst (ys ++ [y]))))
/-- none has come -/
def LcNo (n i : Nat) (ys : List V) (Pv : Nat → List V → Hp → Prop) (H3 : Hp) : Prop := ∃ m', m' < n - i ∧ (m' = n - (i + 1) ∧ i + 1 ≤ n ∧ Pv (i + 1) ys H3)
theorem LcNx.mk {n i : Nat} {D : Addr} {ys : List V} {Pv : Nat → List V → Hp → Prop} {y : V} {H3 : Hp} (hi : i < n) (hn : n ≤ 1000) (hl : ys.length ≤ i) (h : H3 D = some (.lst ys)) (p : Pv (i + 1) (ys ++ [y]) (upd H3 D (.lst (ys ++ [y])))) : LcNx n i D ys Pv y H3 :=
  ⟨h, small1000 (by omega), n - (i + 1), by omega, rfl, hi, p⟩
theorem LcNo.mk {n i : Nat} {ys : List V} {Pv : Nat → List V → Hp → Prop} {H3 : Hp} (hi : i < n) (p : Pv (i + 1) ys H3) : LcNo n i ys Pv H3 := ⟨n - (i + 1), by omega, rfl, hi, p⟩
theorem lc_go {tc : TT} {te : TE} {σ : St} {J : It} {D : Addr} {Fin : Hp → Prop} {H : Hp} {n : Nat} (Pv : Nat → List V → Hp → Prop) (h0 : Pv 0 [] (upd H D (.lst [])))
    (hD : ∀ i ys H, Pv i ys H → H D = some (.lst ys)) (hend : ∀ ys H, Pv n ys H → J.stop n H ∧ Fin H)
    (hgo : ∀ i ys H, i < n → Pv i ys H → J.go i H ∧ ∀ x H', J.yld i H x H' → tc (some x :: σ) H' fun b H2 => if b = true then te (some x :: σ) H2 (LcNx n i D ys Pv) else LcNo n i ys Pv H2) : lcGo tc te σ J D Fin H := by
  refine ⟨fun i m ys H => m = n - i ∧ i ≤ n ∧ Pv i ys H, ⟨n, rfl, Nat.zero_le _, h0⟩, ?_⟩
  rintro i m ys H ⟨rfl, hi, p⟩
  refine ⟨hD i ys H p, ?_⟩
  by_cases hlt : i < n
  · exact .inr (hgo i ys H hlt p)
  · have e : i = n := by omega
    subst e
    exact .inl (hend ys H p)
theorem lc_list {K : PySem.W.Frag} {a : Addr} {xs : List V} {tc : TT} {te : TE} {σ : St} {D : Addr} {Fin : Hp → Prop} {H : Hp} (Pv : Nat → List V → Hp → Prop) (h0 : Pv 0 [] (upd H D (.lst [])))
    (hD : ∀ i ys H, Pv i ys H → H D = some (.lst ys) ∧ SqL K H a xs) (hend : ∀ ys H, Pv xs.length ys H → Fin H)
    (hgo : ∀ i x ys H, i < xs.length → xs[i]? = some x → Pv i ys H → tc (some x :: σ) H fun b H2 => if b = true then te (some x :: σ) H2 (LcNx xs.length i D ys Pv) else LcNo xs.length i ys Pv H2) : lcGo tc te σ (Itl K a) D Fin H := by
  refine lc_go Pv h0 (fun i ys H p => (hD i ys H p).1) (fun ys H p => ⟨⟨xs, (hD _ _ _ p).2, Nat.le_refl _⟩, hend ys H p⟩) fun i ys H hi p => ?_
  refine ⟨⟨xs, xs[i], (hD _ _ _ p).2, List.getElem?_eq_getElem hi⟩, fun x H' y => ?_⟩
  obtain ⟨e, y⟩ := y
  subst e
  exact hgo i x ys _ hi (y xs (hD _ _ _ p).2) p
theorem lc_range {lo : Int} {n : Nat} {tc : TT} {te : TE} {σ : St} {D : Addr} {Fin : Hp → Prop} {H : Hp} (Pv : Nat → List V → Hp → Prop) (h0 : Pv 0 [] (upd H D (.lst [])))
    (hD : ∀ i ys H, Pv i ys H → H D = some (.lst ys)) (hend : ∀ ys H, Pv n ys H → Fin H)
    (hgo : ∀ i ys H, i < n → Pv i ys H → tc (some (.int (lo + i)) :: σ) H fun b H2 => if b = true then te (some (.int (lo + i)) :: σ) H2 (LcNx n i D ys Pv) else LcNo n i ys Pv H2) : lcGo tc te σ (Itr lo n) D Fin H := by
  refine lc_go Pv h0 hD (fun ys H p => ⟨Nat.le_refl _, hend ys H p⟩) fun i ys H hi p => ?_
  refine ⟨hi, fun x H' y => ?_⟩
  obtain ⟨e, y⟩ := y
  subst e y
  exact hgo i ys _ hi p
/-! within a comprehension's block the readings must not name the block's context -/
section
variable {X : Cx}
theorem ix_listK (K : PySem.W.Frag) (e : X.K = K := by rfl) : IxR X (rIxL K) := by rw [← e]; exact ix_list
end
theorem yesI {σ : St} {H : Hp} {A B : Hp → Prop} (h : A H) : tYes σ H (fun b H2 => if b = true then A H2 else B H2) := by
  show if true = true then A H else B H
  rw [if_pos rfl]
  exact h
theorem lcS {X : Cx} {x : Str} {sc scp : Scope} {N ps : List Str} (S : FnScope N ps scp) (hN : X.N = N := by rfl) (hs : X.env.scope = scp := by rfl) (h1 : sc.kind = .function := by rfl) (h2 : ∀ p ∈ sc.names, p.2 ≠ .cell := by decide +kernel) (h3 : sc.names.lookup x = some .local := by rfl)
    (h4 : ∀ p ∈ sc.names, p.2 = .local → sc.names.lookup p.1 = some .local := by decide +kernel) (h5 : ∀ y ∈ N, sc.names.lookup y ≠ some .local := by decide +kernel)
    (h7 : ∀ p ∈ sc.names, p.2 = .free → scp.names.lookup p.1 = some .cell ∨ scp.names.lookup p.1 = some .free := by decide +kernel) : LcScope X x sc :=
  ⟨h1, h2, h3, h4, by rw [hN]; exact h5, by rw [hN]; exact S.nd, fun p hp e => by
    show X.env.scope.names.lookup p.1 = _ ∨ X.env.scope.names.lookup p.1 = _
    rw [hs]
    exact h7 p hp e⟩
theorem Paired.get {α β : Type} {F : α → β → Prop} : ∀ {xs : List α} {ys : List β} {i : Nat} {x : α}, Paired F xs ys → xs[i]? = some x → ∃ y, ys[i]? = some y ∧ F x y
  | _, _, _, _, .nil, e => by simp at e
  | _, _, 0, _, .cons r _, e => by simp at e; subst e; exact ⟨_, rfl, r⟩
  | _, _, i + 1, x, .cons _ t, e => by
    obtain ⟨u, h1, h2⟩ := Paired.get (i := i) (x := x) t (by simpa using e)
    exact ⟨u, by simpa using h1, h2⟩
end L2
set_option Elab.async false
set_option linter.all false
set_option maxRecDepth 100000
/-! WHAT A SORT OF FEWER THAN 64 THINGS COMES TO, over the library's tree of asks: a permutation, in order, those alike as they stood. -/
namespace Srt
open PySem PySem.W PyProof.Rows
def Good (n : Nat) (lt : Nat → Nat → Bool) {α : Type} : KasT α → (α → Prop) → Prop
  | .ret a, Q => Q a
  | .ask i j k, Q => i < n ∧ j < n ∧ Good n lt (k (lt i j)) Q
section
variable {n : Nat} {lt : Nat → Nat → Bool} {α β : Type}
theorem good_mono {Q Q' : α → Prop} (h : ∀ a, Q a → Q' a) : ∀ t : KasT α, Good n lt t Q → Good n lt t Q'
  | .ret a, q => h a q
  | .ask i j k, q => ⟨q.1, q.2.1, good_mono h (k (lt i j)) q.2.2⟩
theorem good_bind {f : α → KasT β} {Q : β → Prop} : ∀ t : KasT α, Good n lt t (fun a => Good n lt (f a) Q) → Good n lt (t.bind f) Q
  | .ret a, q => q
  | .ask i j k, q => ⟨q.1, q.2.1, good_bind (k (lt i j)) q.2.2⟩
theorem good_wp {cmp : Nat → Nat → (Bool → Shared → Prop) → Shared → Prop} {s : Shared} {Q : α → Shared → Prop} (hc : ∀ i j (C : Bool → Shared → Prop), i < n → j < n → C (lt i j) s → cmp i j C s) : ∀ t : KasT α, Good n lt t (fun a => Q a s) → t.kasWp cmp Q s
  | .ret a, q => q
  | .ask i j k, q => hc i j _ q.1 q.2.1 (good_wp hc (k (lt i j)) q.2.2)
end
structure Ord (lt : Nat → Nat → Bool) : Prop where
  asym : ∀ {a b}, lt a b = true → lt b a = false
  tr : ∀ {a b c}, lt b a = false → lt c b = false → lt c a = false
section
variable {lt : Nat → Nat → Bool} {N : Nat}
theorem Ord.ltle (O : Ord lt) {a b c : Nat} (h : lt a b = true) (h' : lt c b = false) : lt a c = true := by
  cases e : lt a c with
  | true => rfl
  | false => rw [O.tr h' e] at h; cases h
theorem Ord.lelt (O : Ord lt) {a b c : Nat} (h : lt b a = false) (h' : lt b c = true) : lt a c = true := by
  cases e : lt a c with
  | true => rfl
  | false => rw [O.tr e h] at h'; cases h'
def R (lt : Nat → Nat → Bool) (a b : Nat) : Prop := lt a b = true ∨ (lt b a = false ∧ a < b)
theorem R.le (O : Ord lt) {a b : Nat} (h : R lt a b) : lt b a = false := h.elim O.asym (·.1)
abbrev g (p : Array Nat) (i : Nat) : Nat := p.getD i 0
theorem g_eq {p : Array Nat} {i : Nat} : g p i = (p[i]?).getD 0 := by simp [g]
theorem g_rev {p : Array Nat} {i j : Nat} (hj : j ≤ p.size) (k : Nat) : g (kas_rev p i j) k = if i ≤ k ∧ k < j then g p (i + j - 1 - k) else g p k := by
  unfold kas_rev
  rw [g_eq, getElem?_mirror_all hj, g_eq, g_eq]
  split <;> rfl
theorem g_bub {p : Array Nat} {k d : Nat} (hs : k < p.size) (hd : d ≤ k) (i : Nat) : g (bubble p k d) i = if i = k - d then g p k else if k - d < i ∧ i ≤ k then g p (i - 1) else g p i := by
  rw [g_eq, getElem?_bubble hs d hd, g_eq, g_eq, g_eq]
  split
  · rfl
  · split <;> rfl
structure Pm (N : Nat) (p : Array Nat) (n : Nat) : Prop where
  sz : p.size = N
  pm : p.Perm (List.toArray (List.range N))
  lo : ∀ i, i < n → g p i < n
  hi : ∀ i, n ≤ i → i < N → g p i = i
theorem Pm.rev {p : Array Nat} {n i j : Nat} (h : Pm N p n) (hj : j ≤ n) (hn : n ≤ N) : Pm N (kas_rev p i j) n where
  sz := by rw [kas_rev_size]; exact h.sz
  pm := (mirror_perm _ _ _ _).trans h.pm
  lo := fun k hk => by
    rw [g_rev (by rw [h.sz]; omega)]
    split
    · exact h.lo _ (by omega)
    · exact h.lo _ hk
  hi := fun k hk hk2 => by
    rw [g_rev (by rw [h.sz]; omega), if_neg (by omega)]
    exact h.hi k hk hk2
theorem Pm.succ {p : Array Nat} {n : Nat} (h : Pm N p n) (hn : n < N) : Pm N p (n + 1) where
  sz := h.sz
  pm := h.pm
  lo := fun i hi => by
    rcases Nat.lt_or_ge i n with h1 | h1
    · exact Nat.lt_succ_of_lt (h.lo i h1)
    · rw [h.hi i h1 (by omega)]; exact hi
  hi := fun i h1 h2 => h.hi i (by omega) h2
def Asc (lt : Nat → Nat → Bool) (p : Array Nat) (n : Nat) : Prop := ∀ i j, i < j → j < n → R lt (g p i) (g p j)
theorem asc_ok (O : Ord lt) (p : Array Nat) : ∀ (f n : Nat), 1 ≤ n → n + f = N → Pm N p n → Asc lt p n →
    Good N lt (kas_asc p f n) (fun m => n ≤ m ∧ m ≤ N ∧ Pm N p m ∧ Asc lt p m ∧ (m < N → lt (g p m) (g p (m - 1)) = true))
  | 0, n, h1, hn, hp, ha => ⟨Nat.le_refl _, by omega, hp, ha, fun h => by omega⟩
  | f + 1, n, h1, hn, hp, ha => by
    have hnN : n < N := by omega
    have en := hp.hi n (Nat.le_refl _) hnN
    have e1 := hp.lo (n - 1) (by omega)
    show Good N lt (.ask (g p n) (g p (n - 1)) fun c => if c = true then .ret n else kas_asc p f (n + 1)) _
    refine ⟨by omega, by omega, ?_⟩
    cases hc : lt (g p n) (g p (n - 1)) with
    | true =>
      try dsimp only
      rw [if_pos rfl]
      exact ⟨Nat.le_refl _, by omega, hp, ha, fun _ => hc⟩
    | false =>
      try dsimp only
      rw [if_neg (by simp)]
      refine good_mono (fun m h => ⟨by omega, h.2⟩) _ (asc_ok O p f (n + 1) (by omega) (by omega) (hp.succ hnN) fun i j hij hj => ?_)
      rcases Nat.lt_or_ge j n with h2 | h2
      · exact ha i j hij h2
      · obtain rfl : j = n := by omega
        have hlo := hp.lo i hij
        refine .inr ⟨?_, by omega⟩
        rcases Nat.lt_or_ge i (j - 1) with h3 | h3
        · exact O.tr ((ha i (j - 1) h3 (by omega)).le O) hc
        · obtain rfl : i = j - 1 := by omega
          exact hc
structure Dsc (lt : Nat → Nat → Bool) (p : Array Nat) (n q : Nat) : Prop where
  a : ∀ i j, i < j → j < n - (q + 1) → R lt (g p j) (g p i)
  b : ∀ i j, i < n - (q + 1) → n - (q + 1) ≤ j → j < n → lt (g p j) (g p i) = true
  c : ∀ i j, n - (q + 1) ≤ i → i < j → j < n → lt (g p i) (g p j) = false ∧ lt (g p j) (g p i) = false ∧ g p i < g p j
def Rv (lt : Nat → Nat → Bool) (p : Array Nat) (n : Nat) : Prop := ∀ i j, i < j → j < n → R lt (g p j) (g p i)
theorem Dsc.rv0 {p : Array Nat} {n : Nat} (h : Dsc lt p n 0) (h1 : 1 ≤ n) : Rv lt p n := fun i j hij hj => by
  rcases Nat.lt_or_ge j (n - 1) with h2 | h2
  · exact h.a i j hij h2
  · exact .inl (h.b i j (by omega) h2 hj)
theorem Dsc.rv {p : Array Nat} {n q : Nat} (h : Dsc lt p n q) (hq : q + 1 ≤ n) (hn : n ≤ p.size) : Rv lt (kas_rev p (n - (q + 1)) n) n := fun i j hij hj => by
  rw [g_rev hn, g_rev hn]
  by_cases hi : n - (q + 1) ≤ i
  · rw [if_pos ⟨by omega, hj⟩, if_pos ⟨hi, by omega⟩]
    obtain ⟨c1, c2, c3⟩ := h.c (n - (q + 1) + n - 1 - j) (n - (q + 1) + n - 1 - i) (by omega) (by omega) (by omega)
    exact .inr ⟨c2, c3⟩
  · rw [if_neg (show ¬ (n - (q + 1) ≤ i ∧ i < n) by omega)]
    by_cases hj2 : n - (q + 1) ≤ j
    · rw [if_pos ⟨hj2, hj⟩]
      exact .inl (h.b i _ (by omega) (by omega) (by omega))
    · rw [if_neg (by omega)]
      exact h.a i j hij (by omega)
theorem desc_ok (O : Ord lt) : ∀ (f : Nat) (p : Array Nat) (n q : Nat), q + 1 ≤ n → n + f = N → Pm N p n → Dsc lt p n q →
    Good N lt (kas_desc f p n q) (fun r => r.2.2 + 1 ≤ r.2.1 ∧ r.2.1 ≤ N ∧ Pm N r.1 r.2.1 ∧ Dsc lt r.1 r.2.1 r.2.2)
  | 0, p, n, q, hq, hn, hp, hd => ⟨hq, by show n ≤ N; omega, hp, hd⟩
  | f + 1, p, n, q, hq, hn, hp, hd => by
    have hnN : n < N := by omega
    have en := hp.hi n (Nat.le_refl _) hnN
    have e1 := hp.lo (n - 1) (by omega)
    have hsz := hp.sz
    refine ⟨by show g p n < N; omega, by show g p (n - 1) < N; omega, ?_⟩
    cases hc : lt (p.getD n 0) (p.getD (n - 1) 0) with
    | true =>
      try dsimp only
      rw [if_pos rfl]
      have hx : ∀ i, i < n → lt (g p n) (g p i) = true := fun i hi => by
        rcases Nat.lt_or_ge i (n - (q + 1)) with h2 | h2
        · have := hd.b i (n - 1) h2 (by omega) (by omega)
          exact O.ltle hc (O.asym this)
        · rcases Nat.lt_or_ge i (n - 1) with h3 | h3
          · exact O.ltle hc (hd.c i (n - 1) h2 h3 (by omega)).1
          · obtain rfl : i = n - 1 := by omega
            exact hc
      have go : ∀ p' : Array Nat, Pm N p' n → Rv lt p' n → (∀ i, i < n → ∃ i', i' < n ∧ g p' i = g p i') → g p' n = g p n →
          Good N lt (kas_desc f p' (n + 1) 0) (fun r => r.2.2 + 1 ≤ r.2.1 ∧ r.2.1 ≤ N ∧ Pm N r.1 r.2.1 ∧ Dsc lt r.1 r.2.1 r.2.2) := fun p' hp' hv hs he => by
        refine desc_ok O f p' (n + 1) 0 (by omega) (by omega) (hp'.succ hnN) ⟨fun i j hij hj => hv i j hij (by omega), fun i j hi hj hj2 => ?_, fun i j hi hij hj => by omega⟩
        obtain rfl : j = n := by omega
        obtain ⟨i', hi', e⟩ := hs i (by omega)
        rw [he, e]
        exact hx i' hi'
      by_cases hq0 : q > 0
      · rw [if_pos hq0]
        refine go _ (hp.rev (Nat.le_refl _) (by omega)) (hd.rv hq (by omega)) (fun i hi => ?_) ?_
        · rw [g_rev (by omega)]
          split
          · exact ⟨_, by omega, rfl⟩
          · exact ⟨i, hi, rfl⟩
        · rw [g_rev (by omega), if_neg (by omega)]
      · rw [if_neg hq0]
        obtain rfl : q = 0 := by omega
        exact go p hp (hd.rv0 hq) (fun i hi => ⟨i, hi, rfl⟩) rfl
    | false =>
      try dsimp only
      rw [if_neg (by simp)]
      refine ⟨by show g p (n - 1) < N; omega, by show g p n < N; omega, ?_⟩
      cases hdd : lt (p.getD (n - 1) 0) (p.getD n 0) with
      | true =>
        try dsimp only
        rw [if_pos rfl]
        exact ⟨hq, by show n ≤ N; omega, hp, hd⟩
      | false =>
        try dsimp only
        rw [if_neg (by simp)]
        have eb : n + 1 - (q + 1 + 1) = n - (q + 1) := by omega
        refine desc_ok O f p (n + 1) (q + 1) (by omega) (by omega) (hp.succ hnN) ⟨fun i j hij hj => hd.a i j hij (by omega), fun i j hi hj hj2 => ?_, fun i j hi hij hj => ?_⟩
        · rw [eb] at hi hj
          rcases Nat.lt_or_ge j n with h2 | h2
          · exact hd.b i j hi hj h2
          · obtain rfl : j = n := by omega
            exact O.lelt (c := g p i) hdd (hd.b i (j - 1) hi (by omega) (by omega))
        · rw [eb] at hi
          rcases Nat.lt_or_ge j n with h2 | h2
          · exact hd.c i j hi hij h2
          · obtain rfl : j = n := by omega
            have hlo := hp.lo i hij
            rcases Nat.lt_or_ge i (j - 1) with h3 | h3
            · obtain ⟨c1, c2, c3⟩ := hd.c i (j - 1) hi h3 (by omega)
              exact ⟨O.tr hdd c1, O.tr c2 hc, by omega⟩
            · obtain rfl : i = j - 1 := by omega
              exact ⟨hdd, hc, by omega⟩
abbrev Cnt (N : Nat) (lt : Nat → Nat → Bool) (r : Nat × Array Nat) : Prop := 1 ≤ r.1 ∧ r.1 ≤ N ∧ Pm N r.2 r.1 ∧ Asc lt r.2 r.1
theorem tail3_ok (O : Ord lt) {p : Array Nat} {n : Nat} (h1 : 1 ≤ n) (hn : n ≤ N) (hp : Pm N p n) (hv : Rv lt p n) : Good N lt (kas_tail3 n N p) (Cnt N lt) := by
  have hsz := hp.sz
  refine good_bind _ (good_mono (fun m h => ?_) _ (asc_ok O (kas_rev p 0 n) (N - n) n h1 (by omega) (hp.rev (Nat.le_refl _) hn) fun i j hij hj => ?_))
  · exact ⟨by show 1 ≤ m; omega, h.2.1, h.2.2.1, h.2.2.2.1⟩
  · rw [g_rev (by omega), g_rev (by omega), if_pos (by omega), if_pos (by omega)]
    exact hv _ _ (by omega) (by omega)
theorem descPart_ok (O : Ord lt) {p : Array Nat} {n : Nat} (hn : n < N) (hp : Pm N p n) (hv : Rv lt p n) (hx : ∀ i, i < n → lt (g p n) (g p i) = true) : Good N lt (kas_descPart n N p) (Cnt N lt) := by
  refine good_bind _ (good_mono (fun r h => ?_) _ (desc_ok O (N - (n + 1)) p (n + 1) 0 (by omega) (by omega) (hp.succ hn) ⟨fun i j hij hj => hv i j hij (by omega), fun i j hi hj hj2 => ?_, fun i j hi hij hj => by omega⟩))
  · obtain ⟨q1, q2, q3, q4⟩ := h
    have hsz := q3.sz
    by_cases hq : r.2.2 > 0
    · rw [if_pos hq]
      exact tail3_ok O (by omega) q2 (q3.rev (Nat.le_refl _) q2) (q4.rv q1 (by omega))
    · rw [if_neg hq]
      have e0 : r.2.2 = 0 := by omega
      rw [e0] at q4
      exact tail3_ok O (by omega) q2 q3 (q4.rv0 (by omega))
  · obtain rfl : j = n := by omega
    exact hx i (by omega)
theorem count_ok (O : Ord lt) {p : Array Nat} (h1 : 1 ≤ N) (hp : Pm N p 1) : Good N lt (kas_count N p) (Cnt N lt) := by
  have hsz := hp.sz
  refine good_bind _ (good_mono (fun m h => ?_) _ (asc_ok O p (N - 1) 1 (Nat.le_refl _) (by omega) hp fun i j hij hj => by omega))
  obtain ⟨m1, m2, m3, m4, m5⟩ := h
  by_cases hm : m = N
  · rw [if_pos (by rw [hm]; exact beq_self_eq_true _)]
    exact ⟨m1, m2, m3, m4⟩
  · rw [if_neg (by intro e; exact hm (by simpa using e))]
    have hlt := m5 (by omega)
    by_cases hm1 : m > 1
    · rw [if_pos hm1]
      have l0 := m3.lo 0 (by omega)
      have l1 := m3.lo (m - 1) (by omega)
      refine ⟨by show g p 0 < N; omega, by show g p (m - 1) < N; omega, ?_⟩
      cases hc : lt (p.getD 0 0) (p.getD (m - 1) 0) with
      | true =>
        try dsimp only
        rw [if_pos rfl]
        exact ⟨m1, m2, m3, m4⟩
      | false =>
        try dsimp only
        rw [if_neg (by simp)]
        have le1 : ∀ i, i < m → lt (g p i) (g p (m - 1)) = false := fun i hi => by
          rcases Nat.eq_zero_or_pos i with h0 | h0
          · subst h0; exact hc
          · exact O.tr hc ((m4 0 i h0 hi).le O)
        have le2 : ∀ i, i < m → lt (g p (m - 1)) (g p i) = false := fun i hi => by
          rcases Nat.lt_or_ge i (m - 1) with h0 | h0
          · exact (m4 i (m - 1) h0 (by omega)).le O
          · obtain rfl : i = m - 1 := by omega
            exact le1 _ hi
        have all : ∀ i j, i < m → j < m → lt (g p i) (g p j) = false := fun i j hi hj => O.tr (le2 j hj) (le1 i hi)
        have idx : ∀ i j, i < j → j < m → g p i < g p j := fun i j hij hj => by
          rcases m4 i j hij hj with h | h
          · rw [all i j (by omega) hj] at h; cases h
          · exact h.2
        refine descPart_ok O (by omega) (m3.rev (Nat.le_refl _) m2) (fun i j hij hj => ?_) fun i hi => ?_
        · rw [g_rev (by omega), g_rev (by omega), if_pos (by omega), if_pos (by omega)]
          exact .inr ⟨all _ _ (by omega) (by omega), idx _ _ (by omega) (by omega)⟩
        · rw [g_rev (by omega), g_rev (by omega), if_neg (by omega), if_pos (by omega)]
          exact O.ltle hlt (le1 _ (by omega))
    · rw [if_neg hm1]
      obtain rfl : m = 1 := by omega
      refine descPart_ok O (by omega) m3 (fun i j hij hj => by omega) fun i hi => ?_
      obtain rfl : i = 0 := by omega
      exact hlt
theorem place_ok (O : Ord lt) {p : Array Nat} {k : Nat} (hk : k < N) (hp : Pm N p k) (ha : Asc lt p k) : ∀ (f l r : Nat), l ≤ r → r ≤ k → r - l ≤ f → (∀ i, i < l → lt (g p k) (g p i) = false) → (∀ i, r ≤ i → i < k → lt (g p k) (g p i) = true) →
    Good N lt (kas_place p k f l r) (fun l' => l' ≤ k ∧ (∀ i, i < l' → lt (g p k) (g p i) = false) ∧ ∀ i, l' ≤ i → i < k → lt (g p k) (g p i) = true)
  | 0, l, r, h1, h2, h3, hl, hr => ⟨by omega, hl, fun i h4 h5 => hr i (by omega) h5⟩
  | f + 1, l, r, h1, h2, h3, hl, hr => by
    show Good N lt (if l ≥ r then .ret l else .ask (p.getD k 0) (p.getD ((l + r) / 2) 0) fun c => if c = true then kas_place p k f l ((l + r) / 2) else kas_place p k f ((l + r) / 2 + 1) r) _
    by_cases hlr : l ≥ r
    · rw [if_pos hlr]
      exact ⟨by omega, hl, fun i h4 h5 => hr i (by omega) h5⟩
    · rw [if_neg hlr]
      have ek := hp.hi k (Nat.le_refl _) hk
      have em := hp.lo ((l + r) / 2) (by omega)
      refine ⟨by show g p k < N; omega, by show g p _ < N; omega, ?_⟩
      cases hc : lt (p.getD k 0) (p.getD ((l + r) / 2) 0) with
      | true =>
        try dsimp only
        rw [if_pos rfl]
        refine place_ok O hk hp ha f l ((l + r) / 2) (by omega) (by omega) (by omega) hl fun i h4 h5 => ?_
        rcases Nat.lt_or_ge ((l + r) / 2) i with h6 | h6
        · exact O.ltle hc ((ha _ i h6 h5).le O)
        · obtain rfl : i = (l + r) / 2 := by omega
          exact hc
      | false =>
        try dsimp only
        rw [if_neg (by simp)]
        refine place_ok O hk hp ha f ((l + r) / 2 + 1) r (by omega) h2 (by omega) (fun i h4 => ?_) hr
        rcases Nat.lt_or_ge i ((l + r) / 2) with h6 | h6
        · exact O.tr ((ha i _ h6 (by omega)).le O) hc
        · obtain rfl : i = (l + r) / 2 := by omega
          exact hc
theorem bin_ok (O : Ord lt) : ∀ (f : Nat) (p : Array Nat) (k : Nat), k + f = N → Pm N p k → Asc lt p k → Good N lt (kas_bin f p k) (fun p' => Pm N p' N ∧ Asc lt p' N)
  | 0, p, k, hk, hp, ha => by
    obtain rfl : k = N := by omega
    exact ⟨hp, ha⟩
  | f + 1, p, k, hk, hp, ha => by
    refine good_bind _ (good_mono (fun l h => ?_) _ (place_ok O (by omega) hp ha k 0 k (Nat.zero_le _) (Nat.le_refl _) (by omega) (fun i h => by omega) fun i h1 h2 => by omega))
    obtain ⟨hl, h1, h2⟩ := h
    have hsz := hp.sz
    have ek := hp.hi k (Nat.le_refl _) (by omega)
    have gb := fun i => g_bub (p := p) (k := k) (d := k - l) (by omega) (by omega) i
    have el : k - (k - l) = l := by omega
    rw [el] at gb
    refine bin_ok O f _ (k + 1) (by omega) ⟨by rw [bubble_size]; exact hsz, (bubble_perm _ _ _).trans hp.pm, fun i hi => ?_, fun i hi hi2 => ?_⟩ fun i j hij hj => ?_
    · rw [gb]
      split
      · omega
      · split
        · have := hp.lo (i - 1) (by omega); omega
        · have := hp.lo i (by omega); omega
    · rw [gb, if_neg (by omega), if_neg (by omega)]
      exact hp.hi i (by omega) hi2
    · rw [gb, gb]
      by_cases j1 : j = l
      · rw [if_pos j1, if_neg (by omega), if_neg (by omega)]
        have := hp.lo i (by omega)
        exact .inr ⟨h1 i (by omega), by omega⟩
      · rw [if_neg j1]
        by_cases i1 : i = l
        · rw [if_pos i1, if_pos (by omega)]
          exact .inl (h2 (j - 1) (by omega) (by omega))
        · rw [if_neg i1]
          by_cases j2 : l < j ∧ j ≤ k
          · rw [if_pos j2]
            split
            · exact ha _ _ (by omega) (by omega)
            · exact ha _ _ (by omega) (by omega)
          · rw [if_neg j2, if_neg (by omega)]
            exact ha i j hij (by omega)
theorem start_pm (N : Nat) : Pm N (List.toArray (List.range N)) 1 where
  sz := by simp
  pm := Array.Perm.refl _
  lo := fun i hi => by
    obtain rfl : i = 0 := by omega
    rw [g_eq]
    cases N with
    | zero => simp
    | succ m => simp
  hi := fun i _ hi => by rw [g_eq]; simp [hi]
theorem sort_ok (O : Ord lt) (h1 : 1 ≤ N) : Good N lt (kas_sort N) (fun p => Pm N p N ∧ Asc lt p N) := by
  refine good_bind _ (good_mono (fun r h => ?_) _ (count_ok O h1 (start_pm N)))
  obtain ⟨r1, r2, r3, r4⟩ := h
  by_cases hr : r.1 < N
  · rw [if_pos hr]
    have em : max r.1 1 = r.1 := by omega
    rw [em]
    exact bin_ok O _ _ _ (by omega) r3 r4
  · rw [if_neg hr]
    have e : r.1 = N := by omega
    rw [e] at r3 r4
    exact ⟨r3, r4⟩
theorem out_ok {p : Array Nat} (hp : Pm N p N) (ha : Asc lt p N) : p.toList.Perm (List.range N) ∧ p.toList.Pairwise (R lt) := by
  refine ⟨by simpa using Array.perm_iff_toList_perm.mp hp.pm, List.pairwise_iff_getElem.mpr fun i j hi hj hij => ?_⟩
  have hsz := hp.sz
  rw [Array.length_toList] at hi hj
  have := ha i j hij (by omega)
  simpa [g, Array.getD, hi, hj] using this
end
end Srt
set_option Elab.async false
set_option linter.all false
set_option maxRecDepth 100000
/-! sorted(list, key = a def of the text) over the hand layer. -/
namespace L2
open PySem PySem.Spec PyProof.Rows
section
variable {X : Cx} {pins : List (Addr × Obj)} {σ : St} {H : Hp} {s : Shared}
end
section
variable {X : Cx} {pins : List (Addr × Obj)} {σ : St} {H : Hp} {s : Shared} {kS D : Addr} {its : List Value} {xs : List V} {f : Value} {Q : VK}
/-- how the keys are asked -/
structure Asks (X : Cx) (n : Nat) (ks : List Value) (s : Shared) (κ : SortKind) (lt : Nat → Nat → Bool) : Prop where
  ord : Srt.Ord lt
  kind : 2 ≤ n → ∀ Q : SortKind → Shared → Prop, Q κ s → wpAny (model X.prog X.w) X.A.in1.in1 (keyKind' ks.toArray) Q (fun _ _ => False) s
  ask : ∀ i j (C : Bool → Shared → Prop), i < n → j < n → C (lt i j) s → PySem.W.kas_ask X.prog X.w X.A.in1.in1 κ ks i j C s
end
end L2
set_option Elab.async false
set_option linter.all false
set_option maxRecDepth 100000
/-! A list or a tuple alike: walked, indexed, compared. -/
namespace L2
open PySem PySem.Spec PyProof.Rows
/-- the record of a list, or of a tuple -/
def Ob (o : HO) (xs : List V) : Prop := o = .lst xs ∨ o = .tup xs
theorem Ob.sq {K : PySem.W.Frag} {H : Hp} {a : Addr} {o : HO} {xs : List V} (h : Ob o xs) (e : H a = some o) : SqL K H a xs ∨ SqT K H a xs := by
  rcases h with h | h
  · subst h; exact .inl (.of e)
  · subst h; exact .inr (.of e)
/-- what is told of an iterator over it -/
def ItOk (J : It) (a : Addr) (o : HO) (xs : List V) : Prop := ∀ H : Hp, H a = some o → (∀ i x, xs[i]? = some x → J.go i H ∧ ∀ y H', J.yld i H y H' → H' = H ∧ y = x) ∧ J.stop xs.length H
def iSeq (K : PySem.W.Frag) (tl : TE) : TI := fun σ H R => tl σ H fun x H1 => ∃ a o xs, x = .ref a ∧ H1 a = some o ∧ Ob o xs ∧ ∀ J, ItOk J a o xs → R J H1
theorem itl_ok {K : PySem.W.Frag} {a : Addr} {xs : List V} : ItOk (Itl K a) a (.lst xs) xs := fun H e => ⟨fun i x hx => ⟨⟨xs, x, .of e, hx⟩, fun y H' z => ⟨z.1, by
    have := z.2 xs (.of e)
    rw [hx] at this
    exact (Option.some.inj this).symm⟩⟩, ⟨xs, .of e, Nat.le_refl _⟩⟩
theorem itt_ok {K : PySem.W.Frag} {a : Addr} {xs : List V} : ItOk (Itt K a) a (.tup xs) xs := fun H e => ⟨fun i x hx => ⟨⟨xs, x, .of e, hx⟩, fun y H' z => ⟨z.1, by
    have := z.2 xs (.of e)
    rw [hx] at this
    exact (Option.some.inj this).symm⟩⟩, ⟨xs, .of e, Nat.le_refl _⟩⟩
section
variable {X : Cx} {tg : Expr}
theorem pi_seq {l : Expr} {tl : TE} (hl : PE X l tl) : PI X tg l (iSeq X.K tl) := by
  intro pins s σ H R I h
  refine thn (hl pins s σ H _ I h) fun v s1 ⟨x, H1, I1, r1, q1⟩ => ?_
  obtain ⟨a, o, xs, e, ha, ho, q⟩ := q1
  subst e
  cases r1
  have fpk : ∀ b ∈ [s1.heap.objs.size], FpOk X pins H1 b := fun b hb => by
    have e : b = s1.heap.objs.size := by simpa using hb
    subst e
    exact I1.fpOk (Nat.le_refl _) (I1.hok.fresh (Nat.le_refl _))
  rcases ho with ho | ho
  · subst ho
    obtain ⟨its, rv, p, hz⟩ := I1.list (.of ha : SqL X.K H1 a xs)
    refine wpAny_pyIter_list p.isList ?_
    exact ⟨s1.heap.objs.size, [s1.heap.objs.size], _, _, H1, rfl, I1.kept (t' := s1.toks) fun b o e => Heap.get?_push_of_some _ e, turn_list a _, ⟨_, Heap.get?_push_size _ rfl, rfl, rfl⟩, fpk, q _ itl_ok⟩
  · subst ho
    obtain ⟨its, rv, p, hz⟩ := I1.tuple (.of ha : SqT X.K H1 a xs)
    refine wpAny_pyIter_tuple (show s1.heap.IsTuple a its.toArray from p) ?_
    exact ⟨s1.heap.objs.size, [s1.heap.objs.size], _, _, H1, rfl, I1.kept (t' := s1.toks) fun b o e => Heap.get?_push_of_some _ e, turn_tuple a _, ⟨_, Heap.get?_push_size _ rfl, rfl, rfl⟩, fpk, q _ itt_ok⟩
def rIxSq (K : PySem.W.Frag) : R2 := fun x y H Q => ∃ p xs i v, x = .ref p ∧ y = .int i ∧ (SqL K H p xs ∨ SqT K H p xs) ∧ atI xs i = some v ∧ Q v H
theorem ix_sq : IxR X (rIxSq X.K) := by
  intro value slice pins s σ H x y v u Q I rx ry h hs
  obtain ⟨p, xs, i, z, e1, e2, hq, he, q⟩ := h
  rcases hq with hq | hq
  · exact ix_list value slice pins s σ H x y v u Q I rx ry ⟨p, xs, i, z, e1, e2, hq, he, q⟩ hs
  · exact ix_tup value slice pins s σ H x y v u Q I rx ry ⟨p, xs, i, z, e1, e2, hq, he, q⟩ hs
end
theorem lc_it {J : It} {a : Addr} {o : HO} {xs : List V} {tc : TT} {te : TE} {σ : St} {D : Addr} {Fin : Hp → Prop} {H : Hp} (hJ : ItOk J a o xs) (Pv : Nat → List V → Hp → Prop) (h0 : Pv 0 [] (upd H D (.lst [])))
    (hD : ∀ i ys H, Pv i ys H → H D = some (.lst ys) ∧ H a = some o) (hend : ∀ ys H, Pv xs.length ys H → Fin H)
    (hgo : ∀ i x ys H, i < xs.length → xs[i]? = some x → Pv i ys H → tc (some x :: σ) H fun b H2 => if b = true then te (some x :: σ) H2 (LcNx xs.length i D ys Pv) else LcNo xs.length i ys Pv H2) : lcGo tc te σ J D Fin H := by
  refine lc_go Pv h0 (fun i ys H p => (hD i ys H p).1) (fun ys H p => ⟨(hJ H (hD _ _ _ p).2).2, hend ys H p⟩) fun i ys H hi p => ?_
  obtain ⟨g, k⟩ := (hJ H (hD _ _ _ p).2).1 i xs[i] (List.getElem?_eq_getElem hi)
  refine ⟨g, fun x H' y => ?_⟩
  obtain ⟨e1, e2⟩ := k x H' y
  subst e1 e2
  exact hgo i _ ys _ hi (List.getElem?_eq_getElem hi) p
theorem for_it {J : It} {a : Addr} {o : HO} {xs : List V} {g : TG} {tb : TS} {D : Ends} {σ : St} {H : Hp} (hJ : ItOk J a o xs) (Pv : Nat → St → Hp → Prop) (h0 : Pv 0 σ H) (hl : ∀ i σ H, i ≤ xs.length → Pv i σ H → H a = some o)
    (hs : ∀ i x σ H, xs[i]? = some x → Pv i σ H → g x σ H fun σ2 H2 => tb { D with nx := Pv (i + 1), ct := Pv (i + 1), bk := D.nx } σ2 H2) (hd : ∀ σ H, Pv xs.length σ H → D.nx σ H) :
    ∃ W : Nat → Nat → St → Hp → Prop, (∃ m, W 0 m σ H) ∧ ∀ i m σ H, W i m σ H →
      (J.stop i H ∧ D.nx σ H) ∨ (J.go i H ∧ ∃ N : St → Hp → Prop, (∀ σ' H', N σ' H' → ∃ m', m' < m ∧ W (i + 1) m' σ' H') ∧ ∀ x H', J.yld i H x H' → g x σ H' fun σ2 H2 => tb { D with nx := N, ct := N, bk := D.nx } σ2 H2) := by
  refine ⟨fun i m σ H => m = xs.length - i ∧ i ≤ xs.length ∧ Pv i σ H, ⟨xs.length, by simp, Nat.zero_le _, h0⟩, ?_⟩
  rintro i m σ H ⟨rfl, hi, p⟩
  have q := hl i σ H hi p
  by_cases hlt : i < xs.length
  · obtain ⟨gg, k⟩ := (hJ H q).1 i xs[i] (List.getElem?_eq_getElem hlt)
    refine .inr ⟨gg, Pv (i + 1), fun σ' H' p' => ⟨xs.length - (i + 1), by omega, rfl, hlt, p'⟩, fun x H' y => ?_⟩
    obtain ⟨e1, e2⟩ := k x H' y
    subst e1 e2
    exact hs i _ σ _ (List.getElem?_eq_getElem hlt) p
  · have e : i = xs.length := by omega
    subst e
    exact .inl ⟨(hJ H q).2, hd σ H p⟩
/-! ### == and != of lists and tuples of whole numbers -/
section
variable {X : Cx}
end
end L2
set_option Elab.async false
set_option linter.all false
set_option maxRecDepth 100000
/-! LIST COMPREHENSIONS whose target is several names (a, b = each pair). -/
namespace L2
open PySem PySem.Spec PyProof.Rows
def cxLN (X : Cx) (xs Ns : List Str) (scope : Scope) (C : Addr) (fp : List Addr) (s : Shared) (H : Hp) : Cx where
  prog := X.prog
  w := X.w
  K := X.K
  mg := X.mg
  base := X.base
  A := X.A
  N := xs ++ Ns
  s₀ := s
  H₀ := H
  env := compEnvC scope (clOf scope X.env.cells) C X.env
  outer := X.stack
  stack := X.stack
  ex := fp
  fn := fun _ => false
  calm := X.calm
  pn := []
  xe := fun _ _ => False
/-- xs: the block's names; Ns: the names around it, those that the block's names hide put otherwise -/
structure LnScope (X : Cx) (xs Ns : List Str) (sc : Scope) : Prop where
  kind : sc.kind = .function
  nocell : ∀ p ∈ sc.names, p.2 ≠ .cell
  loc : ∀ x ∈ xs, sc.names.lookup x = some .local
  names : ∀ p ∈ sc.names, p.2 = .local → sc.names.lookup p.1 = some .local
  apart : ∀ y ∈ Ns, sc.names.lookup y ≠ some .local
  sub : ∀ (i : Nat) (y : Str), Ns[i]? = some y → sc.names.lookup y = some .free → X.N[i]? = some y
  len : Ns.length = X.N.length
  all : (xs ++ Ns).Nodup
  free : ∀ p ∈ sc.names, p.2 = .free → X.env.kindOf p.1 = some .cell ∨ X.env.kindOf p.1 = some .free
section
variable {X : Cx} {pins : List (Addr × Obj)} {σ : St} {H : Hp} {s : Shared} {xs Ns : List Str} {sc : Scope} {C : Addr} {fp : List Addr}
theorem LnScope.cells (S : LnScope X xs Ns sc) (ok : X.Ok) : ∀ p ∈ sc.names, p.2 = .free → ∃ a, X.env.cells.lookup p.1 = some a := fun p hp e => ok.has p.1 (S.free p hp e)
theorem Inv.okLN (I : Inv X pins σ H s) (S : LnScope X xs Ns sc) (hC : s.heap.objs.size ≤ C) (hf : ∀ b ∈ fp, FpOk X pins H b) (hlt : ∀ b ∈ fp, b < s.heap.objs.size) : (cxLN X xs Ns sc C fp s H).Ok where
  mod := I.ok.mod
  kind := S.kind
  glob := I.ok.glob
  blt := I.ok.blt
  above := hC
  inj := fun y z c e1 e2 => I.ok.inj y z c (clOf_sub sc X.env.cells e1) (clOf_sub sc X.env.cells e2)
  has := fun y hy => by
    have hy' : (relabel sc X.env).names.lookup y = some .cell ∨ (relabel sc X.env).names.lookup y = some .free := hy
    have fr : sc.names.lookup y = some .free := by
      rcases hy' with h | h
      · obtain ⟨k', e, q⟩ := relabel_look h
        rcases q with q | ⟨q, _⟩
        · subst q; exact absurd rfl (S.nocell _ (PySem.mem_of_lookup e))
        · rw [e, q]
      · obtain ⟨k', e, q⟩ := relabel_look h
        rcases q with q | ⟨_, q⟩
        · rw [e, ← q]
        · cases q
    exact clOf_has sc X.env.cells (S.cells I.ok) (PySem.mem_of_lookup fr)
  cab := fun y c e => by cases (show false = true from e)
  hd := I.ok.hd
  frames := I.ok.frames
  stk := .inl rfl
  exf := fun b hb => ⟨Nat.ne_of_lt (Nat.lt_of_lt_of_le (hlt b hb) hC), fun y c e => (hf b hb).2.2.2.2.1 y c (clOf_sub sc X.env.cells e)⟩
  bs := I.bs
  bsz := Nat.le_trans I.ok.bsz I.sz
  noex := fun b o e hb => by
    rcases (hf b hb).2.2.2.1 with q | q
    · exact I.ok.noex b o e q
    · exact absurd (Nat.lt_of_lt_of_le (Heap.lt_size e) (Nat.le_trans I.ok.bsz q)) (Nat.lt_irrefl _)
  exfs := fun b hb z => by
    rcases List.mem_cons.mp (I.stkSub b z) with q | q
    · exact (hf b hb).2.1 q
    · exact (hf b hb).2.2.1 q
  funs := I.stack
  frf := I.stkFree
theorem Inv.startLN {D : Addr} {h1 : Heap} {m : Str → Option Value} {tk : Nat} {w : St} (I : Inv X pins σ H s) (S : LnScope X xs Ns sc) (hf : ∀ b ∈ fp, FpOk X pins H b) (hlt : ∀ b ∈ fp, b < s.heap.objs.size) (hw : w = xs.map fun _ => none)
    (hD : D = s.heap.objs.size) (hC : s.heap.objs.size ≤ C) (hDC : C ≠ D) (hk : ∀ b o, s.heap.get? b = some o → h1.get? b = some o) (hn : h1.Ns C m) (hl : h1.get? D = some { cls := .type "list", data := .seq ([] : List Value).toArray 0 }) :
    Inv (cxLN X xs Ns sc C fp s H) [] (w ++ σ) (upd H D (.lst [])) { s with heap := h1, toks := tk } := by
  have hwl : w.length = xs.length := by rw [hw, List.length_map]
  have hDle : s.heap.objs.size ≤ D := by rw [hD]; exact Nat.le_refl _
  have cells : ∀ y c, (clOf sc X.env.cells).lookup y = some c → c < s.heap.objs.size := fun y c e => by
    obtain ⟨v, q⟩ := I.cell y c (clOf_sub sc X.env.cells e)
    exact q.lt
  refine ⟨I.okLN S hC hf hlt, rfl, I.bare, Un.laid hk hDle (I.hok.fresh hDle), ⟨m, hn, fun i y v e1 e2 e3 => ?_⟩, fun y c e => ?_, ?_, fun y c e => ?_, fun p hp => absurd (show p ∈ ([] : List (Addr × Obj)) from hp) (by simp), I.hok.laid hk hDle ⟨Nat.zero_le _, [], 0, .nil, hl⟩, ?_⟩
  · have e1 : (xs ++ Ns)[i]? = some y := e1
    have e2 : (w ++ σ)[i]? = some (some v) := e2
    rcases Nat.lt_or_ge i xs.length with hi | hi
    · rw [List.getElem?_append_left (by omega), hw, List.getElem?_map, List.getElem?_eq_getElem hi] at e2
      cases e2
    · have e1' : Ns[i - xs.length]? = some y := by rw [List.getElem?_append_right hi] at e1; exact e1
      have e2' : σ[i - xs.length]? = some (some v) := by rw [List.getElem?_append_right (by omega), hwl] at e2; exact e2
      have e3' : Vis (relabel sc X.env) y := e3
      have ny : sc.names.lookup y ≠ some .local := S.apart y (List.mem_of_getElem? e1')
      have fr : sc.names.lookup y = some .free ∧ ((relabel sc X.env).names.lookup y = some .cell ∨ (relabel sc X.env).names.lookup y = some .free) := by
        rcases e3' with h | h | h
        · obtain ⟨k', e, q⟩ := relabel_look h
          rcases q with q | ⟨_, q⟩
          · subst q; exact absurd e ny
          · cases q
        · obtain ⟨k', e, q⟩ := relabel_look h
          rcases q with q | ⟨q, _⟩
          · subst q; exact absurd rfl (S.nocell _ (PySem.mem_of_lookup e))
          · exact ⟨by rw [e, q], .inl h⟩
        · obtain ⟨k', e, q⟩ := relabel_look h
          rcases q with q | ⟨_, q⟩
          · exact ⟨by rw [e, ← q], .inr h⟩
          · cases q
      have ok := S.free (y, .free) (PySem.mem_of_lookup fr.1) rfl
      obtain ⟨m0, hn0, hl0⟩ := I.loc
      obtain ⟨u, r, l⟩ := hl0 _ y v (S.sub _ y e1' fr.1) e2' (.inr ok)
      refine ⟨u, r, .inr ⟨fr.2, ?_⟩⟩
      rcases l with ⟨k, _⟩ | ⟨_, c, ec, z⟩
      · rcases ok with q | q <;> (rw [show X.env.kindOf y = some .local from k] at q; cases q)
      · obtain ⟨c', ec'⟩ := clOf_has sc X.env.cells (S.cells I.ok) (PySem.mem_of_lookup fr.1)
        have := clOf_sub sc X.env.cells ec'
        rw [ec] at this
        cases this
        obtain ⟨o, ho, hd⟩ := z
        exact ⟨c, ec', o, hk _ _ ho, hd⟩
  · obtain ⟨v, o, ho, hd⟩ := I.cell y c (clOf_sub sc X.env.cells e)
    exact ⟨v, o, hk _ _ ho, hd⟩
  · show upd H D (.lst []) C = none
    rw [upd_ne hDC]
    exact I.hok.fresh hC
  · show upd H D (.lst []) c = none
    rw [upd_ne (Nat.ne_of_lt (Nat.lt_of_lt_of_le (cells y c e) hDle))]
    exact I.freeC y c (clOf_sub sc X.env.cells e)
  · show (w ++ σ).length = (xs ++ Ns).length
    rw [List.length_append, List.length_append, I.len, hwl, S.len]
theorem Inv.endLN {s2 : Shared} {H2 : Hp} {st : St} {pl : List (Addr × Obj)} (I : Inv X pins σ H s) (J : Inv (cxLN X xs Ns sc C fp s H) pl st H2 s2) (hf : ∀ b ∈ fp, FpOk X pins H b) : Inv X pins σ H2 s2 :=
  I.call' (ch := fp) J.os J.base J.hok J.bare fun b hb => ⟨(hf b hb).2.2.2.1, (hf b hb).2.1, (hf b hb).2.2.2.2.1, (hf b hb).2.2.2.2.2⟩
end
/-- acc = []; for target in ..: if ..: acc.append(..), the list at D; n: how many names the target has -/
def lcGoN (n : Nat) (g : TG) (tc : TT) (te : TE) (σ : St) (J : It) (D : Addr) (Fin : Hp → Prop) (H : Hp) : Prop :=
  ∃ W : Nat → Nat → List V → Hp → Prop, (∃ m, W 0 m [] (upd H D (.lst []))) ∧ ∀ i m ys H, W i m ys H → H D = some (.lst ys) ∧
    ((J.stop i H ∧ Fin H) ∨ (J.go i H ∧ ∀ x H' (u : St), u.length = n → J.yld i H x H' → g x (u ++ σ) H' fun σ2 H2 => (∃ u2 : St, u2.length = n ∧ σ2 = u2 ++ σ) ∧ tc σ2 H2 fun b H3 => if b = true then te σ2 H3 fun y H4 => H4 D = some (.lst ys) ∧ ys.length < sizeLine ∧ ∃ m', m' < m ∧ W (i + 1) m' (ys ++ [y]) (upd H4 D (.lst (ys ++ [y])))
      else ∃ m', m' < m ∧ W (i + 1) m' ys H3))
def tLN (n : Nat) (wi : TI) (g : TG) (tc : TT) (te : TE) : TE := fun σ H Q => wi σ H fun J H1 => ∀ D, H1 D = none → lcGoN n g tc te σ J D (fun H2 => Q (.ref D) H2) H1
section
variable {X : Cx} {xs Ns : List Str} {sc : Scope} {elt iter tg : Expr} {ifs : List Expr} {pos : Pos} {wi : TI} {g : TG} {tc : TT} {te : TE}
theorem ln_block {pins : List (Addr × Obj)} {σ : St} {H : Hp} {s : Shared} {it : Addr} {fp : List Addr} {tn : Nat → Heap → Prop} {J : It} {Fin : Addr → Hp → Prop} {RR : Value → Addr → Result → Shared → Prop} {E : Value → Shared → Prop}
    (hc : X.calm = true) (S : LnScope X xs Ns sc) (I : Inv X pins σ H s) (T : Turn X.prog X.w X.K tg J fp it tn) (st : tn 0 s.heap) (hf : ∀ b ∈ fp, FpOk X pins H b) (hg : ∀ C s0 H0, PG (cxLN X xs Ns sc C fp s0 H0) tg g)
    (ht : ∀ C s0 H0, PTs (cxLN X xs Ns sc C fp s0 H0) ifs tc) (he : ∀ C s0 H0, PE (cxLN X xs Ns sc C fp s0 H0) elt te) (q : ∀ D, H D = none → lcGoN xs.length g tc te σ J D (Fin D) H)
    (hR : ∀ D C H2 s2 m, s.heap.objs.size ≤ C → Inv X pins σ H2 s2 → H2 C = none → s2.heap.Ns C m → Fin D H2 → RR (.ref D) C (.ok .next) s2) :
    wpAny (model X.prog X.w) X.A (newList []) (fun acc s3 => wpAny (model X.prog X.w) X.A (newFunctionEnv sc X.env.globals (clOf sc X.env.cells) [] X.env.qual none .none (some X.env)) (fun cenv s4 =>
      codeAny (model X.prog X.w) X.A (.compStart (.ListComp elt [⟨tg, iter, ifs, 0⟩] sc pos) 0 (.ref it) acc { cenv with scope := relabel sc X.env }) (RR acc cenv.locals) s4) E s3) E s := by
  have hlt : ∀ b ∈ fp, b < s.heap.objs.size := fun b hb => by
    obtain ⟨o, e, _⟩ := T.obj 0 _ st b hb
    exact Heap.lt_size e
  refine wpAny_newObj_type (wpAny_newFunctionEnv S.nocell (by intro y hy; simp at hy) (fun h1 hns1 hsb1 => ?_) S.kind)
  dsimp only at hns1 hsb1 ⊢
  generalize hH2 : s.heap.push { cls := .type "list", dict := none, data := .seq ([] : List Value).toArray } = G at hns1 hsb1 ⊢
  have hC : G.objs.size = s.heap.objs.size + 1 := by rw [← hH2, Heap.size_push]
  have hCle : s.heap.objs.size ≤ G.objs.size := by rw [hC]; exact Nat.le_succ _
  have hDC : G.objs.size ≠ s.heap.objs.size := by rw [hC]; exact Nat.succ_ne_self _
  have old : ∀ b o, s.heap.get? b = some o → h1.get? b = some o := fun b o e => hsb1.extBut b o (Nat.ne_of_lt (Nat.lt_of_lt_of_le (Heap.lt_size e) hCle)) (Heap.get?_push_of_some _ (hH2 ▸ Heap.get?_push_of_some _ e))
  have hacc : h1.get? s.heap.objs.size = some { cls := .type "list", data := .seq ([] : List Value).toArray 0 } := hsb1.extBut _ _ (Ne.symm hDC) (Heap.get?_push_of_some _ (hH2 ▸ Heap.get?_push_size _ rfl))
  have hDn : H s.heap.objs.size = none := I.hok.fresh (Nat.le_refl _)
  obtain ⟨W, ⟨m0, w0⟩, turn⟩ := q s.heap.objs.size hDn
  have st1 : tn 0 h1 := T.keep _ _ _ st fun b _ o e => old b o e
  have I1 := fun tk => I.startLN (tk := tk) (w := xs.map fun _ => none) S hf hlt rfl rfl hCle hDC old hns1 hacc
  have fr1 : ∀ b ∈ fp, upd H s.heap.objs.size (.lst []) b = none := fun b hb => by rw [upd_ne (Nat.ne_of_lt (hlt b hb))]; exact (hf b hb).1
  have loop : ∀ s3 : Shared, s3 = { s with heap := h1, toks := s.toks + ([] : List (Str × Value)).length } →
      codeAny (model X.prog X.w) X.A (.compLoop (.ListComp elt [⟨tg, iter, ifs, 0⟩] sc pos) 0 (.ref it) (.ref s.heap.objs.size) (compEnvC sc (clOf sc X.env.cells) G.objs.size X.env))
        (RR (.ref s.heap.objs.size) G.objs.size) s3 := by
    rintro s3 rfl
    have fpk : ∀ {H' : Hp}, (∀ b ∈ fp, H' b = none) → ∀ b ∈ fp, FpOk (cxLN X xs Ns sc G.objs.size fp s H) [] H' b := fun hn b hb =>
      ⟨hn b hb, Nat.ne_of_lt (Nat.lt_of_lt_of_le (hlt b hb) hCle), (I.okLN (C := G.objs.size) S hCle hf hlt).exfs b hb, .inl hb, fun y c e => (hf b hb).2.2.2.2.1 y c (clOf_sub sc X.env.cells e), fun p hp => absurd (show p ∈ ([] : List (Addr × Obj)) from hp) (by simp)⟩
    refine compLoop_own (fun n s' => ∃ i w ys H', w.length = xs.length ∧ Inv (cxLN X xs Ns sc G.objs.size fp s H) [] (w ++ σ) H' s' ∧ tn i s'.heap ∧ (∀ b ∈ fp, H' b = none) ∧ W i n ys H') ?_ m0 ⟨0, _, [], _, List.length_map _, I1 _, st1, fr1, w0⟩
    rintro n s3 ⟨i, v0, ys, H3, hv0, I3, st3, fr3, w3⟩
    obtain ⟨hD3, turn3⟩ := turn i n ys H3 w3
    rcases turn3 with ⟨stop, fin⟩ | ⟨go, step⟩
    · refine thn (T.done (cxLN X xs Ns sc G.objs.size fp s H) rfl rfl rfl hc i [] s3 _ H3 _ I3 (fpk fr3) st3 stop) fun r s4 ⟨hr, I4⟩ => ?_
      subst hr
      obtain ⟨m4, hn4, _⟩ := I4.loc
      exact hR _ _ H3 s4 m4 hCle (I.endLN I4 hf) I4.free hn4 fin
    · refine thn (T.item (cxLN X xs Ns sc G.objs.size fp s H) rfl rfl rfl hc i [] s3 _ H3 _ I3 (fpk fr3) st3 go) fun r s4 ⟨u, hr, h4⟩ => ?_
      subst hr
      refine thn h4 fun _ s5 ⟨y, H5, I5, r5, y5, st5, fr5⟩ => ?_
      have I5' := I5.pinned (fpk fr5) (T.obj _ _ st5)
      refine thn (hg G.objs.size s H _ s5 _ H5 y u _ I5' r5 (step y H5 v0 hv0 y5)) fun _ s6 ⟨σ6, H6, I6, ⟨w6, hw6, e6⟩, q6⟩ => ?_
      subst e6
      refine thn (ht G.objs.size s H _ s6 _ H6 _ I6 q6) fun ok s7 ⟨H7, I7, q7⟩ => ?_
      have again : ∀ {H8 : Hp} {s8 : Shared} {zs : List V}, Inv (cxLN X xs Ns sc G.objs.size fp s H) ([] ++ pinsAt fp s5.heap) (w6 ++ σ) H8 s8 → (∃ m', m' < n ∧ W (i + 1) m' zs H8) → ∃ m, m < n ∧ ∃ i w ys H', w.length = xs.length ∧ Inv (cxLN X xs Ns sc G.objs.size fp s H) [] (w ++ σ) H' s8 ∧ tn i s8.heap ∧ (∀ b ∈ fp, H' b = none) ∧ W i m ys H' := fun {H8 s8 zs} I8 ⟨m', hm, w8⟩ => by
        refine ⟨m', hm, i + 1, w6, zs, H8, hw6, I8.unpinned, T.keep _ _ _ st5 fun b hb o e => (I8.pin (b, o) (List.mem_append_right _ (List.mem_append_right _ (mem_pinsAt hb e)))).1, fun b hb => ?_, w8⟩
        obtain ⟨o, e, d⟩ := T.obj _ _ st5 b hb
        exact (I8.pin (b, o) (List.mem_append_right _ (List.mem_append_right _ (mem_pinsAt hb e)))).2.1
      cases ok with
      | false =>
        rw [if_neg Bool.false_ne_true] at q7 ⊢
        exact again I7 q7
      | true =>
        rw [if_pos rfl] at q7 ⊢
        refine thn (he G.objs.size s H _ s7 _ H7 _ I7 q7) fun z s8 ⟨zv, H8, I8, r8, hD8, hz8, w8⟩ => ?_
        refine thn (mt_append _ s8 _ H8 (.ref s.heap.objs.size) [zv] (.ref s.heap.objs.size) [z] (fun _ H9 => ∃ m', m' < n ∧ W (i + 1) m' (ys ++ [zv]) H9) I8 rfl (.cons r8 .nil) ⟨_, ys, zv, rfl, rfl, hD8, hz8, w8⟩) fun _ s9 ⟨_, H9, I9, _, w9⟩ => ?_
        exact again I9 w9
  exact codeAny_compStart_list (loop _ rfl) (T.self X.A 0 _ _ _ st1 (loop _ rfl))
theorem pe_ln (hc : X.calm = true) (S : LnScope X xs Ns sc) (hi : PI X tg iter wi) (hg : ∀ C fp s0 H0, PG (cxLN X xs Ns sc C fp s0 H0) tg g) (ht : ∀ C fp s0 H0, PTs (cxLN X xs Ns sc C fp s0 H0) ifs tc) (he : ∀ C fp s0 H0, PE (cxLN X xs Ns sc C fp s0 H0) elt te)
    (hs : ∀ v, foldedSetIterable iter X.env v = pure v := by intro _; rfl) : PE X (.ListComp elt [⟨tg, iter, ifs, 0⟩] sc pos) (tLN xs.length wi g tc te) := by
  refine ⟨?_⟩
  intro pins s σ H Q I h
  rw [eval_ListComp]
  refine wpAny_comprehension_free (use := none) rfl hs (closure_eq (S.cells I.ok)) S.kind S.names (thn (hi pins s σ H _ I h) fun v s1 h1 => thn h1 fun itv s2 h2 => ?_)
  obtain ⟨it, fp, tn, J, H2, e, I2, T, st2, f2, q2⟩ := h2
  subst e
  refine ln_block (RR := fun acc C => compPost (model X.prog X.w) X.A X.xe none (EP X pins σ Q) acc C) (Fin := fun D H3 => Q (.ref D) H3) hc S I2 T st2 f2 (fun C s0 H0 => hg C fp s0 H0) (fun C s0 H0 => ht C fp s0 H0) (fun C s0 H0 => he C fp s0 H0) q2 ?_
  intro D C H3 s3 m hC I3 hn hN q3
  refine ⟨m, hN, fun h' hs' => ⟨.ref D, H3, I3.butC hs' (Nat.le_trans I2.sz hC) hn (Nat.ne_of_gt (Nat.lt_of_lt_of_le I2.lt hC)) (fun y c e => ?_) (fun p hp => ?_), rfl, q3⟩⟩
  · obtain ⟨v, z⟩ := I2.cell y c e
    exact Nat.ne_of_lt (Nat.lt_of_lt_of_le z.lt hC)
  · exact Nat.ne_of_lt (Nat.lt_of_lt_of_le (Heap.lt_size (I2.pin p hp).1) hC)
/-- the target a, b -/
theorem pg_pair {x y : Str} {p1 p2 p3 : Pos} {k : Nat} (hc : X.calm = true) (S : LnScope X [x, y] Ns sc) : ∀ C fp s0 H0, PG (cxLN X [x, y] Ns sc C fp s0 H0) (.Tuple [.Name x p1, .Name y p2] k p3) (gTup X.K 2 (gCons (gName 0) (gCons (gName 1) gNil))) := fun C fp s0 H0 => by
  have lx : (relabel sc X.env).names.lookup x = some .local := lookup_relabel_local (S.loc x (by simp))
  have ly : (relabel sc X.env).names.lookup y = some .local := lookup_relabel_local (S.loc y (by simp))
  exact pg_tup (X := cxLN X [x, y] Ns sc C fp s0 H0) hc (pgs_cons (pg_name (i := 0) S.all rfl (.inl lx) (.inr lx)) (pgs_cons (pg_name (i := 1) S.all rfl (.inl ly) (.inr ly)) pgs_nil))
end
theorem lcN_go {tc : TT} {te : TE} {g : TG} {k : Nat} {σ : St} {J : It} {D : Addr} {Fin : Hp → Prop} {H : Hp} {n : Nat} (Pv : Nat → List V → Hp → Prop) (h0 : Pv 0 [] (upd H D (.lst [])))
    (hD : ∀ i ys H, Pv i ys H → H D = some (.lst ys)) (hend : ∀ ys H, Pv n ys H → J.stop n H ∧ Fin H)
    (hgo : ∀ i ys H, i < n → Pv i ys H → J.go i H ∧ ∀ x H' (u : St), u.length = k → J.yld i H x H' → g x (u ++ σ) H' fun σ2 H2 => (∃ u2 : St, u2.length = k ∧ σ2 = u2 ++ σ) ∧ tc σ2 H2 fun b H3 => if b = true then te σ2 H3 (LcNx n i D ys Pv) else LcNo n i ys Pv H3) : lcGoN k g tc te σ J D Fin H := by
  refine ⟨fun i m ys H => m = n - i ∧ i ≤ n ∧ Pv i ys H, ⟨n, rfl, Nat.zero_le _, h0⟩, ?_⟩
  rintro i m ys H ⟨rfl, hi, p⟩
  refine ⟨hD i ys H p, ?_⟩
  by_cases hlt : i < n
  · exact .inr (hgo i ys H hlt p)
  · have e : i = n := by omega
    subst e
    exact .inl (hend ys H p)
theorem lcN_list {K : PySem.W.Frag} {a : Addr} {xs : List V} {tc : TT} {te : TE} {g : TG} {k : Nat} {σ : St} {D : Addr} {Fin : Hp → Prop} {H : Hp} (Pv : Nat → List V → Hp → Prop) (h0 : Pv 0 [] (upd H D (.lst [])))
    (hD : ∀ i ys H, Pv i ys H → H D = some (.lst ys) ∧ SqL K H a xs) (hend : ∀ ys H, Pv xs.length ys H → Fin H)
    (hgo : ∀ i x ys H (u : St), u.length = k → i < xs.length → xs[i]? = some x → Pv i ys H → g x (u ++ σ) H fun σ2 H2 => (∃ u2 : St, u2.length = k ∧ σ2 = u2 ++ σ) ∧ tc σ2 H2 fun b H3 => if b = true then te σ2 H3 (LcNx xs.length i D ys Pv) else LcNo xs.length i ys Pv H3) : lcGoN k g tc te σ (Itl K a) D Fin H := by
  refine lcN_go Pv h0 (fun i ys H p => (hD i ys H p).1) (fun ys H p => ⟨⟨xs, (hD _ _ _ p).2, Nat.le_refl _⟩, hend ys H p⟩) fun i ys H hi p => ?_
  refine ⟨⟨xs, xs[i], (hD _ _ _ p).2, List.getElem?_eq_getElem hi⟩, fun x H' u hu y => ?_⟩
  obtain ⟨e, y⟩ := y
  subst e
  exact hgo i x ys _ u hu hi (y xs (hD _ _ _ p).2) p
theorem len2 {α : Type} : ∀ {u : List α}, u.length = 2 → ∃ a b, u = [a, b]
  | [a, b], _ => ⟨a, b, rfl⟩
theorem sub_of {N Ns : List Str} {sc : Scope} (h : (Ns.zip N).all (fun p => decide (p.1 = p.2) || !(sc.names.lookup p.1 == some NameKind.free)) = true) (hl : Ns.length = N.length) : ∀ (i : Nat) (y : Str), Ns[i]? = some y → sc.names.lookup y = some .free → N[i]? = some y := fun i y e f => by
  have hi : i < Ns.length := (List.getElem?_eq_some_iff.mp e).1
  have hN : N[i]? = some (N[i]'(by omega)) := List.getElem?_eq_getElem (by omega)
  have hm : (y, N[i]'(by omega)) ∈ Ns.zip N := by
    refine List.mem_of_getElem? (i := i) ?_
    rw [List.getElem?_zip_eq_some]
    exact ⟨e, hN⟩
  have := List.all_eq_true.mp h _ hm
  dsimp only at this
  rw [f] at this
  have z : y = N[i]'(by omega) := by simpa using this
  rw [hN, ← z]
theorem lnS {X : Cx} {xs : List Str} (Ns : List Str) {sc scp : Scope} {N ps : List Str} (S : FnScope N ps scp) (hN : X.N = N := by rfl) (hs : X.env.scope = scp := by rfl) (h1 : sc.kind = .function := by rfl) (h2 : ∀ p ∈ sc.names, p.2 ≠ .cell := by decide +kernel) (h3 : ∀ x ∈ xs, sc.names.lookup x = some .local := by decide +kernel)
    (h4 : ∀ p ∈ sc.names, p.2 = .local → sc.names.lookup p.1 = some .local := by decide +kernel) (h5 : ∀ y ∈ Ns, sc.names.lookup y ≠ some .local := by decide +kernel) (h6 : (Ns.zip N).all (fun p => decide (p.1 = p.2) || !(sc.names.lookup p.1 == some NameKind.free)) = true := by decide +kernel) (hl : Ns.length = N.length := by rfl) (hall : (xs ++ Ns).Nodup := by decide +kernel)
    (h7 : ∀ p ∈ sc.names, p.2 = .free → scp.names.lookup p.1 = some .cell ∨ scp.names.lookup p.1 = some .free := by decide +kernel) : LnScope X xs Ns sc :=
  ⟨h1, h2, h3, h4, h5, by rw [hN]; exact sub_of h6 hl, by rw [hN]; exact hl, hall, fun p hp e => by
    show X.env.scope.names.lookup p.1 = _ ∨ X.env.scope.names.lookup p.1 = _
    rw [hs]
    exact h7 p hp e⟩
end L2
set_option Elab.async false
set_option linter.all false
set_option maxRecDepth 100000
namespace HT
open PySem PyProof.Rows
section
variable {prog : Program} {w : World} {A : Around} {E : Value → Shared → Prop} {s : Shared}
end
end HT
namespace L2
open PySem PySem.Spec PyProof.Rows
section
variable {X : Cx} {e : Expr} {te : TE} {pos p2 : Pos}
end
end L2
set_option Elab.async false
set_option linter.all false
set_option maxRecDepth 100000
/-! The rules once more, with K named: a reading then does not bear the whole context. -/
namespace L2
open PySem PySem.Spec PyProof.Rows
section
variable {X : Cx} {tg : Expr}
theorem pi_listK (K : PySem.W.Frag) {l : Expr} {tl : TE} (hl : PE X l tl) (e : X.K = K := by rfl) : PI X tg l (iList K tl) := by subst e; exact pi_list hl
inductive cLen (K : PySem.W.Frag) (xs : List V) (H : Hp) (Q : VK) : Prop
  | mk (p : Addr) (ys : List V) (e : xs = [.ref p]) (h : SqL K H p ys ∨ SqT K H p ys) (q : Q (.int ys.length) H) : cLen K xs H Q
theorem call_lenK (K : PySem.W.Frag) (e : X.K = K := by rfl) : CallR X (.builtin "len") (cLen K) := by
  subst e
  intro pins s σ H xs us Q I r h
  obtain ⟨p, ys, e, h, q⟩ := h
  exact call_len_seq pins s σ H xs us Q I r ⟨p, ys, e, h, q⟩
theorem call_all_seqK (K : PySem.W.Frag) (hc : X.calm = true) (e : X.K = K := by rfl) : CallR X (.builtin "all") (fun xs H Q => ∃ (p : Addr) (bs : List Bool), xs = [.ref p] ∧ SqL K H p (bs.map V.bl) ∧ Q (.bl (bs.all id)) H) := by subst e; exact call_all_seq hc
theorem sl_listK (K : PySem.W.Frag) (e : X.K = K := by rfl) : SlR X (rSlL K) := by subst e; exact sl_list
theorem call_list_ofK (K : PySem.W.Frag) (e : X.K = K := by rfl) : CallR X (.type "list") (fun xs H Q => ∃ p ys, xs = [.ref p] ∧ (SqL K H p ys ∨ SqT K H p ys) ∧ ∀ l, H l = none → Q (.ref l) (upd H l (.lst ys))) := by subst e; exact call_list_of
theorem pe_fldK (K : PySem.W.Frag) {e : Expr} {f : Str} {ta : TE} {pos : Pos} (he : PE X e ta) (hb : attributeBase e f X.env (eval e X.env) = eval e X.env) (ek : X.K = K := by rfl) : PE X (.Attribute e f pos) (tFld K ta f) := by subst ek; exact pe_fld he hb
theorem pg_tupK (K : PySem.W.Frag) {es : List Expr} {k : Nat} {t : TGs} {n : Nat} {pos : Pos} (hc : X.calm = true) (h : PGs X es t) (hn : (assignEach es X.env).length = n := by rfl) (hst : (assignEach es X.env).findIdx? (·.1) = none := by rfl) (ek : X.K = K := by rfl) : PG X (.Tuple es k pos) (gTup K n t) := by subst ek; exact pg_tup hc h hn hst
theorem pe_bmK (K : PySem.W.Frag) {o e : Expr} {es : List Expr} {to : TE} {t : TA} {name : Str} {apos cpos : Pos} {T id : String} {r : V → List V → Hp → VK → Prop} (pa : PlainAttrs T) (slot : Slot T name id) (hty : typeOf (.builtin id) = pure (.type "method_descriptor")) (hm : MtR X id r) (ho : PE X o to) (ha : PA X (e :: es) t)
    (hbase : attributeBase o name X.env (eval o X.env) = eval o X.env := by rfl)
    (hfew : ((backTo cpos (starEach (e :: es) X.env)).all (fun x => !x.1) && (backToKw cpos (keywordEach [] X.env)).all (fun x => x.1.isSome) && decide ((e :: es).length + ([] : List Keyword).length + (if ([] : List Keyword).isEmpty then 0 else 1) < 30)) = true := by rfl)
    (hline : (apos.endLine == cpos.line) = true := by rfl) (hs : starEach (e :: es) X.env = (false, eval e X.env) :: starEach es X.env := by rfl) (hplain : (backTo cpos (starEach es X.env)).any (·.1) = false := by rfl) (ek : X.K = K := by rfl) :
    PE X (.Call (.Attribute o name apos) (e :: es) [] cpos) (tBM K T r to t) := by subst ek; exact pe_bm pa slot hty hm ho ha hbase hfew hline hs hplain
end
end L2
set_option Elab.async false
set_option linter.all false
set_option maxRecDepth 100000
/-! enumerate of a list, walked by a for or a comprehension with a pair of names. -/
namespace L2
open PySem PySem.Spec PyProof.Rows
section
variable {X : Cx} {pins : List (Addr × Obj)} {σ : St} {H : Hp} {s : Shared}
/-- an untracked tuple of ours is tracked from now on -/
theorem Inv.trackT {D : Addr} {ys : List V} {its : List Value} (I : Inv X pins σ H s) (f : FpOk X pins H D) (hg : IsTup s.heap D its.toArray) (hv : Vals ys its) (hz : ys.length ≤ sizeLine) : Inv X pins σ (upd H D (.tup ys)) s := by
  obtain ⟨f1, f2, f3, f4, f5, f6⟩ := f
  have nD : ∀ b u, H b = some u → b ≠ D := fun b u e z => by rw [z, f1] at e; cases e
  have J := I.step (h' := s.heap) (g' := s.gens) (t' := s.toks) (d' := s.drawn) (ch := [D]) (H' := upd H D (.tup ys)) (fun b hb => by
      have e : b = D := by simpa using hb
      subst e
      exact ⟨f4, f2, f5, f6⟩)
    (fun b o _ _ _ e _ => e) (fun b o _ _ _ e _ => ⟨o.slots, e⟩) (fun b o hc e n => by rw [upd_ne (by simpa using hc)]; exact n) (fun b o _ e => ⟨o, e⟩)
    (fun b xs e => by rw [upd_ne (nD _ _ e)]; exact e) (fun b o u e => by rw [upd_ne (nD _ _ e)]; exact e) (fun b ps e => ⟨#[], by rw [upd_ne (nD _ _ e), e]; simp⟩) (fun m hm => hm) (fun b u e => by
      by_cases hb : b = D
      · subst hb
        rw [upd_same] at e
        cases e
        exact ⟨hz, its, hv, hg⟩
      · rw [upd_ne hb] at e
        exact (I.hok b u e).stay (fun _ _ _ q => q) (fun c q => by rw [upd_ne (nD _ _ q)]; exact q) fun c xs q => by rw [upd_ne (nD _ _ q)]; exact q) I.bare
  exact J
end
section
variable {X : Cx}
end
end L2
set_option Elab.async false
set_option linter.all false
set_option maxRecDepth 100000
/-! zip(l1, l2) -/
namespace L2
open PySem PySem.Spec PyProof.Rows
section
variable {X : Cx} {pins : List (Addr × Obj)} {σ : St} {H : Hp} {s : Shared}
/-- some untracked records of ours have turned -/
theorem Inv.turnedL {t' : Nat} {ch : List Addr} {h' : Heap} (I : Inv X pins σ H s) (f : ∀ b ∈ ch, FpOk X pins H b) (k : ∀ b o, b ∉ ch → s.heap.get? b = some o → h'.get? b = some o) : Inv X pins σ H { s with heap := h', toks := t' } := by
  have n1 : ∀ b u, H b = some u → b ∉ ch := fun b u q z => by
    have := (f b z).1
    rw [this] at q
    cases q
  refine I.step (g' := s.gens) (d' := s.drawn) (ch := ch) (fun b hb => ?_) (fun b o _ _ hc q _ => k b o hc q) (fun b o _ _ hc q _ => ⟨o.slots, k b o hc q⟩) (fun _ _ _ _ n => n)
    (fun b o hc q => ⟨o, k b o hc q⟩) (fun _ _ q => q) (fun _ _ _ q => q) (fun b ps q => ⟨#[], by rw [q]; simp⟩) (fun m hm => ?_) (fun b u q => ?_) I.bare
  · have z := f b hb
    exact ⟨z.2.2.2.1, z.2.1, z.2.2.2.2.1, z.2.2.2.2.2⟩
  · obtain ⟨o, es, ep, ho, r⟩ := hm
    exact ⟨o, es, ep, k _ o (fun z => (f _ z).2.1 rfl) ho, r⟩
  · refine (I.hok b u q).stay (fun c v hc z => k c v ?_ z) (fun _ z => z) fun _ _ z => z
    rcases hc with y | y
    · rw [y]; exact n1 b u q
    · exact n1 c _ y
end
/-- zip(a, b): pairs of two items -/
def Itz (K : PySem.W.Frag) (a b : Addr) : It :=
  ⟨fun i H => ∃ xs ys x y, SqL K H a xs ∧ SqL K H b ys ∧ xs[i]? = some x ∧ ys[i]? = some y,
   fun i H v H' => ∃ t x y, v = .ref t ∧ H t = none ∧ (∀ xs, SqL K H a xs → xs[i]? = some x) ∧ (∀ ys, SqL K H b ys → ys[i]? = some y) ∧ H' = upd H t (.tup [x, y]),
   fun i H => ∃ xs ys, SqL K H a xs ∧ SqL K H b ys ∧ (xs.length ≤ i ∨ ys.length ≤ i)⟩
theorem apart_of {h : Heap} {a b n : Nat} {u v f0 : Value} {i j : Nat} {xs ys : Array Value} (hz : IsZip h (n + 4) (n + 2) (n + 3) f0) (hTO : IsPair h (n + 3) u v) (h1 : h.IsListIter n a i) (h2 : h.IsListIter (n + 1) b j) (l1 : h.IsList a xs) (l2 : h.IsList b ys) : ZipApart (n + 4) (n + 2) (n + 3) n (n + 1) a b := by
  have key : ∀ {c : Nat} {zs : Array Value}, h.IsList c zs → c ≠ n + 4 ∧ c ≠ n + 3 ∧ c ≠ n ∧ c ≠ n + 1 := fun {c zs} hl => by
    obtain ⟨o, e, cl, _⟩ := hl
    refine ⟨fun z => ?_, fun z => ?_, fun z => ?_, fun z => ?_⟩
    · rw [z] at e
      have := Option.some.inj (e.symm.trans hz)
      rw [this] at cl
      exact absurd (Value.type.inj cl) (by decide)
    · rw [z] at e
      have := Option.some.inj (e.symm.trans hTO)
      rw [this] at cl
      exact absurd (Value.type.inj cl) (by decide)
    · rw [z] at e
      obtain ⟨o', e', c', _⟩ := h1
      have := Option.some.inj (e.symm.trans e')
      rw [this, c'] at cl
      exact absurd (Value.type.inj cl) (by decide)
    · rw [z] at e
      obtain ⟨o', e', c', _⟩ := h2
      have := Option.some.inj (e.symm.trans e')
      rw [this, c'] at cl
      exact absurd (Value.type.inj cl) (by decide)
  obtain ⟨a1, a2, a3, a4⟩ := key l1
  obtain ⟨b1, b2, b3, b4⟩ := key l2
  exact ⟨(by show (n + 2 : Nat) ≠ (n + 4 : Nat); omega), (by show (n + 3 : Nat) ≠ (n + 4 : Nat); omega), (by show (n : Nat) ≠ (n + 4 : Nat); omega), (by show (n + 1 : Nat) ≠ (n + 4 : Nat); omega), (by show (n + 2 : Nat) ≠ (n + 3 : Nat); omega), (by show (n + 2 : Nat) ≠ (n : Nat); omega), (by show (n + 2 : Nat) ≠ (n + 1 : Nat); omega), (by show (n + 3 : Nat) ≠ (n : Nat); omega), (by show (n + 3 : Nat) ≠ (n + 1 : Nat); omega), (by show (n : Nat) ≠ (n + 1 : Nat); omega), a1, a2, a3, a4, b1, b2, b3, b4⟩
theorem turn_zip {P : Program} {w : World} {K : PySem.W.Frag} {elts : List Expr} {x1 : Nat} {pos : Pos} (a b n : Addr) :
    Turn P w K (.Tuple elts x1 pos) (Itz K a b) [n + 4, n + 2, n + 3, n, n + 1] (n + 4) (fun i h => IsZip h (n + 4) (n + 2) (n + 3) .none ∧ IsPair h (n + 2) (.ref n) (.ref (n + 1)) ∧ (∃ u v, IsPair h (n + 3) u v) ∧ h.IsListIter n a i ∧ h.IsListIter (n + 1) b i) where
  mem := by simp
  obj := fun i h st c hc => by
    obtain ⟨hz, hTI, ⟨u, v, hTO⟩, ⟨o1, e1, c1, d1⟩, ⟨o2, e2, c2, d2⟩⟩ := st
    simp only [List.mem_cons, List.not_mem_nil, or_false] at hc
    rcases hc with rfl | rfl | rfl | rfl | rfl
    · exact ⟨_, hz, fun v z => by cases z⟩
    · exact ⟨_, hTI, fun v z => by cases z⟩
    · exact ⟨_, hTO, fun v z => by cases z⟩
    · exact ⟨o1, e1, fun v z => by rw [d1] at z; cases z⟩
    · exact ⟨o2, e2, fun v z => by rw [d2] at z; cases z⟩
  keep := fun i h h' st k => by
    obtain ⟨hz, hTI, ⟨u, v, hTO⟩, h1, h2⟩ := st
    exact ⟨k _ (by simp) _ hz, k _ (by simp) _ hTI, ⟨u, v, k _ (by simp) _ hTO⟩, h1.at fun o q => k _ (by simp) o q, h2.at fun o q => k _ (by simp) o q⟩
  item := by
    intro X hP hw hK hc i pins s σ H E I hf st hg
    subst hP hw hK
    obtain ⟨xs, ys, x, y, hq, hq', hx, hy⟩ := hg
    obtain ⟨its, rv, p, hz0⟩ := I.list hq
    obtain ⟨its', rv', p', hz0'⟩ := I.list hq'
    obtain ⟨u, hu, ru⟩ := rv.get hx
    obtain ⟨u', hu', ru'⟩ := rv'.get hy
    obtain ⟨hz, hTI, ⟨v1, v2, hTO⟩, h1, h2⟩ := st
    have D := apart_of hz hTO h1 h2 p.isList p'.isList
    have nz : n + 4 < s.heap.objs.size := Heap.lt_size hz
    refine wpAny_pyNext_zip_item D hz hTI hTO h1 h2 p.isList p'.isList (x := u) (y := u') (by simpa using hu) (by simpa using hu') fun h' z' to' l1' l2' tup sz keep => ?_
    refine ⟨_, rfl, wpAny_letOwnedTupleGo_zip (s := { s with heap := h' }) z' fun h'' zn sb => ?_⟩
    have tup2 : h''.get? s.heap.objs.size = some { cls := .type "tuple", data := .seq #[u, u'] } := (sb.2 _ (Nat.ne_of_gt nz)).trans tup
    have I1 : Inv X pins σ H { s with heap := h'', toks := s.toks } := I.turnedL hf fun c o nc q => by
      simp only [List.mem_cons, List.not_mem_nil, or_false, not_or] at nc
      exact (sb.2 c nc.1).trans (keep c o nc.1 nc.2.2.1 nc.2.2.2.1 nc.2.2.2.2 q)
    have ft : FpOk X pins H s.heap.objs.size := I.fpOk (Nat.le_refl _) (I.hok.fresh (Nat.le_refl _))
    have I2 := I1.trackT (ys := [x, y]) (its := [u, u']) ft ⟨_, tup2, rfl, _, rfl⟩ (.cons ru (.cons ru' .nil)) (Nat.le_of_lt (small1000 (by show 2 ≤ 1000; decide)))
    refine ⟨.ref s.heap.objs.size, _, I2, rfl, ⟨_, x, y, rfl, ft.1, (fun zs hz => by rw [I.list_inj hz hq]; exact hx), (fun zs hz => by rw [I.list_inj hz hq']; exact hy), rfl⟩, ⟨zn, ?_, ⟨u, u', ?_⟩, ?_, ?_⟩, fun c hc => ?_⟩
    · exact (sb.2 _ D.TIz).trans (keep _ _ D.TIz D.TITO D.TIi1 D.TIi2 hTI)
    · exact (sb.2 _ D.TOz).trans to'
    · exact l1'.at fun o q => (sb.2 _ D.i1z).trans q
    · exact l2'.at fun o q => (sb.2 _ D.i2z).trans q
    · have hcn := (hf c hc).1
      have hle : c ≤ n + 4 := by
        simp only [List.mem_cons, List.not_mem_nil, or_false] at hc
        rcases hc with rfl | rfl | rfl | rfl | rfl
        · exact Nat.le_refl _
        · exact Nat.add_le_add_left (by decide) n
        · exact Nat.add_le_add_left (by decide) n
        · exact Nat.le_add_right _ _
        · exact Nat.add_le_add_left (by decide) n
      rw [upd_ne (Nat.ne_of_lt (Nat.lt_of_le_of_lt hle nz))]
      exact hcn
  done := by
    intro X hP hw hK hc i pins s σ H E I hf st hg
    subst hP hw hK
    obtain ⟨xs, ys, hq, hq', hx⟩ := hg
    obtain ⟨its, rv, p, hz0⟩ := I.list hq
    obtain ⟨its', rv', p', hz0'⟩ := I.list hq'
    obtain ⟨hz, hTI, ⟨v1, v2, hTO⟩, h1, h2⟩ := st
    have D := apart_of hz hTO h1 h2 p.isList p'.isList
    have hl := rv.length
    have hl' := rv'.length
    have hend : its.toArray[i]? = none ∨ its'.toArray[i]? = none := by
      rcases hx with z | z
      · left; simp; omega
      · right; simp; omega
    refine wpAny_pyNext_zip_end (I.ok.hd hc) D hz hTI hTO h1 h2 p.isList p'.isList hend fun h' keep => ⟨rfl, I.turnedL (t' := s.toks) hf fun c o nc q => ?_⟩
    simp only [List.mem_cons, List.not_mem_nil, or_false, not_or] at nc
    exact keep c o nc.1 nc.2.2.1 nc.2.2.2.1 nc.2.2.2.2 q
  self := fun _ _ _ _ _ st h => wpAny_pyIter_zip st.1 h
def iZip (K : PySem.W.Frag) (ta : TA) : TI := fun σ H R => ta σ H fun vs H1 => ∃ a b xs ys, vs = [.ref a, .ref b] ∧ SqL K H1 a xs ∧ SqL K H1 b ys ∧ R (Itz K a b) H1
theorem boot_zip : bootBuiltins "zip" = some (.type "zip") := by decide +kernel
section
variable {X : Cx}
theorem pi_zip (K : PySem.W.Frag) {elts : List Expr} {x1 : Nat} {tpos : Pos} {a b : Expr} {ta : TA} {p pos : Pos} (hg : Gl X "zip") (hm : X.mg "zip" = none) (ha : PA X [a, b] ta) (hs : starEach [a, b] X.env = (false, eval a X.env) :: starEach [b] X.env := by rfl) (hpl : (backTo pos (starEach [b] X.env)).any (·.1) = false := by rfl) (ek : X.K = K := by rfl) :
    PI X (.Tuple elts x1 tpos) (.Call (.Name "zip" p) [a, b] [] pos) (iZip K ta) := by
  subst ek
  intro pins s σ H R I h
  refine Call_ (ld_blt I hg hm boot_zip (PyProof.Rows.callWith_type1 (thn (ha pos pins s σ H _ I h) fun us s1 ⟨vs, H1, I1, r1, q1⟩ => ?_) hs hpl))
  obtain ⟨a, b, xs, ys, e, hq, hq', q⟩ := q1
  subst e
  obtain ⟨u, u', rfl, rx, rx'⟩ := vals2 r1
  cases rx
  cases rx'
  obtain ⟨its, rv, pl, hz⟩ := I1.list hq
  obtain ⟨its', rv', pl', hz'⟩ := I1.list hq'
  refine call_zip_2 pl.isList pl'.isList fun h' zn ti to li li' sz keep => ?_
  refine wpAny_pyIter_zip (s := { s1 with heap := h' }) zn ?_
  refine ⟨s1.heap.objs.size + 4, [s1.heap.objs.size + 4, s1.heap.objs.size + 2, s1.heap.objs.size + 3, s1.heap.objs.size, s1.heap.objs.size + 1], _, _, H1, rfl, I1.kept (t' := s1.toks) keep, turn_zip a b s1.heap.objs.size, ⟨zn, ti, ⟨_, _, to⟩, li, li'⟩, fun c hc => ?_, q⟩
  have hle : s1.heap.objs.size ≤ c := by
    simp only [List.mem_cons, List.not_mem_nil, or_false] at hc
    rcases hc with rfl | rfl | rfl | rfl | rfl
    · exact Nat.le_add_right _ _
    · exact Nat.le_add_right _ _
    · exact Nat.le_add_right _ _
    · exact Nat.le_refl _
    · exact Nat.le_add_right _ _
  exact I1.fpOk hle (I1.hok.fresh hle)
end
end L2
set_option Elab.async false
set_option linter.all false
set_option maxRecDepth 100000
namespace Pr
open PySem L2 PyProof.Rows
/-- a list or a tuple of ours -/
def Sq (H : Hp) (a : Addr) (xs : List V) : Prop := H a = some (.lst xs) ∨ H a = some (.tup xs)
theorem Sq.same {H H' : Hp} {a : Addr} {xs : List V} (h : Sq H a xs) (s : Same H H') : Sq H' a xs := by
  rcases h with h | h
  · exact .inl (s _ _ h)
  · exact .inr (s _ _ h)
theorem Sq.or {K : PySem.W.Frag} {H : Hp} {a : Addr} {xs : List V} (h : Sq H a xs) : SqL K H a xs ∨ SqT K H a xs := by
  rcases h with h | h
  · exact .inl (.of h)
  · exact .inr (.of h)
theorem two_line : 2 ≤ sizeLine := by decide
theorem iteB {c : Bool} {A B : Prop} (h1 : c = true → A) (h2 : c = false → B) : if c = true then A else B := by
  cases c with
  | true => rw [if_pos rfl]; exact h1 rfl
  | false => rw [if_neg Bool.false_ne_true]; exact h2 rfl
section
variable {P : Program} {w : World} {K : PySem.W.Frag} {mg : Str → Option Value} {base : Heap} {C : Addr}
/-! ### checks -/
theorem kit_int (K : PySem.W.Frag) : PySem.W.kitOne K (.type "int") (.type "int") = some true := by rfl
theorem kit_int_bool (K : PySem.W.Frag) : PySem.W.kitOne K (.type "int") (.type "bool") = some false := by rfl
theorem kit_lst (K : PySem.W.Frag) : PySem.W.kitAny K (.type "list") [.type "list", .type "tuple"] = some true := by rfl
theorem kit_tup (K : PySem.W.Frag) : PySem.W.kitAny K (.type "tuple") [.type "list", .type "tuple"] = some true := by rfl
/-- is_whole(an int) -/
inductive sp_is_whole (vs : List V) (H : Hp) (Q : VK) (E : XK) : Prop
  | mk (i : Int) (h0_ : vs = [.int i]) (h1_ : Q (.bl true) H) : sp_is_whole vs H Q E
theorem sc_is_whole : FnScope ["value"] ["value"] (defScope s_is_whole) := ⟨rfl, rfl, rfl, by decide +kernel, rfl, by decide +kernel, by decide +kernel⟩
theorem is_whole (T : Txt K mg C) : Can P w K mg base 1 "is_whole" ["value"] sp_is_whole := by
  refine fn_can T.f_is_whole sc_is_whole (fun vs H Q E h => ?_) (fun f cdv A outer s H vs Q E hr h => ?_)
  · obtain ⟨i, rfl, _⟩ := h
    rfl
  · obtain ⟨i, rfl, k⟩ := h
    refine ⟨_, pss_one (ps_ret (pe_and (pe_b call_isi1 T.b_isinstance boot_isinstance (pa2 (pv 0) (pe_ty rfl T.b_int boot_int))) (pe_one (pe_not (pe_b call_isi1 T.b_isinstance boot_isinstance (pa2 (pv 0) (pe_ty rfl T.b_bool boot_bool))))))), ?_⟩
    refine ⟨_, rfl, _, _, _, _, rfl, .int i, kit_int _, _, rfl, iteT ?_⟩
    exact ⟨_, rfl, _, _, _, _, rfl, .int i, kit_int_bool _, _, rfl, k⟩
/-- is_whole_from(ints) -/
inductive sp_is_whole_from (vs : List V) (H : Hp) (Q : VK) (E : XK) : Prop
  | mk (i : Int) (a : Int) (b : Int) (h0_ : vs = [.int i, .int a, .int b]) (h1_ : Q (.bl (decide (a ≤ i) && decide (i ≤ b))) H) : sp_is_whole_from vs H Q E
theorem sc_is_whole_from : FnScope ["value", "least", "greatest"] ["value", "least", "greatest"] (defScope s_is_whole_from) := ⟨rfl, rfl, rfl, by decide +kernel, rfl, by decide +kernel, by decide +kernel⟩
theorem is_whole_from (T : Txt K mg C) : Can P w K mg base 2 "is_whole_from" ["value", "least", "greatest"] sp_is_whole_from := by
  refine fn_can T.f_is_whole_from sc_is_whole_from (fun vs H Q E h => ?_) (fun f cdv A outer s H vs Q E hr h => ?_)
  · obtain ⟨i, a, b, rfl, _⟩ := h
    rfl
  · obtain ⟨i, a, b, rfl, k⟩ := h
    refine ⟨_, pss_one (ps_ret (pe_and (pe_can (is_whole T) hr (pa1 (pv 0))) (pe_one (pe_chain op_le op_le (pv 1) (pv 0) (pv 2))))), ?_⟩
    refine ⟨_, rfl, i, rfl, _, rfl, iteT ?_⟩
    refine ⟨_, rfl, _, rfl, _, _, rfl, rfl, _, rfl, ?_⟩
    refine iteB (fun h => ?_) (fun h => ?_)
    · rw [h, Bool.true_and] at k
      exact ⟨_, rfl, _, _, rfl, rfl, k⟩
    · rw [h, Bool.false_and] at k
      exact k
/-- is_wide(an int) -/
abbrev W30 : Int := 1000000000000000000000000000000
abbrev W40 : Int := 10000000000000000000000000000000000000000
inductive sp_is_wide (vs : List V) (H : Hp) (Q : VK) (E : XK) : Prop
  | mk (i : Int) (h0_ : vs = [.int i]) (h1_ : Q (.bl (decide (-W30 < i) && decide (i < W30))) H) : sp_is_wide vs H Q E
theorem sc_is_wide : FnScope ["value"] ["value"] (defScope s_is_wide) := ⟨rfl, rfl, rfl, by decide +kernel, rfl, by decide +kernel, by decide +kernel⟩
theorem is_wide (T : Txt K mg C) : Can P w K mg base 2 "is_wide" ["value"] sp_is_wide := by
  refine fn_can T.f_is_wide sc_is_wide (fun vs H Q E h => ?_) (fun f cdv A outer s H vs Q E hr h => ?_)
  · obtain ⟨i, rfl, _⟩ := h
    rfl
  · obtain ⟨i, rfl, k⟩ := h
    refine ⟨_, pss_one (ps_ret (pe_and (pe_can (is_whole T) hr (pa1 (pv 0))) (pe_one (pe_chain op_lt op_lt (pe_un un_neg (pe_gi T.c_WIDE_END)) (pv 0) (pe_gi T.c_WIDE_END))))), ?_⟩
    refine ⟨_, rfl, i, rfl, _, rfl, iteT ?_⟩
    refine ⟨_, rfl, _, rfl, _, _, rfl, rfl, _, rfl, ?_⟩
    refine iteB (fun h => ?_) (fun h => ?_)
    · rw [h, Bool.true_and] at k
      exact ⟨_, _, rfl, rfl, k⟩
    · rw [h, Bool.false_and] at k
      exact k
/-- is_list(a list, a tuple) -/
inductive sp_is_list (vs : List V) (H : Hp) (Q : VK) (E : XK) : Prop
  | mk (a : Addr) (xs : List V) (h0_ : vs = [.ref a]) (h1_ : Sq H a xs) (h2_ : ∀ H', Same H H' → Q (.bl true) H') : sp_is_list vs H Q E
theorem sc_is_list : FnScope ["value"] ["value"] (defScope s_is_list) := ⟨rfl, rfl, rfl, by decide +kernel, rfl, by decide +kernel, by decide +kernel⟩
theorem is_list (T : Txt K mg C) : Can P w K mg base 1 "is_list" ["value"] sp_is_list := by
  refine fn_can T.f_is_list sc_is_list (fun vs H Q E h => ?_) (fun f cdv A outer s H vs Q E hr h => ?_)
  · obtain ⟨a, xs, rfl, _⟩ := h
    rfl
  · obtain ⟨a, xs, rfl, hq, k⟩ := h
    refine ⟨_, pss_one (ps_ret (pe_b call_isi2 T.b_isinstance boot_isinstance (pa2 (pv 0) (pe_tup (pa2 (pe_ty rfl T.b_list boot_list) (pe_ty rfl T.b_tuple boot_tuple)))))), ?_⟩
    refine ⟨_, rfl, two_line, fun p hp => ?_⟩
    have s1 : ∀ o, Same H (upd H p o) := fun o => Same.upd hp
    rcases hq.same (s1 _) with hq | hq
    · exact ⟨_, _, p, _, _, _, rfl, .of upd_same, .lst hq, kit_lst _, k _ (s1 _)⟩
    · exact ⟨_, _, p, _, _, _, rfl, .of upd_same, .tup hq, kit_tup _, k _ (s1 _)⟩
/-- is_list_from(a list, a tuple; ints) -/
inductive sp_is_list_from (vs : List V) (H : Hp) (Q : VK) (E : XK) : Prop
  | mk (a : Addr) (xs : List V) (lo : Int) (hi : Int) (h0_ : vs = [.ref a, .int lo, .int hi]) (h1_ : Sq H a xs) (h2_ : ∀ H', Same H H' → Q (.bl (decide (lo ≤ (xs.length : Int)) && decide ((xs.length : Int) ≤ hi))) H') : sp_is_list_from vs H Q E
theorem sc_is_list_from : FnScope ["value", "fewest", "most"] ["value", "fewest", "most"] (defScope s_is_list_from) := ⟨rfl, rfl, rfl, by decide +kernel, rfl, by decide +kernel, by decide +kernel⟩
theorem is_list_from (T : Txt K mg C) : Can P w K mg base 2 "is_list_from" ["value", "fewest", "most"] sp_is_list_from := by
  refine fn_can T.f_is_list_from sc_is_list_from (fun vs H Q E h => ?_) (fun f cdv A outer s H vs Q E hr h => ?_)
  · obtain ⟨a, xs, lo, hi, rfl, _⟩ := h
    rfl
  · obtain ⟨a, xs, lo, hi, rfl, hq, k⟩ := h
    refine ⟨_, pss_one (ps_ret (pe_and (pe_can (is_list T) hr (pa1 (pv 0))) (pe_one (pe_chain op_le op_le (pv 1) (pe_b call_len_seq T.b_len boot_len (pa1 (pv 0))) (pv 2))))), ?_⟩
    refine ⟨_, rfl, a, xs, rfl, hq, fun H1 s1 => ⟨_, rfl, iteT ?_⟩⟩
    refine ⟨_, rfl, _, rfl, a, xs, rfl, (hq.same s1).or, _, _, rfl, rfl, _, rfl, ?_⟩
    have k1 := k H1 s1
    refine iteB (fun h => ?_) (fun h => ?_)
    · rw [h, Bool.true_and] at k1
      exact ⟨_, rfl, _, _, rfl, rfl, k1⟩
    · rw [h, Bool.false_and] at k1
      exact k1
/-- need_roll, need_number where there is nothing to refuse -/
inductive sp_need_roll (vs : List V) (H : Hp) (Q : VK) (E : XK) : Prop
  | mk (i : Int) (a : Int) (b : Int) (h0_ : vs = [.int i, .int a, .int b]) (h1_ : a ≤ i) (h2_ : i ≤ b) (h3_ : Q .non H) : sp_need_roll vs H Q E
theorem sc_need_roll : FnScope ["value", "least", "greatest"] ["value", "least", "greatest"] (defScope s_need_roll) := ⟨rfl, rfl, rfl, by decide +kernel, rfl, by decide +kernel, by decide +kernel⟩
theorem need_roll (T : Txt K mg C) : Can P w K mg base 3 "need_roll" ["value", "least", "greatest"] sp_need_roll := by
  refine fn_can T.f_need_roll sc_need_roll (fun vs H Q E h => ?_) (fun f cdv A outer s H vs Q E hr h => ?_)
  · obtain ⟨i, a, b, rfl, _⟩ := h
    rfl
  · obtain ⟨i, a, b, rfl, h1, h2, k⟩ := h
    refine ⟨_, pss_one (ps_if (pt_not (pt_val (pe_can (is_whole_from T) hr (pa3 (pv 0) (pv 1) (pv 2))))) pss_never pss_nil), ?_⟩
    refine ⟨_, rfl, _, rfl, _, rfl, i, a, b, rfl, _, rfl, ?_⟩
    rw [decide_eq_true h1, decide_eq_true h2]
    exact iteF k
inductive sp_need_number (vs : List V) (H : Hp) (Q : VK) (E : XK) : Prop
  | mk (i : Int) (h0_ : vs = [.int i]) (h1_ : -W40 < i) (h2_ : i < W40) (h3_ : Q .non H) : sp_need_number vs H Q E
theorem sc_need_number : FnScope ["value"] ["value"] (defScope s_need_number) := ⟨rfl, rfl, rfl, by decide +kernel, rfl, by decide +kernel, by decide +kernel⟩
theorem need_number (T : Txt K mg C) : Can P w K mg base 2 "need_number" ["value"] sp_need_number := by
  refine fn_can T.f_need_number sc_need_number (fun vs H Q E h => ?_) (fun f cdv A outer s H vs Q E hr h => ?_)
  · obtain ⟨i, rfl, _⟩ := h
    rfl
  · obtain ⟨i, rfl, h1, h2, k⟩ := h
    refine ⟨_, pss_one (ps_if (pw_or (pt_not (pt_val (pe_can (is_whole T) hr (pa1 (pv 0))))) (pw_or1 (pt_not (pt_chain op_lt op_lt (pe_un un_neg (pe_gi T.c_NUMBER_END)) (pv 0) (pe_gi T.c_NUMBER_END))))).pt pss_never pss_nil), ?_⟩
    refine ⟨_, rfl, i, rfl, _, rfl, iteF ?_⟩
    refine ⟨_, rfl, _, rfl, _, _, rfl, rfl, _, rfl, ?_⟩
    rw [decide_eq_true h1]
    refine iteT ⟨_, _, rfl, rfl, _, rfl, ?_⟩
    rw [decide_eq_true h2]
    exact iteF k
/-! ### rounds -/
theorem atI_ints {S : List Int} {i : Int} (h0 : 0 ≤ i) (h1 : i < (S.length : Int)) : atI (S.map V.int) i = some (.int (S.getD i.toNat 0)) := by
  obtain ⟨n, rfl⟩ : ∃ n : Nat, i = n := ⟨i.toNat, by omega⟩
  refine atI_nat ?_
  rw [Int.toNat_natCast, List.getElem?_map, List.getElem?_eq_getElem (by omega), List.getD_eq_getElem?_getD, List.getElem?_eq_getElem (by omega)]
  rfl
end
end Pr
set_option Elab.async false
set_option linter.all false
set_option maxRecDepth 100000
namespace L2
open PySem PySem.Spec PyProof.Rows
section
variable {X : Cx}
/-- o[i] of a list or a tuple -/
def rIxO : R2 := fun x y H Q => ∃ p o xs i v, x = .ref p ∧ y = .int i ∧ H p = some o ∧ Ob o xs ∧ atI xs i = some v ∧ Q v H
theorem ix_ob : IxR X rIxO := by
  intro value slice pins s σ H x y v u Q I rx ry h hs
  obtain ⟨p, o, xs, i, z, e1, e2, hp, ho, he, q⟩ := h
  exact ix_sq value slice pins s σ H x y v u Q I rx ry ⟨p, xs, i, z, e1, e2, ho.sq hp, he, q⟩ hs
/-- tuple(..) of a list or a tuple -/
theorem call_tup_ob : CallR X (.type "tuple") (fun xs H Q => ∃ a o ys, xs = [.ref a] ∧ H a = some o ∧ Ob o ys ∧ ∀ l H', Same H H' → H' l = some (.tup ys) → Q (.ref l) H') := by
  intro pins s σ H xs us Q I r h
  obtain ⟨a, o, ys, e1, ha, ho, q⟩ := h
  refine call_tuple_of pins s σ H xs us Q I r ⟨a, ys, e1, ?_⟩
  rcases ho with ho | ho
  · subst ho
    exact .inl ⟨.of ha, fun l hl => q l _ (Same.upd hl) upd_same⟩
  · subst ho
    exact .inr ⟨.of ha, q a H (Same.refl _) ha⟩
end
end L2
set_option Elab.async false
set_option linter.all false
set_option maxRecDepth 100000
namespace Pr
open PySem L2 PyProof.Rows
theorem _root_.L2.Ob.to {H : Hp} {a : Addr} {o : HO} {xs : List V} (h : Ob o xs) (e : H a = some o) : Sq H a xs := by
  rcases h with h | h
  · subst h; exact .inl e
  · subst h; exact .inr e
theorem _root_.L2.Ob.ne {H : Hp} {a p C dx : Addr} {o : HO} {xs : List V} {fs : List (Str × V)} (h : Ob o xs) (e : H a = some o) (hp : H p = some (.ins C dx fs)) : a ≠ p := by
  rcases h with h | h
  · subst h; exact ne_of e hp (by intro z; cases z)
  · subst h; exact ne_of e hp (by intro z; cases z)
def partB (i : Int) : Bool := (decide (-1000000000 ≤ i) && decide (i ≤ 1000000000)) && !decide (i = 0)
def sizeB (i : Int) : Bool := decide (1 ≤ i) && decide (i ≤ 1000)
def wideB (i : Int) : Bool := decide (-W30 < i) && decide (i < W30)
def lenB (lo hi : Int) (n : Nat) : Bool := decide (lo ≤ (n : Int)) && decide ((n : Int) ≤ hi)
def headB (ps : List Int) : Bool := decide (0 < ps.headD 0)
def partsB (ps : List Int) : Bool := lenB 1 12 ps.length && (ps.all partB && headB ps)
def sizesB (S : List Int) : Bool := lenB 1 12 S.length && S.all sizeB
def rowB (s : Lad.Step) : Bool := wideB s.1 && sizesB s.2
def rowsB (rows : List Lad.Step) : Bool := lenB 0 4 rows.length && rows.all rowB
section
variable {P : Program} {w : World} {K : PySem.W.Frag} {mg : Str → Option Value} {base : Heap} {C : Addr}
inductive sp_is_part (vs : List V) (H : Hp) (Q : VK) (E : XK) : Prop
  | mk (i : Int) (h0_ : vs = [.int i]) (h1_ : Q (.bl (partB i)) H) : sp_is_part vs H Q E
theorem sc_is_part : FnScope ["value"] ["value"] (defScope s_is_part) := ⟨rfl, rfl, rfl, by decide +kernel, rfl, by decide +kernel, by decide +kernel⟩
theorem is_part (T : Txt K mg C) : Can P w K mg base 3 "is_part" ["value"] sp_is_part := by
  refine fn_can T.f_is_part sc_is_part (fun vs H Q E h => ?_) (fun f cdv A outer s H vs Q E hr h => ?_)
  · obtain ⟨i, rfl, _⟩ := h
    rfl
  · obtain ⟨i, rfl, k⟩ := h
    refine ⟨_, pss_one (ps_ret (pe_and (pe_can (is_whole_from T) hr (pa3 (pv 0) (pe_un un_neg (pe_gi T.c_MOST_LENGTH)) (pe_gi T.c_MOST_LENGTH))) (pe_one (pe_cmpR op_ne (pv 0) pe_int (nomark _))))), ?_⟩
    refine ⟨_, rfl, _, rfl, _, _, _, rfl, _, rfl, ?_⟩
    have e : decide (V.int i = V.int 0) = decide (i = 0) := by rw [dec_int]; exact Bool.beq_eq_decide_eq i 0
    unfold partB at k
    refine iteB (fun h => ?_) (fun h => ?_)
    · have h' : (decide (-1000000000 ≤ i) && decide (i ≤ 1000000000)) = true := h
      rw [h', Bool.true_and, ← e] at k
      exact ⟨_, rfl, rfl, k⟩
    · have h' : (decide (-1000000000 ≤ i) && decide (i ≤ 1000000000)) = false := h
      rw [h', Bool.false_and] at k
      exact k
/-- all([f(x) for x in value]) over a list -/
theorem all_map (f : Int → Bool) (S : List Int) : ((S.map f).all id) = S.all f := by rw [List.all_map]; rfl
inductive sp_are_parts (vs : List V) (H : Hp) (Q : VK) (E : XK) : Prop
  | mk (a : Addr) (o : HO) (ps : List Int) (h0_ : vs = [.ref a]) (h1_ : H a = some o) (h2_ : Ob o (ps.map V.int)) (h3_ : ps.length ≤ 1000) (h4_ : ∀ H', Same H H' → Q (.bl (partsB ps)) H') : sp_are_parts vs H Q E
theorem sc_are_parts : FnScope ["value"] ["value"] (defScope s_are_parts) := ⟨rfl, rfl, rfl, by decide +kernel, rfl, by decide +kernel, by decide +kernel⟩
theorem int_of_map {S : List Int} {i : Nat} {x : V} (e : (S.map V.int)[i]? = some x) : ∃ n, S[i]? = some n ∧ x = .int n := by
  rw [List.getElem?_map] at e
  cases q : S[i]? with
  | none => rw [q] at e; cases e
  | some n => rw [q] at e; exact ⟨n, rfl, (Option.some.inj e).symm⟩
theorem take_map_snoc {α β : Type} {S : List α} {i : Nat} {n : α} (f : α → β) (e : S[i]? = some n) : (S.take i).map f ++ [f n] = (S.take (i + 1)).map f := by
  rw [List.take_add_one, e, List.map_append]
  rfl
theorem are_parts (T : Txt K mg C) : Can P w K mg base 4 "are_parts" ["value"] sp_are_parts := by
  refine fn_can T.f_are_parts sc_are_parts (fun vs H Q E h => ?_) (fun f cdv A outer s H vs Q E hr h => ?_)
  · obtain ⟨a, o, ps, rfl, _⟩ := h
    rfl
  · obtain ⟨a, o, ps, rfl, ha, ho, hlen, k⟩ := h
    refine ⟨_, pss_one (ps_ret (pe_and (pe_can (is_list_from T) hr (pa3 (pv 0) pe_int (pe_gi T.c_MOST_PARTS)))
      (pe_and (pe_b (call_all_seq rfl) T.b_all boot_all (pa1 (pe_lc rfl (lcS sc_are_parts) (pi_seq (pv 0)) (fun _ _ _ _ => pts_nil) (fun _ _ _ _ => pe_can (is_part T) hr (pa1 (pv 0))))))
      (pe_one (pe_cmpR op_gt (pe_ix ix_ob (pv 0) pe_int (fun _ _ => rfl)) pe_int (nomark _)))))), ?_⟩
    refine ⟨_, rfl, a, _, _, _, rfl, ho.to ha, fun H1 s1 => ⟨_, rfl, ?_⟩⟩
    have ha1 := s1 _ _ ha
    refine iteB (fun h => ?_) (fun h => ?_)
    · have h' : lenB 1 12 ps.length = true := by unfold lenB; rw [List.length_map] at h; exact h
      refine ⟨_, rfl, a, o, _, rfl, ha1, ho, fun J hJ D hD => ?_⟩
      refine lc_it hJ (fun i ys H2 => ys = ((ps.take i).map partB).map V.bl ∧ Same H1 H2 ∧ H2 D = some (.lst ys)) ⟨rfl, Same.upd hD, upd_same⟩ (fun i ys H2 ⟨_, s2, d⟩ => ⟨d, s2 _ _ ha1⟩) (fun ys H2 ⟨e, s2, d⟩ => ?_) (fun i x ys H2 hi hx ⟨e, s2, d⟩ => ?_)
      · rw [List.length_map, List.take_length] at e
        subst e
        refine ⟨D, ps.map partB, rfl, .of d, _, rfl, ?_⟩
        rw [all_map]
        have k2 := k _ (s1.trans s2)
        unfold partsB at k2
        rw [h', Bool.true_and] at k2
        refine iteB (fun h2 => ?_) (fun h2 => ?_)
        · rw [h2, Bool.true_and] at k2
          have hne : 1 ≤ ps.length := by
            unfold lenB at h'
            rw [Bool.and_eq_true, decide_eq_true_eq] at h'
            omega
          refine ⟨_, rfl, a, o, _, _, _, rfl, rfl, s2 _ _ ha1, ho, atI_ints (i := 0) (by omega) (by omega), _, _, rfl, rfl, ?_⟩
          have e : headB ps = decide (0 < ps.getD 0 0) := by
            unfold headB
            cases ps <;> rfl
          rw [e] at k2
          exact k2
        · rw [h2, Bool.false_and] at k2
          exact k2
      · obtain ⟨n, hn, rfl⟩ := int_of_map hx
        rw [List.length_map] at hi
        refine yesI ⟨_, rfl, n, rfl, LcNx.mk (by rw [List.length_map]; exact hi) (by rw [List.length_map]; exact hlen) (by rw [e, List.length_map, List.length_map, List.length_take]; omega) d ⟨?_, ?_, upd_same⟩⟩
        · rw [e, ← take_map_snoc partB hn, List.map_append]
          rfl
        · exact fun b o z => by rw [upd_ne (ne_of_none z hD)]; exact s2 b o z
    · have h' : lenB 1 12 ps.length = false := by unfold lenB; rw [List.length_map] at h; exact h
      have k2 := k _ s1
      unfold partsB at k2
      rw [h', Bool.false_and] at k2
      exact k2
inductive sp_are_sizes (vs : List V) (H : Hp) (Q : VK) (E : XK) : Prop
  | mk (a : Addr) (o : HO) (S : List Int) (h0_ : vs = [.ref a]) (h1_ : H a = some o) (h2_ : Ob o (S.map V.int)) (h3_ : S.length ≤ 1000) (h4_ : ∀ H', Same H H' → Q (.bl (sizesB S)) H') : sp_are_sizes vs H Q E
theorem sc_are_sizes : FnScope ["value"] ["value"] (defScope s_are_sizes) := ⟨rfl, rfl, rfl, by decide +kernel, rfl, by decide +kernel, by decide +kernel⟩
theorem are_sizes (T : Txt K mg C) : Can P w K mg base 3 "are_sizes" ["value"] sp_are_sizes := by
  refine fn_can T.f_are_sizes sc_are_sizes (fun vs H Q E h => ?_) (fun f cdv A outer s H vs Q E hr h => ?_)
  · obtain ⟨a, o, S, rfl, _⟩ := h
    rfl
  · obtain ⟨a, o, S, rfl, ha, ho, hlen, k⟩ := h
    refine ⟨_, pss_one (ps_ret (pe_and (pe_can (is_list_from T) hr (pa3 (pv 0) pe_int (pe_gi T.c_MOST_SIZES)))
      (pe_one (pe_b (call_all_seq rfl) T.b_all boot_all (pa1 (pe_lc rfl (lcS sc_are_sizes) (pi_seq (pv 0)) (fun _ _ _ _ => pts_nil) (fun _ _ _ _ => pe_can (is_whole_from T) hr (pa3 (pv 0) pe_int (pe_gi T.c_MOST_SIZE))))))))), ?_⟩
    refine ⟨_, rfl, a, _, _, _, rfl, ho.to ha, fun H1 s1 => ⟨_, rfl, ?_⟩⟩
    have ha1 := s1 _ _ ha
    refine iteB (fun h => ?_) (fun h => ?_)
    · have h' : lenB 1 12 S.length = true := by unfold lenB; rw [List.length_map] at h; exact h
      refine ⟨_, rfl, a, o, _, rfl, ha1, ho, fun J hJ D hD => ?_⟩
      refine lc_it hJ (fun i ys H2 => ys = ((S.take i).map sizeB).map V.bl ∧ Same H1 H2 ∧ H2 D = some (.lst ys)) ⟨rfl, Same.upd hD, upd_same⟩ (fun i ys H2 ⟨_, s2, d⟩ => ⟨d, s2 _ _ ha1⟩) (fun ys H2 ⟨e, s2, d⟩ => ?_) (fun i x ys H2 hi hx ⟨e, s2, d⟩ => ?_)
      · rw [List.length_map, List.take_length] at e
        subst e
        refine ⟨D, S.map sizeB, rfl, .of d, ?_⟩
        rw [all_map]
        have k2 := k _ (s1.trans s2)
        unfold sizesB at k2
        rw [h', Bool.true_and] at k2
        exact k2
      · obtain ⟨n, hn, rfl⟩ := int_of_map hx
        rw [List.length_map] at hi
        refine yesI ⟨_, rfl, _, _, _, rfl, LcNx.mk (by rw [List.length_map]; exact hi) (by rw [List.length_map]; exact hlen) (by rw [e, List.length_map, List.length_map, List.length_take]; omega) d ⟨?_, ?_, upd_same⟩⟩
        · rw [e, ← take_map_snoc sizeB hn, List.map_append]
          rfl
        · exact fun b o z => by rw [upd_ne (ne_of_none z hD)]; exact s2 b o z
    · have h' : lenB 1 12 S.length = false := by unfold lenB; rw [List.length_map] at h; exact h
      have k2 := k _ s1
      unfold sizesB at k2
      rw [h', Bool.false_and] at k2
      exact k2
/-- a row as it is handed in: a pair, its sizes, each a list or a tuple -/
inductive RowG (H : Hp) (v : V) (s : Lad.Step) : Prop
  | mk (r : Addr) (l : Addr) (o1 : HO) (o2 : HO) (h0_ : v = .ref r) (h1_ : H r = some o1) (h2_ : Ob o1 [.int s.1, .ref l]) (h3_ : H l = some o2) (h4_ : Ob o2 (s.2.map V.int)) (h5_ : s.2.length ≤ 1000) : RowG H v s
theorem RowG.same {H H' : Hp} (e : Same H H') {v : V} {s : Lad.Step} (h : RowG H v s) : RowG H' v s := by
  obtain ⟨r, l, o1, o2, e1, h1, h2, h3, h4, h5⟩ := h
  exact ⟨r, l, o1, o2, e1, e _ _ h1, h2, e _ _ h3, h4, h5⟩
inductive sp_is_row (vs : List V) (H : Hp) (Q : VK) (E : XK) : Prop
  | mk (v : V) (st : Lad.Step) (h0_ : vs = [v]) (h1_ : RowG H v st) (h2_ : ∀ H', Same H H' → Q (.bl (rowB st)) H') : sp_is_row vs H Q E
theorem sc_is_row : FnScope ["value"] ["value"] (defScope s_is_row) := ⟨rfl, rfl, rfl, by decide +kernel, rfl, by decide +kernel, by decide +kernel⟩
theorem is_row (T : Txt K mg C) : Can P w K mg base 4 "is_row" ["value"] sp_is_row := by
  refine fn_can T.f_is_row sc_is_row (fun vs H Q E h => ?_) (fun f cdv A outer s H vs Q E hr h => ?_)
  · obtain ⟨v, st, rfl, _⟩ := h
    rfl
  · obtain ⟨v, st, rfl, ⟨r, l, o1, o2, rfl, hr1, ho1, hl1, ho2, hlen⟩, k⟩ := h
    refine ⟨_, pss_one (ps_ret (pe_and (pe_can (is_list_from T) hr (pa3 (pv 0) pe_int pe_int))
      (pe_and (pe_can (is_wide T) hr (pa1 (pe_ix ix_ob (pv 0) pe_int (fun _ _ => rfl)))) (pe_one (pe_can (are_sizes T) hr (pa1 (pe_ix ix_ob (pv 0) pe_int (fun _ _ => rfl)))))))), ?_⟩
    refine ⟨_, rfl, r, _, _, _, rfl, ho1.to hr1, fun H1 s1 => ⟨_, rfl, iteT ?_⟩⟩
    have hr2 := s1 _ _ hr1
    have hl2 := s1 _ _ hl1
    refine ⟨_, rfl, r, o1, _, _, _, rfl, rfl, hr2, ho1, rfl, _, rfl, _, rfl, ?_⟩
    refine iteB (fun h => ?_) (fun h => ?_)
    · refine ⟨_, rfl, r, o1, _, _, _, rfl, rfl, hr2, ho1, rfl, l, o2, st.2, rfl, hl2, ho2, hlen, fun H2 s2 => ?_⟩
      have k2 := k _ (s1.trans s2)
      unfold rowB wideB at k2
      rw [h, Bool.true_and] at k2
      exact k2
    · have k2 := k _ s1
      unfold rowB wideB at k2
      rw [h, Bool.false_and] at k2
      exact k2
inductive sp_are_rows (vs : List V) (H : Hp) (Q : VK) (E : XK) : Prop
  | mk (a : Addr) (o : HO) (us : List V) (rows : List Lad.Step) (h0_ : vs = [.ref a]) (h1_ : H a = some o) (h2_ : Ob o us) (h3_ : Paired (RowG H) us rows) (h4_ : rows.length ≤ 1000) (h5_ : ∀ H', Same H H' → Q (.bl (rowsB rows)) H') : sp_are_rows vs H Q E
theorem sc_are_rows : FnScope ["value"] ["value"] (defScope s_are_rows) := ⟨rfl, rfl, rfl, by decide +kernel, rfl, by decide +kernel, by decide +kernel⟩
theorem all_mapS (f : Lad.Step → Bool) (S : List Lad.Step) : ((S.map f).all id) = S.all f := by rw [List.all_map]; rfl
theorem are_rows (T : Txt K mg C) : Can P w K mg base 5 "are_rows" ["value"] sp_are_rows := by
  refine fn_can T.f_are_rows sc_are_rows (fun vs H Q E h => ?_) (fun f cdv A outer s H vs Q E hr h => ?_)
  · obtain ⟨a, o, us, rows, rfl, _⟩ := h
    rfl
  · obtain ⟨a, o, us, rows, rfl, ha, ho, hp, hlen, k⟩ := h
    refine ⟨_, pss_one (ps_ret (pe_and (pe_can (is_list_from T) hr (pa3 (pv 0) pe_int (pe_gi T.c_MOST_ROWS)))
      (pe_one (pe_b (call_all_seq rfl) T.b_all boot_all (pa1 (pe_lc rfl (lcS sc_are_rows) (pi_seq (pv 0)) (fun _ _ _ _ => pts_nil) (fun _ _ _ _ => pe_can (is_row T) hr (pa1 (pv 0))))))))), ?_⟩
    have hl : us.length = rows.length := Paired.length hp
    refine ⟨_, rfl, a, _, _, _, rfl, ho.to ha, fun H1 s1 => ⟨_, rfl, ?_⟩⟩
    have ha1 := s1 _ _ ha
    refine iteB (fun h => ?_) (fun h => ?_)
    · have h' : lenB 0 4 rows.length = true := by unfold lenB; rw [hl] at h; exact h
      refine ⟨_, rfl, a, o, _, rfl, ha1, ho, fun J hJ D hD => ?_⟩
      refine lc_it hJ (fun i ys H2 => ys = ((rows.take i).map rowB).map V.bl ∧ Same H1 H2 ∧ H2 D = some (.lst ys)) ⟨rfl, Same.upd hD, upd_same⟩ (fun i ys H2 ⟨_, s2, d⟩ => ⟨d, s2 _ _ ha1⟩) (fun ys H2 ⟨e, s2, d⟩ => ?_) (fun i x ys H2 hi hx ⟨e, s2, d⟩ => ?_)
      · rw [hl, List.take_length] at e
        subst e
        refine ⟨D, rows.map rowB, rfl, .of d, ?_⟩
        rw [all_mapS]
        have k2 := k _ (s1.trans s2)
        unfold rowsB at k2
        rw [h', Bool.true_and] at k2
        exact k2
      · obtain ⟨st, hn, hst⟩ := Paired.get hp hx
        refine yesI ⟨_, rfl, _, st, rfl, (hst.same s1).same s2, fun H3 s3 => LcNx.mk hi (by omega) (by rw [e, List.length_map, List.length_map, List.length_take]; omega) (s3 _ _ d) ⟨?_, ?_, upd_same⟩⟩
        · rw [e, ← take_map_snoc rowB hn, List.map_append]
          rfl
        · exact fun b o z => by rw [upd_ne (ne_of_none z hD)]; exact s3 b o (s2 b o z)
    · have h' : lenB 0 4 rows.length = false := by unfold lenB; rw [hl] at h; exact h
      have k2 := k _ s1
      unfold rowsB at k2
      rw [h', Bool.false_and] at k2
      exact k2
/-! ### bar_lengths -/
inductive sp_bar_lengths (vs : List V) (H : Hp) (Q : VK) (E : XK) : Prop
  | mk (a : Addr) (o : HO) (ps : List Int) (h0_ : vs = [.ref a]) (h1_ : H a = some o) (h2_ : Ob o (ps.map V.int)) (h3_ : Lad.PartsOk ps) (h4_ : ps.length ≤ 1000) (h5_ : ∀ l H', Same H H' → H l = none → H' l = some (.lst ((Lad.bars ps).map V.int)) → Q (.ref l) H') : sp_bar_lengths vs H Q E
theorem sc_bar_lengths : FnScope ["parts", "lengths", "part"] ["parts"] (defScope s_bar_lengths) := ⟨rfl, rfl, rfl, by decide +kernel, rfl, by decide +kernel, by decide +kernel⟩
theorem addPart_len (acc : List Int) (p : Int) : (Lad.addPart acc p).length ≤ acc.length + 1 := by
  unfold Lad.addPart
  split
  · simp
  · rw [List.length_append, List.length_dropLast, List.length_singleton]; omega
theorem foldl_len : ∀ (ps acc : List Int), (ps.foldl Lad.addPart acc).length ≤ acc.length + ps.length
  | [], acc => by simp
  | p :: r, acc => by
    rw [List.foldl_cons, List.length_cons]
    have h1 := foldl_len r (Lad.addPart acc p)
    have h2 := addPart_len acc p
    omega
theorem foldl_ne : ∀ (ps acc : List Int), acc ≠ [] → ps.foldl Lad.addPart acc ≠ []
  | [], acc, h => h
  | p :: r, acc, h => by
    rw [List.foldl_cons]
    refine foldl_ne r _ ?_
    unfold Lad.addPart
    split <;> simp
theorem bar_lengths (T : Txt K mg C) : Can P w K mg base 1 "bar_lengths" ["parts"] sp_bar_lengths := by
  refine fn_can T.f_bar_lengths sc_bar_lengths (fun vs H Q E h => ?_) (fun f cdv A outer s H vs Q E hr h => ?_)
  · obtain ⟨a, o, ps, rfl, _⟩ := h
    rfl
  · obtain ⟨a, o, ps, rfl, ha, ho, hok, hlen, k⟩ := h
    refine ⟨_, pss_cons (ps_set (i := 1) sc_bar_lengths.nd rfl (Or.inl rfl) (pe_lst pa_nil))
      (pss_cons (ps_for PassesOwn.never rfl (pi_seq (pv 0)) (pg_name (i := 2) sc_bar_lengths.nd rfl (Or.inl rfl))
        (pss_one (ps_if (pt_cmpR op_gt (pv 2) pe_int (nomark _))
          (pss_one (ps_expr (pe_bm PySem.F.plainAttrs_list PySem.F.slot_list_append PySem.F.type_list_append mt_append (pv 1) (pa1 (pv 2)))))
          (pss_one (ps_augS (pv 1) (pe_un un_neg pe_int) pget_list (pv 2) ip_sub set_list)))))
      (pss_one (ps_ret (pv 1)))), ?_⟩
    refine ⟨Nat.zero_le _, fun l hl => ?_⟩
    have s1 : ∀ o, Same H (upd H l o) := fun o => Same.upd hl
    refine ⟨_, rfl, a, o, _, rfl, s1 _ _ _ ha, ho, fun J hJ => for_it hJ (fun i σ H2 => ∃ v, σ = [some (.ref a), some (.ref l), v] ∧ Same H H2 ∧ H2 l = some (.lst (((ps.take i).foldl Lad.addPart []).map V.int)))
      ⟨none, rfl, s1 _, upd_same⟩ (fun i σ H2 _ ⟨_, _, s2, _⟩ => s2 _ _ ha) ?_ ?_⟩
    · rintro i x σ H2 hx ⟨v, rfl, s2, d⟩
      obtain ⟨n, hn, rfl⟩ := int_of_map hx
      have hi : i < ps.length := (List.getElem?_eq_some_iff.mp hn).1
      have hfl := foldl_len (ps.take i) []
      rw [List.length_take, List.length_nil] at hfl
      have e1 : (ps.take (i + 1)).foldl Lad.addPart [] = Lad.addPart ((ps.take i).foldl Lad.addPart []) n := by
        rw [List.take_add_one, hn, List.foldl_append]
        rfl
      refine ⟨_, rfl, _, _, rfl, rfl, _, rfl, ?_⟩
      refine ite2 (fun hc => ?_) (fun hc => ?_)
      · have hc : 0 < n := of_decide_eq_true hc
        refine ⟨_, rfl, .inl ⟨rfl, _, .of d⟩, _, rfl, l, _, _, rfl, rfl, d, small1000 (by rw [List.length_map]; omega), _, rfl, ?_, ?_⟩
        · exact fun b o z => by rw [upd_ne (ne_of_none z hl)]; exact s2 b o z
        · rw [upd_same, e1]
          unfold Lad.addPart
          rw [if_pos hc, List.map_append]
          rfl
      · have hc : ¬ 0 < n := fun z => hc (decide_eq_true z)
        have hi0 : i ≠ 0 := by
          rintro rfl
          obtain ⟨_, p, r, rfl, hp⟩ := hok
          have : n = p := by simpa using hn.symm
          omega
        have hne : (ps.take i).foldl Lad.addPart [] ≠ [] := by
          obtain ⟨hz, p, r, rfl, hp⟩ := hok
          obtain ⟨j, rfl⟩ : ∃ j, i = j + 1 := ⟨i - 1, by omega⟩
          rw [List.take_succ_cons, List.foldl_cons]
          refine foldl_ne _ _ ?_
          unfold Lad.addPart
          rw [if_pos hp]
          simp
        generalize hL : (ps.take i).foldl Lad.addPart [] = L at *
        obtain ⟨L0, z, rfl⟩ : ∃ L0 z, L = L0 ++ [z] := ⟨L.dropLast, L.getLast hne, (List.dropLast_concat_getLast hne).symm⟩
        have ez : (L0 ++ [z]).map V.int = L0.map V.int ++ [V.int z] := by rw [List.map_append]; rfl
        rw [ez] at d
        have eix : ixN (L0.map V.int ++ [V.int z]).length (-1) = some L0.length := by
          unfold ixN
          rw [if_neg (by omega), List.length_append, List.length_map, List.length_singleton, if_pos (by omega)]
          congr 1
          omega
        refine ⟨_, rfl, _, rfl, l, _, _, _, rfl, rfl, .of d, atI_last _ _, _, rfl, _, _, rfl, rfl, l, _, _, _, rfl, rfl, d, eix, _, rfl, ?_, ?_⟩
        · exact fun b o q => by rw [upd_ne (ne_of_none q hl)]; exact s2 b o q
        · rw [upd_same, e1]
          unfold Lad.addPart
          rw [if_neg hc]
          congr 2
          rw [List.map_append, List.dropLast_concat, List.getLastD_concat, List.set_append_right _ _ (by rw [List.length_map]; exact Nat.le_refl _), List.length_map, Nat.sub_self]
          rfl
    · rintro σ H2 ⟨v, rfl, s2, d⟩
      rw [List.length_map, List.take_length, Lad.foldl_bars hok] at d
      exact ⟨_, rfl, k l H2 s2 hl d⟩
end
end Pr
set_option Elab.async false
set_option linter.all false
set_option maxRecDepth 100000
namespace Pr
open PySem L2 PyProof.Rows
/-! ### a ladder -/
def flds (a o c : Addr) : List (Str × V) := putF "steps" (.ref c) (putF "open_lengths" (.ref o) (putF "part_lengths" (.ref a) []))
theorem flds_steps (a o c : Addr) : (flds a o c).lookup ("steps" : Str) = some (.ref c) := by
  unfold flds; rw [lookup_putF, if_pos rfl]
theorem flds_no (a o c : Addr) {m : Str} (h1 : ¬ m = "steps") (h2 : ¬ m = "open_lengths") (h3 : ¬ m = "part_lengths") : (flds a o c).lookup m = none := by
  unfold flds
  rw [lookup_putF, if_neg h1, lookup_putF, if_neg h2, lookup_putF, if_neg h3]
  rfl
inductive StepAt (H : Hp) (v : V) (s : Lad.Step) : Prop
  | mk (r : Addr) (l : Addr) (h0_ : v = .ref r) (h1_ : H r = some (.tup [.int s.1, .ref l])) (h2_ : H l = some (.tup (s.2.map V.int))) : StepAt H v s
theorem StepAt.same {H H' : Hp} (e : Same H H') {v : V} {s : Lad.Step} (h : StepAt H v s) : StepAt H' v s := by
  obtain ⟨r, l, e1, h1, h2⟩ := h
  exact ⟨r, l, e1, e _ _ h1, e _ _ h2⟩
theorem RowG.but {p : Addr} {H H' : Hp} (e : But p H H') {C dx : Addr} {fs : List (Str × V)} (hp : H p = some (.ins C dx fs)) {v : V} {s : Lad.Step} (h : RowG H v s) : RowG H' v s := by
  obtain ⟨r, l, o1, o2, e1, h1, h2, h3, h4, h5⟩ := h
  exact ⟨r, l, o1, o2, e1, e _ _ h1 (h2.ne h1 hp), h2, e _ _ h3 (h4.ne h3 hp), h4, h5⟩
theorem StepAt.but {p : Addr} {H H' : Hp} (e : But p H H') {C dx : Addr} {fs : List (Str × V)} (hp : H p = some (.ins C dx fs)) {v : V} {s : Lad.Step} (h : StepAt H v s) : StepAt H' v s := by
  obtain ⟨r, l, e1, h1, h2⟩ := h
  exact ⟨r, l, e1, e _ _ h1 (ne_of h1 hp (by intro z; cases z)), e _ _ h2 (ne_of h2 hp (by intro z; cases z))⟩
/-- a ladder stands at p -/
inductive LadAt (C : Addr) (H : Hp) (p : Addr) (b : Int) (ps : List Int) (rows : List Lad.Step) : Prop
  | mk (dx : Addr) (a : Addr) (o : Addr) (c : Addr) (us : List V) (h0_ : H p = some (.ins C dx (flds a o c))) (h1_ : H a = some (.tup (ps.map V.int))) (h2_ : H o = some (.tup ((Lad.opens ps).map V.int))) (h3_ : H c = some (.tup us)) (h4_ : Paired (StepAt H) us ((b, Lad.bars ps) :: rows)) : LadAt C H p b ps rows
theorem LadAt.same {C : Addr} {H H' : Hp} {p : Addr} {b : Int} {ps : List Int} {rows : List Lad.Step} (h : LadAt C H p b ps rows) (e : Same H H') : LadAt C H' p b ps rows := by
  obtain ⟨dx, a, o, c, us, h1, h2, h3, h4, h5⟩ := h
  exact ⟨dx, a, o, c, us, e _ _ h1, e _ _ h2, e _ _ h3, e _ _ h4, Paired.mono (fun _ _ x => x.same e) h5⟩
/-- what a ladder is made of -/
structure LadOk (b : Int) (ps : List Int) (rows : List Lad.Step) : Prop where
  b : wideB b = true
  p : partsB ps = true
  r : rowsB rows = true
theorem partsB_ok {ps : List Int} (h : partsB ps = true) : Lad.PartsOk ps ∧ ps.length ≤ 12 ∧ ∀ p ∈ ps, -1000000000 ≤ p ∧ p ≤ 1000000000 := by
  unfold partsB lenB at h
  simp only [Bool.and_eq_true, decide_eq_true_eq, List.all_eq_true] at h
  obtain ⟨⟨h1, h2⟩, h3, h4⟩ := h
  have hp : ∀ p ∈ ps, (-1000000000 ≤ p ∧ p ≤ 1000000000) ∧ p ≠ 0 := fun p hp => by
    have := h3 p hp
    unfold partB at this
    simpa using this
  refine ⟨⟨fun p hq => (hp p hq).2, ?_⟩, by omega, fun p hq => (hp p hq).1⟩
  unfold headB at h4
  cases ps with
  | nil => simp at h1
  | cons p r => exact ⟨p, r, rfl, by simpa using h4⟩
theorem rowsB_ok {rows : List Lad.Step} (h : rowsB rows = true) : rows.length ≤ 4 ∧ ∀ s ∈ rows, rowB s = true := by
  unfold rowsB lenB at h
  simp only [Bool.and_eq_true, decide_eq_true_eq, List.all_eq_true] at h
  exact ⟨by omega, h.2⟩
theorem But.same {p : Addr} {H H1 H2 : Hp} (a : But p H H1) (b : Same H1 H2) : But p H H2 := fun c o h n => b c o (a c o h n)
theorem But.upd {p : Addr} {H : Hp} {o : HO} : But p H (upd H p o) := fun c u h n => by rw [upd_ne n]; exact h
theorem filter_snoc {S : List Int} {i : Nat} {n : Int} (f : Int → Bool) (e : S[i]? = some n) : (S.take (i + 1)).filter f = (S.take i).filter f ++ (if f n then [n] else []) := by
  rw [List.take_add_one, e, List.filter_append]
  cases h : f n <;> simp [h]
section
variable {P : Program} {w : World} {K : PySem.W.Frag} {mg : Str → Option Value} {base : Heap} {C : Addr}
/-- Ladder(..) of what makes one -/
inductive sp_init (C : Addr) (vs : List V) (H : Hp) (Q : VK) (E : XK) : Prop
  | mk (p : Addr) (dx : Addr) (b : Int) (pa : Addr) (po : HO) (ps : List Int) (ra : Addr) (ro : HO) (us : List V) (rows : List Lad.Step) (h0_ : vs = [.ref p, .int b, .ref pa, .ref ra]) (h1_ : H p = some (.ins C dx [])) (h2_ : H pa = some po) (h3_ : Ob po (ps.map V.int)) (h4_ : H ra = some ro) (h5_ : Ob ro us) (h6_ : Paired (RowG H) us rows) (h7_ : LadOk b ps rows) (h8_ : ∀ H', But p H H' → LadAt C H' p b ps rows → Q .non H') : sp_init C vs H Q E
theorem sc_init : FnScope ["self", "begin", "parts", "rows", "lowest"] ["self", "begin", "parts", "rows"] (defScope sm_init) := ⟨rfl, rfl, rfl, by decide +kernel, rfl, by decide +kernel, by decide +kernel⟩
theorem init_ok (T : Txt K mg C) {f : Addr} {fd : FuncData} (F : Fun K "__init__" "Ladder.__init__" sm_init f fd) : FnOk P w K mg base CX0 6 f fd ["self", "begin", "parts", "rows"] (sp_init C) := by
  refine F.ok sc_init (fun vs H Q E h => ?_) (fun cdv A outer s H vs Q E hr h => ?_)
  · obtain ⟨p, dx, b, pa, po, ps, ra, ro, us, rows, rfl, _⟩ := h
    rfl
  · obtain ⟨p, dx, b, pa, po, ps, ra, ro, us, rows, rfl, hp, hpa, hpo, hra, hro, hrows, ok, k⟩ := h
    obtain ⟨pok, plen, _⟩ := partsB_ok ok.p
    obtain ⟨rlen, _⟩ := rowsB_ok ok.r
    have hul : us.length = rows.length := Paired.length hrows
    refine ⟨_, pss_cons (ps_if (pt_not (pw_and (pt_val (pe_can (is_wide T) hr (pa1 (pv 1)))) (pw_and (pt_val (pe_can (are_parts T) hr (pa1 (pv 2)))) (pw_and1 (pt_val (pe_can (are_rows T) hr (pa1 (pv 3))))))).pt) pss_never pss_nil)
      (pss_cons (ps_fld (pv 0) (pe_t call_tup_ob T.b_tuple boot_tuple (pa1 (pv 2))) rfl)
      (pss_cons (ps_fld (pv 0) (pe_t call_tup_ob T.b_tuple boot_tuple (pa1 (pe_lc rfl (lcS sc_init) (pi_seq (pv 2)) (fun _ _ _ _ => pts_one (pt_cmpR op_gt (pv 0) pe_int (nomark _))) (fun _ _ _ _ => pv 0)))) rfl)
      (pss_cons (ps_set (i := 4) sc_init.nd rfl (Or.inl rfl) (pe_tup (pa2 (pv 1) (pe_t call_tup_ob T.b_tuple boot_tuple (pa1 (pe_can (bar_lengths T) hr (pa1 (pv 2))))))))
      (pss_one (ps_fld (pv 0) (pe_t call_tup_ob T.b_tuple boot_tuple (pa1 (pe_op op_cat (pe_lst (pa1 (pv 4)))
        (pe_lc rfl (lcS sc_init) (pi_seq (pv 3)) (fun _ _ _ _ => pts_nil) (fun _ _ _ _ => pe_tup (pa2 (pe_ix ix_ob (pv 0) pe_int (fun _ _ => rfl)) (pe_t call_tup_ob T.b_tuple boot_tuple (pa1 (pe_ix ix_ob (pv 0) pe_int (fun _ _ => rfl)))))))))) rfl))))), ?_⟩
    have wb : (decide (-W30 < b) && decide (b < W30)) = true := ok.b
    refine ⟨_, rfl, b, rfl, _, rfl, ?_⟩
    rw [wb]
    refine iteT ⟨_, rfl, pa, po, ps, rfl, hpa, hpo, by omega, fun H0 s0 => ⟨_, rfl, ?_⟩⟩
    rw [ok.p]
    refine iteT ⟨_, rfl, ra, ro, us, rows, rfl, s0 _ _ hra, hro, Paired.mono (fun _ _ x => x.same s0) hrows, by omega, fun H1 s1' => ⟨_, rfl, ?_⟩⟩
    rw [ok.r]
    refine iteF ?_
    have s1 : Same H H1 := s0.trans s1'
    have hp1 := s1 _ _ hp
    have hpa1 := s1 _ _ hpa
    refine ⟨_, rfl, pa, po, _, rfl, hpa1, hpo, fun l1 H2 s2 hl1 => ?_⟩
    have hp2 := s2 _ _ hp1
    have n1 : p ≠ l1 := ne_of hp2 hl1 (by intro z; cases z)
    refine ⟨_, rfl, p, C, dx, _, rfl, hp2, T.cl, T.n_part_lengths, (by show 0 < 1000; decide), ?_⟩
    generalize hH3 : upd H2 p _ = H3
    have b3 : But p H1 H3 := by rw [← hH3]; exact s2.but.trans But.upd
    have hp3 : H3 p = some (.ins C dx (putF "part_lengths" (.ref l1) [])) := by rw [← hH3]; exact upd_same
    have hl13 : H3 l1 = some (.tup (ps.map V.int)) := by rw [← hH3, upd_ne (Ne.symm n1)]; exact hl1
    have hpa3 : H3 pa = some po := b3 _ _ hpa1 (hpo.ne hpa1 hp1)
    clear hH3
    refine ⟨_, rfl, pa, po, _, rfl, hpa3, hpo, fun J hJ D hD => ?_⟩
    refine lc_it hJ (fun i ys H4 => ys = ((ps.take i).filter fun q => decide (0 < q)).map V.int ∧ Same H3 H4 ∧ H4 D = some (.lst ys)) ⟨rfl, Same.upd hD, upd_same⟩ (fun i ys H4 ⟨_, s4, d⟩ => ⟨d, s4 _ _ hpa3⟩) (fun ys H4 ⟨e, s4, d⟩ => ?_) (fun i x ys H4 hi hx ⟨e, s4, d⟩ => ?_)
    case refine_2 =>
      obtain ⟨n, hn, rfl⟩ := int_of_map hx
      rw [List.length_map] at hi
      refine ⟨_, rfl, _, _, rfl, rfl, _, rfl, ?_⟩
      have e2 := filter_snoc (fun q => decide (0 < q)) hn
      refine iteB (fun hc => ?_) (fun hc => ?_)
      · refine ⟨_, rfl, LcNx.mk (by rw [List.length_map]; exact hi) (by rw [List.length_map]; omega) (by rw [e, List.length_map]; exact Nat.le_trans (List.length_filter_le _ _) (by rw [List.length_take]; omega)) d ⟨?_, ?_, upd_same⟩⟩
        · rw [e2, if_pos hc, e, List.map_append]
          rfl
        · exact fun b o z => by rw [upd_ne (ne_of_none z hD)]; exact s4 b o z
      · refine LcNo.mk (by rw [List.length_map]; exact hi) ⟨?_, s4, d⟩
        rw [e2, if_neg (by rw [hc]; exact Bool.false_ne_true), e, List.append_nil]
    rw [List.length_map, List.take_length] at e
    subst e
    refine ⟨D, _, _, rfl, d, .inl rfl, fun l2 H4' s4' hl2 => ?_⟩
    have hp4 := s4' _ _ (s4 _ _ hp3)
    have n2 : p ≠ l2 := ne_of hp4 hl2 (by intro z; cases z)
    refine ⟨_, rfl, p, C, dx, _, rfl, hp4, T.cl, T.n_open_lengths, (by show 1 < 1000; decide), ?_⟩
    generalize hH5 : upd H4' p _ = H5
    have b5 : But p H4 H5 := by rw [← hH5]; exact s4'.but.trans But.upd
    have hp5 : H5 p = some (.ins C dx (putF "open_lengths" (.ref l2) (putF "part_lengths" (.ref l1) []))) := by rw [← hH5]; exact upd_same
    have hl25 : H5 l2 = some (.tup ((Lad.opens ps).map V.int)) := by rw [← hH5, upd_ne (Ne.symm n2)]; exact hl2
    have hl15 : H5 l1 = some (.tup (ps.map V.int)) := b5 _ _ (s4 _ _ hl13) (Ne.symm n1)
    have hpa5 : H5 pa = some po := b5 _ _ (s4 _ _ hpa3) (hpo.ne hpa1 hp1)
    have b15 : But p H1 H5 := (b3.trans s4.but).trans b5
    clear hH5
    refine ⟨_, rfl, _, rfl, pa, po, ps, rfl, hpa5, hpo, pok, by omega, fun l3 H6 s6 hl3 h6 => ?_⟩
    refine ⟨l3, _, _, rfl, h6, .inl rfl, fun l4 H6' s6' hl4 => ⟨two_line, fun l5 hl5 => ?_⟩⟩
    generalize hH7 : upd H6' l5 _ = H7
    have s7 : Same H6 H7 := by rw [← hH7]; exact s6'.trans (Same.upd hl5)
    have hl47 : H7 l4 = some (.tup ((Lad.bars ps).map V.int)) := by rw [← hH7]; exact Same.upd hl5 _ _ hl4
    have hl57 : H7 l5 = some (.tup [.int b, .ref l4]) := by rw [← hH7]; exact upd_same
    have s57 : Same H5 H7 := s6.trans s7
    have b17 : But p H1 H7 := But.same b15 s57
    have hra7 : H7 ra = some ro := b17 _ _ (s1 _ _ hra) (hro.ne hra hp)
    have hrows7 : Paired (RowG H7) us rows := Paired.mono (fun _ _ x => RowG.but b17 hp1 (x.same s1)) hrows
    clear hH7
    refine ⟨_, rfl, Nat.succ_le_of_lt (small1000 (by decide)), fun l6 hl6 => ?_⟩
    have s8 : ∀ o, Same H7 (upd H7 l6 o) := fun o => Same.upd hl6
    generalize hH8 : upd H7 l6 _ = H8
    have s78 : Same H7 H8 := by rw [← hH8]; exact s8 _
    have hl68 : H8 l6 = some (.lst [.ref l5]) := by rw [← hH8]; exact upd_same
    clear hH8
    have hra8 := s78 _ _ hra7
    refine ⟨_, rfl, ra, ro, _, rfl, hra8, hro, fun J2 hJ2 D2 hD2 => ?_⟩
    refine lc_it hJ2 (fun i ys H9 => Paired (StepAt H9) ys (rows.take i) ∧ Same H8 H9 ∧ H9 D2 = some (.lst ys)) ⟨.nil, Same.upd hD2, upd_same⟩ (fun i ys H9 ⟨_, s9, d⟩ => ⟨d, s9 _ _ hra8⟩) (fun ys H9 ⟨e, s9, d9⟩ => ?_) (fun i x ys H9 hi hx ⟨e, s9, d9⟩ => ?_)
    case refine_2 =>
      obtain ⟨st, hn, r, l, o1, o2, rfl, hr1, ho1, hl1', ho2, _⟩ := Paired.get hrows7 hx
      have hr9 := s9 _ _ (s78 _ _ hr1)
      have hl9 := s9 _ _ (s78 _ _ hl1')
      have hyl : ys.length = (rows.take i).length := Paired.length e
      rw [List.length_take] at hyl
      refine yesI ⟨_, rfl, r, o1, _, _, _, rfl, rfl, hr9, ho1, rfl, _, rfl, r, o1, _, _, _, rfl, rfl, hr9, ho1, rfl, l, o2, _, rfl, hl9, ho2, fun m1 H10 t1 hm1 => ⟨two_line, fun m2 hm2 => ?_⟩⟩
      have t2 : ∀ o', Same H9 (upd H10 m2 o') := fun o' => t1.trans (Same.upd hm2)
      have d10 := t1 _ _ d9
      have nD1 : D2 ≠ m1 := ne_of d10 hm1 (by intro z; cases z)
      have nD2 : D2 ≠ m2 := ne_of_none d10 hm2
      refine LcNx.mk hi (by omega) (by omega) (t2 _ _ _ d9) ⟨?_, ?_, upd_same⟩
      · have e3 : rows.take (i + 1) = rows.take i ++ [st] := by rw [List.take_add_one, hn]; rfl
        rw [e3]
        have up : ∀ {v : V} {s' : Lad.Step}, StepAt H9 v s' → StepAt (upd (upd H10 m2 (.tup [.int st.1, .ref m1])) D2 (.lst (ys ++ [.ref m2]))) v s' := fun {v s'} ⟨r', l', e', q1, q2⟩ =>
          ⟨r', l', e', by rw [upd_ne (ne_of q1 d9 (by intro z; cases z))]; exact t2 _ _ _ q1, by rw [upd_ne (ne_of q2 d9 (by intro z; cases z))]; exact t2 _ _ _ q2⟩
        refine Paired.snoc (Paired.mono (fun _ _ x => up x) e) ⟨m2, m1, rfl, ?_, ?_⟩
        · rw [upd_ne (Ne.symm nD2), upd_same]
        · rw [upd_ne (Ne.symm nD1)]; exact Same.upd hm2 _ _ hm1
      · exact fun b o z => by rw [upd_ne (ne_of_none z hD2)]; exact t2 _ _ _ (s9 b o z)
    rw [hul, List.take_length] at e
    have hyl : ys.length = rows.length := Paired.length e
    have hl69 := s9 _ _ hl68
    refine ⟨l6, D2, _, _, rfl, rfl, hl69, d9, Nat.le_of_lt (small1000 (by rw [List.length_singleton]; omega)), fun l7 hl7 => ?_⟩
    refine ⟨l7, _, _, rfl, upd_same, .inl rfl, fun l8 H10 s10' hl8 => ?_⟩
    have s10 : Same H9 H10 := (Same.upd hl7).trans s10'
    have s59 : Same H5 H9 := (s57.trans s78).trans s9
    have hp9 : H9 p = some (.ins C dx (putF "open_lengths" (.ref l2) (putF "part_lengths" (.ref l1) []))) := s59 _ _ hp5
    have n8 : p ≠ l8 := ne_of (s10 _ _ hp9) hl8 (by intro z; cases z)
    refine ⟨_, rfl, p, C, dx, _, rfl, s10 _ _ hp9, T.cl, T.n_steps, (by show 2 < 1000; decide), ?_⟩
    generalize hH11 : upd H10 p _ = H11
    have b11 : But p H9 H11 := by rw [← hH11]; exact s10.but.trans But.upd
    have hp11 : H11 p = some (.ins C dx (flds l1 l2 l8)) := by rw [← hH11]; exact upd_same
    have hl811 : H11 l8 = some (.tup (.ref l5 :: ys)) := by rw [← hH11, upd_ne (Ne.symm n8)]; exact hl8
    have b511 : ∀ c o, H5 c = some o → c ≠ p → H11 c = some o := fun c o h n => b11 _ _ (s59 _ _ h) n
    have nl : ∀ {c : Addr} {xs : List V}, H9 c = some (.tup xs) → c ≠ p := fun h => ne_of h hp9 (by intro z; cases z)
    refine k H11 (fun c o h n => b511 c o (b15 c o (s1 c o h) n) n) ⟨dx, l1, l2, l8, _, hp11, b511 _ _ hl15 (Ne.symm n1), b511 _ _ hl25 (Ne.symm n2), hl811, .cons ⟨l5, l4, rfl, ?_, ?_⟩ (Paired.mono (fun _ _ x => StepAt.but b11 hp9 x) e)⟩
    · have z := s9 _ _ (s78 _ _ hl57)
      exact b11 _ _ z (nl z)
    · have z := s9 _ _ (s78 _ _ hl47)
      exact b11 _ _ z (nl z)
end
end Pr
set_option Elab.async false
set_option linter.all false
set_option maxRecDepth 100000
namespace Pr
open PySem L2 PyProof.Rows
section
variable {P : Program} {w : World} {K : PySem.W.Frag} {mg : Str → Option Value} {base : Heap} {C : Addr}
inductive sp_rolls (C : Addr) (vs : List V) (H : Hp) (Q : VK) (E : XK) : Prop
  | mk (p : Addr) (b : Int) (ps : List Int) (rows : List Lad.Step) (h0_ : vs = [.ref p]) (h1_ : LadAt C H p b ps rows) (h2_ : Q (.int ((rows.length + 1 : Nat) : Int)) H) : sp_rolls C vs H Q E
theorem sc_rolls : FnScope ["self"] ["self"] (defScope sm_rolls) := ⟨rfl, rfl, rfl, by decide +kernel, rfl, by decide +kernel, by decide +kernel⟩
theorem rolls (T : Txt K mg C) : CanM P w K mg base C 1 "rolls" ["self"] (sp_rolls C) := by
  refine fm_can T.m_rolls sc_rolls (fun vs H Q E h => ?_) (fun f cdv A outer s H vs Q E hr h => ?_)
  · obtain ⟨p, b, ps, rows, rfl, _⟩ := h
    rfl
  · obtain ⟨p, b, ps, rows, rfl, ⟨dx, a, o, c, us, h1, h2, h3, h4, h5⟩, k⟩ := h
    refine ⟨_, pss_one (ps_ret (pe_b call_len_seq T.b_len boot_len (pa1 (pe_fld (pv 0) rfl)))), ?_⟩
    refine ⟨_, rfl, p, C, dx, _, _, rfl, h1, T.cl, T.n_steps, flds_steps _ _ _, c, us, rfl, .inr (.of h4), ?_⟩
    have e : us.length = rows.length + 1 := Paired.length h5
    rw [e]
    exact k
end
end Pr
set_option Elab.async false
set_option linter.all false
set_option maxRecDepth 100000
namespace Pr
open PySem L2 PyProof.Rows
theorem iteN {c : Bool} {A B : Prop} (hc : c = false) (h : B) : if c = true then A else B := by rw [hc]; exact iteF h
theorem lad_ins {C : Addr} {H : Hp} {p : Addr} {b : Int} {ps : List Int} {rows : List Lad.Step} (h : LadAt C H p b ps rows) : ∃ dx a o c, H p = some (.ins C dx (flds a o c)) := by
  obtain ⟨dx, a, o, c, us, h, _⟩ := h
  exact ⟨dx, a, o, c, h⟩
end Pr
set_option Elab.async false
set_option linter.all false
set_option maxRecDepth 100000
namespace L2
open PySem PySem.Spec PyProof.Rows

/-! ### lists of pairs as tables -/
section
variable {κ : Type} [DecidableEq κ]
def valV (kvs : List (κ × V)) (k : κ) : Option V := (kvs.find? fun kv => decide (kv.1 = k)).map (·.2)
/-- in its place, or at the end -/
def putK (kvs : List (κ × V)) (k : κ) (v : V) : List (κ × V) :=
  if (kvs.any fun kv => decide (kv.1 = k)) = true then kvs.map (fun kv => if kv.1 = k then (kv.1, v) else kv) else kvs ++ [(k, v)]

theorem valV_pos {p : κ × V} {r : List (κ × V)} {k : κ} (e : p.1 = k) : valV (p :: r) k = some p.2 := by simp [valV, List.find?_cons, e]
theorem valV_neg {p : κ × V} {r : List (κ × V)} {k : κ} (e : ¬ p.1 = k) : valV (p :: r) k = valV r k := by simp [valV, List.find?_cons, e]
theorem valV_any (k : κ) : ∀ kvs : List (κ × V), (kvs.any fun kv => decide (kv.1 = k)) = (valV kvs k).isSome
  | [] => rfl
  | p :: r => by
    rw [List.any_cons]
    by_cases e : p.1 = k
    · simp only [valV_pos e, decide_eq_true e, Bool.true_or, Option.isSome_some]
    · rw [valV_neg e, decide_eq_false e, Bool.false_or]; exact valV_any k r
theorem length_putK (kvs : List (κ × V)) (k : κ) (v : V) : (putK kvs k v).length ≤ kvs.length + 1 := by
  unfold putK
  split
  · rw [List.length_map]; omega
  · rw [List.length_append, List.length_cons, List.length_nil]; omega

theorem RelO.isSome_eq {o : Option V} {u : Option Value} (r : RelO o u) : o.isSome = u.isSome := by
  cases o with
  | none => cases u with
    | none => rfl
    | some _ => exact (show False from r).elim
  | some _ => cases u with
    | none => exact (show False from r).elim
    | some _ => rfl

/-- raw tables of the same keys -/
theorem KV.val {kvs : List (κ × V)} {vs : List (κ × Value)} (r : KV kvs vs) (k : κ) : RelO (valV kvs k) (valueAt vs k) := by
  unfold KV at r
  induction r with
  | nil => exact True.intro
  | @cons p q ps qs h t ih =>
    obtain ⟨h1, h2⟩ := h
    by_cases e : p.1 = k
    · have e' : q.1 = k := h1.symm.trans e
      have b : valueAt (q :: qs) k = some q.2 := by simp [valueAt, List.find?_cons, e']
      rw [valV_pos e, b]; exact h2
    · have e' : ¬ q.1 = k := fun z => e (h1.trans z)
      have b : valueAt (q :: qs) k = valueAt qs k := by simp [valueAt, List.find?_cons, e']
      rw [valV_neg e, b]; exact ih
theorem KV.any {kvs : List (κ × V)} {vs : List (κ × Value)} (r : KV kvs vs) (k : κ) : (kvs.any fun kv => decide (kv.1 = k)) = vs.any fun kv => decide (kv.1 = k) := by
  unfold KV at r
  induction r with
  | nil => rfl
  | cons h t ih => rw [List.any_cons, List.any_cons, ih, h.1]
theorem KV.repl {kvs : List (κ × V)} {vs : List (κ × Value)} (r : KV kvs vs) (k : κ) {y : V} {u : Value} (ry : RelV y u) :
    KV (kvs.map fun kv => if kv.1 = k then (kv.1, y) else kv) (vs.map fun kv => if kv.1 = k then (kv.1, u) else kv) := by
  unfold KV at r ⊢
  induction r with
  | nil => exact .nil
  | @cons p q ps qs h t ih =>
    rw [List.map_cons, List.map_cons]
    refine .cons ?_ ih
    obtain ⟨h1, h2⟩ := h
    by_cases e : p.1 = k
    · rw [if_pos e, if_pos (h1.symm.trans e)]; exact ⟨h1, ry⟩
    · rw [if_neg e, if_neg (fun z => e (h1.trans z))]; exact ⟨h1, h2⟩
theorem KV.put {kvs : List (κ × V)} {vs : List (κ × Value)} (r : KV kvs vs) (k : κ) {y : V} {u : Value} (ry : RelV y u) : KV (putK kvs k y) (stored vs k u) := by
  unfold putK stored
  rw [r.any k]
  by_cases e : (vs.any fun kv => decide (kv.1 = k)) = true
  · rw [if_pos e, if_pos e]; exact r.repl k ry
  · rw [if_neg e, if_neg e]; exact PySem.Paired.snoc r ⟨rfl, ry⟩
theorem KV.length {kvs : List (κ × V)} {vs : List (κ × Value)} (r : KV kvs vs) : kvs.length = vs.length := Paired.length r
end


/-! ### a tracked dict, its keys ints and texts or tuples of these -/
theorem kV_is {P : Program} {w : World} {k : Key} {u : Value} (r : RelV (kV k) u) : (mixKind P w).is k u = true := by
  cases k with
  | inl i => obtain ⟨t, e⟩ := (show ∃ t, u = Value.int i t from r); subst e; exact mixKind_int P w i t
  | inr x => obtain ⟨t, e⟩ := (show ∃ t, u = Value.str x t from r); subst e; exact mixKind_str P w x t
theorem items_are {P : Program} {w : World} : ∀ {ks : List Key} {us : List Value}, Vals (ks.map kV) us → ItemsAre (mixKind P w) ks us
  | [], _, r => by rw [List.map_nil] at r; cases r; exact .nil
  | k :: ks, _, r => by
    rw [List.map_cons] at r
    cases r with
    | cons h t => exact .cons (kV_is h) (items_are t)

/-- raw entries of a dict with tuple keys -/
abbrev KT (H : Hp) : List (List Key × V) → List (List Key × Addr × Value) → Prop := Paired fun p q => p.1 = q.1 ∧ H q.2.1 = some (.tup (p.1.map kV)) ∧ RelV p.2 q.2.2
theorem KT.val {H : Hp} {kvs : List (List Key × V)} {xs : List (List Key × Addr × Value)} (r : KT H kvs xs) (k : List Key) : RelO (valV kvs k) ((atKey xs k).map (·.2)) := by
  induction r with
  | nil => exact True.intro
  | @cons p q ps qs h t ih =>
    obtain ⟨h1, _, h2⟩ := h
    by_cases e : p.1 = k
    · have e' : q.1 = k := h1.symm.trans e
      have b : atKey (q :: qs) k = some q.2 := by simp [atKey, List.find?_cons, e']
      rw [valV_pos e, b]; exact h2
    · have e' : ¬ q.1 = k := fun z => e (h1.trans z)
      have b : atKey (q :: qs) k = atKey qs k := by simp [atKey, List.find?_cons, e']
      rw [valV_neg e, b]; exact ih
theorem KT.repl {H : Hp} {kvs : List (List Key × V)} {xs : List (List Key × Addr × Value)} (r : KT H kvs xs) (k : List Key) {y : V} {u : Value} (ry : RelV y u) :
    KT H (kvs.map fun kv => if kv.1 = k then (kv.1, y) else kv) (xs.map (putAt k u)) := by
  induction r with
  | nil => exact .nil
  | @cons p q ps qs h t ih =>
    rw [List.map_cons, List.map_cons]
    refine .cons ?_ ih
    obtain ⟨h1, h2, h3⟩ := h
    unfold putAt
    by_cases e : p.1 = k
    · rw [if_pos e, if_pos (h1.symm.trans e)]; exact ⟨h1, h2, ry⟩
    · rw [if_neg e, if_neg (fun z => e (h1.trans z))]; exact ⟨h1, h2, h3⟩
theorem KT.put {H : Hp} {kvs : List (List Key × V)} {xs : List (List Key × Addr × Value)} (r : KT H kvs xs) (k : List Key) {b : Addr} {y : V} {u : Value} (hb : H b = some (.tup (k.map kV))) (ry : RelV y u) :
    KT H (putK kvs k y) (storedH xs k b u) := by
  have e : (kvs.any fun kv => decide (kv.1 = k)) = (atKey xs k).isSome := by
    rw [valV_any, (r.val k).isSome_eq, Option.isSome_map]
  unfold putK storedH
  rw [e]
  by_cases q : (atKey xs k).isSome = true
  · rw [if_pos q, if_pos q]; exact r.repl k ry
  · rw [if_neg q, if_neg q]; exact PySem.Paired.snoc r ⟨rfl, hb, ry⟩
theorem KT.keeps {H H' : Hp} {kvs : List (List Key × V)} {xs : List (List Key × Addr × Value)} (r : KT H kvs xs) (ht : ∀ b ys, H b = some (.tup ys) → H' b = some (.tup ys)) : KT H' kvs xs :=
  Paired.mapP r fun _ _ z => ⟨z.1, ht _ _ z.2.1, z.2.2⟩

section
variable {P : Program} {w : World} {H : Hp} {h : Heap} {a : Addr}
theorem rd_of {u : HO} (ok : HOk P w H h) (e : Rd H a u) : ObjOk P w H h a u := e.ok ok
theorem dk_rd {kvs : List (Key × V)} (ok : HOk P w H h) (e : Rd H a (.dK kvs)) : kvs.length ≤ sizeLine ∧ (a == sysModules) = false ∧ ∃ vs, KV kvs vs ∧ h.DictOf (mixKind P w) a vs :=
  show ObjOk P w H h a (.dK kvs) from rd_of ok e
theorem dk_of {kvs : List (Key × V)} (ok : HOk P w H h) (e : H a = some (.dK kvs)) : kvs.length ≤ sizeLine ∧ (a == sysModules) = false ∧ ∃ vs, KV kvs vs ∧ h.DictOf (mixKind P w) a vs := dk_rd ok (.inl e)
/-- a tracked tuple of ints and texts is a key -/
theorem key_of {ks : List Key} (ok : HOk P w H h) (e : H a = some (.tup (ks.map kV))) : (tupleKind (mixKind P w)).is h ks a := by
  obtain ⟨_, its, r, o, h1, h2, n, h3⟩ := (show ObjOk P w H h a (.tup (ks.map kV)) from ok a _ e)
  exact ⟨o, its.toArray, n, h1, h2, h3, by simpa using items_are r⟩
theorem dt_rd {kvs : List (List Key × V)} (ok : HOk P w H h) (e : Rd H a (.dT kvs)) : kvs.length ≤ sizeLine ∧ (a == sysModules) = false ∧
    ∃ xs, KT H kvs xs ∧ h.DictOfH (tupleKind (mixKind P w)) a xs := by
  obtain ⟨z, y, xs, r, o, es, ep, h1, h2, h3, h4, h5⟩ := (show ObjOk P w H h a (.dT kvs) from rd_of ok e)
  refine ⟨z, y, xs, r, o, es, ep, h1, h2, h3, h4, fun x hx => ?_, h5⟩
  have all : ∀ {l : List (List Key × V)} {m : List (List Key × Addr × Value)}, KT H l m → ∀ x ∈ m, (tupleKind (mixKind P w)).is h x.1 x.2.1 := by
    intro l m q
    induction q with
    | nil => intro x hx; exact nomatch hx
    | @cons p q ps qs hq t ih =>
      intro x hx
      rcases List.mem_cons.mp hx with e | hx
      · subst e
        exact key_of ok (by rw [← hq.1]; exact hq.2.1)
      · exact ih x hx
  exact all r x hx
theorem dt_of {kvs : List (List Key × V)} (ok : HOk P w H h) (e : H a = some (.dT kvs)) : kvs.length ≤ sizeLine ∧ (a == sysModules) = false ∧
    ∃ xs, KT H kvs xs ∧ h.DictOfH (tupleKind (mixKind P w)) a xs := dt_rd ok (.inl e)
end

/-- what the dict at a holds at the key y -/
def DGet (H : Hp) (a : Addr) (y : V) (r : Option V) : Prop :=
  (∃ kvs k, Rd H a (.dK kvs) ∧ y = kV k ∧ r = valV kvs k) ∨ ∃ kvs k b, Rd H a (.dT kvs) ∧ y = .ref b ∧ H b = some (.tup (k.map kV)) ∧ r = valV kvs k
/-- the heap behind a[y] = v -/
def DPut (H : Hp) (a : Addr) (y v : V) (H' : Hp) : Prop :=
  (∃ kvs k, H a = some (.dK kvs) ∧ y = kV k ∧ kvs.length < sizeLine ∧ H' = upd H a (.dK (putK kvs k v))) ∨
  ∃ kvs k b, H a = some (.dT kvs) ∧ y = .ref b ∧ H b = some (.tup (k.map kV)) ∧ kvs.length < sizeLine ∧ H' = upd H a (.dT (putK kvs k v))
theorem DGet.t {H : Hp} {a b : Addr} {kvs : List (List Key × V)} {k : List Key} (e : H a = some (.dT kvs)) (eb : H b = some (.tup (k.map kV))) : DGet H a (.ref b) (valV kvs k) := .inr ⟨kvs, k, b, .inl e, rfl, eb, rfl⟩
theorem DPut.t {H : Hp} {a b : Addr} {kvs : List (List Key × V)} {k : List Key} {v : V} (e : H a = some (.dT kvs)) (eb : H b = some (.tup (k.map kV))) (hl : kvs.length < sizeLine) :
    DPut H a (.ref b) v (upd H a (.dT (putK kvs k v))) := .inr ⟨kvs, k, b, e, rfl, eb, hl, rfl⟩


section
variable {X : Cx} {pins : List (Addr × Obj)} {σ : St} {H : Hp} {s : Shared} {a : Addr} {y v : V} {u r : Value} {o : Option V} {A : Around} {E : Value → Shared → Prop}

theorem Inv.big (I : Inv X pins σ H s) : sysModules < s.heap.objs.size := by
  have h : mainGlobals < s.heap.objs.size := (I.mod.glob.keeps I.bk).lt
  exact Nat.lt_trans (by decide) h

/-- y in d -/
theorem d_in {Q : Value → Shared → Prop} (hu : A.units + 1 < cLine) (I : Inv X pins σ H s) (g : DGet H a y o) (ry : RelV y u) (h : ∀ s', Inv X pins σ H s' → Q (.bool o.isSome) s') :
    wpAny (model X.prog X.w) A (compareOp .In u (.ref a)) Q E s := by
  rcases g with ⟨kvs, k, e, ey, l⟩ | ⟨kvs, k, b, e, ey, eb, l⟩
  · subst ey
    obtain ⟨z, hd, vs, rel, dd⟩ := dk_rd I.hok e
    refine wpAny_in_of (kV_is ry) hd dd.mapOf ?_
    rw [← (rel.val k).isSome_eq, ← l]
    exact h _ (I.tok _)
  · subst ey
    cases (show u = Value.ref b from ry)
    obtain ⟨z, hd, xs, rel, dd⟩ := dt_rd I.hok e
    refine wpAny_in_heap (tupleKind_room_in1 hu) (key_of I.hok eb) hd dd ?_
    have q := (rel.val k).isSome_eq
    rw [Option.isSome_map] at q
    rw [← q, ← l]
    exact h _ (I.tok _)
/-- a dict's object is replaced -/
theorem d_write {h' : Heap} {t' : Nat} {ob : HO} (I : Inv X pins σ H s) (mu : Mut (H a)) (hs : Heap.SameBut a s.heap h') (he : ∃ q, h'.get? a = some q) (new : ObjOk X.prog X.w (upd H a ob) h' a ob) :
    Inv X pins σ (upd H a ob) { s with heap := h', toks := t' } :=
  I.write (x := a) (e := a) mu (.inl rfl) (fun b q hb z => (hs.2 b hb).trans z) he new
theorem dk_new {P : Program} {w : World} {H' : Hp} {h' : Heap} {kvs : List (Key × V)} {vs : List (Key × Value)} (z : kvs.length ≤ sizeLine) (hd : (a == sysModules) = false) (rel : KV kvs vs) (dd : h'.DictOf (mixKind P w) a vs) :
    ObjOk P w H' h' a (.dK kvs) := ⟨z, hd, vs, rel, dd⟩
/-- d[y] = v -/
theorem d_setItem {H' : Hp} {Q : Unit → Shared → Prop} (hu : A.units + 1 < cLine) (I : Inv X pins σ H s) (g : DPut H a y v H') (ry : RelV y u) (rv : RelV v r) (h : ∀ s', Inv X pins σ H' s' → Q () s') :
    wpAny (model X.prog X.w) A (setItem (.ref a) u r) Q E s := by
  rcases g with ⟨kvs, k, e, ey, l, eH⟩ | ⟨kvs, k, b, e, ey, eb, l, eH⟩
  · subst ey eH
    obtain ⟨z, hd, vs, rel, dd⟩ := dk_of I.hok e
    have hz : vs.length ≤ sizeLine := by rw [← rel.length]; exact z
    have hl : (putK kvs k v).length ≤ sizeLine := by have := length_putK kvs k v; omega
    refine wpAny_setItem_pairs (hsz := hz) (kV_is ry) dd fun h' dd' hs => h _ ?_
    have he : ∃ q, h'.get? a = some q := let ⟨q, _, _, hq, _⟩ := dd'; ⟨q, hq⟩
    exact d_write I (by rw [e]; exact True.intro) hs he (dk_new hl hd (rel.put k rv) dd')
  · subst ey eH
    cases (show u = Value.ref b from ry)
    obtain ⟨z, hd, xs, rel, dd⟩ := dt_of I.hok e
    have hz : xs.length ≤ sizeLine := by rw [← Paired.length rel]; exact z
    have hl : (putK kvs k v).length ≤ sizeLine := by have := length_putK kvs k v; omega
    refine wpAny_setItem_heap (hsz := hz) (tupleKind_room_in1 hu) (key_of I.hok eb) dd fun h' dd' hs => h _ ?_
    obtain ⟨q, es, ep, hq, h2, h3, h4, _, h5⟩ := dd'
    refine d_write I (by rw [e]; exact True.intro) hs ⟨q, hq⟩ ⟨hl, hd, _, (rel.put k eb rv).keeps fun c ys ec => ?_, q, es, ep, hq, h2, h3, h4, h5⟩
    rw [upd_ne (ne_of ec e (fun z => nomatch z))]
    exact ec
end

section
variable {X : Cx} {pins : List (Addr × Obj)} {σ : St} {H : Hp} {s : Shared} {a : Addr} {kvs : List (Key × V)} {k : Key} {u : Value} {A : Around} {E : Value → Shared → Prop}
end


/-! ### readings and rules -/


/-- y in d, y not in d -/
def tDIn (ty td : TE) : TE := fun σ H Q => ty σ H fun y H1 => td σ H1 fun x H2 => ∃ a o, x = .ref a ∧ DGet H2 a y o ∧ Q (.bl o.isSome) H2
/-- d[y] = v -/
def sDPut (td ty tv : TE) : TS := fun D σ H => tv σ H fun v H1 => td σ H1 fun x H2 => ty σ H2 fun y H3 => ∃ a H4, x = .ref a ∧ DPut H3 a y v H4 ∧ D.nx σ H4

section
variable {X : Cx} {o i e value : Expr} {pos pos' tpos : Pos} {td ty tv : TE}
theorem pc_din (hu : X.A.units + 1 < cLine) (hi : PE X i ty) (ho : PE X o td) : PC X .In i o (tDIn ty td) := by
  intro pins s σ H Q I h
  refine thn (hi pins s σ H _ I h) fun iv s1 ⟨y, H1, I1, ry, q1⟩ => thn (ho pins s1 σ H1 _ I1 q1) fun u s2 ⟨x, H2, I2, rx, a, ov, ex, g, q2⟩ => ?_
  subst ex
  obtain rfl : u = Value.ref a := rx
  exact d_in hu I2 g ry fun s3 I3 => ⟨.bl ov.isSome, H2, I3, rfl, q2⟩
theorem ps_dput (hu : X.A.units + 1 < cLine) (ho : PE X o td) (hi : PE X i ty) (hv : PE X value tv) (hs : swapsWith value (some (.Subscript o i pos')) pos.line X.env = pure false) :
    PS X (.Assign [.Subscript o i pos'] value pos) (sDPut td ty tv) := by
  refine ⟨?_⟩
  intro pins s σ H D I h
  refine wpAny_Assign_Subscript (thn (hv pins s σ H _ I h) fun r s1 ⟨v, H1, I1, rv, q1⟩ => thn (ho pins s1 σ H1 _ I1 q1) fun u s2 ⟨x, H2, I2, rx, q2⟩ => thn (hi pins s2 σ H2 _ I2 q2) fun iv s3 ⟨y, H3, I3, ry, a, H4, ex, g, q3⟩ => ?_) hs
  subst ex
  obtain rfl : u = Value.ref a := rx
  exact d_setItem hu I3 g ry rv fun s4 I4 => ⟨σ, H4, I4, q3⟩
end


/-! ### displays -/
theorem dk_empty {P : Program} {w : World} {H : Hp} (h : Heap) (hb : sysModules < h.objs.size) : ObjOk P w H (h.push { cls := .type "dict", data := .dict #[] }) h.objs.size (.dK []) :=
  ⟨Nat.zero_le _, beq_eq_false_iff_ne.mpr (Ne.symm (Nat.ne_of_lt hb)), [], .nil, Heap.DictOf.new h⟩
theorem dt_empty {P : Program} {w : World} {H : Hp} (h : Heap) (hb : sysModules < h.objs.size) : ObjOk P w H (h.push { cls := .type "dict", data := .dict #[] }) h.objs.size (.dT []) :=
  ⟨Nat.zero_le _, beq_eq_false_iff_ne.mpr (Ne.symm (Nat.ne_of_lt hb)), [], .nil, _, #[], 0, Heap.get?_push_size _ rfl, ⟨rfl, rfl, rfl⟩, rfl, rfl, List.nodup_nil⟩
def tDNewT : TE := fun _ H Q => ∀ p, H p = none → Q (.ref p) (upd H p (.dT []))
section
variable {X : Cx} {pos : Pos}
theorem pe_dnewT : PE X (.Dict [] [] pos) tDNewT := .mk fun pins s σ H Q I h =>
  wpAny_Dict_empty ⟨.ref s.heap.objs.size, _, I.laid (a := s.heap.objs.size) (o := .dT []) (t' := s.toks) (fun _ _ q => Heap.get?_push_of_some _ q) (Nat.le_refl _) (dt_empty s.heap I.big), rfl, h _ (I.hok.fresh (Nat.le_refl _))⟩
end

/-- the pairs of a display, from the left -/
def tPairs : List (TE × TE) → St → Hp → (List (V × V) → Hp → Prop) → Prop
  | [], _, H, Q => Q [] H
  | (tk, tv) :: r, σ, H, Q => tk σ H fun x H1 => tv σ H1 fun y H2 => tPairs r σ H2 fun ps H3 => Q ((x, y) :: ps) H3
abbrev VV : List (V × V) → List (Value × Value) → Prop := Paired fun p q => RelV p.1 q.1 ∧ RelV p.2 q.2
def PPs (X : Cx) (pos : Pos) (keys : List (Option Expr)) (values : List Expr) (trs : List (TE × TE)) : Prop :=
  ∀ (pins : List (Addr × Obj)) (s : Shared) (σ : St) (H : Hp) (Q : List (V × V) → Hp → Prop), Inv X pins σ H s → tPairs trs σ H Q →
    wpAny (model X.prog X.w) X.A (evalPairs (pairTrees keys values X.env pos)) (fun vs s' => ∃ ps H', Inv X pins σ H' s' ∧ VV ps vs ∧ Q ps H') X.xe s
theorem pps_nil {X : Cx} {pos : Pos} : PPs X pos [] [] [] := fun pins s σ H Q I h => pairTrees_nil_walk ⟨[], H, I, .nil, h⟩
theorem pps_cons {X : Cx} {pos : Pos} {k v : Expr} {ks : List (Option Expr)} {vs : List Expr} {tk tv : TE} {trs : List (TE × TE)} (hk : PE X k tk) (hv : PE X v tv) (hr : PPs X pos ks vs trs) :
    PPs X pos (some k :: ks) (v :: vs) ((tk, tv) :: trs) := fun pins s σ H Q I h =>
  pairTrees_cons_walk (thn (hk pins s σ H _ I h) fun u s1 ⟨x, H1, I1, rx, q1⟩ => thn (hv pins s1 σ H1 _ I1 q1) fun w2 s2 ⟨y, H2, I2, ry, q2⟩ =>
    thn (hr pins s2 σ H2 _ I2 q2) fun ws s3 ⟨ps, H3, I3, rel, q3⟩ => ⟨(x, y) :: ps, H3, I3, .cons ⟨rx, ry⟩ rel, q3⟩)



/-! ### methods -/


section
variable {X : Cx} {pins : List (Addr × Obj)} {σ : St} {H : Hp} {s : Shared} {a : Addr} {y d : V} {u r : Value} {o : Option V} {A : Around} {E : Value → Shared → Prop}
end

section
variable {X : Cx} {o e f : Expr} {apos cpos : Pos} {td ty tx : TE}
end

/-! ### dict(d): a copy -/
section
variable {X : Cx} {pins : List (Addr × Obj)} {σ : St} {H : Hp} {s : Shared} {a : Addr} {kvs : List (Key × V)} {A : Around} {E : Value → Shared → Prop}
end


section
variable {X : Cx} {pins : List (Addr × Obj)} {σ : St} {H : Hp} {s : Shared} {a : Addr} {y : V} {u : Value} {A : Around} {E : Value → Shared → Prop}
end
end L2
set_option Elab.async false
set_option linter.all false
set_option maxRecDepth 100000
/-! a dict whatever its keys are: iter, next, list(d) -/
namespace Dx
open PySem PySem.Spec PySem.W PySem.Calls PyProof.Rows
/-- a dict's entries -/
def DE (h : Heap) (d : Addr) (es : Array DictEntry) (ep : Nat) : Prop := ∃ o, h.get? d = some o ∧ o.ExactDict ∧ o.data = .dict es ep
theorem DE.keep {h h' : Heap} {d : Addr} {es : Array DictEntry} {ep : Nat} (x : DE h d es ep) (k : ∀ o, h.get? d = some o → h'.get? d = some o) : DE h' d es ep := by
  obtain ⟨o, e, r⟩ := x
  exact ⟨o, k o e, r⟩
theorem DE.lt {h : Heap} {d : Addr} {es : Array DictEntry} {ep : Nat} (x : DE h d es ep) : d < h.objs.size := by
  obtain ⟨o, e, _⟩ := x
  exact Heap.lt_size e
theorem DE.ty {s : Shared} {d : Addr} {es : Array DictEntry} {ep : Nat} (x : DE s.heap d es ep) : s.TypeIs (.ref d) "dict" := by
  obtain ⟨o, e, r, _⟩ := x
  exact ⟨o, e, r.1⟩
section
variable {prog : Program} {w : World} {A : Around} {E : Value → Shared → Prop} {s : Shared} {d it : Addr} {es : Array DictEntry} {ep i : Nat}
theorem iter {Q : Value → Shared → Prop} (hd : (d == sysModules) = false) (hm : DE s.heap d es ep)
    (q : Q (.ref s.heap.objs.size) { s with heap := s.heap.push { cls := .type "dict_keyiterator", data := .fields #[.ref d, .int 0 0, .int es.size 0, .int ep 0] } }) : wpAny (model prog w) A (pyIter (.ref d)) Q E s := by
  have hT := hm.ty
  obtain ⟨o, ho, hc, hdat⟩ := hm
  refine wpAny_pyIter_slot hT PySem.F.slot_dict_iter (wpAny_call_entry PySem.F.slot_dict_iter hT PySem.F.entry_dict_iter ?_ (PySem.F.args_dict_iter_1 _))
  unfold Builtin.«dict.__iter__» Builtin.Dict.dictSlotNone
  refine wpAny_bind (wpAny_bind (wpAny_notOrdered_dict hT ?_))
  show wpAny _ _ (pure (Value.ref d)) _ _ s
  refine wpAny_pure ?_
  show wpAny _ _ (Builtin.Dict.showsAll d >>= _) _ _ s
  unfold Builtin.Dict.showsAll
  rw [if_neg (by rw [hd]; simp)]
  refine wpAny_bind (wpAny_pure (wpAny_bind (wpAny_dictEntries ho hdat (wpAny_bind (wpAny_dictEpoch ho hdat (wpAny_bind (wpAny_newObj_type (wpAny_pure ⟨_, rfl, "dict_keyiterator", _, ⟨_, Heap.get?_push_size _ rfl, rfl⟩, PySem.F.slot_dict_keyiterator_next.lookup, ?_⟩))))))))
  simpa [rawInt] using q
theorem next {e : DictEntry} {Q : Option Value → Shared → Prop} (hit : s.heap.IsKeyIter it d i es.size ep) (hm : DE s.heap d es ep) (hx : es[i]? = some e)
    (q : ∀ h', h'.IsKeyIter it d (i + 1) es.size ep → Heap.SameBut it s.heap h' → Q (some e.key) { s with heap := h' }) : wpAny (model prog w) A (pyNext (.ref it)) Q E s := by
  have hT := hit.typeIs
  obtain ⟨o, ho, hc, hd⟩ := hit
  obtain ⟨od, hod, hcd, hdd⟩ := hm
  have hown : Builtin.Dict_items.ownsTuple "dict_keyiterator" = false := by decide
  obtain ⟨hlt, he⟩ := Array.getElem?_eq_some_iff.mp hx
  unfold pyNext
  refine wpAny_bind (wpAny_attempt (wpAny_callSpecial?_slot (name := Str.ofString "__next__") hT PySem.F.slot_dict_keyiterator_next (wpAny_call_entry PySem.F.slot_dict_keyiterator_next hT PySem.F.entry_dict_keyiterator_next ?_ (PySem.F.args_dict_keyiterator_next_1 _))))
  refine wpAny_bind (wpAny_pure (wpAny_bind (wpAny_bind ?_)))
  first | refine wpAny_bind (wpAny_typeNameOfWhole_keyiter hT (wpAny_pure (wpAny_bind (wpAny_fieldsOf ho hd ?_)))) | refine wpAny_bind (wpAny_typeNameOf_keyiter hT (wpAny_pure (wpAny_bind (wpAny_fieldsOf ho hd ?_))))
  simp only [hown, Bool.false_eq_true, if_false]
  show wpAny _ _ (if (Value.ref d == Value.none) = true then _ else _) _ _ s
  rw [if_neg (show ¬ ((Value.ref d == Value.none) = true) by simp)]
  refine wpAny_bind (wpAny_pure (wpAny_bind (wpAny_dictEntries hod hdd ?_)))
  rw [if_neg (by simp)]
  refine wpAny_bind (wpAny_pure (wpAny_bind (wpAny_dictEpoch hod hdd ?_)))
  rw [if_neg (by simp)]
  refine wpAny_pure ?_
  simp only [show ¬ ((i : Int) < 0) by omega, if_false, Int.toNat_natCast, hx]
  refine wpAny_bind ?_
  first | refine wpAny_bind (wpAny_typeNameOfWhole_keyiter hT (wpAny_pure (wpAny_bind (wpAny_isOneOf_keyiter hT ?_)))) | refine wpAny_bind (wpAny_typeNameOf_keyiter hT (wpAny_pure (wpAny_bind (wpAny_isOneOf_keyiter hT ?_))))
  show wpAny _ _ (setField (.ref it) 1 (rawInt ((i : Int) + 1)) >>= _) _ _ s
  refine wpAny_bind (wpAny_setField ho hd (by simp) ?_)
  have hit' : (s.heap.update it (Obj.mapFields fun z => z.setIfInBounds 1 (rawInt ((i : Int) + 1)))).IsKeyIter it d (i + 1) es.size ep :=
    ⟨_, Heap.get?_update_self _ ho (Obj.isFreed_of_fields (Obj.data_mapFields hd _)), (Obj.cls_mapFields ..).trans hc, by rw [Obj.data_mapFields hd]; simp [rawInt]⟩
  refine wpAny_bind (wpAny_holding (wpAny_bind (wpAny_isOneOf_keyiter (s := { s with heap := s.heap.update it (Obj.mapFields fun z => z.setIfInBounds 1 (rawInt ((i : Int) + 1))) }) hit'.typeIs ?_)))
  show wpAny _ _ (pure e.key) _ _ _
  exact wpAny_pure (wpAny_pure ⟨_, rfl, wpAny_pure (q _ hit' (Heap.SameBut.update ..))⟩)
theorem stop {Q : Option Value → Shared → Prop} (hh : A.handled = none) (hge : es.size ≤ i) (hit : s.heap.IsKeyIter it d i es.size ep) (hm : DE s.heap d es ep)
    (q : ∀ h', Heap.ExtBut it s.heap h' → Q none { s with heap := h' }) : wpAny (model prog w) A (pyNext (.ref it)) Q E s := by
  have hT := hit.typeIs
  obtain ⟨o, ho, hc, hd⟩ := hit
  obtain ⟨od, hod, hcd, hdd⟩ := hm
  have hown : Builtin.Dict_items.ownsTuple "dict_keyiterator" = false := by decide
  unfold pyNext
  refine wpAny_bind (wpAny_attempt (wpAny_callSpecial?_slot (name := Str.ofString "__next__") hT PySem.F.slot_dict_keyiterator_next (wpAny_call_entry PySem.F.slot_dict_keyiterator_next hT PySem.F.entry_dict_keyiterator_next ?_ (PySem.F.args_dict_keyiterator_next_1 _))))
  refine wpAny_bind (wpAny_pure (wpAny_bind (wpAny_bind ?_)))
  first | refine wpAny_bind (wpAny_typeNameOfWhole_keyiter hT (wpAny_pure (wpAny_bind (wpAny_fieldsOf ho hd ?_)))) | refine wpAny_bind (wpAny_typeNameOf_keyiter hT (wpAny_pure (wpAny_bind (wpAny_fieldsOf ho hd ?_))))
  simp only [hown, Bool.false_eq_true, if_false]
  show wpAny _ _ (if (Value.ref d == Value.none) = true then _ else _) _ _ s
  rw [if_neg (show ¬ ((Value.ref d == Value.none) = true) by simp)]
  refine wpAny_bind (wpAny_pure (wpAny_bind (wpAny_dictEntries hod hdd ?_)))
  rw [if_neg (by simp)]
  refine wpAny_bind (wpAny_pure (wpAny_bind (wpAny_dictEpoch hod hdd ?_)))
  rw [if_neg (by simp)]
  refine wpAny_pure ?_
  simp only [show ¬ ((i : Int) < 0) by omega, if_false, Int.toNat_natCast, Array.getElem?_eq_none hge]
  refine wpAny_bind ?_
  first | refine wpAny_bind (wpAny_typeNameOfWhole_keyiter hT (wpAny_pure ?_)) | refine wpAny_bind (wpAny_typeNameOf_keyiter hT (wpAny_pure ?_))
  show wpAny _ _ (setField (.ref it) 0 .none >>= _) _ _ s
  refine wpAny_bind (wpAny_setField ho hd (by simp) ?_)
  show wpAny _ _ (newExc (.type "StopIteration") [] >>= _) _ _ _
  simp only [newExc, newTuple]
  refine wpAny_bind (wpAny_bind (wpAny_newObj_type (wpAny_bind (m := firstArgMember _ _) (wpAny_of_eq (a := Value.none) (by first | rfl | (simp only [firstArgMember]; rfl)) (wpAny_newObj_type ?_ (by size_fits)))) (by size_fits)))
  simp only [raiseNew]
  refine wpAny_bind (wpAny_handled ?_)
  rw [show A.in1.handled = none from hh]
  refine wpAny_bind (wpAny_pure (wpAny_throw ?thr))
  case thr => exact wpAny_bind (wpAny_isInstance (T := "StopIteration") (b := true) ⟨_, Heap.get?_push_size _ rfl, rfl⟩ isSubtype_stop (wpAny_pure (q _ (((Heap.SameBut.update ..).extBut.push _).push _))))
theorem walks (hh : A.handled = none) (I : Addr) (hne : d ≠ I) : Walks prog w A I [I, d] [I] es.size (fun i v => ∃ e, es[i]? = some e ∧ v = e.key) (fun i h => h.IsKeyIter I d i es.size ep ∧ DE h d es ep) where
  sub := fun b hb => by simp at hb; simp [hb]
  frame := fun _ _ _ st hk => ⟨st.1.at fun o e => hk I (by simp) o e, st.2.keep fun o e => hk d (by simp) o e⟩
  item := fun i s Q E hi st hQ => by
    obtain ⟨e, hx⟩ : ∃ e, es[i]? = some e := ⟨es[i], Array.getElem?_eq_getElem hi⟩
    refine next st.1 st.2 hx fun h' hit' hs' => hQ e.key h' s.toks ⟨e, hx, rfl⟩ ⟨hit', st.2.keep fun o z => ?_⟩ fun b o hb z => hs'.extBut b o (fun h => hb (by simp [h])) z
    exact hs'.extBut d o hne z
  done := fun s Q E st hQ => stop hh (Nat.le_refl _) st.1 st.2 fun h' he' => hQ h' s.toks fun b o hb e => he' b o (fun h => hb (by simp [h])) e
  self := fun _ _ _ _ st hQ => wpAny_pyIter_keyiter st.1 hQ
theorem src (lo : (d == sysModules) = false) : KdlSrc prog w "dict" d d es.size (fun i v => ∃ e, es[i]? = some e ∧ v = e.key) (fun h => DE h d es ep) where
  type := fun _ hm => hm.ty
  there := fun _ hm => ⟨hm.lt, hm.lt⟩
  keep := fun _ _ hm hk => hm.keep fun o e => hk d (.inl rfl) o e
  notList := by decide
  notTuple := by decide
  hint := fun _ _ _ _ hm hq => kdl_hint_dict hm.ty hq
  iter := fun _ s hh hm => ⟨_, _, (fun _ _ hq => iter lo hm hq), walks hh _ (Nat.ne_of_lt hm.lt), ⟨⟨_, Heap.get?_push_size _ rfl, rfl, rfl⟩, hm.keep fun o e => Heap.get?_push_of_some _ e⟩⟩
end
end Dx
set_option Elab.async false
set_option linter.all false
set_option maxRecDepth 100000
/-! del d[k], d.pop(k) of a dict with tuples for keys -/
namespace L2
open PySem PySem.Spec PyProof.Rows
section
variable {X : Cx} {pins : List (Addr × Obj)} {σ : St} {H : Hp} {s : Shared} {a b : Addr} {kvs : List (List Key × V)} {k : List Key} {A : Around} {E : Value → Shared → Prop}
end
section
variable {X : Cx} {o i : Expr} {td ty : TE} {pos tpos : Pos}
end
end L2
set_option Elab.async false
set_option linter.all false
set_option maxRecDepth 100000
/-! locks -/
namespace Pr
open PySem L2 PyProof.Rows
abbrev BP : Type := Int × Int
def keyOf (p : BP) : List Key := [.inl p.1, .inl p.2]
theorem keyOf_inj {p q : BP} (h : keyOf p = keyOf q) : p = q := by
  obtain ⟨a, b⟩ := p
  obtain ⟨c, d⟩ := q
  injection h with h1 h2
  injection h2 with h2 _
  cases h1
  cases h2
  rfl
/-- the dict of shut bars -/
def sd (prs : List BP) : List (List Key × V) := prs.map fun p => (keyOf p, .bl true)
theorem sd_len (prs : List BP) : (sd prs).length = prs.length := List.length_map _
theorem valV_sd (prs : List BP) (p : BP) : (valV (sd prs) (keyOf p)).isSome = decide (p ∈ prs) := by
  induction prs with
  | nil => rfl
  | cons q t ih =>
    show (valV ((keyOf q, V.bl true) :: sd t) (keyOf p)).isSome = _
    by_cases e : q = p
    · subst e
      rw [valV_pos rfl, decide_eq_true (List.mem_cons_self)]; rfl
    · rw [valV_neg (fun z => e (keyOf_inj z)), ih]
      by_cases m : p ∈ t
      · rw [decide_eq_true m, decide_eq_true (List.mem_cons_of_mem _ m)]
      · rw [decide_eq_false m, decide_eq_false (fun z => (List.mem_cons.mp z).elim (fun y => e y.symm) m)]
theorem putK_sd {prs : List BP} {p : BP} (h : p ∉ prs) : putK (sd prs) (keyOf p) (.bl true) = sd (prs ++ [p]) := by
  unfold putK
  rw [valV_any, valV_sd, decide_eq_false h, if_neg Bool.false_ne_true]
  unfold sd
  rw [List.map_append]
  rfl
/-- locks at p, of the ladder at x, with the dict at d -/
def lflds (x d : Addr) : List (Str × V) := [("ladder", .ref x), ("shut_pairs", .ref d)]
structure LockAt (Dc : Addr) (H : Hp) (p x d : Addr) (prs : List BP) : Prop where
  i : ∃ dx, H p = some (.ins Dc dx (lflds x d))
  s : H d = some (.dT (sd prs))
theorem LockAt.same {Dc : Addr} {H H' : Hp} {p x d : Addr} {prs : List BP} (s : Same H H') (h : LockAt Dc H p x d prs) : LockAt Dc H' p x d prs := by
  obtain ⟨⟨dx, h1⟩, h2⟩ := h
  exact ⟨⟨dx, s _ _ h1⟩, s _ _ h2⟩
section
variable {P : Program} {w : World} {K : PySem.W.Frag} {mg : Str → Option Value} {base : Heap} {C : Addr}
inductive sp_linit (Dc : Addr) (vs : List V) (H : Hp) (Q : VK) (E : XK) : Prop
  | mk (p dx x : Addr) (e0 : vs = [.ref p, .ref x]) (hp : H p = some (.ins Dc dx [])) (q : ∀ d H', But p H H' → H d = none → LockAt Dc H' p x d [] → Q .non H') : sp_linit Dc vs H Q E
theorem sc_linit : FnScope ["self", "ladder"] ["self", "ladder"] (defScope sm_Locks_init) := ⟨rfl, rfl, rfl, by decide +kernel, rfl, by decide +kernel, by decide +kernel⟩
theorem linit_ok (T : Txt K mg C) {f : Addr} {fd : FuncData} (F : Fun K "__init__" "Locks.__init__" sm_Locks_init f fd) : FnOk P w K mg base CX0 1 f fd ["self", "ladder"] (sp_linit (cOf mg "Locks")) := by
  refine F.ok sc_linit (fun vs H Q E h => ?_) (fun cdv A outer s H vs Q E hr h => ?_)
  · obtain ⟨p, dx, x, rfl, _⟩ := h
    rfl
  · obtain ⟨p, dx, x, rfl, hp, q⟩ := h
    refine ⟨_, (pss_cons (ps_fld (pv 0) (pv 1) rfl)
      (pss_one (ps_fld (pv 0) pe_dnewT rfl))), ?_⟩
    refine ⟨_, rfl, _, rfl, p, _, dx, _, rfl, hp, T.cl_Locks, T.n_Locks_ladder, by decide, ?_⟩
    intro kn hkn
    have nk : kn ≠ p := fun z => by rw [z, upd_same] at hkn; cases hkn
    have hk0 : H kn = none := by rw [upd_ne nk] at hkn; exact hkn
    refine ⟨_, rfl, p, _, dx, _, rfl, by rw [upd_ne (Ne.symm nk)]; exact upd_same, T.cl_Locks, T.n_Locks_shut_pairs, by show 1 < 1000; decide, ?_⟩
    refine q kn _ (fun c o h n => ?_) hk0 ⟨⟨dx, upd_same⟩, by rw [upd_ne nk]; exact upd_same⟩
    rw [upd_ne n, upd_ne (ne_of_none h hk0), upd_ne n]; exact h
inductive sp_is_shut (C Dc : Addr) (vs : List V) (H : Hp) (Q : VK) (E : XK) : Prop
  | mk (p x d : Addr) (r n b : Int) (ps : List Int) (rows : List Lad.Step) (prs : List BP) (e0 : vs = [.ref p, .int r, .int n]) (hK : LockAt Dc H p x d prs) (hL : LadAt C H x b ps rows) (r0 : 0 ≤ r) (r1 : r ≤ (rows.length : Int)) (n0 : -W40 < n) (n1 : n < W40) (q : ∀ H', Same H H' → Q (.bl (decide ((r, n) ∈ prs))) H') : sp_is_shut C Dc vs H Q E
theorem sc_is_shut : FnScope ["self", "roll", "number"] ["self", "roll", "number"] (defScope sm_Locks_is_shut) := ⟨rfl, rfl, rfl, by decide +kernel, rfl, by decide +kernel, by decide +kernel⟩
theorem is_shut (T : Txt K mg C) : CanM P w K mg base (cOf mg "Locks") 4 "is_shut" ["self", "roll", "number"] (sp_is_shut C (cOf mg "Locks")) := by
  refine fm_can T.m_Locks_is_shut sc_is_shut (fun vs H Q E h => ?_) (fun f cdv A outer s H vs Q E hr h => ?_)
  · obtain ⟨p, x, d, r, n, b, ps, rows, prs, rfl, _⟩ := h
    rfl
  · obtain ⟨p, x, d, r, n, b, ps, rows, prs, rfl, ⟨⟨dx, hp⟩, hd⟩, hL, r0, r1, n0, n1, q⟩ := h
    refine ⟨_, (pss_cons (ps_expr (pe_can (need_roll T) hr (pa3 (pv 1) pe_int (pe_op op_sub (pe_canM0 (pe_fldK K (pv 0) rfl) T.cl (rolls T) hr) pe_int))))
      (pss_cons (ps_expr (pe_can (need_number T) hr (pa1 (pv 2))))
      (pss_one (ps_ret (pe_cmp (pc_din (hu_of hr) (pe_tup (pa2 (pv 1) (pv 2))) (pe_fldK K (pv 0) rfl))))))), ?_⟩
    obtain ⟨ldx, fa, fo, fc, hi⟩ := lad_ins hL
    refine ⟨_, rfl, _, rfl, p, _, dx, _, _, rfl, hp, T.cl_Locks, T.n_Locks_ladder, rfl, x, ldx, _, rfl, hi, flds_no _ _ _ (by decide) (by decide) (by decide), x, b, ps, rows, rfl, hL, _, _, rfl, rfl, r, 0, _, rfl, r0, by omega, ?_⟩
    refine ⟨_, rfl, n, rfl, n0, n1, ?_⟩
    refine ⟨_, rfl, _, rfl, two_line, fun t ht => ?_⟩
    have s1 : Same H (upd H t (.tup [.int r, .int n])) := Same.upd ht
    refine ⟨_, rfl, p, _, dx, _, _, rfl, s1 _ _ hp, T.cl_Locks, T.n_Locks_shut_pairs, rfl, d, _, rfl, DGet.t (k := keyOf (r, n)) (s1 _ _ hd) upd_same, ?_⟩
    rw [valV_sd]
    exact q _ s1
inductive sp_shut (C Dc : Addr) (vs : List V) (H : Hp) (Q : VK) (E : XK) : Prop
  | mk (p x d : Addr) (r n b : Int) (ps : List Int) (rows : List Lad.Step) (prs : List BP) (e0 : vs = [.ref p, .int r, .int n]) (hK : LockAt Dc H p x d prs) (hL : LadAt C H x b ps rows) (r0 : 0 ≤ r) (r1 : r ≤ (rows.length : Int)) (n0 : -W40 < n) (n1 : n < W40) (hl : prs.length < 1000) (no : (r, n) ∉ prs) (q : ∀ H', But d H H' → LockAt Dc H' p x d (prs ++ [(r, n)]) → Q .non H') : sp_shut C Dc vs H Q E
theorem sc_shut : FnScope ["self", "roll", "number"] ["self", "roll", "number"] (defScope sm_Locks_shut) := ⟨rfl, rfl, rfl, by decide +kernel, rfl, by decide +kernel, by decide +kernel⟩
theorem shut (T : Txt K mg C) : CanM P w K mg base (cOf mg "Locks") 5 "shut" ["self", "roll", "number"] (sp_shut C (cOf mg "Locks")) := by
  refine fm_can T.m_Locks_shut sc_shut (fun vs H Q E h => ?_) (fun f cdv A outer s H vs Q E hr h => ?_)
  · obtain ⟨p, x, d, r, n, b, ps, rows, prs, rfl, _⟩ := h
    rfl
  · obtain ⟨p, x, d, r, n, b, ps, rows, prs, rfl, ⟨⟨dx, hp⟩, hd⟩, hL, r0, r1, n0, n1, hl, no, q⟩ := h
    refine ⟨_, (pss_cons (ps_if (pt_val (pe_canM (pv 0) T.cl_Locks (is_shut T) hr (pa2 (pv 1) (pv 2)))) pss_never pss_nil)
      (pss_one (ps_dput (hu_of hr) (pe_fldK K (pv 0) rfl) (pe_tup (pa2 (pv 1) (pv 2))) pe_bl rfl))), ?_⟩
    refine ⟨_, rfl, p, dx, _, rfl, hp, rfl, _, rfl, _, rfl, p, x, d, r, n, b, ps, rows, prs, rfl, ⟨⟨dx, hp⟩, hd⟩, hL, r0, r1, n0, n1, fun H1 s1 => ⟨_, rfl, iteN (decide_eq_false no) ?_⟩⟩
    refine ⟨_, rfl, p, _, dx, _, _, rfl, s1 _ _ hp, T.cl_Locks, T.n_Locks_shut_pairs, rfl, _, rfl, _, rfl, two_line, fun t ht => ?_⟩
    have s2 : Same H (upd H1 t (.tup [.int r, .int n])) := s1.trans (Same.upd ht)
    refine ⟨d, _, rfl, DPut.t (k := keyOf (r, n)) (s2 _ _ hd) upd_same (by rw [sd_len, sizeLine_eq]; omega), ?_⟩
    rw [putK_sd no]
    have pd : p ≠ d := fun z => by rw [z, hd] at hp; cases hp
    exact q _ (fun c o h n => by rw [upd_ne n]; exact s2 _ _ h) ⟨⟨dx, by rw [upd_ne pd]; exact s2 _ _ hp⟩, upd_same⟩
end
end Pr
set_option Elab.async false
set_option linter.all false
set_option maxRecDepth 100000
/-! repr, ==, != of data (numbers, texts, None, lists and tuples of these), min and max of a list of ints, over the hand layer. -/
namespace L2
open PySem PySem.Spec PyProof.Rows
/-! a thing that is read as that data -/
section
variable {X : Cx} {pins : List (Addr × Obj)} {σ : St} {H : Hp} {s : Shared}
end
section
variable {X : Cx}
end
section
variable {X : Cx}
end
end L2
set_option Elab.async false
set_option linter.all false
set_option maxRecDepth 100000
/-! repr of a list whose things are data or flat dicts, over the hand layer. -/
namespace L2
open PySem PySem.Spec PyProof.Rows
/-- a thing that is no object, as data -/
inductive Flat : Value → PyData → Prop
  | none : Flat .none .none
  | bool (b : Bool) : Flat (.bool b) (.bool b)
  | int (i : Int) (t : Tok) : Flat (.int i t) (.int i)
  | str (x : Str) (t : Tok) : Flat (.str x t) (.str x)
/-- a dict at a whose keys and values are no objects -/
def LitP (a : Addr) (kvs : List (PyData × PyData)) (h : Heap) : Prop :=
  (a == sysModules) = false ∧ ∃ o es n, h.get? a = some o ∧ o.cls = .type "dict" ∧ o.data = .dict es n ∧ Paired Flat (es.toList.map (·.key)) (kvs.map (·.1)) ∧ Paired Flat (es.toList.map (·.val)) (kvs.map (·.2))
def LitO (a : Addr) (kvs : List (PyData × PyData)) : HO := .ext (LitP a kvs)
theorem litO_ok {P : Program} {w : World} {H : Hp} {h : Heap} {a : Addr} {kvs : List (PyData × PyData)} (x : LitP a kvs h) : ObjOk P w H h a (LitO a kvs) := by
  refine ⟨x, ?_, fun h1 h2 y k => ?_⟩
  · obtain ⟨_, o, _, _, e, _⟩ := x; exact ⟨o, e⟩
  · obtain ⟨s, o, es, n, e, r⟩ := y; exact ⟨s, o, es, n, k o e, r⟩
/-- a key's and a flat value's data -/
def keyD : Key → PyData
  | .inl i => .int i
  | .inr x => .str x
def flatD : V → Option PyData
  | .non => some .none
  | .bl b => some (.bool b)
  | .int i => some (.int i)
  | .str x => some (.str x)
  | _ => none
theorem flat_key {P : Program} {w : World} {k : Key} {v : Value} (h : (mixKind P w).is k v = true) : Flat v (keyD k) := by
  rcases keyIs_shape h with ⟨i, t, rfl, rfl⟩ | ⟨x, t, rfl, rfl⟩
  · exact .int i t
  · exact .str x t
theorem flat_val {x : V} {u : Value} {d : PyData} (e : flatD x = some d) (r : RelV x u) : Flat u d := by
  cases x with
  | non => cases e; cases r; exact .none
  | bl b => cases e; cases r; exact .bool b
  | int i => cases e; obtain ⟨t, rfl⟩ := r; exact .int i t
  | str y => cases e; obtain ⟨t, rfl⟩ := r; exact .str y t
  | _ => cases e
section
variable {X : Cx} {pins : List (Addr × Obj)} {σ : St} {H : Hp} {s : Shared}
end
section
variable {X : Cx}
end
end L2
set_option Elab.async false
set_option linter.all false
set_option maxRecDepth 100000
/-! isinstance of None, texts and dicts, too, over the hand layer. -/
namespace L2
open PySem PySem.Spec PyProof.Rows
inductive TyW (H : Hp) : V → Value → Prop
  | s {x : V} {t : Value} (h : TyS H x t) : TyW H x t
  | non : TyW H .non (.type "NoneType")
  | str (x : Str) : TyW H (.str x) (.type "str")
  | dK {a : Addr} {kvs : List (Key × V)} (h : H a = some (.dK kvs)) : TyW H (.ref a) (.type "dict")
  | lit {a : Addr} {kvs : List (PyData × PyData)} (h : H a = some (LitO a kvs)) : TyW H (.ref a) (.type "dict")
section
variable {X : Cx}
theorem tyw_kit {pins : List (Addr × Obj)} {σ : St} {H : Hp} {s : Shared} {x : V} {u t : Value} (I : Inv X pins σ H s) (rx : RelV x u) (ty : TyW H x t) : ∃ Hx : Heap → Prop, PySem.W.KitX X.K u t Hx ∧ Hx s.heap ∧ u ≠ .builtin "__main__.__loader__#opaque" := by
  cases ty with
  | s h => exact ty_kit I rx h
  | non => cases (show u = Value.none from rx); exact ⟨_, PySem.W.kitx_none, True.intro, fun z => nomatch z⟩
  | str y => obtain ⟨t, q⟩ := (show ∃ t, u = Value.str y t from rx); cases q; exact ⟨_, PySem.W.kitx_str, True.intro, fun z => nomatch z⟩
  | @dK a kvs h =>
    cases (show u = Value.ref a from rx)
    obtain ⟨_, _, _, _, o, _, _, e, c, _⟩ := (show ObjOk X.prog X.w H s.heap a (.dK kvs) from I.hok a _ h)
    exact ⟨_, PySem.W.kitx_dict, ⟨o, e, c.1⟩, fun z => nomatch z⟩
  | @lit a kvs h =>
    cases (show u = Value.ref a from rx)
    obtain ⟨⟨_, o, _, _, e, c, _⟩, _⟩ := (show ObjOk X.prog X.w H s.heap a (LitO a kvs) from I.hok a _ h)
    exact ⟨_, PySem.W.kitx_dict, ⟨o, e, c⟩, fun z => nomatch z⟩
inductive cIsW (K : PySem.W.Frag) (xs : List V) (H : Hp) (Q : VK) : Prop
  | mk (x : V) (t : Value) (T : String) (b : Bool) (e : xs = [x, .ty T]) (h : TyW H x t) (k : PySem.W.kitOne K t (.type T) = some b) (q : Q (.bl b) H) : cIsW K xs H Q
theorem call_isiW (K : PySem.W.Frag) (ek : X.K = K := by rfl) : CallR X (.builtin "isinstance") (cIsW K) := by
  subst ek
  intro pins s σ H xs us Q I r h
  obtain ⟨x, t, T, b, rfl, ty, e, q⟩ := h
  obtain ⟨u, w', rfl, rx, rt⟩ := vals2 r
  cases rt
  obtain ⟨Hx, Z, p, hx⟩ := tyw_kit I rx ty
  exact PySem.W.kia_one Z I.kIn p e hx fun tk => ⟨.bl b, H, I.tok tk, rfl, q⟩
end
end L2
set_option Elab.async false
set_option linter.all false
set_option maxRecDepth 100000
/-! displays of dicts whose keys are ints, texts and None, over the hand layer: flat dicts that are never written. -/
namespace L2
open PySem PySem.Spec PyProof.Rows
abbrev KeyN := Option Key
def keyNIs : KeyN → Value → Bool
  | none, .none => true
  | none, _ => false
  | some k, v => keyIs k v
theorem keyNIs_shape : ∀ {k : KeyN} {v : Value}, keyNIs k v = true → (k = none ∧ v = .none) ∨ ∃ j, k = some j ∧ keyIs j v = true
  | none, v, h => by cases v <;> first | exact .inl ⟨rfl, rfl⟩ | cases h
  | some j, v, h => .inr ⟨j, rfl, h⟩
theorem keyIs_none {j : Key} (h : keyIs j .none = true) : False := by
  rcases keyIs_shape h with ⟨_, _, _, e⟩ | ⟨_, _, _, e⟩ <;> cases e
theorem hash_none {prog : Program} {w : World} {A : Around} {E : Value → Shared → Prop} {s : Shared} {Q : Int → Shared → Prop} (h : Q 0xFCA86420 { s with toks := s.toks + 1 }) : wpAny (model prog w) A (pyHash .none) Q E s := by
  have hT : s.TypeIs .none "NoneType" := rfl
  unfold pyHash
  have hv : [Value.none].any Value.onHeap = false := rfl
  refine wpAny_bind ?_
  rw [cRoomFor, if_neg (by rw [hv]; exact Bool.false_ne_true)]; refine wpAny_pure ?_
  refine wpAny_bind (wpAny_specialOf hT F.slot_NoneType_hash.lookup ?_)
  show wpAny _ _ (if (some (Value.builtin "NoneType.__hash__") == some Value.none) = true then _ else _) Q E s
  rw [if_neg (by rw [beq_builtin_none]; exact Bool.false_ne_true)]
  refine wpAny_bind (wpAny_specialOf hT F.slot_NoneType_hash.lookup ?_)
  show wpAny _ _ (callSpecialIfBoundUnlessNone? .none "__hash__" _ >>= _) Q E s
  refine wpAny_bind (wpAny_callSpecialIfBoundUnlessNone?_slot hT F.slot_NoneType_hash
    (wpAny_call_entry F.slot_NoneType_hash hT F.entry_NoneType_hash
      (show wpAny _ _ (do ret (← mkInt 0xFCA86420)) _ _ s from wpAny_ret_mkInt ?_) (F.args_NoneType_hash_1 _)))
  show wpAny _ _ (if (decide (-(2 : Int) ^ 63 ≤ 0xFCA86420) && decide ((0xFCA86420 : Int) < 2 ^ 63)) = true then _ else _) Q E _
  rw [if_pos (by decide)]
  exact wpAny_pure h
def litKind (prog : Program) (w : World) : PySem.KeyKind prog w KeyN where
  is := keyNIs
  hash := fun k => match k with | none => 0xFCA86420 | some j => keyH w j
  inj := fun v a b ha hb => by
    rcases keyNIs_shape ha with ⟨rfl, rfl⟩ | ⟨i, rfl, ha'⟩
    · rcases keyNIs_shape hb with ⟨rfl, _⟩ | ⟨j, rfl, hb'⟩
      · rfl
      · exact (keyIs_none hb').elim
    · rcases keyNIs_shape hb with ⟨rfl, rfl⟩ | ⟨j, rfl, hb'⟩
      · exact (keyIs_none ha').elim
      · rw [(mixKind prog w).inj v i j ha' hb']
  byValue := fun k v h => by
    rcases keyNIs_shape h with ⟨rfl, rfl⟩ | ⟨i, rfl, h'⟩
    · rfl
    · exact (mixKind prog w).byValue i v h'
  pyHash := fun hv h => by
    rcases keyNIs_shape hv with ⟨rfl, rfl⟩ | ⟨i, rfl, h'⟩
    · exact hash_none h
    · exact (mixKind prog w).pyHash h' h
  eqBool := fun hu hv h => by
    rcases keyNIs_shape hu with ⟨rfl, rfl⟩ | ⟨i, rfl, hu'⟩
    · rcases keyNIs_shape hv with ⟨rfl, rfl⟩ | ⟨j, rfl, hv'⟩
      · exact SeqAt.EqAt.same _ _ _ _ _ h
      · rcases keyIs_shape hv' with ⟨k, t, rfl, rfl⟩ | ⟨x, t, rfl, rfl⟩
        · exact SeqAt.EqAt.none_int k t _ _ _ _ h
        · exact SeqAt.EqAt.none_str x t _ _ _ _ h
    · rcases keyNIs_shape hv with ⟨rfl, rfl⟩ | ⟨j, rfl, hv'⟩
      · rcases keyIs_shape hu' with ⟨k, t, rfl, rfl⟩ | ⟨x, t, rfl, rfl⟩
        · exact SeqAt.EqAt.int_none k t _ _ _ _ h
        · exact SeqAt.EqAt.str_none x t _ _ _ _ h
      · refine (mixKind prog w).eqBool hu' hv' ?_
        have e : decide ((some i : KeyN) = some j) = decide (i = j) := by by_cases z : i = j <;> simp [z]
        rw [e] at h
        exact h
  «strs» := fun k x t v h => by
    rcases keyNIs_shape h with ⟨rfl, e⟩ | ⟨i, rfl, h'⟩
    · cases e
    · exact (mixKind prog w).strs i x t v h'
def kVN : KeyN → V
  | none => .non
  | some k => kV k
def keyDN : KeyN → PyData
  | none => .none
  | some k => keyD k
theorem flat_keyN {P : Program} {w : World} {k : KeyN} {v : Value} (h : (litKind P w).is k v = true) : Flat v (keyDN k) := by
  rcases keyNIs_shape h with ⟨rfl, rfl⟩ | ⟨i, rfl, h'⟩
  · exact .none
  · exact flat_key (P := P) (w := w) h'
theorem kVN_is {P : Program} {w : World} {k : KeyN} {u : Value} (r : RelV (kVN k) u) : (litKind P w).is k u = true := by
  cases k with
  | none => cases (show u = Value.none from r); rfl
  | some j => exact kV_is (P := P) (w := w) r
def FlatN : List (KeyN × V) → List (PyData × PyData) → Prop := Paired fun e p => keyDN e.1 = p.1 ∧ flatD e.2 = some p.2
theorem flat_keysN {P : Program} {w : World} : ∀ {kvs : List (KeyN × V)} {ds : List (PyData × PyData)} {vs : List (KeyN × Value)} {es : List DictEntry}, FlatN kvs ds → KV kvs vs → Pairs (litKind P w) es vs →
    Paired Flat (es.map (·.key)) (ds.map (·.1)) ∧ Paired Flat (es.map (·.val)) (ds.map (·.2))
  | _, _, _, _, .nil, .nil, .nil => ⟨.nil, .nil⟩
  | _, _, _, _, .cons f fs, .cons r rs, .cons k v ps => by
    obtain ⟨a, b⟩ := flat_keysN fs rs ps
    refine ⟨.cons ?_ a, .cons ?_ b⟩
    · exact Eq.mp (congrArg (Flat _) ((congrArg keyDN r.1).symm.trans f.1)) (flat_keyN k)
    · exact Eq.mp (congrArg (fun z => Flat z _) v.symm) (flat_val f.2 r.2)
theorem carriesN {P : Program} {w : World} : ∀ {kvs : List (KeyN × V)} {ws : List (Value × Value)}, VV (kvs.map fun kv => (kVN kv.1, kv.2)) ws → ∃ rs, Carries (litKind P w) ws rs ∧ KV kvs rs
  | [], _, r => by rw [List.map_nil] at r; cases r; exact ⟨[], True.intro, .nil⟩
  | p :: kvs, _, r => by
    rw [List.map_cons] at r
    cases r with
    | @cons a b as bs h t =>
      obtain ⟨rs, c, q⟩ := carriesN (P := P) (w := w) t
      obtain ⟨b1, b2⟩ := b
      exact ⟨(p.1, b2) :: rs, ⟨kVN_is h.1, rfl, c⟩, .cons ⟨rfl, h.2⟩ q⟩
theorem KV.keysR {κ : Type} : ∀ {kvs : List (κ × V)} {rs : List (κ × Value)}, KV kvs rs → rs.map (·.1) = kvs.map (·.1)
  | _, _, .nil => rfl
  | _, _, .cons h t => by rw [List.map_cons, List.map_cons, KV.keysR t, h.1]
theorem merged_new {κ : Type} [DecidableEq κ] : ∀ (more kvs : List (κ × Value)), ((kvs ++ more).map (·.1)).Nodup → merged kvs more = kvs ++ more
  | [], kvs, _ => (List.append_nil kvs).symm
  | p :: r, kvs, h => by
    have e : stored kvs p.1 p.2 = kvs ++ [p] := by
      unfold stored
      rw [if_neg]
      intro z
      obtain ⟨q, hq, e⟩ := List.any_eq_true.mp z
      have e' : q.1 = p.1 := of_decide_eq_true e
      rw [List.map_append, List.map_cons] at h
      exact (List.nodup_append.mp h).2.2 _ (List.mem_map_of_mem (f := fun x : κ × Value => x.1) hq) _ List.mem_cons_self e'
    have h2 : ((kvs ++ [p] ++ r).map (·.1)).Nodup := by rw [List.append_assoc]; exact h
    have := merged_new r (kvs ++ [p]) h2
    show merged (stored kvs p.1 p.2) r = _
    rw [e, this, List.append_assoc]; rfl
/-- {k: v, ..} with keys ints, texts and None, no two alike, and values that are no objects -/
def tLit (trs : List (TE × TE)) : TE := fun σ H Q => ∀ p, H p = none → tPairs trs σ (upd H p (.dK [])) fun ps H2 => H2 p = some (.dK []) ∧ ∃ (kvs : List (KeyN × V)) (ds : List (PyData × PyData)), ps = kvs.map (fun kv => (kVN kv.1, kv.2)) ∧ (kvs.map (·.1)).Nodup ∧ FlatN kvs ds ∧ Q (.ref p) (upd H2 p (LitO p ds))
theorem pe_lit {X : Cx} {pos : Pos} {keys : List (Option Expr)} {values : List Expr} {trs : List (TE × TE)} (h : PPs X pos keys values trs) (hall : keys.all (·.isSome) = true) (hl : keys.length = values.length) (h0 : keys ≠ [])
    (h15 : keys.length ≤ 15) : PE X (.Dict keys values pos) (tLit trs) := by
  refine ⟨?_⟩
  intro pins s σ H Q I q
  have hn := I.hok.fresh (Nat.le_refl s.heap.objs.size)
  have I1 := I.laid (a := s.heap.objs.size) (o := .dK []) (h' := s.heap.push { cls := .type "dict", data := .dict #[] }) (t' := s.toks) (fun _ _ q => Heap.get?_push_of_some _ q) (Nat.le_refl _) (dk_empty s.heap I.big)
  refine wpAny_Dict_walk (knd := litKind X.prog X.w) hall hl h0 h15 (thn (h pins _ σ _ _ I1 (q _ hn)) fun ws s2 ⟨ps, H2, I2, rel, e, kvs, ds, ep, nd, fl, q2⟩ => ?_)
  subst ep
  obtain ⟨rs, c, rk⟩ := carriesN (P := X.prog) (w := X.w) rel
  obtain ⟨z, hd, vs0, r0, dd⟩ := dk_of I2.hok e
  cases r0
  have dd0 : s2.heap.DictOf (litKind X.prog X.w) s.heap.objs.size [] := by
    obtain ⟨o, es, ep, e1, e2, e3, _, e5, _⟩ := dd
    have ee : es.toList = [] := by cases hh : es.toList with
      | nil => rfl
      | cons y ys => rw [hh] at e5; cases e5
    refine ⟨o, es, ep, e1, e2, e3, fun y hy => ?_, by rw [ee]; exact .nil, List.nodup_nil⟩
    rw [← Array.mem_toList_iff, ee] at hy
    cases hy
  refine ⟨rs, c, dd0, fun h' dd' hs => ⟨.ref s.heap.objs.size, _, ?_, rfl, q2⟩⟩
  have em : merged [] rs = rs := merged_new rs [] (by rw [List.nil_append, KV.keysR rk]; exact nd)
  rw [em] at dd'
  have he : ∃ q, h'.get? s.heap.objs.size = some q := let ⟨q, _, _, hq, _⟩ := dd'; ⟨q, hq⟩
  obtain ⟨o, es, ep, e1, e2, e3, _, e5, _⟩ := dd'
  obtain ⟨k1, k2⟩ := flat_keysN fl rk e5
  exact d_write I2 (by rw [e]; exact True.intro) hs he (litO_ok ⟨hd, o, es, ep, e1, e2.1, e3, k1, k2⟩)
end L2
set_option Elab.async false
set_option linter.all false
set_option maxRecDepth 100000
/-! the checks, of any thing -/
namespace Pr
namespace Any
open PySem L2 PyProof.Rows
section
variable {P : Program} {w : World} {K : PySem.W.Frag} {mg : Str → Option Value} {base : Heap} {C : Addr}
/-- the whole number that a thing is -/
def wh : V → Option Int
  | .int i => some i
  | _ => none
/-- a thing of a known kind -/
def Kd (H : Hp) (v : V) : Prop := ∃ t, TyW H v t
/-- is it an int, is it a bool -/
theorem kd_int {H : Hp} {v : V} {t : Value} (K : PySem.W.Frag) (h : TyW H v t) : (∃ i, v = .int i ∧ t = .type "int") ∨ (∃ b, v = .bl b ∧ t = .type "bool") ∨ (wh v = none ∧ PySem.W.kitOne K t (.type "int") = some false) := by
  cases h with
  | s h =>
    cases h with
    | bl b => exact .inr (.inl ⟨b, rfl, rfl⟩)
    | int i => exact .inl ⟨i, rfl, rfl⟩
    | lst e => exact .inr (.inr ⟨rfl, by rfl⟩)
    | tup e => exact .inr (.inr ⟨rfl, by rfl⟩)
  | non => exact .inr (.inr ⟨rfl, by rfl⟩)
  | str x => exact .inr (.inr ⟨rfl, by rfl⟩)
  | dK e => exact .inr (.inr ⟨rfl, by rfl⟩)
  | lit e => exact .inr (.inr ⟨rfl, by rfl⟩)
theorem kit_bool_int (K : PySem.W.Frag) : PySem.W.kitOne K (.type "bool") (.type "int") = some true := by rfl
theorem kit_bool (K : PySem.W.Frag) : PySem.W.kitOne K (.type "bool") (.type "bool") = some true := by rfl
/-- is_whole -/
inductive sp_is_whole (vs : List V) (H : Hp) (Q : VK) (E : XK) : Prop
  | mk (v : V) (h0_ : vs = [v]) (k : Kd H v) (h1_ : Q (.bl (wh v).isSome) H) : sp_is_whole vs H Q E
theorem sc_is_whole : FnScope ["value"] ["value"] (defScope s_is_whole) := ⟨rfl, rfl, rfl, by decide +kernel, rfl, by decide +kernel, by decide +kernel⟩
theorem is_whole (T : Txt K mg C) : Can P w K mg base 1 "is_whole" ["value"] sp_is_whole := by
  refine fn_can T.f_is_whole sc_is_whole (fun vs H Q E h => ?_) (fun f cdv A outer s H vs Q E hr h => ?_)
  · obtain ⟨i, rfl, _⟩ := h
    rfl
  · obtain ⟨v, rfl, ⟨t, ty⟩, k⟩ := h
    refine ⟨_, pss_one (ps_ret (pe_and (pe_b (call_isiW K) T.b_isinstance boot_isinstance (pa2 (pv 0) (pe_ty rfl T.b_int boot_int))) (pe_one (pe_not (pe_b (call_isiW K) T.b_isinstance boot_isinstance (pa2 (pv 0) (pe_ty rfl T.b_bool boot_bool))))))), ?_⟩
    rcases kd_int K ty with ⟨i, rfl, rfl⟩ | ⟨b, rfl, rfl⟩ | ⟨e, kt⟩
    · exact ⟨_, rfl, ⟨_, _, _, _, rfl, ty, kit_int _, _, rfl, iteT ⟨_, rfl, ⟨_, _, _, _, rfl, ty, kit_int_bool _, _, rfl, k⟩⟩⟩⟩
    · exact ⟨_, rfl, ⟨_, _, _, _, rfl, ty, kit_bool_int _, _, rfl, iteT ⟨_, rfl, ⟨_, _, _, _, rfl, ty, kit_bool _, _, rfl, k⟩⟩⟩⟩
    · rw [e] at k
      exact ⟨_, rfl, ⟨_, _, _, _, rfl, ty, kt, _, rfl, iteF k⟩⟩
/-- is_whole_from -/
def whF (a b : Int) (v : V) : Bool := match wh v with | some i => decide (a ≤ i) && decide (i ≤ b) | none => false
inductive sp_is_whole_from (vs : List V) (H : Hp) (Q : VK) (E : XK) : Prop
  | mk (v : V) (a : Int) (b : Int) (h0_ : vs = [v, .int a, .int b]) (kd : Kd H v) (h1_ : Q (.bl (whF a b v)) H) : sp_is_whole_from vs H Q E
theorem sc_is_whole_from : FnScope ["value", "least", "greatest"] ["value", "least", "greatest"] (defScope s_is_whole_from) := ⟨rfl, rfl, rfl, by decide +kernel, rfl, by decide +kernel, by decide +kernel⟩
theorem wh_some {v : V} {i : Int} (h : wh v = some i) : v = .int i := by
  cases v <;> first | (cases h; rfl) | cases h
theorem is_whole_from (T : Txt K mg C) : Can P w K mg base 2 "is_whole_from" ["value", "least", "greatest"] sp_is_whole_from := by
  refine fn_can T.f_is_whole_from sc_is_whole_from (fun vs H Q E h => ?_) (fun f cdv A outer s H vs Q E hr h => ?_)
  · obtain ⟨i, a, b, rfl, _⟩ := h
    rfl
  · obtain ⟨v, a, b, rfl, kd, k⟩ := h
    refine ⟨_, pss_one (ps_ret (pe_and (pe_can (is_whole T) hr (pa1 (pv 0))) (pe_one (pe_chain op_le op_le (pv 1) (pv 0) (pv 2))))), ?_⟩
    refine ⟨_, rfl, v, rfl, kd, _, rfl, ?_⟩
    unfold whF at k
    cases e : wh v with
    | none => rw [e] at k; exact iteF k
    | some i =>
      rw [e] at k
      cases wh_some e
      refine iteT ?_
      refine ⟨_, rfl, _, rfl, _, _, rfl, rfl, _, rfl, ?_⟩
      refine iteB (fun h => ?_) (fun h => ?_)
      · rw [show (match some i with | some i => decide (a ≤ i) && decide (i ≤ b) | none => false) = (decide (a ≤ i) && decide (i ≤ b)) from rfl, h, Bool.true_and] at k
        exact ⟨_, rfl, _, _, rfl, rfl, k⟩
      · rw [show (match some i with | some i => decide (a ≤ i) && decide (i ≤ b) | none => false) = (decide (a ≤ i) && decide (i ≤ b)) from rfl, h, Bool.false_and] at k
        exact k
end
end Any
end Pr
set_option Elab.async false
set_option linter.all false
set_option maxRecDepth 100000
/-! methods from which errors may leave -/
namespace L2
open PySem PySem.Spec PyProof.Rows
def CanMX (P : Program) (w : World) (K : PySem.W.Frag) (mg : Str → Option Value) (base : Heap) (C : Addr) (k : Nat) (x : Str) (ps : List Str) (sp : Sp) : Prop :=
  ∃ f fd, FnOk P w K mg base (CX1 P w) k f fd ps sp ∧ Meth K C x f ∧ Binds K fd ps []
section
variable {P : Program} {w : World} {K : PySem.W.Frag} {mg : Str → Option Value} {base : Heap}
theorem fm_canX {C : Addr} {x qual : Str} {st : Stmt} {N ps : List Str} {k : Nat} {sp : Sp} (h : ∃ f fd, Fm K C x qual st ps f fd) (S : FnScope N ps (defScope st)) (len : ∀ vs H Q E, sp vs H Q E → vs.length = ps.length)
    (hbody : ∀ (f : Addr) (cdv : Value) (A : Around) (outer : List Env) (s : Shared) (H : Hp) (vs : List V) (Q : VK) (E : XK), Room k (A.deeper (envOfC qual (defScope st) s.heap.objs.size f cdv)) → Wish (cxOf (CX1 P w) P w K mg base N qual (defScope st) f cdv A outer s H E) E → sp vs H Q E →
      ∃ t, PSs (cxOf (CX1 P w) P w K mg base N qual (defScope st) f cdv A outer s H E) (defBody st) t ∧ t { nx := fun _ H' => Q .non H', rt := Q } (start N vs) H) : CanMX P w K mg base C (k + 1) x ps sp := by
  obtain ⟨f, fd, F⟩ := h
  obtain ⟨oc, od, kV, doc, pm, an, cdv, ct, osl, e, lk, hcd⟩ := F.fn.ex
  refine ⟨f, fd, ?_, F.m, F.b⟩
  subst e
  exact fn_of lk hcd S len fun A outer s H vs Q E hr hsp => hbody f cdv A outer s H vs Q E hr wish_def hsp
end
section
variable {X : Cx} {k k' : Nat} {x m : Str} {ps : List Str} {sp : Sp} {p pos apos : Pos} {e o : Expr} {es : List Expr} {ta : TE} {t : TA} {C : Addr} {E : XK}
theorem pe_canMX {pl : Sem Bool} (ho : PE X o ta) (c : Cls X.K C) (h : CanMX X.prog X.w X.K X.mg X.base C k m ps sp) (W : Wish X E) (hr : Room k' X.A) (ha : PA X (e :: es) t) (hk : k ≤ k' := by decide)
    (hst : starEach (e :: es) X.env = (false, eval e X.env) :: starEach es X.env := by rfl) (hpl : (backTo pos (starEach es X.env)).any (·.1) = false := by rfl)
    (ht : eval (.Call (.Attribute o m apos) (e :: es) [] pos) X.env = (do
      let ov ← eval o X.env
      standAt apos.atName
      let (f, first) ← holding [ov] (getMethod ov m pl)
      callWith pos f first (backTo pos (starEach (e :: es) X.env)) (backToKw pos (keywordEach [] X.env))) := by rfl) : PE X (.Call (.Attribute o m apos) (e :: es) [] pos) (tMeth C m sp [] E ta t) := by
  obtain ⟨f, fd, F, hm, b⟩ := h
  exact pe_meth (pl := pl) ho c hm F (hr.mono hk) b .nil W.pass ha hst hpl ht
end
end L2
set_option Elab.async false
set_option linter.all false
set_option maxRecDepth 100000
/-! what is refused: rolls, numbers, moments -/
namespace Pr
namespace Any
open PySem L2 PyProof.Rows
theorem one_line : 1 ≤ sizeLine := by decide
def whN (v : V) : Bool := match wh v with | some i => decide (-W40 < i) && decide (i < W40) | none => false
section
variable {P : Program} {w : World} {K : PySem.W.Frag} {mg : Str → Option Value} {base : Heap} {C : Addr}
inductive sp_need_roll (mg : Str → Option Value) (vs : List V) (H : Hp) (Q : VK) (E : XK) : Prop
  | mk (v : V) (a b : Int) (e : vs = [v, .int a, .int b]) (kd : Kd H v) (q : whF a b v = true → Q .non H) (x : whF a b v = false → E (.ref (cOf mg "NoRoll")) none H) : sp_need_roll mg vs H Q E
theorem need_roll (T : Txt K mg C) : CanX P w K mg base 3 "need_roll" ["value", "least", "greatest"] (sp_need_roll mg) := by
  refine fn_canX T.f_need_roll sc_need_roll (fun vs H Q E h => ?_) (fun f cdv A outer s H vs Q E hr W h => ?_)
  · obtain ⟨v, a, b, rfl, _⟩ := h
    rfl
  · obtain ⟨v, a, b, rfl, kd, q, x⟩ := h
    refine ⟨_, pss_one (ps_if (pt_not (pt_val (pe_can (is_whole_from T) hr (pa3 (pv 0) (pv 1) (pv 2))))) (pss_one (ps_raise W rfl T.x_NoRoll.cls (pa1 pe_str))) pss_nil), ?_⟩
    refine ⟨_, rfl, _, rfl, _, rfl, v, a, b, rfl, kd, _, rfl, ?_⟩
    cases ho : whF a b v with
    | true => exact iteF (q ho)
    | false => exact iteT ⟨⟨one_line, x ho⟩⟩
inductive sp_need_number (mg : Str → Option Value) (vs : List V) (H : Hp) (Q : VK) (E : XK) : Prop
  | mk (v : V) (e : vs = [v]) (kd : Kd H v) (q : whN v = true → Q .non H) (x : whN v = false → E (.ref (cOf mg "NoNumber")) none H) : sp_need_number mg vs H Q E
theorem need_number (T : Txt K mg C) : CanX P w K mg base 2 "need_number" ["value"] (sp_need_number mg) := by
  refine fn_canX T.f_need_number sc_need_number (fun vs H Q E h => ?_) (fun f cdv A outer s H vs Q E hr W h => ?_)
  · obtain ⟨v, rfl, _⟩ := h
    rfl
  · obtain ⟨v, rfl, kd, q, x⟩ := h
    refine ⟨_, pss_one (ps_if (PW.pt (pw_or (pt_not (pt_val (pe_can (is_whole T) hr (pa1 (pv 0))))) (pw_or1 (pt_not (pt_chain op_lt op_lt (pe_un un_neg (pe_gi T.c_NUMBER_END)) (pv 0) (pe_gi T.c_NUMBER_END)))))) (pss_one (ps_raise W rfl T.x_NoNumber.cls (pa1 pe_str))) pss_nil), ?_⟩
    refine ⟨_, rfl, v, rfl, kd, _, rfl, ?_⟩
    unfold whN at q x
    cases e : wh v with
    | none =>
      rw [e] at x
      exact iteT ⟨⟨one_line, x rfl⟩⟩
    | some i =>
      cases wh_some e
      rw [e] at q x
      dsimp only at q x
      refine iteF ?_
      refine ⟨_, rfl, _, rfl, _, _, rfl, rfl, _, rfl, ?_⟩
      by_cases h1 : -W40 < i
      · rw [decide_eq_true h1, Bool.true_and] at q x
        rw [decide_eq_true h1]
        refine iteT ⟨_, _, rfl, rfl, _, rfl, ?_⟩
        by_cases h2 : i < W40
        · rw [decide_eq_true h2] at q ⊢
          exact iteF (q rfl)
        · rw [decide_eq_false h2] at x ⊢
          exact iteT ⟨⟨one_line, x rfl⟩⟩
      · rw [decide_eq_false h1, Bool.false_and] at x
        rw [decide_eq_false h1]
        exact iteF ⟨_, rfl, iteT ⟨⟨one_line, x rfl⟩⟩⟩
end
end Any
end Pr
set_option Elab.async false
set_option linter.all false
set_option maxRecDepth 100000
/-! x = [.. for a, b in ..]: a comprehension of several names, or with a name that hides one, stored at once. -/
namespace L2
open PySem PySem.Spec PyProof.Rows
section
variable {X : Cx} {xs Ns : List Str} {sc : Scope} {tg iter elt : Expr} {ifs : List Expr} {pos : Pos} {wi : TI} {g : TG} {tc : TT} {te : TE}
end
end L2
set_option Elab.async false
set_option linter.all false
set_option maxRecDepth 100000
/-! list comprehensions whose elements may raise -/
namespace L2
open PySem PySem.Spec PyProof.Rows
abbrev Cx.exC (X : Cx) (xe : Value → Shared → Prop) : Cx := { X with xe := xe }
section
variable {X : Cx} {pins : List (Addr × Obj)} {σ : St} {H : Hp} {s : Shared} {xe : Value → Shared → Prop}
theorem Inv.exC (I : Inv X pins σ H s) (xe : Value → Shared → Prop) : Inv (X.exC xe) pins σ H s :=
  ⟨⟨I.ok.mod, I.ok.kind, I.ok.glob, I.ok.blt, I.ok.above, I.ok.inj, I.ok.has, I.ok.cab, I.ok.hd, I.ok.frames, I.ok.stk, I.ok.exf, I.ok.bs, I.ok.bsz, I.ok.noex, I.ok.exfs, I.ok.funs, I.ok.frf⟩, I.os, I.bare, I.base, I.loc, I.cell, I.free, I.freeC, I.pin, I.hok, I.len⟩
theorem Inv.unexC (I : Inv (X.exC xe) pins σ H s) : Inv X pins σ H s :=
  ⟨⟨I.ok.mod, I.ok.kind, I.ok.glob, I.ok.blt, I.ok.above, I.ok.inj, I.ok.has, I.ok.cab, I.ok.hd, I.ok.frames, I.ok.stk, I.ok.exf, I.ok.bs, I.ok.bsz, I.ok.noex, I.ok.exfs, I.ok.funs, I.ok.frf⟩, I.os, I.bare, I.base, I.loc, I.cell, I.free, I.freeC, I.pin, I.hok, I.len⟩
end
section
variable {X : Cx} {pins : List (Addr × Obj)} {σ : St} {H H' : Hp} {s s₁ : Shared} {cls : XCk} {a C : Addr} {new : Bool} {m : Str → Option Value} {cenv : Env} {E : XK} {use : Option (Value → Sem Unit)} {QQ : Value → Shared → Prop} {acc : Value}
end
section
variable {X : Cx} {xs Ns : List Str} {sc : Scope} {elt iter tg : Expr} {ifs : List Expr} {pos : Pos} {wi : TI} {g : TG} {tc : TT} {te : TE}
end
end L2
set_option Elab.async false
set_option linter.all false
set_option maxRecDepth 100000
/-! locks that refuse -/
namespace Pr
open PySem L2 PyProof.Rows Any
section
variable {P : Program} {w : World} {K : PySem.W.Frag} {mg : Str → Option Value} {base : Heap} {C : Addr}
/-- what is asked of locks is refused: no roll, or no number -/
inductive BadRN (mg : Str → Option Value) (H : Hp) (n : Nat) (v u : V) (cls : Value) : Prop
  | roll (kv : Kd H v) (b : whF 0 n v = false) (e : cls = .ref (cOf mg "NoRoll")) : BadRN mg H n v u cls
  | num (r : Int) (ev : v = .int r) (r0 : 0 ≤ r) (r1 : r ≤ n) (ku : Kd H u) (b : whN u = false) (e : cls = .ref (cOf mg "NoNumber")) : BadRN mg H n v u cls
inductive sp_lockX (mg : Str → Option Value) (C Dc : Addr) (vs : List V) (H : Hp) (Q : VK) (E : XK) : Prop
  | mk (p x d : Addr) (v u : V) (b : Int) (ps : List Int) (rows : List Lad.Step) (prs : List BP) (cls : Value) (e0 : vs = [.ref p, v, u]) (hK : LockAt Dc H p x d prs) (hL : LadAt C H x b ps rows) (bad : BadRN mg H rows.length v u cls) (er : ∀ H', Same H H' → E cls none H') : sp_lockX mg C Dc vs H Q E
theorem is_shutX (T : Txt K mg C) : CanMX P w K mg base (cOf mg "Locks") 4 "is_shut" ["self", "roll", "number"] (sp_lockX mg C (cOf mg "Locks")) := by
  refine fm_canX T.m_Locks_is_shut sc_is_shut (fun vs H Q E h => ?_) (fun f cdv A outer s H vs Q E hr W h => ?_)
  · obtain ⟨p, x, d, v, u, b, ps, rows, prs, cls, rfl, _⟩ := h
    rfl
  · obtain ⟨p, x, d, v, u, b, ps, rows, prs, cls, rfl, ⟨⟨dx, hp⟩, hd⟩, hL, bad, er⟩ := h
    refine ⟨_, (pss_cons (ps_expr (pe_canX (Any.need_roll T) W hr (pa3 (pv 1) pe_int (pe_op op_sub (pe_canM0 (pe_fldK K (pv 0) rfl) T.cl (rolls T) hr) pe_int))))
      (pss_cons (ps_expr (pe_canX (Any.need_number T) W hr (pa1 (pv 2))))
      (pss_one (ps_ret (pe_cmp (pc_din (hu_of hr) (pe_tup (pa2 (pv 1) (pv 2))) (pe_fldK K (pv 0) rfl))))))), ?_⟩
    obtain ⟨ldx, fa, fo, fc, hi⟩ := lad_ins hL
    refine ⟨_, rfl, _, rfl, p, _, dx, _, _, rfl, hp, T.cl_Locks, T.n_Locks_ladder, rfl, x, ldx, _, rfl, hi, flds_no _ _ _ (by decide) (by decide) (by decide), x, b, ps, rows, rfl, hL, _, _, rfl, rfl, ?_⟩
    have e1 : (((rows.length + 1 : Nat) : Int) - 1) = (rows.length : Int) := by omega
    cases bad with
    | roll kv bd e =>
      subst e
      refine .mk v 0 _ rfl kv (fun z => ?_) (fun _ => er H (Same.refl _))
      rw [e1, bd] at z; cases z
    | num r ev r0 r1 ku bd e =>
      subst e ev
      refine .mk _ 0 _ rfl ⟨_, .s (.int r)⟩ (fun _ => ?_) (fun z => ?_)
      · exact ⟨_, rfl, .mk u rfl ku (fun z => by rw [bd] at z; cases z) (fun _ => er H (Same.refl _))⟩
      · rw [e1] at z
        unfold whF wh at z
        simp only [Bool.and_eq_false_iff, decide_eq_false_iff_not] at z
        omega
end
end Pr
set_option Elab.async false
set_option linter.all false
set_option maxRecDepth 100000
/-! the table of a set: its places rise -/
namespace Ss
open PySem
end Ss
set_option Elab.async false
set_option linter.all false
set_option maxRecDepth 100000
/-! a set: made, added to -/
namespace Ss
open PySem
section
variable {prog : Program} {w : World} {K : Type} [DecidableEq K] {knd : KeyKind prog w K} {A : Around} {E : Value → Shared → Prop} {s : Shared} {a : Addr} {es : Array (Int × Value)}
end
end Ss
set_option Elab.async false
set_option linter.all false
set_option maxRecDepth 100000
/-! a set walked through: in some order -/
namespace Ss
open PySem
section
variable {prog : Program} {w : World} {A : Around} {E : Value → Shared → Prop} {s : Shared}
end
end Ss
set_option Elab.async false
set_option linter.all false
set_option maxRecDepth 100000
namespace Ss
open PySem PyProof.Rows
namespace SF
end SF
end Ss
set_option Elab.async false
set_option linter.all false
set_option maxRecDepth 100000
namespace Ss
open PySem PyProof.Rows
section
variable {prog : Program} {w : World} {A : Around} {E : Value → Shared → Prop} {s : Shared} {it a : Addr} {es : Array (Int × Value)} {ep : Nat} {t : SetTable}
end
end Ss
set_option Elab.async false
set_option linter.all false
set_option maxRecDepth 100000
namespace Ss
open PySem PyProof.Rows
section
variable {prog : Program} {w : World} {A : Around} {E : Value → Shared → Prop} {s : Shared} {it a : Addr} {es : Array (Int × Value)} {ep : Nat} {t : SetTable}
end
end Ss
set_option Elab.async false
set_option linter.all false
set_option maxRecDepth 100000
namespace Ss
open PySem PyProof.Rows
section
variable {prog : Program} {w : World} {A : Around} {E : Value → Shared → Prop} {s : Shared} {a : Addr} {es : Array (Int × Value)}
end
end Ss
set_option Elab.async false
set_option linter.all false
set_option maxRecDepth 100000
/-! SETS of ints and texts: comprehensions, sorted. -/
namespace L2
open PySem PySem.Spec PyProof.Rows
section
variable {X : Cx} {pins : List (Addr × Obj)} {σ : St} {H : Hp} {s : Shared}
end

section
variable {X : Cx} {pins : List (Addr × Obj)} {σ : St} {H : Hp} {s : Shared} {xs Ns : List Str} {sc : Scope} {C : Addr} {fp : List Addr}
end
section
variable {X : Cx} {xs Ns : List Str} {sc : Scope} {elt iter tg : Expr} {ifs : List Expr} {pos : Pos} {wi : TI} {g : TG} {tc : TT} {te : TE}
end
end L2
set_option Elab.async false
set_option linter.all false
set_option maxRecDepth 100000
/-! the first run of a sort of ints of any number: what stands behind the run stays as it was -/
namespace Sg
open PySem PyProof.Rows
section
variable {prog : Program} {w : World} {A : Around} {E : Value → Shared → Prop} {s : Shared} {a₀ : Array Keyed}
end
end Sg
set_option Elab.async false
set_option linter.all false
set_option maxRecDepth 100000
/-! galloping, and the one merge that is needed -/
namespace Sg
open PySem PyProof.Rows
end Sg
set_option Elab.async false
set_option linter.all false
set_option maxRecDepth 100000
namespace Sg
open PySem PyProof.Rows
section
variable {prog : Program} {w : World} {A : Around} {E : Value → Shared → Prop} {s : Shared} {a₀ : Array Keyed}
end
end Sg
set_option Elab.async false
set_option linter.all false
set_option maxRecDepth 100000
namespace Sg
open PySem PyProof.Rows
section
variable {prog : Program} {w : World} {A : Around} {E : Value → Shared → Prop} {s : Shared} {a₀ : Array Keyed}
end
end Sg
set_option Elab.async false
set_option linter.all false
set_option maxRecDepth 100000
namespace Sg
open PySem PyProof.Rows
section
variable {prog : Program} {w : World} {A : Around} {E : Value → Shared → Prop} {s : Shared} {a₀ : Array Keyed}
end
end Sg
set_option Elab.async false
set_option linter.all false
set_option maxRecDepth 100000
/-! sorted(xs) of ints, of any number up to a thousand, where but for one of the first two all stand in order -/
namespace Sg
open PySem PyProof.Rows
section
variable {prog : Program} {w : World} {A : Around} {E : Value → Shared → Prop} {s : Shared}
end
end Sg
set_option Elab.async false
set_option linter.all false
set_option maxRecDepth 100000
/-! sorted(xs) of ints, sorted(a set of ints) -/
namespace L2
open PySem PySem.Spec PyProof.Rows
theorem Inv.drawn {X : Cx} {pins : List (Addr × Obj)} {σ : St} {H : Hp} {s : Shared} (d : Drawn) (I : Inv X pins σ H s) : Inv X pins σ H { s with drawn := d } := ⟨I.ok, I.os, I.bare, I.base, I.loc, I.cell, I.free, I.freeC, I.pin, I.hok, I.len⟩
section
variable {X : Cx}
end
end L2
set_option Elab.async false
set_option linter.all false
set_option maxRecDepth 100000
/-! sorted of a list of texts -/
namespace Srt
open PySem
end Srt
namespace L2
open PySem PySem.Spec PySem.W PyProof.Rows
open Classical in
noncomputable def newsOf (base h : Heap) (L : Addr) : List (Addr × Obj) := (List.range h.objs.size).filterMap fun b => if b = L ∨ base.get? b ≠ none then none else (h.get? b).map fun o => (b, o)
theorem newsOf_news (base h : Heap) (L : Addr) : News base L h (newsOf base h L) := by
  intro p hp
  unfold newsOf at hp
  obtain ⟨b, _, e⟩ := List.mem_filterMap.mp hp
  split at e
  · cases e
  · rename_i hn
    obtain ⟨o, ho, rfl⟩ := Option.map_eq_some_iff.mp e
    exact ⟨ho, fun z => hn (.inl z), Classical.byContradiction fun z => hn (.inr z)⟩
theorem newsOf_mem {base h : Heap} {L b : Addr} {o : Obj} (e : h.get? b = some o) (hL : b ≠ L) (hb : base.get? b = none) : (b, o) ∈ newsOf base h L := by
  unfold newsOf
  refine List.mem_filterMap.mpr ⟨b, List.mem_range.mpr (Heap.lt_size e), ?_⟩
  rw [if_neg (by rintro (z | z); exact hL z; exact z hb), e]
  rfl
section
variable {X : Cx} {pins : List (Addr × Obj)} {σ : St} {H : Hp} {s : Shared}
/-- all objects but the frame's own stay, and its names stay -/
theorem Inv.ofFr {h' : Heap} {t' : Nat} {m : Str → Option Value} {more : List (Addr × Obj)} (I : Inv X pins σ H s) (hm : s.heap.Ns X.env.locals m) (F : Fr X.base X.env.locals h' m) (N : News X.base X.env.locals h' (more ++ newsOf X.base s.heap X.env.locals)) :
    (∀ b o, b ≠ X.env.locals → s.heap.get? b = some o → h'.get? b = some o) ∧ Inv X pins σ H { s with heap := h', toks := t' } := by
  have keep : ∀ b o, b ≠ X.env.locals → s.heap.get? b = some o → h'.get? b = some o := fun b o hb e => by
    cases q : X.base.get? b with
    | some o' =>
      have e1 := I.bk b o' q
      rw [e] at e1
      cases e1
      exact F.keep b o q
    | none => exact (N (b, o) (List.mem_append_right _ (newsOf_mem e hb q))).1
  have hL : ∃ o, s.heap.get? X.env.locals = some o := let ⟨o, _, _, e, _⟩ := hm; ⟨o, e⟩
  refine ⟨keep, I.step (g' := s.gens) (d' := s.drawn) (ch := []) (fun b hb => by simp at hb) (fun b o hb _ _ e _ => keep b o hb e) (fun b o hb _ _ e _ => ⟨o.slots, keep b o hb e⟩) (fun _ _ _ _ n => n) (fun b o _ e => ?_) (fun _ _ e => e) (fun _ _ _ e => e) (fun b ps e => ⟨#[], by rw [e]; simp⟩) (fun m' hm' => ?_) (fun b u e => ?_) I.bare⟩
  · by_cases hb : b = X.env.locals
    · obtain ⟨o', _, _, e', _⟩ := F.ns
      exact ⟨o', by rw [hb]; exact e'⟩
    · exact ⟨o, keep b o hb e⟩
  · have em : m' = m := by
      funext y
      obtain ⟨o, es, ep, ho, hd, hk, hf⟩ := hm
      obtain ⟨o', es', ep', ho', hd', hk', hf'⟩ := hm'
      rw [ho] at ho'; cases ho'
      rw [hd] at hd'; cases hd'
      rw [← hf y, ← hf' y]
    rw [em]; exact F.ns
  · refine (I.hok b u e).stay (fun c v hc q => keep c v ?_ q) (fun _ q => q) fun _ _ q => q
    rintro rfl
    rcases hc with rfl | hc
    · rw [I.free] at e; cases e
    · rw [I.free] at hc; cases hc
theorem Inv.trackG {a : Addr} {o : HO} {ob : Obj} (I : Inv X pins σ H s) (he : s.heap.get? a = some ob) (nL : X.env.locals ≠ a) (nd : ∀ v, ob.data ≠ .cell v) (hn : H a = none) (x0 : X.s₀.heap.get? a = none) (xp : ∀ p ∈ X.pn ++ pins, p.1 ≠ a) (new : ObjOk X.prog X.w (upd H a o) s.heap a o) : Inv X pins σ (upd H a o) s := by
  have na : ∀ {b u}, H b = some u → b ≠ a := fun {b u} e z => by rw [z, hn] at e; cases e
  refine ⟨I.ok, I.os, I.bare, ⟨I.base.keep, I.base.slot, fun b o e n hx => ?_, I.base.there, fun b xs e => ?_, fun b o u e => ?_, fun b ps e => ?_⟩, I.loc, I.cell, ?_, fun y c e => ?_, fun p hp => ?_, fun b ob' e => ?_, I.len⟩
  · rw [upd_ne (fun z => by rw [z, x0] at e; cases e)]; exact I.base.free b o e n hx
  · have e1 := I.base.tups b xs e
    rw [upd_ne (na e1)]; exact e1
  · have e1 := I.base.frzs b o u e
    rw [upd_ne (na e1)]; exact e1
  · obtain ⟨m, e1⟩ := I.base.tbls b ps e
    exact ⟨m, by rw [upd_ne (na e1)]; exact e1⟩
  · rw [upd_ne nL]; exact I.free
  · have nc : c ≠ a := fun z => by
      obtain ⟨v, o, ho, hdd⟩ := I.cell y c e
      rw [z, he] at ho; cases ho; exact nd _ hdd
    rw [upd_ne nc]; exact I.freeC y c e
  · obtain ⟨e1, e2, e3⟩ := I.pin p hp
    exact ⟨e1, by rw [upd_ne (xp p hp)]; exact e2, e3⟩
  · by_cases hb : b = a
    · subst hb
      rw [upd_same] at e
      cases e
      exact new
    · rw [upd_ne hb] at e
      refine (I.hok b ob' e).stay (fun c u _ q => q) (fun c q => ?_) fun c xs q => ?_
      · rw [upd_ne (na q)]; exact q
      · rw [upd_ne (na q)]; exact q
end
end L2
set_option Elab.async false
set_option linter.all false
set_option maxRecDepth 100000
/-! sorted of a set of texts -/
namespace L2
open PySem PySem.Spec PySem.W PyProof.Rows
section
variable {X : Cx}
end
end L2
set_option Elab.async false
set_option linter.all false
set_option maxRecDepth 100000
/-! sorted of a list of one thing, or none -/
namespace L2
open PySem PySem.Spec PyProof.Rows
section
variable {prog : Program} {w : World} {A : Around} {E : Value → Shared → Prop} {s : Shared}
theorem sort_small {a : Addr} {vs : List Value} {n : Nat} {P : PySem.Fin → Shared → Prop} (ho : s.heap.get? a = some (seqObj "list" vs.toArray n)) (h2 : vs.length < 2) (h : P (.done (.ret .none)) { s with heap := sortedHeap s.heap a vs vs.toArray }) : wpAny (model prog w) A (Builtin.«list.sort» ⟨[.ref a], []⟩) P E s := by
  rw [list_sort_plain]
  have ha := Heap.lt_size ho
  have hz : vs.length ≤ sizeLine := by rw [sizeLine_eq]; omega
  refine wpAny_bind (listItems_at ho rfl (wpAny_bind (listUpdate_at ho rfl ?_ (by rw [List.size_toArray]; exact hz) (Nat.zero_le _))))
  obtain ⟨e1, ho1⟩ : ∃ e1, (s.heap.update a (Obj.mapSeq fun _ => (#[] : Array Value))).get? a = some (seqObj "list" #[] e1) := ⟨_, get?_update_seq ho fun _ => #[]⟩
  refine wpAny_bind (seqEpoch_at ho1 rfl (wpAny_bind (wpAny_newTuple (wpAny_bind (wpAny_newList (wpAny_holding ?_) (Nat.zero_le _))) hz)))
  have ho6 : (((s.heap.update a (Obj.mapSeq fun _ => (#[] : Array Value))).push (seqObj "tuple" vs.toArray 0)).push (seqObj "list" #[] 0)).get? a = some (seqObj "list" #[] e1) := Heap.get?_push_of_some _ (Heap.get?_push_of_some _ ho1)
  show wpAny (model prog w) A _ P E { s with heap := ((s.heap.update a (Obj.mapSeq fun _ => (#[] : Array Value))).push (seqObj "tuple" vs.toArray 0)).push (seqObj "list" #[] 0) }
  dsimp only
  have hs2 : vs.toArray.size < 2 := by rw [List.size_toArray]; exact h2
  rw [if_pos hs2, if_pos hs2]
  refine wpAny_bind (wpAny_pure ?_)
  rw [StateT.run_pure]
  refine wpAny_bind (wpAny_pure ?_)
  dsimp only
  have eo : (arrOf (SortSt.mk' general' (vs.toArray.zip vs.toArray) #[] 7 none)).map (·.2) = vs.toArray := by
    show (vs.toArray.zip vs.toArray).map (·.2) = vs.toArray
    refine Array.ext (by simp) fun i h1 h2 => by simp
  refine wpAny_bind (seqEpoch_at ho6 rfl (wpAny_bind (listUpdate_at ho6 rfl ?_ (Nat.zero_le _) (by rw [eo, List.size_toArray]; omega))))
  rw [eo]
  simp only [bne_self_eq_false, Bool.false_eq_true, if_false]
  exact wpAny_pure h
end
section
variable {X : Cx}
end
end L2
set_option Elab.async false
set_option linter.all false
set_option maxRecDepth 100000
/-! in order: sorted by (moment, key), over the hand layer. -/
namespace Srt
open PySem
end Srt
namespace L2
open PySem PySem.Spec PyProof.Rows
section
variable {X : Cx} {pins : List (Addr × Obj)} {σ : St} {H : Hp} {s : Shared}
theorem Paired.getR {α β : Type} {F : α → β → Prop} : ∀ {xs : List α} {ys : List β} {i : Nat} {y : β}, Paired F xs ys → ys[i]? = some y → ∃ x, xs[i]? = some x ∧ F x y
  | _, _, _, _, .nil, e => by simp at e
  | _, _, 0, _, .cons r _, e => by simp at e; subst e; exact ⟨_, rfl, r⟩
  | _, _, i + 1, y, .cons _ t, e => by
    obtain ⟨u, h1, h2⟩ := Paired.getR (i := i) (y := y) t (by simpa using e)
    exact ⟨u, by simpa using h1, h2⟩
theorem Paired.snoc {α β : Type} {F : α → β → Prop} {x : α} {y : β} (h : F x y) : ∀ {xs : List α} {ys : List β}, Paired F xs ys → Paired F (xs ++ [x]) (ys ++ [y])
  | _, _, .nil => .cons h .nil
  | _, _, .cons r t => .cons r (Paired.snoc h t)
end
section
variable {X : Cx} {k : Nat} {kf pn : Str} {e : Expr} {t : TA} {p pos kp kpos : Pos}
end
end L2
set_option Elab.async false
set_option linter.all false
set_option maxRecDepth 100000
/-! entries and bars, as data -/
namespace Ent
open PySem
/-! ### the order that a sort tells -/
/-! ### data that can be shown -/
end Ent
set_option Elab.async false
set_option linter.all false
set_option maxRecDepth 100000
/-! sorted of lists, tuples and sets of fewer than 64 things: one rule for what is collected -/
namespace L2
open PySem PySem.Spec PySem.W PyProof.Rows
section
variable {X : Cx} {pins : List (Addr × Obj)} {σ : St} {H : Hp} {s : Shared}
theorem vals_at {xs : List V} {vs : List Value} (rv : Vals xs vs) : ∀ l : List Nat, (∀ i ∈ l, i < xs.length) → Vals (l.map fun i => xs.getD i .non) (l.map fun i => vs.getD i Value.none)
  | [], _ => .nil
  | i :: r, hl => by
    have hi := hl i List.mem_cons_self
    obtain ⟨u, hu, ru⟩ := rv.get (List.getElem?_eq_getElem hi)
    rw [List.map_cons, List.map_cons]
    refine .cons ?_ (vals_at rv r fun j hj => hl j (List.mem_cons_of_mem _ hj))
    rw [List.getD_eq_getElem?_getD, List.getD_eq_getElem?_getD, hu, List.getElem?_eq_getElem hi]
    exact ru
theorem sorted_gen {p : Addr} {Q : VK} {PV : List Value → Prop} (hex : X.ex = []) (I : Inv X pins σ H s)
    (hcol : ∀ Q' : List Value → Shared → Prop, (∀ vs (h' : Heap) tk d, (∀ b o, s.heap.get? b = some o → h'.get? b = some o) → PV vs → Q' vs { s with heap := h', toks := tk, drawn := d }) → wpAny (model X.prog X.w) X.A.in1 (collect (.ref p)) Q' X.xe s)
    (hgo : ∀ vs, PV vs → ∃ (xs : List V) (lt : Nat → Nat → Bool), Vals xs vs ∧ xs.length < 64 ∧ (∀ s', Inv X pins σ H s' → 2 ≤ xs.length → ∃ κ, Asks X xs.length vs s' κ lt) ∧
      ∀ D (is : List Nat), is.Perm (List.range xs.length) → is.Pairwise (Srt.R lt) → H D = none → Q (.ref D) (upd H D (.lst (is.map fun i => xs.getD i .non)))) :
    wpAny (model X.prog X.w) X.A (call (.builtin "sorted") [.ref p]) (EP X pins σ Q) X.xe s := by
  refine Calls.call_function_entry kind_sorted plain_sorted entry_sorted (args_sorted1 _) ?_
  unfold Builtin.«sorted»
  refine wpAny_bind (m := checkCount "sorted" 1 1 _) (wpAny_pure (wpAny_bind (hcol _ fun vs h' tk d keep pv => ?_)))
  obtain ⟨xs, lt, rv, h64, hask, q⟩ := hgo vs pv
  have hlen : xs.length = vs.length := rv.length
  have hz : vs.length ≤ sizeLine := by rw [sizeLine_eq]; omega
  refine wpAny_bind (wpAny_newList ?_ hz)
  have oL : (h'.push (seqObj "list" vs.toArray 0)).get? h'.objs.size = some (seqObj "list" vs.toArray 0) := Heap.get?_push_size _ rfl
  have I1 : Inv X pins σ H { s with heap := h', toks := tk, drawn := d } := (I.kept (t' := tk) keep).drawn d
  by_cases h2 : vs.length < 2
  · refine wpAny_bind (wpAny_holding (wpAny_call_entry slot_list_sort (s := { s with heap := h'.push (seqObj "list" vs.toArray 0), toks := tk, drawn := d }) ⟨_, oL, rfl⟩ entry_list_sort (sort_small oL h2 ⟨_, rfl, wpAny_pure ⟨_, rfl, ?_⟩⟩) (args_list_sort _)))
    obtain ⟨e, he⟩ := sortedHeap_at (out := vs.toArray) oL
    have hq : Q (.ref h'.objs.size) (upd H h'.objs.size (.lst xs)) := by
      have := q h'.objs.size (List.range xs.length) (List.Perm.refl _) (by
        match xs, hlen with
        | [], _ => exact List.Pairwise.nil
        | [_], _ => exact List.pairwise_singleton _ _
        | _ :: _ :: _, e => simp only [List.length_cons] at e; omega) (I1.hok.fresh (Nat.le_refl _))
      have e2 : ((List.range xs.length).map fun i => xs.getD i .non) = xs := by
        apply List.ext_getElem (by simp)
        intro i h1 h2
        rw [List.getElem_map, List.getElem_range, List.getD_eq_getElem?_getD, List.getElem?_eq_getElem h2]
        rfl
      rw [e2] at this
      exact this
    refine ⟨.ref h'.objs.size, _, I1.laid (t' := tk) (o := .lst xs) (fun b u e => ?_) (Nat.le_refl _) ⟨by rw [sizeLine_eq]; omega, vs, e, rv, he⟩, rfl, hq⟩
    have hb := Heap.lt_size e
    rw [sortedHeap_old (Nat.ne_of_lt hb) (by rw [size_push']; exact Nat.lt_succ_of_lt hb)]
    exact Heap.get?_push_of_some _ e
  obtain ⟨m, hm, _⟩ := id I1.loc
  have gk : ∀ b o, h'.get? b = some o → (h'.push (seqObj "list" vs.toArray 0)).get? b = some o := fun b o e => Heap.get?_push_of_some _ e
  have F : Fr X.base X.env.locals (h'.push (seqObj "list" vs.toArray 0)) m := ⟨hm.keeps gk, fun b o e => gk b o (I1.bk b o e), Nat.le_trans I.ok.bsz I.ok.above⟩
  have N : News X.base X.env.locals (h'.push (seqObj "list" vs.toArray 0)) (newsOf X.base h' X.env.locals) := (newsOf_news X.base h' X.env.locals).grown gk
  have hLl : X.env.locals < h'.objs.size := I1.lt
  refine wpAny_bind (wpAny_holding (wpAny_call_entry slot_list_sort (s := { s with heap := h'.push (seqObj "list" vs.toArray 0), toks := tk, drawn := d }) ⟨_, oL, rfl⟩ entry_list_sort ?body (args_list_sort _)))
  case body =>
    refine kat_list_sort (s := { s with heap := h'.push (seqObj "list" vs.toArray 0), toks := tk, drawn := d }) F N oL (Nat.ne_of_gt hLl) (Heap.get?_none_of_le (Nat.le_trans I.ok.bsz (Nat.le_trans I.ok.above (Nat.le_of_lt hLl)))) (fun p hp => Nat.ne_of_lt (Heap.lt_size ((newsOf_news X.base h' X.env.locals) p hp).1)) (by omega) (by omega) fun e1 h3 F3 N3 => ?_
    obtain ⟨_, I3⟩ := I1.ofFr (t' := tk) (more := [(h'.objs.size, seqObj "list" #[] e1)]) hm F3 N3
    obtain ⟨κ, ak⟩ := hask _ I3 (by omega)
    refine ak.kind (by omega) _ ?_
    refine Srt.good_wp (n := vs.length) (lt := lt) (fun i j C hi hj hC => ak.ask i j C (by omega) (by omega) hC) _ (Srt.good_mono (fun pp hp2 => ?_) _ (Srt.sort_ok ak.ord (by omega)))
    obtain ⟨o1, o2⟩ := Srt.out_ok hp2.1 hp2.2
    refine KasFin.intro F3 N3 (.head fun q hq => Nat.ne_of_lt (Heap.lt_size ((newsOf_news X.base h' X.env.locals) q hq).1)) fun h4 c F4 N4 => ⟨_, rfl, wpAny_pure ⟨_, rfl, ?_⟩⟩
    obtain ⟨kp, I4⟩ := I1.ofFr (t' := tk) (more := [(h'.objs.size, listOf (List.toArray (pp.toList.map fun i => vs.getD i Value.none)) c)]) hm F4 N4
    obtain ⟨d1, d2, d3⟩ := N4 _ List.mem_cons_self
    have hD : H h'.objs.size = none := I1.hok.fresh (Nat.le_refl _)
    have x0 : X.s₀.heap.get? h'.objs.size = none := by
      cases e : X.s₀.heap.get? h'.objs.size with
      | none => rfl
      | some o =>
        obtain ⟨o', e2⟩ := I1.base.there _ o e (by rw [hex]; simp)
        exact absurd (Heap.lt_size e2) (Nat.lt_irrefl _)
    have xp : ∀ p ∈ X.pn ++ pins, p.1 ≠ h'.objs.size := fun p hp z => absurd (Heap.lt_size (I1.pin p hp).1) (by rw [z]; exact Nat.lt_irrefl _)
    have vls := vals_at rv pp.toList fun i hi => by rw [hlen]; exact List.mem_range.mp (o1.mem_iff.mp hi)
    refine ⟨.ref h'.objs.size, _, I4.trackG (o := .lst (pp.toList.map fun i => xs.getD i .non)) d1 (Ne.symm d2) (fun v z => nomatch z) hD x0 xp ⟨?_, _, c, vls, d1⟩, rfl, q _ _ (by rw [hlen]; exact o1) o2 hD⟩
    rw [List.length_map, o1.length_eq, List.length_range, sizeLine_eq]; omega
end
section
variable {X : Cx}
end
end L2
/-! ### tuples (int, text, int) -/
namespace Srt
open PySem
end Srt
namespace L2
open PySem PySem.Spec PySem.W PyProof.Rows
section
variable {X : Cx} {pins : List (Addr × Obj)} {σ : St} {H : Hp} {s : Shared}
end
end L2
set_option Elab.async false
set_option linter.all false
set_option maxRecDepth 100000
/-! sorted of a dict whose keys are ints -/
namespace L2
open PySem PySem.Spec PySem.W PyProof.Rows
end L2
set_option Elab.async false
set_option linter.all false
set_option maxRecDepth 100000
/-! more: products of wide numbers, a <= b <= c <= d, slices of a list or a tuple -/
namespace L2
open PySem PySem.Spec PyProof.Rows
section
variable {X : Cx} {a b c d : Expr} {ta tb tc td : TE} {pos : Pos}
end
end L2
set_option Elab.async false
set_option linter.all false
set_option maxRecDepth 100000
/-! list(d) of a dict with tuples for keys; x in a list of data -/
namespace L2
open PySem PySem.Spec PyProof.Rows
section
variable {X : Cx}
theorem vals_refs : ∀ bs : List Addr, Vals (bs.map V.ref) (bs.map Value.ref)
  | [] => .nil
  | b :: bs => .cons rfl (vals_refs bs)
end
end L2
set_option Elab.async false
set_option linter.all false
set_option maxRecDepth 100000
/-! sorted of a dict whose keys are pairs of ints -/
namespace Srt
abbrev T2 := Int × Int
def tlt2 (a b : T2) : Bool := if a.1 = b.1 then decide (a.2 < b.2) else decide (a.1 < b.1)
theorem tlt2_iff {a b : T2} : tlt2 a b = true ↔ a.1 < b.1 ∨ (a.1 = b.1 ∧ a.2 < b.2) := by
  unfold tlt2
  by_cases e : a.1 = b.1
  · rw [if_pos e, decide_eq_true_iff]; omega
  · rw [if_neg e, decide_eq_true_iff]; omega
theorem tlt2_no {a b : T2} : tlt2 a b = false ↔ ¬ (a.1 < b.1 ∨ (a.1 = b.1 ∧ a.2 < b.2)) := by
  rw [← tlt2_iff]; cases tlt2 a b <;> simp
def ltP (es : List T2) (i j : Nat) : Bool := tlt2 (es.getD i (0, 0)) (es.getD j (0, 0))
theorem ltP_ord (es : List T2) : Ord (ltP es) := ⟨fun {a b} h => by
  unfold ltP at h ⊢
  rw [tlt2_iff] at h
  rw [tlt2_no]
  omega, fun {a b c} h h' => by
  unfold ltP at h h' ⊢
  rw [tlt2_no] at h h' ⊢
  omega⟩
end Srt
namespace L2
open PySem PySem.Spec PySem.W PyProof.Rows
section
variable {X : Cx} {pins : List (Addr × Obj)} {σ : St} {H : Hp} {s : Shared}
abbrev Prs2 (H : Hp) : List V → List Srt.T2 → Prop := Paired fun x e => ∃ a, x = .ref a ∧ H a = some (.tup [.int e.1, .int e.2])
theorem tupI2_at (I : Inv X pins σ H s) {t : Addr} {m v : Int} (h : H t = some (.tup [.int m, .int v])) : ∃ o n tm tv, s.heap.get? t = some o ∧ o.cls = .type "tuple" ∧ o.data = .seq #[.int m tm, .int v tv] n := by
  obtain ⟨_, its, rv, o, ho, hc, n, hd⟩ := I.hok t _ h
  obtain ⟨u, v, rfl, ⟨tk, rfl⟩, ⟨tv, rfl⟩⟩ := vals2 rv
  exact ⟨o, n, tk, tv, ho, hc, hd⟩
theorem askI2 (I : Inv X pins σ H s) {A : Around} {t t' : Addr} {e e' : Srt.T2} (h : H t = some (.tup [.int e.1, .int e.2])) (h' : H t' = some (.tup [.int e'.1, .int e'.2])) {C : Bool → Shared → Prop} {E : Value → Shared → Prop} (q : C (Srt.tlt2 e e') s) :
    wpAny (model X.prog X.w) A (keyLt' (tuples' true) (.ref t) (.ref t')) C E s := by
  obtain ⟨o, n, tm, tv, ho, hc, hd⟩ := tupI2_at I h
  obtain ⟨o', n', tm', tv', ho', hc', hd'⟩ := tupI2_at I h'
  unfold Srt.tlt2 at q
  refine PySem.W.kat_lt ho hd ho' hd' ?_
  refine PySem.W.kat_cons (wpAny_eqBool_int (PySem.W.kat_go (fun e1 => PySem.W.kat_yes ?_) fun e1 => PySem.W.kat_no ?_))
  · have e1' : e.1 = e'.1 := by simpa using e1
    rw [if_pos e1'] at q
    refine PySem.W.kat_cons (wpAny_eqBool_int (PySem.W.kat_go (fun e3 => PySem.W.kat_yes (PySem.W.kat_nil ?_)) fun e3 => PySem.W.kat_no ?_))
    · have e3' : e.2 = e'.2 := by simpa using e3
      rw [decide_eq_false (by omega)] at q
      exact q
    · exact PySem.W.kat_one _ _ (lt_int q)
  · have e1' : ¬ e.1 = e'.1 := by simpa using e1
    rw [if_neg e1'] at q
    exact oneLt_int q
theorem kat_prs2 (I : Inv X pins σ H s) : ∀ {xs : List V} {ks : List Value} {es : List Srt.T2}, Vals xs ks → Prs2 H xs es → ∃ fs, PySem.W.KatTups s.heap ks fs ∧ fs.length = ks.length ∧ ∀ v ∈ fs, ∃ m tm, v = Value.int m tm
  | _, _, _, .nil, .nil => ⟨[], .nil, rfl, fun v h => nomatch h⟩
  | _, _, _, .cons rx rv, .cons ⟨t, e, h⟩ r => by
    obtain ⟨fs, h1, h2, h3⟩ := kat_prs2 I rv r
    obtain ⟨o, n, tm, tv, ho, hc, hd⟩ := tupI2_at I h
    subst e
    cases rx
    refine ⟨_ :: fs, .cons ho hc hd rfl h1, by rw [List.length_cons, List.length_cons, h2], fun v hv => ?_⟩
    rcases List.mem_cons.mp hv with rfl | hv
    · exact ⟨_, _, rfl⟩
    · exact h3 v hv
theorem kt_prs2 : ∀ {kvs : List (List Key × V)} {zs : List (List Key × Addr × Value)} {es : List Srt.T2}, KT H kvs zs → kvs.map (·.1) = es.map (fun e => [Sum.inl e.1, Sum.inl e.2]) → Prs2 H ((zs.map fun x => x.2.1).map V.ref) es
  | _, _, [], .nil, _ => .nil
  | _, _, e :: es, .nil, h => by cases h
  | _, _, [], .cons _ _, h => by cases h
  | _, _, e :: es, .cons (a := a) (b := b) r t, h => by
    rw [List.map_cons, List.map_cons] at h
    have h1 := (List.cons.inj h).1
    have h2 := r.2.1
    rw [h1] at h2
    exact .cons ⟨_, rfl, h2⟩ (kt_prs2 t (List.cons.inj h).2)
inductive cSrtP (vs : List V) (H : Hp) (Q : VK) : Prop
  | mk (p : Addr) (kvs : List (List Key × V)) (es : List Srt.T2) (e : vs = [.ref p]) (h : H p = some (.dT kvs)) (hk : kvs.map (·.1) = es.map (fun e => [Sum.inl e.1, Sum.inl e.2])) (h64 : es.length < 64)
      (q : ∀ D (ys : List V) (fs : List Srt.T2), Prs2 H ys fs → fs.Perm es → fs.Pairwise (fun a b => Srt.tlt2 b a = false) → H D = none → Q (.ref D) (upd H D (.lst ys))) : cSrtP vs H Q
theorem call_sorted_dT (hc : X.calm = true) (hex : X.ex = [] := by rfl) : CallR X (.builtin "sorted") cSrtP := by
  intro pins s σ H xs us Q I r h
  obtain ⟨p, kvs, es, rfl, hp, hk, h64, q⟩ := h
  obtain ⟨u, rfl, rx⟩ := vals1 r
  cases rx
  obtain ⟨z, hd, zs, kt, o, ds, ep, h1, h2, h3, h4, h5⟩ := (show ObjOk X.prog X.w H s.heap p (.dT kvs) from I.hok p _ hp)
  have tr := kt_prs2 kt hk
  have hl : ((zs.map fun x => x.2.1).map V.ref).length = es.length := Paired.length tr
  have hlen : ds.size = zs.length := by
    have e1 : ds.toList.length = zs.length := by rw [h4, List.length_map]
    simp at e1
    exact e1
  have hh : X.A.in1.handled = none := I.ok.hd hc
  refine sorted_gen (PV := fun vs => vs = (zs.map fun x => x.2.1).map Value.ref) hex I (fun Q' hq => ?_) fun vs rv => ?_
  · refine kdu_collect (Dx.src (es := ds) (ep := ep) hd) hh ⟨o, h1, h2, h3⟩ (by rw [hlen, ← Paired.length kt]; exact z) fun h' tk acc keep hacc => hq _ h' tk s.drawn keep ?_
    refine List.ext_getElem? fun j => ?_
    rw [List.getElem?_map, List.getElem?_map, Array.getElem?_toList]
    have el : ds[j]? = (zs[j]?).map (entryOfKey (tupleKind (mixKind X.prog X.w))) := entry_at h4 j
    by_cases hj : j < acc.size
    · obtain ⟨e, he, hv⟩ := hacc.2 j acc[j] (Array.getElem?_eq_getElem hj)
      rw [el] at he
      rw [Array.getElem?_eq_getElem hj, hv]
      cases hz : zs[j]? with
      | none => rw [hz] at he; cases he
      | some x => rw [hz] at he; cases he; rfl
    · have hz : zs[j]? = none := by
        refine List.getElem?_eq_none ?_
        have e1 := hacc.1
        omega
      rw [Array.getElem?_eq_none (by omega), hz]
      rfl
  · subst rv
    have rv : Vals ((zs.map fun x => x.2.1).map V.ref) ((zs.map fun x => x.2.1).map Value.ref) := vals_refs _
    refine ⟨_, Srt.ltP es, rv, by omega, fun s' I' h2 => ⟨tuples' true, Srt.ltP_ord es, fun _ Q' hQ => ?_, fun i j C hi hj hC => ?_⟩, fun D is p1 p2 hD => ?_⟩
    · obtain ⟨fs, t1, t2, t3⟩ := kat_prs2 I' rv tr
      have := rv.length
      refine PySem.W.kat_kind (T := .type "int") t1 (by omega) (fun v hv => ?_) (by decide +kernel) ?_
      · obtain ⟨m, tm, rfl⟩ := t3 v hv
        exact PySem.W.Looks.of_pure rfl
      · exact hQ
    · have hi' : es[i]? = some es[i] := List.getElem?_eq_getElem (by omega)
      have hj' : es[j]? = some es[j] := List.getElem?_eq_getElem (by omega)
      obtain ⟨u, eu, t, rfl, ht⟩ := Paired.getR tr hi'
      obtain ⟨u', eu', t', rfl, ht'⟩ := Paired.getR tr hj'
      obtain ⟨w1, hw1, r1⟩ := rv.get eu
      obtain ⟨w2, hw2, r2⟩ := rv.get eu'
      cases r1
      cases r2
      unfold PySem.W.kas_ask
      rw [List.getD_eq_getElem?_getD, List.getD_eq_getElem?_getD, hw1, hw2]
      refine askI2 I' ht ht' ?_
      unfold Srt.ltP at hC
      rw [List.getD_eq_getElem?_getD, List.getD_eq_getElem?_getD, hi', hj'] at hC
      exact hC
    · refine q D _ (is.map fun i => es.getD i (0, 0)) ?_ ?_ ?_ hD
      · have : ∀ l : List Nat, (∀ i ∈ l, i < es.length) → Prs2 H (l.map fun i => ((zs.map fun x => x.2.1).map V.ref).getD i .non) (l.map fun i => es.getD i (0, 0)) := fun l => by
          induction l with
          | nil => exact fun _ => .nil
          | cons i r ih =>
            intro hlt
            have hi := hlt i List.mem_cons_self
            have hi' : es[i]? = some es[i] := List.getElem?_eq_getElem hi
            obtain ⟨u, eu, t, e2, ht⟩ := Paired.getR tr hi'
            refine .cons ⟨t, ?_, ?_⟩ (ih fun j hj => hlt j (List.mem_cons_of_mem _ hj))
            · show ((zs.map fun x => x.2.1).map V.ref).getD i .non = _
              rw [List.getD_eq_getElem?_getD, eu, e2]; rfl
            · show H t = some (.tup [.int (es.getD i (0, 0)).1, .int (es.getD i (0, 0)).2])
              rw [List.getD_eq_getElem?_getD, hi']; exact ht
        exact this is fun i hi => by rw [← hl]; exact List.mem_range.mp (p1.mem_iff.mp hi)
      · have e0 : es = (List.range es.length).map fun i => es.getD i (0, 0) := by
          refine List.ext_getElem (by simp) fun i a b => ?_
          rw [List.getElem_map, List.getElem_range, List.getD_eq_getElem?_getD, List.getElem?_eq_getElem a]
          rfl
        rw [hl] at p1
        have := p1.map (fun i => es.getD i (0, 0))
        rw [← e0] at this
        exact this
      · exact List.pairwise_map.mpr (p2.imp fun {a b} h => h.elim (fun z => (Srt.ltP_ord es).1 z) fun z => z.1)
end
end L2
set_option Elab.async false
set_option linter.all false
set_option maxRecDepth 100000
/-! TEXTS over the hand layer: their methods, join, split, partition, int of a text. -/
namespace L2
open PySem PySem.Spec PyProof.Rows
theorem strs_of : ∀ {ts : List Str} {us : List Value}, Vals (ts.map V.str) us → ∃ l : List (Str × Tok), us = strValues l ∧ l.map (·.1) = ts
  | [], us, h => by
    cases h
    exact ⟨[], rfl, rfl⟩
  | x :: r, us, h => by
    cases h with
    | cons a b =>
      obtain ⟨t, rfl⟩ := a
      obtain ⟨l, rfl, e⟩ := strs_of b
      exact ⟨(x, t) :: l, rfl, by rw [List.map_cons, e]⟩
theorem vals_of : ∀ (l : List (Str × Tok)), Vals ((l.map (·.1)).map V.str) (strValues l)
  | [] => .nil
  | (x, t) :: r => .cons ⟨t, rfl⟩ (vals_of r)
section
variable {X : Cx}
/-- x.isdigit(), x.isascii() and the like, by the call's own rule -/
theorem mt_is {id : String} {f : Str → Bool} (hc : ∀ (x : Str) (t : Tok) (Q : Value → Shared → Prop) (s : Shared), Q (.bool (f x)) s → wpAny (model X.prog X.w) X.A (call (.builtin id) [.str x t]) Q X.xe s) : MtR X id (fun x xs H Q => ∃ z, x = .str z ∧ xs = [] ∧ Q (.bl (f z)) H) := by
  intro pins s σ H x xs v us Q I rx r h
  obtain ⟨z, e1, e2, q⟩ := h
  subst e1 e2
  obtain ⟨t, rfl⟩ := rx
  cases r
  exact hc z t _ s ⟨.bl (f z), H, I, rfl, q⟩
theorem mt_isdigit : MtR X "str.isdigit" (fun x xs H Q => ∃ z, x = .str z ∧ xs = [] ∧ Q (.bl (Txt.isdigit z)) H) := mt_is fun _ _ _ _ h => SC.isdigit h
theorem mt_isascii : MtR X "str.isascii" (fun x xs H Q => ∃ z, x = .str z ∧ xs = [] ∧ Q (.bl (Txt.isascii z)) H) := mt_is fun _ _ _ _ h => SC.isascii h
theorem mt_removeprefix : MtR X "str.removeprefix" (fun x xs H Q => ∃ z y, x = .str z ∧ xs = [.str y] ∧ z.length ≤ sizeLine ∧ Q (.str (Txt.removeprefix z y)) H) := by
  intro pins s σ H x xs v us Q I rx r h
  obtain ⟨z, y, e1, e2, hz, q⟩ := h
  subst e1 e2
  obtain ⟨t, rfl⟩ := rx
  obtain ⟨u, rfl, ry⟩ := vals1 r
  obtain ⟨t', rfl⟩ := ry
  exact SC.removeprefix (fun t1 k => ⟨.str _, H, I.tok k, ⟨t1, rfl⟩, q⟩) hz
theorem mt_join : MtR X "str.join" (fun x xs H Q => ∃ sep D, ∃ ts : List Str, x = .str sep ∧ xs = [.ref D] ∧ SqL X.K H D (ts.map V.str) ∧ JoinOk sep ts = true ∧ Q (.str (Txt.join sep ts)) H) := by
  intro pins s σ H x xs v us Q I rx r h
  obtain ⟨sep, D, ts, e1, e2, hq, hok, q⟩ := h
  subst e1 e2
  obtain ⟨t, rfl⟩ := rx
  obtain ⟨u, rfl, ry⟩ := vals1 r
  cases ry
  obtain ⟨its, rv, p, hz⟩ := I.list hq
  obtain ⟨l, rfl, et⟩ := strs_of rv
  exact SC.join p.isList et hok fun t1 k => ⟨.str _, H, I.tok k, ⟨t1, rfl⟩, q⟩
/-- a new list of texts stands at the heap's end -/
theorem new_strs {pins : List (Addr × Obj)} {σ : St} {H : Hp} {s : Shared} {Q : VK} (l : List (Str × Tok)) {ts : List Str} {k : Nat} (I : Inv X pins σ H s) (e : l.map (·.1) = ts) (hz : ts.length ≤ sizeLine) (q : ∀ D, H D = none → Q (.ref D) (upd H D (.lst (ts.map V.str)))) :
    EP X pins σ Q (.ref s.heap.objs.size) { s with heap := s.heap.push { cls := .type "list", data := .seq (strValues l).toArray }, toks := k } := by
  subst e
  refine ⟨.ref _, _, I.laid (t' := k) (o := .lst ((l.map (·.1)).map V.str)) (fun b ob z => Heap.get?_push_of_some _ z) (Nat.le_refl _) ?_, rfl, q _ (I.hok.fresh (Nat.le_refl _))⟩
  exact ⟨by rw [List.length_map]; exact hz, _, 0, vals_of l, Heap.get?_push_size _ rfl⟩
theorem mt_split : MtR X "str.split" (fun x xs H Q => ∃ z y, x = .str z ∧ xs = [.str y] ∧ (y.length == 0) = false ∧ z.length ≤ sizeLine ∧ (Txt.split z y).length ≤ sizeLine ∧ ∀ D, H D = none → Q (.ref D) (upd H D (.lst ((Txt.split z y).map V.str)))) := by
  intro pins s σ H x xs v us Q I rx r h
  obtain ⟨z, y, e1, e2, hy, hz, hn, q⟩ := h
  subst e1 e2
  obtain ⟨t, rfl⟩ := rx
  obtain ⟨u, rfl, ry⟩ := vals1 r
  obtain ⟨t', rfl⟩ := ry
  cases h1 : (decide (z.length < y.length) || decide (Builtin.Str.strKind z < Builtin.Str.strKind y)) with
  | true =>
    have es : Txt.split z y = [z] := if_pos h1
    rw [es] at hn q
    exact call_meets F.slot_str_split (typeIs_str _ _ _) F.entry_str_split (F.args_str_split_2 _ _) (meets_str_split_cannot_occur z y t t' h1) (new_strs [(z, t)] (k := s.toks) I rfl hn q)
  | false =>
    cases hf : (Builtin.Str.occurrences z y 0 z.length (z.length + 1)).isEmpty with
    | true =>
      have es : Txt.split z y = [z] := (if_neg (ne_true_of_eq_false h1)).trans (if_pos hf)
      rw [es] at hn q
      exact call_meets F.slot_str_split (typeIs_str _ _ _) F.entry_str_split (F.args_str_split_2 _ _) (meets_str_split_not_found z y t t' h1 hy hf) (new_strs [(z, t)] (k := s.toks) I rfl hn q)
    | false =>
      have es : Txt.split z y = Builtin.Str.partsBetween z (Builtin.Str.occurrences z y 0 z.length (z.length + 1)) y.length := (if_neg (ne_true_of_eq_false h1)).trans (if_neg (ne_true_of_eq_false hf))
      rw [es] at hn q
      refine call_meets F.slot_str_split (typeIs_str _ _ _) F.entry_str_split (F.args_str_split_2 _ _) (meets_str_split_sep z y t t' h1 hy hf hz hn) ?_
      show wants _ _ _ { s with toks := _, heap := s.heap.push { cls := .type "list", data := .seq (strsFrom s.toks (Builtin.Str.partsBetween z (Builtin.Str.occurrences z y 0 z.length (z.length + 1)) y.length)).toArray } }
      rw [strsFrom_eq]
      exact new_strs (numbered s.toks _) I (numbered_texts _ _) hn q
theorem mt_partition : MtR X "str.partition" (fun x xs H Q => ∃ z y, x = .str z ∧ xs = [.str y] ∧ (y.length == 0) = false ∧ z.length ≤ sizeLine ∧ ∀ p, H p = none → Q (.ref p) (upd H p (.tup [.str (Txt.partition z y).1, .str (Txt.partition z y).2.1, .str (Txt.partition z y).2.2]))) := by
  intro pins s σ H x xs v us Q I rx r h
  obtain ⟨z, y, e1, e2, hy, hz, q⟩ := h
  subst e1 e2
  obtain ⟨t, rfl⟩ := rx
  obtain ⟨u, rfl, ry⟩ := vals1 r
  obtain ⟨t', rfl⟩ := ry
  refine call_meets F.slot_str_partition (typeIs_str _ _ _) F.entry_str_partition (F.args_str_partition_2 _ _) (meets_str_partition z y t t' hy hz) ?_
  have q0 := q _ (I.hok.fresh (Nat.le_refl _))
  unfold Txt.partition at q0
  cases ho : Builtin.Str.occurrences z y 0 z.length 1 with
  | nil =>
    rw [ho] at q0
    refine ⟨.ref _, _, I.laid (t' := s.toks + 1) (o := .tup _) (fun b ob w => Heap.get?_push_of_some _ w) (Nat.le_refl _) ?_, rfl, q0⟩
    exact ⟨by show 3 ≤ sizeLine; decide, _, .cons ⟨t, rfl⟩ (.cons ⟨_, rfl⟩ (.cons ⟨_, rfl⟩ .nil)), _, Heap.get?_push_size _ rfl, rfl, 0, rfl⟩
  | cons i rr =>
    rw [ho] at q0
    refine ⟨.ref _, _, I.laid (t' := s.toks + 1 + 1) (o := .tup _) (fun b ob w => Heap.get?_push_of_some _ w) (Nat.le_refl _) ?_, rfl, q0⟩
    exact ⟨by show 3 ≤ sizeLine; decide, _, .cons ⟨_, rfl⟩ (.cons ⟨t', rfl⟩ (.cons ⟨_, rfl⟩ .nil)), _, Heap.get?_push_size _ rfl, rfl, 0, rfl⟩
/-- int(text) -/
theorem call_int_text : CallR X (.type "int") (fun xs H Q => ∃ z n, xs = [.str z] ∧ PySem.intText? z = some n ∧ z.length ≤ 640 ∧ Q (.int n) H) := by
  intro pins s σ H xs us Q I r h
  obtain ⟨z, n, e1, hn, hl, q⟩ := h
  subst e1
  obtain ⟨u, rfl, ry⟩ := vals1 r
  obtain ⟨t, rfl⟩ := ry
  exact PySem.W.KIN.call_text hn hl ⟨.int n, H, I.tok _, ⟨_, rfl⟩, q⟩
end
end L2
set_option Elab.async false
set_option linter.all false
set_option maxRecDepth 100000
/-! a, b, c = a list; f-strings -/
namespace L2
open PySem PySem.Spec PyProof.Rows
section
variable {prog : Program} {w : World} {A : Around} {E : Value → Shared → Prop} {s : Shared}
end
section
variable {X : Cx} {pos : Pos}
/-! ### f-strings -/
inductive rFmt (v : V) (H : Hp) (Q : VK) : Prop
  | int (i : Int) (e : v = .int i) (h : i.natAbs.log2 < 1920) (q : Q (.str (toString i)) H) : rFmt v H Q
  | str (z : Str) (e : v = .str z) (h : z.length ≤ sizeLine) (q : Q (.str z) H) : rFmt v H Q
def tFmt (t : TE) : TE := fun σ H Q => t σ H fun v H1 => rFmt v H1 Q
theorem pe_fmt {e : Expr} {te : TE} (he : PE X e te) : PE X (.FormattedValue e (-1) none pos) (tFmt te) := by
  refine ⟨?_⟩
  intro pins s σ H Q I h
  refine FormattedValue_plain (thn (he pins s σ H _ I h) fun u s1 ⟨v, H1, I1, r1, q1⟩ => ?_)
  cases q1 with
  | int i e hz q =>
    subst e
    obtain ⟨t, rfl⟩ := r1
    exact formatField_int_small hz ⟨.str _, H1, I1.tok _, ⟨_, rfl⟩, q⟩
  | str z e hz q =>
    subst e
    obtain ⟨t, rfl⟩ := r1
    exact formatField_str (fun t' tk => ⟨.str z, H1, I1.tok _, ⟨_, rfl⟩, q⟩) hz
def tJ : List TE → Str → TE
  | [], acc => fun _ H Q => acc.length ≤ sizeLine ∧ Q (.str acc) H
  | t :: ts, acc => fun σ H Q => t σ H fun v H1 => ∃ y, v = .str y ∧ (acc ++ y).length ≤ sizeLine ∧ tJ ts (acc ++ y) σ H1 Q
inductive PJs (X : Cx) : List Expr → List TE → Prop
  | nil : PJs X [] []
  | cons {e es t ts} (h : PE X e t) (hs : PJs X es ts) : PJs X (e :: es) (t :: ts)
theorem join_parts : ∀ {es : List Expr} {ts : List TE} (p : PJs X es ts) (acc : Str) (pins : List (Addr × Obj)) (s : Shared) (σ : St) (H : Hp) (Q : VK), Inv X pins σ H s → tJ ts acc σ H Q → wpAny (model X.prog X.w) X.A (joinParts acc (es.map fun e => eval e X.env)) (EP X pins σ Q) X.xe s
  | _, _, .nil, acc, pins, s, σ, H, Q, I, h => joinParts_nil ⟨.str acc, H, I.tok _, ⟨_, rfl⟩, h.2⟩ h.1
  | _, _, .cons he hs, acc, pins, s, σ, H, Q, I, h => by
    rw [List.map_cons]
    refine joinParts_cons (thn (he pins s σ H _ I h) fun u s1 ⟨v, H1, I1, r1, y, e, hz, q⟩ => ?_)
    subst e
    obtain ⟨t, rfl⟩ := r1
    exact ⟨hz, join_parts hs _ pins s1 σ H1 Q I1 q⟩
theorem pe_fstr {v₁ v₂ : Expr} {rest : List Expr} {ts : List TE} (p : PJs X (v₁ :: v₂ :: rest) ts) (he : evalEach (v₁ :: v₂ :: rest) X.env = (v₁ :: v₂ :: rest).map (fun e => eval e X.env) := by rfl) : PE X (.JoinedStr (v₁ :: v₂ :: rest) pos) (tJ ts Str.empty) := by
  refine ⟨?_⟩
  intro pins s σ H Q I h
  have z := join_parts p Str.empty pins s σ H Q I h
  rw [← he] at z
  exact JoinedStr_many z
end
end L2
set_option Elab.async false
set_option linter.all false
set_option maxRecDepth 100000
/-! things put one by one into order; words -/
namespace Srt
end Srt
namespace Ent
open PySem
/-! ### words -/
def ts (i : Int) : Str := Str.ofString (toString i)
theorem ts_len {i : Int} (h : i.natAbs < 10 ^ 40) : (ts i).length ≤ 41 := by
  unfold ts
  rw [ofString_length]
  exact int_text_length_le10 (k := 40) (by decide) h
theorem ts_log {i : Int} (h : i.natAbs < 10 ^ 40) : i.natAbs.log2 < 1920 := PySem.Spec.log2_small (Nat.lt_trans h (by decide +kernel))
theorem blank_len : ((" " : String) : Str).length = 1 := by decide
theorem sum_le {α : Type} {f : α → Nat} {n : Nat} : ∀ {l : List α}, (∀ x ∈ l, f x ≤ n) → (l.map f).sum ≤ l.length * n
  | [], _ => by simp
  | a :: l, h => by
    have h1 := sum_le fun x hx => h x (List.mem_cons_of_mem a hx)
    have h2 := h a List.mem_cons_self
    rw [List.map_cons, List.sum_cons, List.length_cons, Nat.add_mul]
    omega
theorem joinOk_le {ws : List Str} {n : Nat} (h : ∀ x ∈ ws, x.length ≤ n) (hn : ws.length * n + ws.length ≤ 100000) : PySem.JoinOk " " ws = true := by
  refine PyProof.Rows.joinOk_of ?_
  have := sum_le (f := fun x : Str => x.length) h
  rw [blank_len, Nat.mul_one]
  omega
end Ent
set_option Elab.async false
set_option linter.all false
set_option maxRecDepth 100000
/-! the locks' text -/
namespace Pr
open PySem L2 PyProof.Rows Any
theorem line1 {n : Nat} (h : n ≤ 1000) : n ≤ sizeLine := Nat.le_of_lt (small1000 h)
theorem srt_uniq {α : Type} {le : α → α → Prop} (anti : ∀ a b, le a b → le b a → a = b) : ∀ {xs ys : List α}, xs.Perm ys → xs.Pairwise le → ys.Pairwise le → xs = ys
  | [], ys, p, _, _ => (List.Perm.nil_eq p)
  | x :: xs, [], p, _, _ => absurd p.symm.nil_eq (by simp)
  | x :: xs, y :: ys, p, h1, h2 => by
    have e : x = y := by
      have hx : x ∈ y :: ys := p.subset List.mem_cons_self
      have hy : y ∈ x :: xs := p.symm.subset List.mem_cons_self
      rcases List.mem_cons.mp hx with z | z
      · exact z
      · rcases List.mem_cons.mp hy with z2 | z2
        · exact z2.symm
        · exact anti x y ((List.pairwise_cons.mp h1).1 y z2) ((List.pairwise_cons.mp h2).1 x z)
    subst e
    rw [srt_uniq anti (List.Perm.cons_inv p) (List.pairwise_cons.mp h1).2 (List.pairwise_cons.mp h2).2]
theorem tle_anti (a b : Srt.T2) (h : Srt.tlt2 b a = false) (h' : Srt.tlt2 a b = false) : a = b := by
  rw [Srt.tlt2_no] at h h'
  obtain ⟨a1, a2⟩ := a
  obtain ⟨b1, b2⟩ := b
  dsimp only at h h'
  have e1 : a1 = b1 := by omega
  have e2 : a2 = b2 := by omega
  rw [e1, e2]
def wdP (p : BP) : Str := Ent.ts p.1 ++ "/" ++ Ent.ts p.2
/-- the text of some shut bars -/
def WT (prs : List BP) (t : Str) : Prop := ∃ fs : List BP, fs.Perm prs ∧ fs.Pairwise (fun a b => Srt.tlt2 b a = false) ∧ t = Txt.join " " (fs.map wdP)
theorem WT.one {prs : List BP} {t t' : Str} (h : WT prs t) (h' : WT prs t') : t = t' := by
  obtain ⟨fs, p, s, rfl⟩ := h
  obtain ⟨fs', p', s', rfl⟩ := h'
  rw [srt_uniq tle_anti (p.trans p'.symm) s s']
structure PrsOk (prs : List BP) : Prop where
  nd : prs.Nodup
  l : prs.length ≤ 20
  b : ∀ p ∈ prs, 0 ≤ p.1 ∧ p.1 ≤ 4 ∧ -W40 < p.2 ∧ p.2 < W40
theorem nat40 {i : Int} (h : -W40 < i) (h' : i < W40) : i.natAbs < 10 ^ 40 := by
  have hW : W40 = 10000000000000000000000000000000000000000 := rfl
  have e : (10 : Nat) ^ 40 = 10000000000000000000000000000000000000000 := by decide +kernel
  omega
section
variable {P : Program} {w : World} {K : PySem.W.Frag} {mg : Str → Option Value} {base : Heap} {C : Addr}
inductive sp_written (Dc : Addr) (vs : List V) (H : Hp) (Q : VK) (E : XK) : Prop
  | mk (p x d : Addr) (prs : List BP) (e0 : vs = [.ref p]) (hK : LockAt Dc H p x d prs) (ok : PrsOk prs) (q : ∀ t H', Same H H' → WT prs t → Q (.str t) H') : sp_written Dc vs H Q E
theorem sc_written : FnScope ["self"] ["self"] (defScope sm_Locks_written) := ⟨rfl, rfl, rfl, by decide +kernel, rfl, by decide +kernel, by decide +kernel⟩
set_option maxHeartbeats 4000000 in
theorem written (T : Txt K mg C) : CanM P w K mg base (cOf mg "Locks") 1 "written" ["self"] (sp_written (cOf mg "Locks")) := by
  refine fm_can T.m_Locks_written sc_written (fun vs H Q E h => ?_) (fun f cdv A outer s H vs Q E hr h => ?_)
  · obtain ⟨p, x, d, prs, rfl, _⟩ := h
    rfl
  · obtain ⟨p, x, d, prs, rfl, ⟨⟨dx, hp⟩, hd⟩, ok, q⟩ := h
    refine ⟨_, (pss_one (ps_ret (pe_bmK K PySem.F.plainAttrs_str PySem.F.slot_str_join PySem.F.type_str_join mt_join pe_str (pa1 (pe_ln (xs := ["roll", "number"]) (Ns := ["self"]) rfl (lnS _ sc_written) (pi_listK K (pe_b (call_sorted_dT rfl) T.b_sorted boot_sorted (pa1 (pe_fldK K (pv 0) rfl)))) (pg_pair rfl (lnS _ sc_written)) (fun _ _ _ _ => pts_nil) (fun _ _ _ _ => (pe_fstr (.cons (pe_fmt (pv 0)) (.cons pe_str (.cons (pe_fmt (pv 1)) .nil)))))))))), ?_⟩
    have hkeys : (sd prs).map (·.1) = prs.map (fun e => [Sum.inl e.1, Sum.inl e.2]) := by unfold sd; rw [List.map_map]; rfl
    refine ⟨rfl, _, rfl, p, _, dx, _, _, rfl, hp, T.cl_Locks, T.n_Locks_shut_pairs, rfl, d, _, prs, rfl, hd, hkeys, by have := ok.l; omega, fun L ys fs pr pm srt hL => ?_⟩
    have sL := Same.upd (H := H) (o := .lst ys) hL
    refine ⟨L, rfl, ⟨_, .of upd_same⟩, fun D hD => ?_⟩
    have hfl : fs.length = prs.length := pm.length_eq
    have hyl : ys.length = fs.length := pr.length
    have pl := ok.l
    refine lcN_list (xs := ys) (fun i zs H1 => H1 D = some (.lst zs) ∧ Same (upd H L (.lst ys)) H1 ∧ zs = ((fs.take i).map wdP).map V.str) ⟨upd_same, Same.upd hD, rfl⟩ (fun i zs H1 h => ⟨h.1, .of (h.2.1 _ _ upd_same)⟩) (fun zs H1 h => ?_) fun i x' zs H1 u hu hi hx h => ?_
    · obtain ⟨h1, h2, rfl⟩ := h
      rw [hyl, List.take_length] at h1
      refine ⟨_, D, _, rfl, rfl, .of h1, Ent.joinOk_le (n := 90) (fun t ht => ?_) (by rw [List.length_map]; omega), q _ H1 (sL.trans h2) ⟨fs, pm, srt, rfl⟩⟩
      obtain ⟨e, he, rfl⟩ := List.mem_map.mp ht
      have hb := ok.b e (pm.subset he)
      have hW : W40 = 10000000000000000000000000000000000000000 := rfl
      have l1 : (Ent.ts e.1).length ≤ 41 := Ent.ts_len (nat40 (by omega) (by omega))
      have l2 : (Ent.ts e.2).length ≤ 41 := Ent.ts_len (nat40 hb.2.2.1 hb.2.2.2)
      have l3 : (("/" : String) : Str).length = 1 := by decide
      unfold wdP
      simp only [Str.length_append]
      omega
    · obtain ⟨h1, h2, rfl⟩ := h
      obtain ⟨u1, u2, rfl⟩ := len2 hu
      obtain ⟨e, he, t, rfl, ht⟩ := Paired.get pr hx
      have hb := ok.b e (pm.subset (List.mem_of_getElem? he))
      have hW : W40 = 10000000000000000000000000000000000000000 := rfl
      have n1 : e.1.natAbs < 10 ^ 40 := nat40 (by omega) (by omega)
      have n2 : e.2.natAbs < 10 ^ 40 := nat40 hb.2.2.1 hb.2.2.2
      have l1 : (Str.ofString (toString e.1)).length ≤ 41 := Ent.ts_len n1
      have l2 : (Str.ofString (toString e.2)).length ≤ 41 := Ent.ts_len n2
      have l3 : (Str.ofString "/").length = 1 := by decide
      have lE : Str.empty.length = 0 := rfl
      refine ⟨t, _, rfl, .of (h2 _ _ (sL _ _ ht)), rfl, _, _, rfl, _, _, rfl, rfl, ⟨[some (.int e.1), some (.int e.2)], rfl, rfl⟩, yesI ?_⟩
      refine ⟨_, rfl, .int _ rfl (Ent.ts_log n1) ⟨_, rfl, line1 (by simp only [Str.length_append]; omega), _, rfl, line1 (by simp only [Str.length_append]; omega), _, rfl, .int _ rfl (Ent.ts_log n2) ⟨_, rfl, line1 (by simp only [Str.length_append]; omega), line1 (by simp only [Str.length_append]; omega), ?_⟩⟩⟩
      refine LcNx.mk hi (by omega) (by rw [List.length_map, List.length_map, List.length_take]; omega) h1 ⟨upd_same, ?_, ?_⟩
      · exact fun b o z => by rw [upd_ne (ne_of_none z hD)]; exact h2 _ _ z
      · rw [Str.empty_append, List.take_add_one, he]
        simp [wdP, Ent.ts]
end
end Pr
set_option Elab.async false
set_option linter.all false
set_option maxRecDepth 100000
/-! numbers as texts, texts taken apart -/
namespace Ent
open PySem PySem.NumText
def dg (n : Nat) : List Nat := (Nat.toDigits 10 n).map Char.toNat
theorem dg_small {n : Nat} (h : n < 10) : dg n = [48 + n] := by
  unfold dg
  rw [Nat.toDigits_of_lt_base h]
  have : ∀ d : Nat, d < 10 → (Nat.digitChar d).toNat = 48 + d := by decide
  simp [this n h]
theorem dg_step {n : Nat} (h : 10 ≤ n) : dg n = dg (n / 10) ++ [48 + n % 10] := by
  have hm : n % 10 < 10 := Nat.mod_lt n (by decide)
  have t : Nat.toDigits 10 (n / 10) ++ Nat.toDigits 10 (n % 10) = Nat.toDigits 10 (10 * (n / 10) + n % 10) := Nat.toDigits_append_toDigits (by decide) (by omega) hm
  rw [Nat.div_add_mod] at t
  have e := dg_small hm
  unfold dg at e ⊢
  rw [← t, List.map_append, e]
theorem dg_digits : ∀ n : Nat, AllDigits (dg n) ∧ dg n ≠ [] ∧ (n ≠ 0 → ∀ r, dg n ≠ 48 :: r) := by
  intro n
  induction n using Nat.strongRecOn with
  | _ n ih =>
    by_cases h : n < 10
    · rw [dg_small h]
      refine ⟨fun c hc => ?_, by simp, fun hn r e => ?_⟩
      · rw [List.mem_singleton.mp hc]; omega
      · have := (List.cons.inj e).1
        omega
    · obtain ⟨i1, i2, i3⟩ := ih (n / 10) (by omega)
      rw [dg_step (by omega)]
      refine ⟨fun c hc => ?_, by simp, fun _ r e => ?_⟩
      · rcases List.mem_append.mp hc with hc | hc
        · exact i1 c hc
        · rw [List.mem_singleton.mp hc]; omega
      · cases hd : dg (n / 10) with
        | nil => exact i2 hd
        | cons a b =>
          rw [hd] at e
          have := (List.cons.inj e).1
          exact i3 (by omega) b (by rw [hd, this])
theorem ts_nat (m : Nat) : (ts (m : Int)).cps.toList = dg m := PySem.W.KIN.signs_num m
theorem ts_neg (m : Nat) : (ts (Int.negSucc m)).cps.toList = 45 :: dg (m + 1) := by
  unfold ts dg
  rw [PyProof.Rows.signs_ofString]
  show ("-" ++ Nat.repr (m + 1)).toList.map Char.toNat = _
  rw [String.toList_append, List.map_append, Nat.toList_repr]
  rfl
theorem ts_signs (i : Int) : ∀ c ∈ (ts i).cps.toList, c = 45 ∨ (48 ≤ c ∧ c ≤ 57) := fun c hc => by
  cases i with
  | ofNat m =>
    have e : (ts (Int.ofNat m)).cps.toList = dg m := ts_nat m
    rw [e] at hc
    exact .inr ((dg_digits m).1 c hc)
  | negSucc m =>
    rw [ts_neg] at hc
    rcases List.mem_cons.mp hc with h | h
    · exact .inl h
    · exact .inr ((dg_digits _).1 c h)
theorem ts_reads {i : Int} (h : i.natAbs < 10 ^ 40) : intText? (ts i) = some i := by
  have hl := ts_len h
  cases i with
  | ofNat m =>
    have e : (ts (Int.ofNat m)).cps.toList = dg m := ts_nat m
    have z := intText_digits (x := ts (Int.ofNat m)) (by rw [e]; exact (dg_digits m).1) (by rw [e]; exact (dg_digits m).2.1) (by omega)
    rw [e] at z
    unfold dg at z
    rw [PySem.W.KIN.val_back] at z
    exact z
  | negSucc m =>
    have z := intText_neg (ts_neg m) (dg_digits _).1 (dg_digits _).2.1 (by omega)
    unfold dg at z
    rw [PySem.W.KIN.val_back] at z
    exact z
/-! ### taken apart -/
theorem cut_one {c : Nat} : ∀ {a a' r r' : List Nat}, c ∉ a → c ∉ a' → a ++ c :: r = a' ++ c :: r' → a = a' ∧ r = r'
  | [], [], r, r', _, _, e => ⟨rfl, (List.cons.inj e).2⟩
  | [], x :: a', r, r', _, h', e => by
    have := (List.cons.inj e).1
    exact absurd (by rw [this]; exact List.mem_cons_self) h'
  | x :: a, [], r, r', h, _, e => by
    have := (List.cons.inj e).1
    exact absurd (by rw [← this]; exact List.mem_cons_self) h
  | x :: a, y :: a', r, r', h, h', e => by
    obtain ⟨e1, e2⟩ := List.cons.inj e
    obtain ⟨i1, i2⟩ := cut_one (fun z => h (List.mem_cons_of_mem _ z)) (fun z => h' (List.mem_cons_of_mem _ z)) e2
    exact ⟨by rw [e1, i1], i2⟩
theorem join_list2 (c : Nat) (x y : Str) (r : List Str) : (Str.join ⟨#[c]⟩ (x :: y :: r)).cps.toList = x.cps.toList ++ c :: (Str.join ⟨#[c]⟩ (y :: r)).cps.toList := by
  rw [PyProof.Rows.join_cons_cons]
  simp [Str.cps_append]
theorem str_ext {x y : Str} (h : x.cps.toList = y.cps.toList) : x = y := Str.ext' (Array.toList_inj.mp h)
theorem joins_one (c : Nat) : ∀ {ps ws : List Str}, ps ≠ [] → ws ≠ [] → (∀ p ∈ ps, c ∉ p.cps.toList) → (∀ p ∈ ws, c ∉ p.cps.toList) → Str.join ⟨#[c]⟩ ps = Str.join ⟨#[c]⟩ ws → ps = ws
  | [], _, h, _, _, _, _ => absurd rfl h
  | _ :: _, [], _, h, _, _, _ => absurd rfl h
  | [p], [w], _, _, _, _, e => by
    have : p = w := e
    rw [this]
  | [p], w :: w2 :: ws, _, _, hp, _, e => by
    have e' := congrArg (fun x : Str => x.cps.toList) e
    simp only [join_list2] at e'
    have : c ∈ p.cps.toList := by
      have e2 : p.cps.toList = w.cps.toList ++ c :: (Str.join ⟨#[c]⟩ (w2 :: ws)).cps.toList := e'
      rw [e2]
      simp
    exact absurd this (hp p List.mem_cons_self)
  | p :: p2 :: ps, [w], _, _, _, hw, e => by
    have e' := congrArg (fun x : Str => x.cps.toList) e
    simp only [join_list2] at e'
    have : c ∈ w.cps.toList := by
      have e2 : p.cps.toList ++ c :: (Str.join ⟨#[c]⟩ (p2 :: ps)).cps.toList = w.cps.toList := e'
      rw [← e2]
      simp
    exact absurd this (hw w List.mem_cons_self)
  | p :: p2 :: ps, w :: w2 :: ws, _, _, hp, hw, e => by
    have e' := congrArg (fun x : Str => x.cps.toList) e
    simp only [join_list2] at e'
    obtain ⟨e1, e2⟩ := cut_one (hp p List.mem_cons_self) (hw w List.mem_cons_self) e'
    have ih := joins_one c (ps := p2 :: ps) (ws := w2 :: ws) (by simp) (by simp) (fun q hq => hp q (List.mem_cons_of_mem _ hq)) (fun q hq => hw q (List.mem_cons_of_mem _ hq)) (str_ext e2)
    rw [str_ext e1, ih]
theorem split_join {c : Nat} {ws : List Str} (h : ws ≠ []) (hw : ∀ p ∈ ws, c ∉ p.cps.toList) : Txt.split (Txt.join ⟨#[c]⟩ ws) ⟨#[c]⟩ = ws := by
  have e : Txt.join ⟨#[c]⟩ ws = Str.join ⟨#[c]⟩ ws := StrLaws.glued_eq_join _ _
  rw [e]
  refine joins_one c ?_ h (StrLaws.split_free _ c) hw (StrLaws.join_split _ _)
  intro z
  have := PyProof.Rows.split_pos (Str.join ⟨#[c]⟩ ws) ⟨#[c]⟩
  rw [z] at this
  exact absurd this (by decide)
theorem blank_is : ((" " : String) : Str) = ⟨#[32]⟩ := by decide
theorem slash_is : (("/" : String) : Str) = ⟨#[47]⟩ := by decide
end Ent
set_option Elab.async false
set_option linter.all false
set_option maxRecDepth 100000
/-! a ladder's text -/
namespace Ent
open PySem Builtin Builtin.Str StrLaws PyProof.Rows
/-! ### a piece: a beginning, a colon, a blank ahead of each number -/
end Ent
set_option Elab.async false
set_option linter.all false
set_option maxRecDepth 100000
/-! texts that write numbers, and those that don't -/
namespace Ent
open PySem Builtin Builtin.Str StrLaws PyProof.Rows
theorem dg_of : ∀ (k : Nat) (l : List Nat), l.length = k → l ≠ [] → (∀ c ∈ l, 48 ≤ c ∧ c ≤ 57) → (l = [48] ∨ l.head? ≠ some 48) → ∃ n : Nat, dg n = l ∧ n < 10 ^ l.length ∧ (l ≠ [48] → n ≠ 0) := by
  intro k
  induction k with
  | zero => intro l hl hne; exact absurd (List.length_eq_zero_iff.mp hl) hne
  | succ k ih =>
    intro l hl hne hd h0
    obtain ⟨r, c, rfl⟩ : ∃ r c, l = r ++ [c] := ⟨l.dropLast, l.getLast hne, (List.dropLast_concat_getLast hne).symm⟩
    have hc := hd c (by simp)
    cases r with
    | nil =>
      refine ⟨c - 48, ?_, ?_, fun z e => z ?_⟩
      · rw [dg_small (by omega)]
        show [48 + (c - 48)] = [c]
        congr 1
        omega
      · show c - 48 < 10 ^ 1
        omega
      · show [c] = [48]
        congr 1
        omega
    | cons a s =>
      have hh : (a :: s).head? ≠ some 48 := by
        rcases h0 with h0 | h0
        · have := congrArg List.length h0
          simp at this
        · exact h0
      have hl' : (a :: s).length = k := by
        rw [List.length_append, List.length_singleton] at hl
        omega
      obtain ⟨n, e1, e2, e3⟩ := ih (a :: s) hl' (by simp) (fun d hd' => hd d (List.mem_append_left _ hd')) (.inr hh)
      have n0 : n ≠ 0 := e3 fun z => hh (by rw [z]; rfl)
      refine ⟨10 * n + (c - 48), ?_, ?_, fun _ z => by omega⟩
      · rw [dg_step (by omega), show (10 * n + (c - 48)) / 10 = n by omega, show (10 * n + (c - 48)) % 10 = c - 48 by omega, e1]
        congr 2
        omega
      · rw [List.length_append, List.length_singleton, Nat.pow_succ]
        omega
/-- the figures of a word -/
def fgs (l : List Nat) : List Nat := match l with | 45 :: r => r | _ => l
/-- a word that writes a number of at most m figures -/
structure Wr (m : Nat) (l : List Nat) : Prop where
  ne : fgs l ≠ []
  d : ∀ c ∈ fgs l, 48 ≤ c ∧ c ≤ 57
  ln : (fgs l).length ≤ m
  z : (fgs l).head? = some 48 → l = [48]
theorem wr_num {m : Nat} {z : Str} (h : Wr m z.cps.toList) : ∃ i : Int, z = ts i ∧ i.natAbs < 10 ^ m := by
  obtain ⟨h1, h2, h3, h4⟩ := h
  have pw : 10 ^ (fgs z.cps.toList).length ≤ 10 ^ m := Nat.pow_le_pow_right (by decide) h3
  cases e : z.cps.toList with
  | nil => rw [e] at h1; exact absurd rfl h1
  | cons a r =>
    by_cases ha : a = 45
    · subst ha
      have ef : fgs z.cps.toList = r := by rw [e]; rfl
      rw [ef] at h1 h2 h3 h4 pw
      have hh : r.head? ≠ some 48 := fun hq => by
        have := h4 hq
        rw [e] at this
        cases this
      obtain ⟨n, e1, e2, e3⟩ := dg_of r.length r rfl h1 h2 (.inr hh)
      have n0 : n ≠ 0 := e3 fun q => hh (by rw [q]; rfl)
      refine ⟨Int.negSucc (n - 1), str_ext ?_, ?_⟩
      · rw [e, ts_neg, show n - 1 + 1 = n by omega, e1]
      · rw [show (Int.negSucc (n - 1)).natAbs = n by omega]
        omega
    · have ef : fgs z.cps.toList = z.cps.toList := by
        rw [e]
        unfold fgs
        split
        · next heq => cases heq; exact absurd rfl ha
        · rfl
      rw [ef] at h1 h2 h3 h4 pw
      obtain ⟨n, e1, e2, e3⟩ := dg_of _ z.cps.toList rfl h1 h2 (by
        by_cases hq : z.cps.toList.head? = some 48
        · exact .inl (h4 hq)
        · exact .inr hq)
      refine ⟨(n : Int), str_ext ?_, ?_⟩
      · rw [ts_nat, e1]
      · rw [Int.natAbs_natCast]
        omega
theorem dg_len {n m : Nat} (h : n < 10 ^ m) (hm : 0 < m) : (dg n).length ≤ m := by
  unfold dg
  rw [List.length_map]
  have := (Nat.length_repr_le_iff (n := n) (k := m) hm).mpr h
  rw [← String.length_toList, Nat.toList_repr] at this
  exact this
theorem fgs_ts (i : Int) : fgs (ts i).cps.toList = dg i.natAbs := by
  cases i with
  | ofNat n =>
    have e : (ts (Int.ofNat n)).cps.toList = dg n := ts_nat n
    rw [e]
    show fgs (dg n) = dg n
    unfold fgs
    split
    · next r heq =>
      have := (dg_digits n).1 45 (by rw [heq]; simp)
      omega
    · rfl
  | negSucc n =>
    rw [ts_neg]
    rfl
theorem num_wr {m : Nat} (hm : 0 < m) {i : Int} (h : i.natAbs < 10 ^ m) : Wr m (ts i).cps.toList := by
  obtain ⟨d1, d2, d3⟩ := dg_digits i.natAbs
  refine ⟨by rw [fgs_ts]; exact d2, by rw [fgs_ts]; exact d1, by rw [fgs_ts]; exact dg_len h hm, fun hq => ?_⟩
  rw [fgs_ts] at hq
  by_cases h0 : i = 0
  · subst h0
    decide
  · obtain ⟨r, hr⟩ : ∃ r, dg i.natAbs = 48 :: r := by
      cases e : dg i.natAbs with
      | nil => exact absurd e d2
      | cons a r => rw [e] at hq; exact ⟨r, by rw [Option.some.inj hq]⟩
    exact absurd hr (d3 (by omega) r)
theorem ts_inj {i j : Int} (hi : i.natAbs < 10 ^ 40) (hj : j.natAbs < 10 ^ 40) (h : ts i = ts j) : i = j := by
  have h1 := ts_reads hi
  rw [h, ts_reads hj] at h1
  exact (Option.some.inj h1).symm
/-- the number that a word writes -/
noncomputable def numM (m : Nat) (z : Str) : Option Int := by
  classical exact if h : ∃ i : Int, z = ts i ∧ i.natAbs < 10 ^ m then some h.choose else none
theorem numM_some {m : Nat} {z : Str} {i : Int} (h : numM m z = some i) : z = ts i ∧ i.natAbs < 10 ^ m := by
  unfold numM at h
  split at h
  · next hx => cases h; exact hx.choose_spec
  · cases h
theorem numM_ts {m : Nat} (hm : m ≤ 40) {i : Int} (h : i.natAbs < 10 ^ m) : numM m (ts i) = some i := by
  have hp : 10 ^ m ≤ 10 ^ 40 := Nat.pow_le_pow_right (by decide) hm
  cases e : numM m (ts i) with
  | some j =>
    obtain ⟨e1, e2⟩ := numM_some e
    rw [ts_inj (by omega) (by omega) e1]
  | none =>
    unfold numM at e
    split at e
    · cases e
    · next hx => exact absurd ⟨i, rfl, h⟩ hx
/-- taken apart at a sign -/
theorem part_glue (z : Str) (c : Nat) : (Txt.partition z ⟨#[c]⟩).2.1 = (("" : String) : Str) ∨ ((Txt.partition z ⟨#[c]⟩).2.1 = ⟨#[c]⟩ ∧ z = (Txt.partition z ⟨#[c]⟩).1 ++ ⟨#[c]⟩ ++ (Txt.partition z ⟨#[c]⟩).2.2) := by
  have hn : z.cps.toList.length = z.length := by simp [Str.length]
  unfold Txt.partition
  rcases occ_head z ⟨#[c]⟩ 1 (Nat.le_refl _) with ⟨e, _⟩ | ⟨i, r, e, h1, h2⟩
  · rw [e]
    exact .inl rfl
  · rw [e]
    refine .inr ⟨rfl, str_ext ?_⟩
    have hi : z.cps.toList[i]? = some c := (subAt_one _ c i).mp h1
    show z.cps.toList = (strSub z 0 i ++ (⟨#[c]⟩ : Str) ++ strSub z (i + 1) z.length).cps.toList
    simp only [Str.cps_append, Array.toList_append, strSub_toList, ← hn, List.drop_zero, Nat.sub_zero]
    have hl := (List.getElem?_eq_some_iff.mp hi).1
    rw [List.take_of_length_le (l := z.cps.toList.drop (i + 1)) (by rw [List.length_drop]; omega)]
    have hg := (List.getElem?_eq_some_iff.mp hi).2
    have := List.take_append_drop i z.cps.toList
    rw [List.drop_eq_getElem_cons hl, hg] at this
    simpa using this.symm
end Ent
set_option Elab.async false
set_option linter.all false
set_option maxRecDepth 100000
/-! texts: x * n, x[lo:hi] -/
namespace L2
open PySem PySem.Spec PyProof.Rows
section
variable {X : Cx}
/-- x * n -/
inductive rMulS (x y : V) (H : Hp) (Q : VK) : Prop
  | mk (z : Str) (n : Int) (e1 : x = .str z) (e2 : y = .int n) (h1 : -1000000 < n) (h2 : n < 1000000) (h3 : z.length * n.toNat ≤ 100000) (q : Q (.str (Txt.mul z n)) H) : rMulS x y H Q
theorem op_mulS : OpR X (binaryOp .Mult) rMulS := by
  intro pins s σ H x y v u Q I rx ry h
  obtain ⟨z, n, rfl, rfl, h1, h2, h3, q⟩ := h
  obtain ⟨t, rfl⟩ := rx
  obtain ⟨t', rfl⟩ := ry
  refine SB.mul ⟨?_, fun a b => ?_, fun a b => ?_⟩ fun t' k => ⟨.str (Txt.mul z n), H, I.tok _, ⟨_, rfl⟩, q⟩
  · rw [Bool.or_eq_false_iff]
    exact ⟨decide_eq_false (by omega), decide_eq_false (by omega)⟩
  · have hn : 0 < n.toNat := by omega
    have : z.length ≤ 100000 := Nat.le_trans (Nat.le_mul_of_pos_right _ hn) h3
    have h4 : (9223372036854 : Int) ≤ (2 ^ 63 - 1) / n := by
      rw [Int.le_ediv_iff_mul_le (by omega)]
      have : (9223372036854 : Int) * n ≤ 9223372036854 * 1000000 := Int.mul_le_mul_of_nonneg_left (by omega) (by decide)
      omega
    omega
  · show decide _ = false
    refine decide_eq_false ?_
    have := sizeLine_eq
    omega
/-- x[lo:hi] of a text -/
inductive rSlS (x : V) (lo hi : Option Int) (H : Hp) (Q : VK) : Prop
  | mk (z : Str) (e1 : x = .str z) (h : (StrLaws.sliceText z lo hi).length ≤ 100000) (q : Q (.str (StrLaws.sliceText z lo hi)) H) : rSlS x lo hi H Q
theorem part_of {v : Value} {o : Option Int} (h : IsPart v o) : ∃ p : Option (Int × Tok), v = partValue p ∧ o = p.map (·.1) := by
  cases h with
  | none => exact ⟨none, rfl, rfl⟩
  | int i t => exact ⟨some (i, t), rfl, rfl⟩
theorem sl_str : SlR X rSlS := by
  intro pins s σ H x v vl vu lo hi sl Q I rx hs pl pu h
  obtain ⟨z, rfl, hz, q⟩ := h
  obtain ⟨t, rfl⟩ := rx
  obtain ⟨p, rfl, rfl⟩ := part_of pl
  obtain ⟨p', rfl, rfl⟩ := part_of pu
  refine ⟨"str", _, F.slot_str_getitem.lookup, typeIs_str _ _ _, ?_⟩
  refine wpAny_getItem_str_slice (l := p) (u := p') (st := none) hs rfl ?_
  unfold StrLaws.sliceText at q hz
  unfold sliceMade slicePicked
  split
  · rename_i hc
    have hc' : ((1 : Int) == 1 && (Builtin.Str.strSliceIndices (p.map (·.1)) (p'.map (·.1)) 1 z.length).length == z.length) = true := hc
    rw [if_pos hc'] at q
    exact ⟨.str z, H, I, ⟨_, rfl⟩, q⟩
  · rename_i hc
    have hc' : ¬ ((1 : Int) == 1 && (Builtin.Str.strSliceIndices (p.map (·.1)) (p'.map (·.1)) 1 z.length).length == z.length) = true := hc
    rw [if_neg hc'] at q hz
    refine ⟨?_, ⟨.str _, H, I.tok _, ⟨_, rfl⟩, q⟩⟩
    have := sizeLine_eq
    exact Nat.le_trans hz (by omega)
end
theorem slice_to {z : Str} {j : Int} (h0 : 0 ≤ j) (h1 : j ≤ z.length) : StrLaws.sliceText z none (some j) = ⟨(z.cps.toList.take j.toNat).toArray⟩ := by
  rw [StrLaws.sliceText_to ⟨h0, by rw [Array.length_toList]; exact h1⟩]
  simp
theorem slice_from {z : Str} {j : Int} (h0 : 0 ≤ j) (h1 : j ≤ z.length) : StrLaws.sliceText z (some j) none = ⟨(z.cps.toList.drop j.toNat).toArray⟩ := by
  rw [StrLaws.sliceText_from ⟨h0, by rw [Array.length_toList]; exact h1⟩]
  congr 2
  rw [List.take_of_length_le]
  rw [List.length_drop]
  omega
end L2
set_option Elab.async false
set_option linter.all false
set_option maxRecDepth 100000
/-! the signs of a text, one by one; a statement that isn't come to -/
namespace L2
open PySem PySem.Spec PyProof.Rows
def Its (x : Str) : It := ⟨fun i _ => i < x.cps.size, fun i H v H' => H' = H ∧ ∃ c, x.cps.toList[i]? = some c ∧ v = .str ⟨#[c]⟩, fun i _ => x.cps.size ≤ i⟩
theorem turn_str {P : Program} {w : World} {K : PySem.W.Frag} {tg : Expr} (x : Str) (t : Tok) (it : Addr) : Turn P w K tg (Its x) [it] it (fun i h => h.IsStrIter it "str_ascii_iterator" x t i) where
  mem := by simp
  obj := fun i h st b hb => by
    have e : b = it := by simpa using hb
    subst e
    obtain ⟨o, e, c, d⟩ := st
    exact ⟨o, e, fun v z => by rw [d] at z; cases z⟩
  keep := fun i h h' st k => by
    obtain ⟨o, ho, r⟩ := st
    exact ⟨o, k it (by simp) o ho, r⟩
  item := by
    intro X hP hw hK hc i pins s σ H E I hf st hg
    subst hP hw hK
    have hi : i < x.cps.size := hg
    obtain ⟨f0, f1, f2, f3, f4, f5⟩ := hf it (by simp)
    refine wpAny_pyNext_ascii_item st (c := x.cps[i]) (by simp [hi]) fun h' st' sb => ?_
    have I1 : Inv X pins σ H { s with heap := h', toks := s.toks + 1 } := I.turned (t' := s.toks + 1) (fun b o hb e => (sb.2 b hb).trans e) f0 f1 f3 f4 f5
    obtain ⟨o, e, c, d⟩ := id st'
    exact ⟨_, rfl, go_of (s := { s with heap := h', toks := s.toks + 1 }) e c d (by decide) ⟨.str ⟨#[x.cps[i]]⟩, H, I1, ⟨_, rfl⟩, ⟨rfl, _, by simp [hi], rfl⟩, st', fun b hb => (hf b hb).1⟩⟩
  done := by
    intro X hP hw hK hc i pins s σ H E I hf st hg
    subst hP hw hK
    have hi : x.cps.size ≤ i := hg
    obtain ⟨f0, f1, f2, f3, f4, f5⟩ := hf it (by simp)
    exact wpAny_pyNext_ascii_end (I.ok.hd hc) st (by simp [hi]) fun h' eb => ⟨rfl, I.turned (t' := s.toks) (fun b o hb e => eb b o hb e) f0 f1 f3 f4 f5⟩
  self := fun _ _ _ _ _ st h => wpAny_pyIter_striter_ascii st h
section
variable {X : Cx} {tg : Expr}
def iStr (tl : TE) : TI := fun σ H R => tl σ H fun v H1 => ∃ x, v = .str x ∧ x.cps.all (· < 128) = true ∧ R (Its x) H1
theorem pi_str {l : Expr} {tl : TE} (hl : PE X l tl) : PI X tg l (iStr tl) := by
  intro pins s σ H R I h
  refine thn (hl pins s σ H _ I h) fun v s1 ⟨y, H1, I1, r1, q1⟩ => ?_
  obtain ⟨x, e, ha, q⟩ := q1
  subst e
  obtain ⟨t, rfl⟩ := r1
  refine wpAny_pyIter_ascii ha ?_
  refine ⟨s1.heap.objs.size, [s1.heap.objs.size], _, _, H1, rfl, I1.kept (t' := s1.toks) fun b o e => Heap.get?_push_of_some _ e, turn_str x t _, ⟨_, Heap.get?_push_size _ rfl, rfl, rfl⟩, fun b hb => ?_, q⟩
  have e : b = s1.heap.objs.size := by simpa using hb
  subst e
  exact I1.fpOk (Nat.le_refl _) (I1.hok.fresh (Nat.le_refl _))
end
end L2
set_option Elab.async false
set_option linter.all false
set_option maxRecDepth 100000
/-! numbers read from any text -/
namespace L2
open PySem
theorem LcNx.mk6 {n i : Nat} {D : Addr} {ys : List V} {Pv : Nat → List V → Hp → Prop} {y : V} {H3 : Hp} (hi : i < n) (hn : n ≤ 100000) (hl : ys.length ≤ i) (h : H3 D = some (.lst ys)) (p : Pv (i + 1) (ys ++ [y]) (upd H3 D (.lst (ys ++ [y])))) : LcNx n i D ys Pv y H3 :=
  ⟨h, by rw [sizeLine_eq]; omega, n - (i + 1), by omega, rfl, hi, p⟩
end L2
namespace Ent
open PySem Builtin Builtin.Str StrLaws PyProof.Rows
theorem line6 {n : Nat} (h : n ≤ 100000) : n ≤ sizeLine := by rw [sizeLine_eq]; omega
theorem rp_fgs (z : Str) : (Txt.removeprefix z "-").cps.toList = fgs z.cps.toList := by
  rw [removeprefix_eq]
  have e1 : (("-" : String) : Str).length = 1 := by decide
  have hsub : Builtin.Str.subAt z "-" 0 = decide (z.cps.toList.head? = some 45) := by
    unfold Builtin.Str.subAt
    rw [Bool.eq_iff_iff, beq_iff_eq, decide_eq_true_iff]
    have e : (("-" : String) : Str).cps = #[45] := by decide
    rw [e, e1]
    constructor
    · intro h
      have h' := congrArg Array.toList h
      rw [Array.toList_extract] at h'
      cases hd : z.cps.toList with
      | nil => rw [hd] at h'; simp at h'
      | cons a r =>
        rw [hd] at h'
        have : a = 45 := by simpa using h'
        rw [this]; rfl
    · intro h0
      obtain ⟨r, h⟩ : ∃ r, z.cps.toList = 45 :: r := by
        cases hd : z.cps.toList with
        | nil => rw [hd] at h0; cases h0
        | cons a r => rw [hd] at h0; exact ⟨r, by rw [Option.some.inj h0]⟩
      apply Array.toList_inj.mp
      rw [Array.toList_extract, h]
      simp
  rw [hsub, e1]
  have hzl : z.length = z.cps.toList.length := by simp [Str.length]
  by_cases h : z.cps.toList.head? = some 45
  · obtain ⟨r, hr⟩ : ∃ r, z.cps.toList = 45 :: r := by
      cases hd : z.cps.toList with
      | nil => rw [hd] at h; cases h
      | cons a r => rw [hd] at h; exact ⟨r, by rw [Option.some.inj h]⟩
    rw [if_pos (by rw [decide_eq_true h, Bool.and_true, hzl, hr]; simp)]
    show (List.take (z.length - 1) (List.drop 1 z.cps.toList)) = _
    rw [hzl, hr]
    show List.take ((45 :: r).length - 1) r = r
    exact List.take_of_length_le (by simp)
  · rw [if_neg (by rw [decide_eq_false h, Bool.and_false]; exact Bool.false_ne_true)]
    unfold fgs
    split
    · next r heq => rw [heq] at h; exact absurd rfl h
    · rfl
/-- figures alone -/
theorem dig_iff (f : Str) : (Txt.isascii f && Txt.isdigit f) = true ↔ (f.cps.toList ≠ [] ∧ ∀ c ∈ f.cps.toList, 48 ≤ c ∧ c ≤ 57) := by
  have z1 : ∀ c, c < 128 → (Unicode.isDigit c = true ↔ (48 ≤ c ∧ c ≤ 57)) := by decide +kernel
  unfold Txt.isascii Txt.isdigit
  rw [Bool.and_eq_true, Bool.and_eq_true, decide_eq_true_eq, ← Array.all_toList, ← Array.all_toList, List.all_eq_true, List.all_eq_true]
  have hl : f.length = f.cps.toList.length := by simp [Str.length]
  rw [hl]
  constructor
  · rintro ⟨h1, h2, h3⟩
    exact ⟨List.length_pos_iff.mp h2, fun c hc => (z1 c (of_decide_eq_true (h1 c hc))).mp (h3 c hc)⟩
  · rintro ⟨h1, h2⟩
    exact ⟨fun c hc => decide_eq_true (by have := h2 c hc; omega), List.length_pos_iff.mpr h1, fun c hc => (z1 c (by have := h2 c hc; omega)).mpr (h2 c hc)⟩
end Ent
namespace Pr
open PySem L2 PyProof.Rows Ent
theorem one_line : 1 ≤ sizeLine := by decide
theorem kit_str1 (K : PySem.W.Frag) : PySem.W.kitOne K (.type "str") (.type "str") = some true := by rfl
theorem iteC {b : Bool} {A B : Prop} (hb : b = true) (h : A) : if b = true then A else B := by rw [if_pos hb]; exact h
theorem iteD {b : Bool} {A B : Prop} (hb : b = false) (h : B) : if b = true then A else B := by rw [if_neg (by rw [hb]; exact Bool.false_ne_true)]; exact h
theorem rp_len (w : Str) : (Txt.removeprefix w "-").length ≤ w.length := by
  have e : (Txt.removeprefix w "-").length = (fgs w.cps.toList).length := by rw [← rp_fgs]; simp [Str.length]
  have e2 : w.length = w.cps.toList.length := by simp [Str.length]
  rw [e, e2]
  unfold fgs
  split
  · next r heq => rw [heq]; simp
  · exact Nat.le_refl _
def nV : Option Int → V
  | some i => .int i
  | none => .non
section
variable {P : Program} {w : World} {K : PySem.W.Frag} {mg : Str → Option Value} {base : Heap} {C : Addr}
inductive sp_need (K : PySem.W.Frag) (mg : Str → Option Value) (vs : List V) (H : Hp) (Q : VK) (E : XK) : Prop
  | ok (z : Str) (e : vs = [.str z]) (q : Q .non H) : sp_need K mg vs H Q E
  | no (v : V) (t : Value) (e : vs = [v]) (h : TyW H v t) (k : PySem.W.kitOne K t (.type "str") = some false) (x : E (.ref (cOf mg "NoText")) none H) : sp_need K mg vs H Q E
theorem sc_need : FnScope ["value"] ["value"] (defScope s_need_text) := ⟨rfl, rfl, rfl, by decide +kernel, rfl, by decide +kernel, by decide +kernel⟩
theorem need_text (T : Txt K mg C) : CanX P w K mg base 1 "need_text" ["value"] (sp_need K mg) := by
  refine fn_canX T.f_need_text sc_need (fun vs H Q E h => ?_) (fun f cdv A outer s H vs Q E hr W h => ?_)
  · cases h with
    | ok z e => subst e; rfl
    | no v t e => subst e; rfl
  · refine ⟨_, pss_one (ps_if (pt_not (pt_val (pe_b (call_isiW K) T.b_isinstance boot_isinstance (pa2 (pv 0) (pe_ty rfl T.b_str boot_str))))) (pss_one (ps_raise W rfl T.x_NoText.cls (pa1 pe_str))) pss_nil), ?_⟩
    cases h with
    | ok z e q => subst e; exact ⟨_, rfl, .mk _ _ _ _ rfl (.str z) (kit_str1 _) ⟨_, rfl, iteF q⟩⟩
    | no v t e h k x => subst e; exact ⟨_, rfl, .mk _ _ _ _ rfl h k ⟨_, rfl, iteT ⟨⟨one_line, x⟩⟩⟩⟩
inductive sp_whole_of (vs : List V) (H : Hp) (Q : VK) (E : XK) : Prop
  | mk (z : Str) (m : Nat) (e : vs = [.str z, .int (m : Int)]) (m0 : 0 < m) (hm : m ≤ 40) (hl : z.length ≤ 100000) (q : Q (nV (numM m z)) H) : sp_whole_of vs H Q E
theorem sc_whole_of : FnScope ["word", "most", "figures"] ["word", "most"] (defScope s_whole_of) := ⟨rfl, rfl, rfl, by decide +kernel, rfl, by decide +kernel, by decide +kernel⟩
set_option maxHeartbeats 2000000 in
theorem whole_of (T : Txt K mg C) : Can P w K mg base 1 "whole_of" ["word", "most"] sp_whole_of := by
  refine fn_can T.f_whole_of sc_whole_of (fun vs H Q E h => ?_) (fun f cdv A outer s H vs Q E hr h => ?_)
  · obtain ⟨z, m, rfl, _⟩ := h
    rfl
  · obtain ⟨z, m, rfl, m0, hm, hl, q⟩ := h
    refine ⟨_, (pss_cons (ps_set (i := 2) sc_whole_of.nd rfl (Or.inl rfl) (pe_bmK K PySem.F.plainAttrs_str PySem.F.slot_str_removeprefix PySem.F.type_str_removeprefix mt_removeprefix (pv 0) (pa1 pe_str)))
        (pss_cons (ps_if (pt_cmpR op_gt (pe_b call_len_str T.b_len boot_len (pa1 (pv 2))) (pv 1) (nomark _)) (pss_one (ps_ret pe_non)) pss_nil)
        (pss_cons (ps_if (pt_not (PW.pt (pw_and (pt_val (pe_bm0 PySem.F.plainAttrs_str PySem.F.slot_str_isascii PySem.F.type_str_isascii mt_isascii (pv 2))) (pw_and1 (pt_val (pe_bm0 PySem.F.plainAttrs_str PySem.F.slot_str_isdigit PySem.F.type_str_isdigit mt_isdigit (pv 2))))))) (pss_one (ps_ret pe_non)) pss_nil)
        (pss_cons (ps_if (PW.pt (pw_and (pt_cmpR op_eq (pe_ix ix_str (pv 2) pe_int (fun _ _ => rfl)) pe_str (nomark _)) (pw_and1 (pt_cmpR op_ne (pv 0) pe_str (nomark _))))) (pss_one (ps_ret pe_non)) pss_nil)
        (pss_one (ps_ret (pe_t call_int_text T.b_int boot_int (pa1 (pv 0))))))))), ?_⟩
    have hfl := rp_len z
    have hff := rp_fgs z
    refine ⟨_, rfl, rfl, _, _, rfl, rfl, line6 (by omega), ?_⟩
    generalize Txt.removeprefix z "-" = fg at hfl hff ⊢
    have hfn : fg.length = (fgs z.cps.toList).length := by rw [← hff]; simp [Str.length]
    refine ⟨_, rfl, _, rfl, line6 (by omega), _, rfl, _, _, rfl, rfl, _, rfl, ?_⟩
    have non : ¬ Wr m z.cps.toList → Q .non H := fun h => by
      cases e : numM m z with
      | none => rw [e] at q; exact q
      | some i =>
        obtain ⟨e1, e2⟩ := numM_some e
        rw [e1] at h
        exact absurd (num_wr m0 e2) h
    by_cases d1 : (m : Int) < (fg.length : Int)
    · exact iteC (decide_eq_true d1) (non fun w => by have := w.ln; omega)
    refine iteD (decide_eq_false d1) ⟨_, rfl, rfl, _, rfl, rfl, _, rfl, ?_⟩
    have dg := dig_iff fg
    rw [hff] at dg
    have nodig : (Txt.isascii fg && Txt.isdigit fg) = false → ¬ Wr m z.cps.toList := fun h w => by
      rw [dg.mpr ⟨w.ne, w.d⟩] at h
      cases h
    cases ha : Txt.isascii fg with
    | false => exact iteF (iteT (non (nodig (by rw [ha]; rfl))))
    | true =>
      refine iteT ⟨_, rfl, rfl, _, rfl, rfl, _, rfl, ?_⟩
      cases hd : Txt.isdigit fg with
      | false => exact iteT (non (nodig (by rw [ha, hd]; rfl)))
      | true =>
        obtain ⟨ne, dd⟩ := dg.mp (by rw [ha, hd]; rfl)
        refine iteF ?_
        obtain ⟨c, r, hcr⟩ : ∃ c r, fgs z.cps.toList = c :: r := by
          cases e : fgs z.cps.toList with
          | nil => exact absurd e ne
          | cons c r => exact ⟨c, r, rfl⟩
        refine ⟨_, rfl, _, _, c, rfl, rfl, line6 (by omega), atI_nat (j := 0) (by rw [hff, hcr]; rfl), rfl, _, rfl, ?_⟩
        have c48 : decide (V.str (⟨#[c]⟩ : Str) = V.str "0") = decide (c = 48) := by
          rw [decide_eq_decide]
          constructor
          · intro h
            have e2 := congrArg (fun x : Str => x.cps.toList) (V.str.inj h)
            have e3 : (("0" : String) : Str).cps.toList = [48] := by decide
            rw [e3] at e2
            exact (List.cons.inj e2).1
          · rintro rfl; decide
        have yes : Wr m z.cps.toList → ∃ i, z = ts i ∧ i.natAbs < 10 ^ m ∧ Q (.int i) H := fun w => by
          obtain ⟨i, e1, e2⟩ := wr_num w
          refine ⟨i, e1, e2, ?_⟩
          rw [e1, numM_ts hm e2] at q
          exact q
        rw [c48]
        by_cases hc : c = 48
        · refine iteC (decide_eq_true hc) ⟨_, rfl, rfl, _, rfl, ?_⟩
          by_cases hz : z = "0"
          · refine iteD (by rw [hz]; simp) ?_
            obtain ⟨i, e1, e2, qi⟩ := yes ⟨ne, dd, by omega, fun _ => by rw [hz]; decide⟩
            subst e1
            have h40 : i.natAbs < 10 ^ 40 := Nat.lt_of_lt_of_le e2 (Nat.pow_le_pow_right (by decide) hm)
            have := ts_len h40
            exact ⟨_, rfl, _, i, rfl, ts_reads h40, by omega, qi⟩
          · exact iteC (by rw [decide_eq_false fun e => hz (V.str.inj e)]; rfl) (non fun w => hz (str_ext (by
              rw [w.z (by rw [hcr, hc]; rfl)]
              decide)))
        · refine iteD (decide_eq_false hc) ?_
          obtain ⟨i, e1, e2, qi⟩ := yes ⟨ne, dd, by omega, fun z0 => by rw [hcr] at z0; exact absurd (Option.some.inj z0) hc⟩
          subst e1
          have h40 : i.natAbs < 10 ^ 40 := Nat.lt_of_lt_of_le e2 (Nat.pow_le_pow_right (by decide) hm)
          have := ts_len h40
          exact ⟨_, rfl, _, i, rfl, ts_reads h40, by omega, qi⟩
end
end Pr
set_option Elab.async false
set_option linter.all false
set_option maxRecDepth 100000
/-! a raise while an error is handled, whose own context is none -/
namespace L2
open PySem PySem.Spec PyProof.Rows
theorem entry_unchain : entryFor table "proto.unchain" = some Builtin.«proto.unchain» := entryFor_of_fast (by kernel_rfl)
section
variable {prog : Program} {w : World} {A : Around} {E : Value → Shared → Prop} {s : Shared}
/-- nothing is handled, or an error whose context is none -/
inductive Mild (A : Around) (h : Heap) : Prop
  | none (e : A.handled = .none) : Mild A h
  | some (b : Addr) (o : Obj) (vs : Array Value) (e : A.handled = .some (.ref b)) (hb : h.get? b = .some o) (hd : o.data = .fields vs) (h2 : vs[2]? = .some .none) : Mild A h
end
end L2
set_option Elab.async false
set_option linter.all false
set_option maxRecDepth 100000
/-! raise C(..) from None, within a clause -/
namespace L2
open PySem PySem.Spec PyProof.Rows
section
variable {prog : Program} {w : World} {A : Around} {E : Value → Shared → Prop} {env : Env}
variable {nm q : Str} {C N : Addr} {bs bm : List Value} {hdct : Bool} {sn : List Str} {sub : List Value} {ab : Bool} {col : Option Bool} {dd : Option Addr} {k0 k1 k2 k3 k5 : Option Value} {newId : String}
theorem raiseNew_at {α : Type} {s : Shared} {a : Addr} {oa : Obj} {va : Array Value} {Q : α → Shared → Prop} (M : Mild A s.heap) (na : ∀ b, A.handled = some (.ref b) → b ≠ a) (ha : s.heap.get? a = some oa) (had : oa.data = .fields va) (h2 : 2 < va.size)
    (h : ∀ h' u, Heap.ExtBut a s.heap h' → h'.get? a = some (oa.mapFields fun z => z.setIfInBounds 2 u) → E (.ref a) { s with heap := h' }) (hu : va[2]? = some .none) : wpAny (model prog w) A (raiseNew (.ref a) : Sem α) Q E s := by
  unfold raiseNew
  refine wpAny_bind (wpAny_handled ?_)
  cases M with
  | none e =>
    rw [e]
    have e1 : oa.mapFields (fun z => z.setIfInBounds 2 Value.none) = oa := by
      obtain ⟨c, d, dt, sl⟩ := oa
      dsimp only at had
      subst had
      unfold Obj.mapFields
      have : va.setIfInBounds 2 Value.none = va := by
        obtain ⟨hl, e⟩ := Array.getElem?_eq_some_iff.mp hu
        refine Array.ext (by simp) fun i h1 h2 => ?_
        rw [Array.getElem_setIfInBounds h2]
        by_cases hi : 2 = i
        · subst hi; simp [e]
        · simp [hi]
      simp [this]
    exact wpAny_bind (wpAny_pure (wpAny_throw (h _ Value.none (fun _ _ _ e => e) (by rw [e1]; exact ha))))
  | some b o vs e hb hd h2' =>
    rw [e]
    have ne : (Value.ref b != Value.ref a) = true := by
      have := na b e
      simpa using this
    dsimp only
    rw [if_pos ne]
    refine wpAny_bind (wpAny_holding (wpAny_runValue ?_))
    refine codeAny_builtin entry_unchain ?_
    unfold Builtin.«proto.unchain»
    dsimp only
    refine wpAny_bind (wpAny_field hb hd h2' ?_)
    rw [if_pos (show (Value.none == Value.none) = true from rfl)]
    refine wpAny_bind (wpAny_pure ?_)
    refine wpAny_pure ?_
    show wpAny _ _ (setField (.ref a) 2 (Value.ref b) >>= fun _ => throw (Value.ref a)) Q E s
    exact wpAny_bind (wpAny_setField ha had h2 (wpAny_throw (h _ (Value.ref b) (Heap.SameBut.update ..).extBut (Heap.get?_update_self _ ha (Obj.isFreed_of_fields (Obj.data_mapFields had _))))))
theorem raiseStmt_none {s : Shared} {x c : Sem Value} {Q : Flow → Shared → Prop} (hbase : bm.contains (.type "BaseException") = true)
    (h : wpAny (model prog w) A x (fun v s₁ => ∃ e t, v = .ref e ∧ s₁.heap.get? C = some (excClassObj nm q C N bs bm hdct sn sub ab col dd k0 k1 k2 k3 k5 newId) ∧
      s₁.heap.get? e = some { cls := .ref C, data := .fields #[.ref t, .none, .none, .none, .bool false, .none] } ∧ wpAny (model prog w) A c (fun v s₂ => v = .none ∧ s₂ = s₁) E s₁ ∧ C ≠ e ∧ Mild A s₁.heap ∧ (∀ b, A.handled = some (.ref b) → b ≠ e) ∧
      ∀ h' u, Heap.ExtBut e s₁.heap h' → h'.get? e = some { cls := .ref C, data := .fields #[.ref t, .none, u, .none, .bool true, .none] } → E (.ref e) { s₁ with heap := h' }) E s) :
    wpAny (model prog w) A (raiseStmt env (some x) (some c)) Q E s := by
  have hcB : (Value.ref C :: bm).contains (.type "BaseException") = true := by rw [List.contains_cons, hbase, Bool.or_true]
  unfold raiseStmt
  refine wpAny_bind (wpAny_mono h (fun v s₁ h₁ => ?_) fun _ _ x => x)
  obtain ⟨e, t, rfl, hC, he, hc, hCe, hM, hne, hE⟩ := h₁
  refine wpAny_bind (wpAny_holding (wpAny_mono hc (fun v s₂ h₂ => ?_) fun _ _ x => x))
  obtain ⟨rfl, rfl⟩ := h₂
  obtain ⟨hp, g, d, tk, os⟩ := s₂
  repeat (first | with_reducible refine wpAny_loadPart_at he ?_ | with_reducible refine wpAny_loadPart_at hC ?_ | (with_reducible refine wpAny_isSubtype_exc hC ?_; rw [hcB]) | wp_step)
  have u3 := Heap.get?_update_self (Obj.mapFields fun x => x.setIfInBounds 3 Value.none) he rfl
  have u4 := Heap.get?_update_self (Obj.mapFields fun x => x.setIfInBounds 4 (Value.bool true)) u3 rfl
  have ex : Heap.ExtBut e hp ((hp.update e (Obj.mapFields fun x => x.setIfInBounds 3 Value.none)).update e (Obj.mapFields fun x => x.setIfInBounds 4 (Value.bool true))) := fun b o n z => by
    rw [Heap.get?_update_other _ _ (Ne.symm n), Heap.get?_update_other _ _ (Ne.symm n)]
    exact z
  refine raiseNew_at ?_ hne u4 rfl (by show 2 < 6; decide) (fun h' u eb ho => hE h' u (fun b o n z => eb b o n (ex b o n z)) ho) rfl
  cases hM with
  | none e' => exact .none e'
  | some b o vs e' hb hd h2 => exact .some b o vs e' (ex b o (hne b e') hb) hd h2
end
section
variable {X : Cx} {E : XK} {x y : Str} {C Dd : Addr} {e₀ : Expr} {rest : List Expr} {t : TA} {np np' cpos rpos pos cp : Pos} {kc : Nat} {hs : List ExceptHandler} {th : Value → TS}
/-- the clause's suite: an error is made and raised while the error at a is handled -/
theorem suite_raise {pins : List (Addr × Obj)} {σ : St} {H : Hp} {s : Shared} {a : Addr} {Q : Flow → Shared → Prop} (W : Wish X E) (hD : XCls X.K X.mg y Dd) (I : Inv (X.mark a) pins σ H s) (ok : X.Ok) (ha : PA (X.mark a) (e₀ :: rest) t)
    (h : t σ H (fun vs H1 => vs.length ≤ sizeLine ∧ (∃ oe, H1 a = some (XO a oe)) ∧ E (.ref Dd) (some 0) H1)) (hst : X.stack = X.env :: X.outer) (hf : X.env.frame = some X.env.locals)
    (hg : Gl X y) (he : starEach (e₀ :: rest) X.env = (false, eval e₀ X.env) :: starEach rest X.env) (hpl : (backTo cpos (starEach rest X.env)).any (·.1) = false) (hdb : (y == ("__debug__" : Str)) = false) :
    wpAny (model X.prog X.w) (X.A.mark (some (.ref a))) (execs [.Raise (some (.Call (.Name y np') (e₀ :: rest) [] cpos)) (some (.Constant .none kc cp)) rpos] X.env) Q
      (notedBy (model X.prog X.w) (X.A.mark (some (.ref a))) X.env fun e s₂ => cameBackBy (model X.prog X.w) X.A X.env X.xe e s₂) s := by
  obtain ⟨bm, N, nm, q, bs, hdct, sn, sub, ab, col, dd, k0, k1, k2, k3, k5, mN, hCo, hN, hni, T⟩ := own_at I.mod.kin hD.ok
  refine wpAny_execs_cons ?_
  rw [arm_exec_Raise]
  refine wpAny_bind (wpAny_standAt ?_)
  show wpAny _ _ (raiseStmt X.env (some _) (some _)) _ _ _
  refine raiseStmt_none (C := Dd) (nm := nm) (q := q) (N := N) (bs := bs) (bm := bm) (hdct := hdct) (sn := sn) (sub := sub) (ab := ab) (col := col) (dd := dd) (k0 := k0) (k1 := k1) (k2 := k2) (k3 := k3) (k5 := k5) (newId := "ValueError.__new__") (T.hasType PySem.F.excBase_ValueError.hasBase) ?_
  refine wpAny_bind (wpAny_mono (wpAny_Call_ofName (ld_glob I hg hD.m ?_ hdb)) (fun v s₃ h₃ => wpAny_bind (wpAny_standAt (wpAny_pure h₃))) fun _ _ z => z)
  unfold callWith
  have hw := ha cpos pins s σ H _ I h
  have he' : starEach (e₀ :: rest) (X.mark a).env = (false, eval e₀ (X.mark a).env) :: starEach rest (X.mark a).env := he
  rw [he'] at hw ⊢
  refine wpAny_bind (wpAny_holding (Calls.evalArgs_plain (wpAny_mono hw (fun us s₂ h₂ => wpAny_bind (wpAny_standAt ?_)) fun _ _ z => z.elim)))
  obtain ⟨vs, H1, I1, r, hl, ⟨oe, hH1⟩, qe⟩ := h₂
  have J1 := I1.unmark ok
  obtain ⟨⟨hoe, vo, hvo, hv2⟩, _, _⟩ := J1.hok a _ hH1
  have hpl' : ((backTo cpos ((false, eval e₀ (X.mark a).env) :: starEach rest (X.mark a).env)).any fun z => z.fst) = false := by
    show (false || (backTo cpos (starEach rest X.env)).any (·.1)) = false
    rw [hpl]
    rfl
  have cC := J1.bk _ _ hCo
  have cN := hN.keeps J1.bk
  have cT := T.keeps J1.bk
  obtain ⟨hp, g, d, tk, os⟩ := s₂
  simp only [hpl']
  refine wpAny_bind (wpAny_keeperOf_exc cC ?_)
  refine wpAny_bind (wpAny_call_exc_subT (hrest := by rw [List.nil_append, ← r.length]; exact hl) PySem.F.excBase_ValueError cT cC cN hni fun h' e hm => wpAny_bind (wpAny_holding (wpAny_point (wpAny_pure ?_))))
  obtain ⟨tt, ht, _, _⟩ := hm.there
  have nea : a ≠ e := fun z => by
    have := hm.new
    rw [← z] at this
    exact absurd (this.symm.trans hoe) (by simp)
  have neC : Dd ≠ e := fun z => by
    have := hm.new
    rw [← z] at this
    exact absurd (this.symm.trans cC) (by simp)
  refine ⟨e, tt, rfl, hm.keeps _ _ cC, ht, ?_, neC, .some a oe vo rfl (hm.keeps _ _ hoe) hvo hv2, fun b z => ?_, fun h'' u eb ho => ?_⟩
  · exact wpAny_bind (wpAny_Constant_none (wpAny_bind (wpAny_standAt (wpAny_pure ⟨rfl, rfl⟩))))
  · have z' : some (Value.ref a) = some (Value.ref b) := z
    cases z'
    exact nea
  have kp : ∀ b o, hp.get? b = some o → h''.get? b = some o := fun b o z => eb b o (fun q => by have := hm.new; rw [← q] at this; exact absurd (this.symm.trans z) (by simp)) (hm.keeps _ _ z)
  have x : EX X.prog X.w X.stack H1 ⟨hp, g, d, tk, os⟩ true (.ref Dd, some 0) e H1 ⟨h'', g, d, tk, os⟩ := ⟨rfl, J1.bare, Un.kept kp, J1.hok.kept kp, .new _ _ ho rfl rfl ⟨rfl, fun z => nomatch z⟩ (J1.hok.none hm.new) hm.new rfl⟩
  refine note_fl J1 hst hf (A := X.A.mark (some (.ref a))) J1.ok.frames rfl x fun h₃ x3 ⟨vs3, oe3, T3, oT, ts, f, g1, g2, g3, g4, g5, g6, g7, g8, g9⟩ => ?_
  unfold cameBackBy
  refine wpAny_bind (wpAny_field g1 g2 g3 ?_)
  rw [if_neg (show ¬ ((Value.ref T3 == Value.none) = true) by simp)]
  unfold setFlight
  refine wpAny_bind (wpAny_field g1 g2 g3 ?_)
  rw [if_pos (show (Value.ref T3 != Value.none) = true by simp)]
  refine wpAny_setField g5 g6 (Array.getElem?_eq_some_iff.mp g7).1 ?_
  exact W.go pins σ H1 _ _ (.ref Dd, some 0) e H1 _ J1 (x3.flight (fl := X.env.frame) g1 g2 g3 g4 g5 g6 g7 g8 g9) qe
end
end L2
set_option Elab.async false
set_option linter.all false
set_option maxRecDepth 100000
/-! a for whose body may raise; a clause with three classes -/
namespace L2
open PySem PySem.Spec PyProof.Rows
section
variable {X : Cx} {E : XK} {tg : Expr}
/-- errors of a loop's turn -/
def xeOwn (X : Cx) : Value → Shared → Prop := notedBy (model X.prog X.w) X.A X.env fun e s' => cameBackBy (model X.prog X.w) X.A X.env X.xe e s'
theorem wish_own (W : Wish X E) (hst : X.stack = X.env :: X.outer) (hf : X.env.frame = some X.env.locals) : Wish (X.exC (xeOwn X)) E := ⟨fun pins σ H s new cls a H' s₁ I0 x q => by
  have I : Inv X pins σ H s := I0.unexC
  refine note_fl I hst hf (A := X.A) I.ok.frames rfl x fun h₃ x3 ⟨vs3, oe3, T3, oT, ts, f, g1, g2, g3, g4, g5, g6, g7, g8, g9⟩ => ?_
  unfold cameBackBy
  refine wpAny_bind (wpAny_field g1 g2 g3 ?_)
  rw [if_neg (show ¬ ((Value.ref T3 == Value.none) = true) by simp)]
  unfold setFlight
  refine wpAny_bind (wpAny_field g1 g2 g3 ?_)
  rw [if_pos (show (Value.ref T3 != Value.none) = true by simp)]
  refine wpAny_setField g5 g6 (Array.getElem?_eq_some_iff.mp g7).1 ?_
  exact W.go pins σ H _ _ cls a H' _ I (x3.flight (fl := X.env.frame) g1 g2 g3 g4 g5 g6 g7 g8 g9) q⟩
theorem ps_forX {iter : Expr} {body : List Stmt} {wi : TI} {g : TG} {tb : TS} {pos : Pos} (W : Wish X E) (hc : X.calm = true) (hi : PI X tg iter wi) (hg : ∀ xe, PG (X.exC xe) tg g) (hb : ∀ xe, Wish (X.exC xe) E → PSs (X.exC xe) body tb)
    (hs : ∀ x, foldedSetIterable iter X.env x = pure x := by intro _; rfl) (hst : X.stack = X.env :: X.outer := by rfl) (hf : X.env.frame = some X.env.locals := by rfl) : PS X (.For tg iter body [] pos) (tFor wi g tb) := by
  refine ⟨?_⟩
  intro pins s σ H D I h
  refine wpAny_For (thn (hi pins s σ H _ I h) fun v s1 h1 => thn h1 fun itv s2 h2 => ?_) hs
  obtain ⟨it, fp, tn, J, H2, e, I2, T, st2, f2, Wv, ⟨m0, w0⟩, turn⟩ := h2
  subst e
  have W' := wish_own W hst hf
  have stat : ∀ {H' : Hp}, (∀ b ∈ fp, H' b = none) → ∀ b ∈ fp, FpOk X pins H' b := fun hn b hb => ⟨hn b hb, (f2 b hb).2⟩
  refine codeAny_forLoop_any (fun n s' => ∃ i σ' H', Inv X pins σ' H' s' ∧ tn i s'.heap ∧ (∀ b ∈ fp, H' b = none) ∧ Wv i n σ' H') ?_ m0 ⟨0, σ, H2, I2, st2, fun b hb => (f2 b hb).1, w0⟩
  rintro n s3 ⟨i, σ3, H3, I3, st3, fr3, w3⟩
  rcases turn i n σ3 H3 w3 with ⟨stop, qn⟩ | ⟨go, N, hN, step⟩
  · refine thn (T.done X rfl rfl rfl hc i pins s3 σ3 H3 _ I3 (stat fr3) st3 stop) fun r s4 ⟨hr, I4⟩ => ?_
    subst hr
    exact wpAny_execs_nil ⟨σ3, H3, I4, qn⟩
  · refine thn (T.item X rfl rfl rfl hc i pins s3 σ3 H3 _ I3 (stat fr3) st3 go) fun r s4 ⟨u, hr, h4⟩ => ?_
    subst hr
    refine thn h4 fun _ s5 ⟨x, H5, I5, r5, y5, st5, fr5⟩ => ?_
    have I5' := I5.pinned (stat fr5) (T.obj _ _ st5)
    refine thn (hg (xeOwn X) _ s5 σ3 H5 x u _ (I5'.exC _) r5 (step x H5 y5)) fun _ s6 ⟨σ6, H6, I6, q6⟩ => ?_
    refine thn (hb (xeOwn X) W' _ s6 σ6 H6 _ I6 q6) fun f s7 q7 => ?_
    have again : ∀ {σ7 : St} {H7 : Hp}, Inv X (pins ++ pinsAt fp s5.heap) σ7 H7 s7 → N σ7 H7 → ∃ m, m < n ∧ ∃ i σ' H', Inv X pins σ' H' s7 ∧ tn i s7.heap ∧ (∀ b ∈ fp, H' b = none) ∧ Wv i m σ' H' := fun {σ7 H7} I7 n7 => by
      obtain ⟨m', hm, w7⟩ := hN σ7 H7 n7
      refine ⟨m', hm, i + 1, σ7, H7, I7.unpinned, T.keep _ _ _ st5 fun b hb o e => (I7.pin (b, o) (List.mem_append_right _ (List.mem_append_right _ (mem_pinsAt hb e)))).1, fun b hb => ?_, w7⟩
      obtain ⟨o, e, d⟩ := T.obj _ _ st5 b hb
      exact (I7.pin (b, o) (List.mem_append_right _ (List.mem_append_right _ (mem_pinsAt hb e)))).2.1
    cases f with
    | next => obtain ⟨σ7, H7, I7, n7⟩ := q7; exact again I7.unexC n7
    | cont => obtain ⟨σ7, H7, I7, n7⟩ := q7; exact again I7.unexC n7
    | brk => obtain ⟨σ7, H7, I7, q7⟩ := q7; exact ⟨σ7, H7, I7.unexC.unpinned, q7⟩
    | ret v => obtain ⟨x7, σ7, H7, I7, r7, q7⟩ := q7; exact ⟨x7, σ7, H7, I7.unexC.unpinned, r7, q7⟩
end
section
variable {X : Cx} {E : XK} {x1 x2 x3 y : Str} {C1 C2 C3 Dd : Addr} {e₀ : Expr} {rest : List Expr} {t : TA} {np1 np2 np3 tp np' cpos rpos pos cp : Pos} {kc kt : Nat} {hs : List ExceptHandler} {th : Value → TS}
/-- except (A, B, C): raise D(..) from None -/
inductive tH3 (K : PySem.W.Frag) (C1 C2 C3 : Addr) (t : TA) (Dd : Addr) (E : XK) (th : Value → TS) (cls : Value) (D : Ends) (σ : St) (H : Hp) : Prop
  | mk (b : Bool) (e : PySem.W.exmAny K cls [.ref C1, .ref C2, .ref C3] = some b) (q : if b = true then ∀ a oe, H a = none → t σ (upd H a (XO a oe)) (fun vs H1 => vs.length ≤ sizeLine ∧ (∃ oe, H1 a = some (XO a oe)) ∧ E (.ref Dd) (some 0) H1) else th cls D σ H) : tH3 K C1 C2 C3 t Dd E th cls D σ H
theorem ph3R (W : Wish X E) (m1 : X.mg x1 = some (.ref C1)) (m2 : X.mg x2 = some (.ref C2)) (m3 : X.mg x3 = some (.ref C3)) (hD : XCls X.K X.mg y Dd) (ha : ∀ a, PA (X.mark a) (e₀ :: rest) t) (hr : PHs X hs th) (g1 : Gl X x1 := by rfl) (g2 : Gl X x2 := by rfl) (g3 : Gl X x3 := by rfl) (hgy : Gl X y := by rfl)
    (he : starEach (e₀ :: rest) X.env = (false, eval e₀ X.env) :: starEach rest X.env := by rfl) (hpl : (backTo cpos (starEach rest X.env)).any (·.1) = false := by rfl) (d1 : (x1 == ("__debug__" : Str)) = false := by decide) (d2 : (x2 == ("__debug__" : Str)) = false := by decide) (d3 : (x3 == ("__debug__" : Str)) = false := by decide) (hdy : (y == ("__debug__" : Str)) = false := by decide)
    (hst : X.stack = X.env :: X.outer := by rfl) (hf : X.env.frame = some X.env.locals := by rfl) :
    PHs X (.ExceptHandler (some (.Tuple [.Name x1 np1, .Name x2 np2, .Name x3 np3] kt tp)) none [.Raise (some (.Call (.Name y np') (e₀ :: rest) [] cpos)) (some (.Constant .none kc cp)) rpos] pos :: hs) (tH3 X.K C1 C2 C3 t Dd E th) := by
  intro pins s σ H D a cls g I xr x0 xp h
  obtain ⟨b, e, q⟩ := h
  refine wpAny_handleBy_cons (codeAny_handlers_test ?_) (by intro z; cases z)
  refine wpAny_Tuple ?_
  refine wpAny_items_cons (ld_glob (X := X.mark a) (I.mark a) g1 m1 ?_ d1)
  refine wpAny_items_cons (ld_glob (X := X.mark a) (I.mark a) g2 m2 ?_ d2)
  refine wpAny_items_cons (ld_glob (X := X.mark a) (I.mark a) g3 m3 ?_ d3)
  refine wpAny_items_nil ⟨by size_fits, ?_⟩
  have LT : PySem.W.Looks (model X.prog X.w) s.heap (typeOf (.ref a)) cls := by
    cases xr with
    | old oe vs he hc =>
      have hc' : oe.cls = cls := hc
      rw [← hc']; exact (PySem.W.Looks.ld he).andThen .now
  have kp : ∀ q o, s.heap.get? q = some o → (s.heap.push { cls := .type "tuple", data := .seq [Value.ref C1, .ref C2, .ref C3].toArray }).get? q = some o := fun _ _ z => Heap.get?_push_of_some _ z
  refine (PySem.W.exm_tup3 (M := model X.prog X.w) (I.kIn.keeps kp) (LT.keeps kp) (Heap.get?_push_size s.heap rfl) e).here ?_
  have I' : Inv X pins σ H { s with heap := s.heap.push { cls := .type "tuple", data := .seq [Value.ref C1, .ref C2, .ref C3].toArray } } := I.kept (t' := s.toks) kp
  have xr' := xr.kept kp
  generalize hs' : (s.heap.push { cls := .type "tuple", data := .seq [Value.ref C1, .ref C2, .ref C3].toArray }) = h' at I' xr'
  cases b with
  | false => exact hr pins _ σ H D a cls g I' xr' x0 xp q
  | true =>
    show codeAny _ _ _ _ _
    refine codeAny_handlers_suite ?_
    cases xr' with
    | old oe vs ho hc hd hdi hn hgg T oT ts' h1 ht hT hdT h3 hnT hgT =>
      refine wpAny_setFlight_none ho hd h1 hT hdT (Array.getElem?_eq_some_iff.mp h3).1 ?_
      have kp2 := keep3 hT hdT h3
      have I2 := I'.kept (t' := s.toks) kp2
      have IT := (I2.trackX (kp2 _ _ ho) hd (hdi.2 rfl) hn x0 xp)
      exact suite_raise W hD (IT.mark a) I.ok (ha a) (q a oe hn) hst hf hgy he hpl hdy
end
end L2
set_option Elab.async false
set_option linter.all false
set_option maxRecDepth 100000
/-! isinstance of an error with two classes; any; a def that may raise, where it doesn't -/
namespace L2
open PySem PySem.Spec PyProof.Rows
section
variable {X : Cx}
end
end L2
set_option Elab.async false
set_option linter.all false
set_option maxRecDepth 100000
/-! slices of texts -/
namespace L2
open PySem PySem.Spec PyProof.Rows
theorem str_len (z : Str) : z.length = z.cps.toList.length := by simp [Str.length]
theorem slice_pre (z : Str) (n : Nat) : StrLaws.sliceText z none (some (n : Int)) = ⟨(z.cps.toList.take n).toArray⟩ := by
  by_cases h : n ≤ z.length
  · exact slice_to (by omega) (by omega)
  · have e : StrLaws.sliceText z none (some (n : Int)) = StrLaws.sliceText z none (some (z.length : Int)) := by
      unfold StrLaws.sliceText Builtin.Str.strSliceIndices
      have h1 : min (n : Int) (z.length : Int) = (z.length : Int) := by omega
      have h2 : ¬ (n : Int) < 0 := by omega
      have h3 : ¬ (z.length : Int) < 0 := by omega
      have h4 : min (z.length : Int) (z.length : Int) = (z.length : Int) := by omega
      have h5 : (1 : Int) > 0 := by decide
      simp only [h1, h2, h3, h4, h5, if_false, if_true]
    rw [e, slice_to (by omega) (by omega), Int.toNat_natCast]
    rw [List.take_of_length_le (by rw [str_len]; exact Nat.le_refl _), List.take_of_length_le (by rw [← str_len]; omega)]
theorem slice_suf (z : Str) (n : Nat) : StrLaws.sliceText z (some (n : Int)) none = ⟨(z.cps.toList.drop n).toArray⟩ := by
  by_cases h : n ≤ z.length
  · have := slice_from (z := z) (j := (n : Int)) (by omega) (by omega)
    rw [this, Int.toNat_natCast]
  · have e : StrLaws.sliceText z (some (n : Int)) none = StrLaws.sliceText z (some (z.length : Int)) none := by
      unfold StrLaws.sliceText Builtin.Str.strSliceIndices
      have h1 : min (n : Int) (z.length : Int) = (z.length : Int) := by omega
      have h2 : ¬ (n : Int) < 0 := by omega
      have h3 : ¬ (z.length : Int) < 0 := by omega
      have h4 : min (z.length : Int) (z.length : Int) = (z.length : Int) := by omega
      have h5 : (1 : Int) > 0 := by decide
      simp only [h1, h2, h3, h4, h5, if_false, if_true]
    rw [e, slice_from (by omega) (by omega), Int.toNat_natCast]
    rw [List.drop_of_length_le (by rw [str_len]; exact Nat.le_refl _), List.drop_of_length_le (by rw [← str_len]; omega)]
theorem sl_take (z : Str) (n : Nat) : (StrLaws.sliceText z none (some (n : Int))).cps.toList = z.cps.toList.take n := by rw [slice_pre]
theorem sl_drop (z : Str) (n : Nat) : (StrLaws.sliceText z (some (n : Int)) none).cps.toList = z.cps.toList.drop n := by rw [slice_suf]
theorem slt_len (z : Str) (n : Nat) : (StrLaws.sliceText z none (some (n : Int))).length ≤ z.length := by
  rw [str_len, sl_take, List.length_take, str_len]
  omega
theorem sld_len (z : Str) (n : Nat) : (StrLaws.sliceText z (some (n : Int)) none).length ≤ z.length := by
  rw [str_len, sl_drop, List.length_drop, str_len]
  omega
end L2
set_option Elab.async false
set_option linter.all false
set_option maxRecDepth 100000
/-! a word of locks read -/
namespace Ent
open PySem Builtin Builtin.Str StrLaws PyProof.Rows
theorem part_glue2 (z : Str) (c : Nat) : ((Txt.partition z ⟨#[c]⟩).2.1 = (("" : String) : Str) ∧ (Txt.partition z ⟨#[c]⟩).2.2 = (("" : String) : Str)) ∨ ((Txt.partition z ⟨#[c]⟩).2.1 = ⟨#[c]⟩ ∧ z = (Txt.partition z ⟨#[c]⟩).1 ++ ⟨#[c]⟩ ++ (Txt.partition z ⟨#[c]⟩).2.2) := by
  rcases part_glue z c with h | h
  · refine .inl ⟨h, ?_⟩
    unfold Txt.partition at h ⊢
    rcases occ_head z ⟨#[c]⟩ 1 (Nat.le_refl _) with ⟨e, _⟩ | ⟨i, r, e, h1, h2⟩
    · rw [e]; rfl
    · rw [e] at h
      have : (⟨#[c]⟩ : Str) = (("" : String) : Str) := h
      exact absurd (congrArg Str.length this) (by show ¬ (1 = _); decide)
  · exact .inr h
theorem part_first {x y : Str} {c : Nat} (hc : c ∉ x.cps.toList) : Txt.partition (x ++ ⟨#[c]⟩ ++ y) ⟨#[c]⟩ = (x, (⟨#[c]⟩ : Str), y) := by
  rcases part_glue2 (x ++ ⟨#[c]⟩ ++ y) c with ⟨h, _⟩ | ⟨h, e⟩
  · exfalso
    have hm : c ∈ (x ++ ⟨#[c]⟩ ++ y).cps.toList := by
      rw [Str.cps_append, Str.cps_append, Array.toList_append, Array.toList_append]
      simp
    unfold Txt.partition at h
    rcases occ_head (x ++ ⟨#[c]⟩ ++ y) ⟨#[c]⟩ 1 (Nat.le_refl _) with ⟨_, h0⟩ | ⟨i, r, e, h1, h2⟩
    · obtain ⟨i, hi⟩ := List.getElem?_of_mem hm
      exact h0 i ((subAt_one _ c i).mpr hi)
    · rw [e] at h
      have : (⟨#[c]⟩ : Str) = (("" : String) : Str) := h
      exact absurd (congrArg Str.length this) (by show ¬ (1 = _); decide)
  · have hfst : c ∉ (Txt.partition (x ++ ⟨#[c]⟩ ++ y) ⟨#[c]⟩).1.cps.toList := by
      intro hin
      unfold Txt.partition at hin h
      rcases occ_head (x ++ ⟨#[c]⟩ ++ y) ⟨#[c]⟩ 1 (Nat.le_refl _) with ⟨e0, h0⟩ | ⟨i, r, e0, h1, h2⟩
      · rw [e0] at h
        have : (("" : String) : Str) = (⟨#[c]⟩ : Str) := h
        exact absurd (congrArg Str.length this) (by show ¬ (_ = 1); decide)
      · rw [e0] at hin
        have hin' : c ∈ (strSub (x ++ ⟨#[c]⟩ ++ y) 0 i).cps.toList := hin
        rw [strSub_toList, List.drop_zero, Nat.sub_zero] at hin'
        obtain ⟨j, hj⟩ := List.getElem?_of_mem hin'
        rw [List.getElem?_take] at hj
        split at hj
        · next hji => exact h2 j hji ((subAt_one _ c j).mpr hj)
        · cases hj
    have e' := congrArg (fun s : Str => s.cps.toList) e
    simp only [Str.cps_append, Array.toList_append] at e'
    have e2 : x.cps.toList ++ c :: y.cps.toList = (Txt.partition (x ++ ⟨#[c]⟩ ++ y) ⟨#[c]⟩).1.cps.toList ++ c :: (Txt.partition (x ++ ⟨#[c]⟩ ++ y) ⟨#[c]⟩).2.2.cps.toList := by
      simpa using e'
    obtain ⟨g1, g2⟩ := cut_one hc hfst e2
    refine Prod.ext (str_ext g1.symm) (Prod.ext h (str_ext g2.symm))
theorem part_len (z : Str) (c : Nat) : (Txt.partition z ⟨#[c]⟩).1.length ≤ z.length ∧ (Txt.partition z ⟨#[c]⟩).2.2.length ≤ z.length := by
  have hl : ∀ a b, (strSub z a b).length ≤ z.length := fun a b => by
    have e : (strSub z a b).length = (strSub z a b).cps.toList.length := by simp [Str.length]
    have e2 : z.length = z.cps.toList.length := by simp [Str.length]
    rw [e, strSub_toList, e2, List.length_take, List.length_drop]
    omega
  unfold Txt.partition
  rcases occ_head z ⟨#[c]⟩ 1 (Nat.le_refl _) with ⟨e, _⟩ | ⟨i, r, e, h1, h2⟩
  · rw [e]
    exact ⟨Nat.le_refl _, Nat.zero_le _⟩
  · rw [e]
    exact ⟨hl _ _, hl _ _⟩
end Ent
set_option Elab.async false
set_option linter.all false
set_option maxRecDepth 100000
/-! a lock read -/
namespace Pr
open PySem L2 PyProof.Rows Ent Any
/-- a word that writes a bar -/
structure IsW (n : Nat) (z : Str) (p : BP) : Prop where
  e : z = wdP p
  r0 : 0 ≤ p.1
  r1 : p.1 ≤ (n : Int)
  m : p.2.natAbs < 10 ^ 40
theorem lt40r {n : Nat} {r : Int} (h0 : 0 ≤ r) (h1 : r ≤ (n : Int)) (hn : n ≤ 4) : r.natAbs < 10 ^ 40 := Nat.lt_of_lt_of_le (m := 10) (by omega) (by decide +kernel)
theorem exm3 {K : PySem.W.Frag} {c a b d : Value} {x y z : Bool} (h1 : PySem.W.exmOne K c a = some x) (h2 : PySem.W.exmOne K c b = some y) (h3 : PySem.W.exmOne K c d = some z) : PySem.W.exmAny K c [a, b, d] = some (x || (y || (z || false))) := by
  simp [PySem.W.exmAny, h1, h2, h3]
theorem no47 (i : Int) : 47 ∉ (ts i).cps.toList := fun h => by
  have := ts_signs i _ h
  omega
theorem wd_part (p : BP) : Txt.partition (wdP p) "/" = (ts p.1, (("/" : String) : Str), ts p.2) := by
  unfold wdP
  rw [slash_is]
  exact part_first (no47 _)
theorem kd_nV {H : Hp} (o : Option Int) : Kd H (nV o) := by
  cases o with
  | none => exact ⟨_, .non⟩
  | some i => exact ⟨_, .s (.int i)⟩
theorem w40 {i : Int} : (i.natAbs < 10 ^ 40) ↔ (-W40 < i ∧ i < W40) := by
  have e : (10 : Nat) ^ 40 = 10000000000000000000000000000000000000000 := by decide +kernel
  have hW : W40 = 10000000000000000000000000000000000000000 := rfl
  rw [e]
  omega
section
variable {P : Program} {w : World} {K : PySem.W.Frag} {mg : Str → Option Value} {base : Heap} {C : Addr}
inductive sp_shutD (mg : Str → Option Value) (C Dc : Addr) (vs : List V) (H : Hp) (Q : VK) (E : XK) : Prop
  | rn (p x d : Addr) (v u : V) (b : Int) (ps : List Int) (rows : List Lad.Step) (prs : List BP) (cls : Value) (e0 : vs = [.ref p, v, u]) (hK : LockAt Dc H p x d prs) (hL : LadAt C H x b ps rows) (bad : BadRN mg H rows.length v u cls) (er : ∀ H', Same H H' → E cls none H') : sp_shutD mg C Dc vs H Q E
  | dup (p x d : Addr) (r n b : Int) (ps : List Int) (rows : List Lad.Step) (prs : List BP) (e0 : vs = [.ref p, .int r, .int n]) (hK : LockAt Dc H p x d prs) (hL : LadAt C H x b ps rows) (r0 : 0 ≤ r) (r1 : r ≤ (rows.length : Int)) (n0 : -W40 < n) (n1 : n < W40) (inn : (r, n) ∈ prs) (er : ∀ H', Same H H' → E (.ref (cOf mg "NoLock")) none H') : sp_shutD mg C Dc vs H Q E
theorem shutD (T : Txt K mg C) : CanMX P w K mg base (cOf mg "Locks") 5 "shut" ["self", "roll", "number"] (sp_shutD mg C (cOf mg "Locks")) := by
  refine fm_canX T.m_Locks_shut sc_shut (fun vs H Q E h => ?_) (fun f cdv A outer s H vs Q E hr W h => ?_)
  · cases h with
    | rn p x d v u b ps rows prs cls e => subst e; rfl
    | dup p x d r n b ps rows prs e => subst e; rfl
  · cases h with
    | rn p x d v u b ps rows prs cls e hK hL bad er =>
      subst e
      obtain ⟨⟨dx, hp⟩, hd⟩ := id hK
      refine ⟨_, (pss_cons (ps_if (pt_val (pe_canMX (pv 0) T.cl_Locks (is_shutX T) W hr (pa2 (pv 1) (pv 2)))) pss_never pss_nil) pss_never), ?_⟩
      exact ⟨_, rfl, p, dx, _, rfl, hp, rfl, _, rfl, _, rfl, p, x, d, v, u, b, ps, rows, prs, cls, rfl, hK, hL, bad, er⟩
    | dup p x d r n b ps rows prs e hK hL r0 r1 n0 n1 inn er =>
      subst e
      obtain ⟨⟨dx, hp⟩, hd⟩ := id hK
      refine ⟨_, (pss_cons (ps_if (pt_val (pe_canM (pv 0) T.cl_Locks (is_shut T) hr (pa2 (pv 1) (pv 2)))) (pss_one (ps_raise W rfl T.x_NoLock.cls (pa1 pe_str))) pss_nil) pss_never), ?_⟩
      exact ⟨_, rfl, p, dx, _, rfl, hp, rfl, _, rfl, _, rfl, p, x, d, r, n, b, ps, rows, prs, rfl, hK, hL, r0, r1, n0, n1, fun H1 s1 => ⟨_, rfl, iteC (decide_eq_true inn) ⟨⟨one_line, er _ s1⟩⟩⟩⟩
/-- how a word is refused -/
inductive BadL (n : Nat) (z : Str) (prs : List BP) : Prop
  | no (h : ∀ p, ¬ IsW n z p) : BadL n z prs
  | dup (p : BP) (h : IsW n z p) (i : p ∈ prs) : BadL n z prs
inductive sp_shut_read (mg : Str → Option Value) (C Dc : Addr) (vs : List V) (H : Hp) (Q : VK) (E : XK) : Prop
  | good (p x d : Addr) (b : Int) (ps : List Int) (rows : List Lad.Step) (prs : List BP) (z : Str) (bp : BP) (e0 : vs = [.ref p, .str z]) (hz : z.length ≤ 50000) (hK : LockAt Dc H p x d prs) (hL : LadAt C H x b ps rows) (rl : rows.length ≤ 4) (hl : prs.length < 60) (h : IsW rows.length z bp) (no : bp ∉ prs) (q : ∀ H', But d H H' → LockAt Dc H' p x d (prs ++ [bp]) → Q .non H') : sp_shut_read mg C Dc vs H Q E
  | bad (p x d : Addr) (b : Int) (ps : List Int) (rows : List Lad.Step) (prs : List BP) (z : Str) (e0 : vs = [.ref p, .str z]) (hz : z.length ≤ 50000) (hK : LockAt Dc H p x d prs) (hL : LadAt C H x b ps rows) (rl : rows.length ≤ 4) (h : BadL rows.length z prs) (er : ∀ k H', Same H H' → E (.ref (cOf mg "NoText")) k H') : sp_shut_read mg C Dc vs H Q E
theorem sc_shut_read : FnScope ["locks", "word", "roll", "stroke", "number"] ["locks", "word"] (defScope s_shut_read) := ⟨rfl, rfl, rfl, by decide +kernel, rfl, by decide +kernel, by decide +kernel⟩
set_option maxHeartbeats 4000000 in
theorem shut_read (T : Txt K mg C) : CanX P w K mg base 7 "shut_read" ["locks", "word"] (sp_shut_read mg C (cOf mg "Locks")) := by
  refine fn_canX T.f_shut_read sc_shut_read (fun vs H Q E h => ?_) (fun f cdv A outer s H vs Q E hr W h => ?_)
  · cases h with
    | good p x d b ps rows prs z bp e => subst e; rfl
    | bad p x d b ps rows prs z e => subst e; rfl
  · cases h with
    | good p x d b ps rows prs z bp e0 hzl hK hL rl hl hw no q =>
      subst e0
      refine ⟨_, (pss_cons (ps_asg (pe_bmK K PySem.F.plainAttrs_str PySem.F.slot_str_partition PySem.F.type_str_partition mt_partition (pv 1) (pa1 pe_str)) (pg_tupK K rfl (pgs_cons (pg_name (i := 2) sc_shut_read.nd rfl (Or.inl rfl)) (pgs_cons (pg_name (i := 3) sc_shut_read.nd rfl (Or.inl rfl)) (pgs_cons (pg_name (i := 4) sc_shut_read.nd rfl (Or.inl rfl)) pgs_nil)))))
        (pss_one (ps_try (n := 5) (fun pn xe E W' => pss_one (ps_expr (pe_canM (pv 0) T.cl_Locks (shut T) hr (pa2 (pe_can (whole_of T) hr (pa2 (pv 2) (pe_gi T.c_NUMBER_FIGURES))) (pe_can (whole_of T) hr (pa2 (pv 4) (pe_gi T.c_NUMBER_FIGURES))))))) (ph3R W T.x_NoRoll.m T.x_NoNumber.m T.x_NoLock.m T.x_NoText.cls (fun a => pa1 pe_str) ph_nil)))), ?_⟩
      obtain ⟨pl1, pl2⟩ := part_len z 47
      rw [← slash_is] at pl1 pl2
      have hpp := wd_part bp
      rw [← hw.e] at hpp
      refine ⟨_, rfl, rfl, _, _, rfl, rfl, by decide, line6 (by omega), fun t1 ht1 => ?_⟩
      rw [hpp] at pl1 pl2 ⊢
      dsimp only at pl1 pl2 ⊢
      have s1 := Same.upd (H := H) (o := .tup [.str (ts bp.1), .str "/", .str (ts bp.2)]) ht1
      have k1 : (upd H t1 (.tup [.str (ts bp.1), .str "/", .str (ts bp.2)])) t1 = some (.tup [.str (ts bp.1), .str "/", .str (ts bp.2)]) := upd_same
      generalize (upd H t1 (.tup [.str (ts bp.1), .str "/", .str (ts bp.2)])) = H1 at s1 k1
      refine ⟨t1, _, rfl, .of k1, rfl, _, _, rfl, _, _, rfl, _, _, rfl, rfl, ?_⟩
      have hK1 := hK.same s1
      obtain ⟨dx, hp1⟩ := hK1.i
      refine ⟨_, rfl, p, dx, _, rfl, hp1, rfl, _, rfl, .mk _ 40 rfl (by decide) (by decide) (by omega) ?_⟩
      rw [numM_ts (by decide) (lt40r hw.r0 hw.r1 rl)]
      refine ⟨_, rfl, .mk _ 40 rfl (by decide) (by decide) (by omega) ?_⟩
      rw [numM_ts (by decide) hw.m]
      obtain ⟨m0, m1⟩ := w40.mp hw.m
      refine ⟨p, x, d, bp.1, bp.2, b, ps, rows, prs, rfl, hK1, hL.same s1, hw.r0, hw.r1, m0, m1, by omega, no, fun H2 c2 hK2 => ?_⟩
      exact q H2 (fun a o e n => c2 _ _ (s1 _ _ e) n) hK2
    | bad p x d b ps rows prs z e0 hzl hK hL rl hb er =>
      subst e0
      refine ⟨_, (pss_cons (ps_asg (pe_bmK K PySem.F.plainAttrs_str PySem.F.slot_str_partition PySem.F.type_str_partition mt_partition (pv 1) (pa1 pe_str)) (pg_tupK K rfl (pgs_cons (pg_name (i := 2) sc_shut_read.nd rfl (Or.inl rfl)) (pgs_cons (pg_name (i := 3) sc_shut_read.nd rfl (Or.inl rfl)) (pgs_cons (pg_name (i := 4) sc_shut_read.nd rfl (Or.inl rfl)) pgs_nil)))))
        (pss_one (ps_try (n := 5) (fun pn xe E W' => pss_one (ps_expr (pe_canMX (pv 0) T.cl_Locks (shutD T) W' hr (pa2 (pe_can (whole_of T) hr (pa2 (pv 2) (pe_gi T.c_NUMBER_FIGURES))) (pe_can (whole_of T) hr (pa2 (pv 4) (pe_gi T.c_NUMBER_FIGURES))))))) (ph3R W T.x_NoRoll.m T.x_NoNumber.m T.x_NoLock.m T.x_NoText.cls (fun a => pa1 pe_str) ph_nil)))), ?_⟩
      obtain ⟨pl1, pl2⟩ := part_len z 47
      have pg := part_glue2 z 47
      rw [← slash_is] at pl1 pl2 pg
      have hc47 := slash_is
      refine ⟨_, rfl, rfl, _, _, rfl, rfl, by decide, line6 (by omega), fun t1 ht1 => ?_⟩
      have wdp : ∀ bp, IsW rows.length z bp → (Txt.partition z (("/" : String) : Str)).1 = ts bp.1 ∧ (Txt.partition z (("/" : String) : Str)).2.2 = ts bp.2 := fun bp h => by
        rw [h.e, wd_part]
        exact ⟨rfl, rfl⟩
      generalize (Txt.partition z (("/" : String) : Str)).1 = pa at pl1 pg wdp ⊢
      generalize (Txt.partition z (("/" : String) : Str)).2.1 = pm at pg ⊢
      generalize (Txt.partition z (("/" : String) : Str)).2.2 = pr at pl2 pg wdp ⊢
      have s1 := Same.upd (H := H) (o := .tup [.str pa, .str pm, .str pr]) ht1
      have k1 : (upd H t1 (.tup [.str pa, .str pm, .str pr])) t1 = some (.tup [.str pa, .str pm, .str pr]) := upd_same
      generalize (upd H t1 (.tup [.str pa, .str pm, .str pr])) = H1 at s1 k1
      refine ⟨t1, _, rfl, .of k1, rfl, _, _, rfl, _, _, rfl, _, _, rfl, rfl, ?_⟩
      have hK1 := hK.same s1
      have hL1 := hL.same s1
      obtain ⟨dx, hp1⟩ := hK1.i
      refine ⟨_, rfl, p, dx, _, rfl, hp1, rfl, _, rfl, .mk pa 40 rfl (by decide) (by decide) (by omega) ?_⟩
      refine ⟨_, rfl, .mk pr 40 rfl (by decide) (by decide) (by omega) ?_⟩
      cases hrv : whF 0 (rows.length : Int) (nV (numM 40 pa)) with
      | false =>
        exact .rn p x d _ _ b ps rows prs _ rfl hK1 hL1 (.roll (kd_nV _) hrv rfl) fun H2 s2 σ' _ => .mk true (exm3 T.e_NoRoll_NoRoll T.e_NoRoll_NoNumber T.e_NoRoll_NoLock) (iteT fun a oe ha => ⟨one_line, ⟨oe, upd_same⟩, er _ _ ((s1.trans s2).trans (Same.upd ha))⟩)
      | true =>
        obtain ⟨r, hr1⟩ : ∃ r, numM 40 pa = some r := by
          cases e : numM 40 pa with
          | none => rw [e] at hrv; cases hrv
          | some r => exact ⟨r, rfl⟩
        rw [hr1] at hrv ⊢
        have hrv' : (decide (0 ≤ r) && decide (r ≤ (rows.length : Int))) = true := hrv
        rw [Bool.and_eq_true, decide_eq_true_eq, decide_eq_true_eq] at hrv'
        obtain ⟨r0, r1⟩ := hrv'
        cases hn1 : numM 40 pr with
        | none =>
          exact .rn p x d _ _ b ps rows prs _ rfl hK1 hL1 (.num r rfl r0 r1 ⟨_, .non⟩ rfl rfl) fun H2 s2 σ' _ => .mk true (exm3 T.e_NoNumber_NoRoll T.e_NoNumber_NoNumber T.e_NoNumber_NoLock) (iteT fun a oe ha => ⟨one_line, ⟨oe, upd_same⟩, er _ _ ((s1.trans s2).trans (Same.upd ha))⟩)
        | some n =>
          obtain ⟨ea, _⟩ := numM_some hr1
          obtain ⟨eb, hn40⟩ := numM_some hn1
          have hw : IsW rows.length z (r, n) := by
            rcases pg with ⟨_, pg⟩ | ⟨_, hz⟩
            · exfalso
              rw [pg] at eb
              have : (ts n).cps.toList = [] := by rw [← eb]; decide
              have h2 := (dg_digits n.natAbs).2.1
              rw [← fgs_ts, this] at h2
              exact h2 rfl
            · refine ⟨?_, r0, r1, hn40⟩
              rw [hz, ea, eb]
              rfl
          have inn : (r, n) ∈ prs := by
            cases hb with
            | no h => exact absurd hw (h _)
            | dup p' h i =>
              obtain ⟨w1, w2⟩ := wdp p' h
              have e1 : p'.1 = r := ts_inj (lt40r h.r0 h.r1 rl) (lt40r r0 r1 rl) (w1.symm.trans ea)
              have e2 : p'.2 = n := ts_inj h.m hn40 (w2.symm.trans eb)
              have : p' = (r, n) := Prod.ext e1 e2
              rw [← this]; exact i
          obtain ⟨m0, m1⟩ := w40.mp hn40
          exact .dup p x d r n b ps rows prs rfl hK1 hL1 r0 r1 m0 m1 inn fun H2 s2 σ' _ => .mk true (exm3 T.e_NoLock_NoRoll T.e_NoLock_NoNumber T.e_NoLock_NoLock) (iteT fun a oe ha => ⟨one_line, ⟨oe, upd_same⟩, er _ _ ((s1.trans s2).trans (Same.upd ha))⟩)
end
end Pr
set_option Elab.async false
set_option linter.all false
set_option maxRecDepth 100000
/-! words -/
namespace Ent
open PySem Builtin Builtin.Str StrLaws PyProof.Rows
theorem tj (c : Str) (ps : List Str) : Txt.join c ps = Str.join c ps := StrLaws.glued_eq_join _ _
theorem join_cnt (c : Str) (hc : 1 ≤ c.length) : ∀ (ps : List Str), ps.length ≤ (Str.join c ps).length + 1
  | [] => by simp
  | [p] => by simp
  | p :: q :: r => by
    have ih := join_cnt c hc (q :: r)
    rw [PyProof.Rows.join_cons_cons]
    simp only [Str.length_append, List.length_cons] at ih ⊢
    omega
theorem split_cnt (z c : Str) (hc : 1 ≤ c.length) : (Txt.split z c).length ≤ z.length + 1 := by
  have h := join_cnt c hc (Txt.split z c)
  rw [join_split] at h
  exact h
theorem split_ne {c : Str} (z : Str) (h0 : Txt.split "" c ≠ []) : Txt.split z c ≠ [] := fun e => by
  have h := join_split z c
  rw [e] at h
  have h' : z = "" := h.symm
  rw [h'] at e
  exact h0 e
theorem mem_join_len (c : Str) : ∀ {ps : List Str} {p : Str}, p ∈ ps → p.length ≤ (Str.join c ps).length
  | [q], p, h => by rw [List.mem_singleton.mp h]; exact Nat.le_refl _
  | q :: r :: s, p, h => by
    rw [PyProof.Rows.join_cons_cons]
    simp only [Str.length_append]
    rcases List.mem_cons.mp h with e | e
    · rw [e]; omega
    · have := mem_join_len c e
      omega
theorem split_mem {z c p : Str} (h : p ∈ Txt.split z c) : p.length ≤ z.length := by
  have := mem_join_len c h
  rw [join_split] at this
  exact this
theorem join_mem_cps {c : Str} : ∀ {ps : List Str} {p : Str} {x : Nat}, p ∈ ps → x ∈ p.cps.toList → x ∈ (Str.join c ps).cps.toList
  | [q], p, x, h, hx => by
    rw [List.mem_singleton.mp h] at hx
    exact hx
  | q :: r :: s, p, x, h, hx => by
    rw [PyProof.Rows.join_cons_cons, Str.cps_append, Str.cps_append, Array.toList_append, Array.toList_append]
    rcases List.mem_cons.mp h with e | e
    · rw [e] at hx
      exact List.mem_append_left _ (List.mem_append_left _ hx)
    · exact List.mem_append_right _ (join_mem_cps e hx)
end Ent
namespace Pr
open PySem L2 PyProof.Rows Ent Any
abbrev BpOk (n : Nat) (p : BP) : Prop := 0 ≤ p.1 ∧ p.1 ≤ (n : Int) ∧ p.2.natAbs < 10 ^ 40
/-- a text of locks -/
structure RdT (n : Nat) (z : Str) (prs : List BP) : Prop where
  e : z = Txt.join " " (prs.map wdP)
  b : ∀ p ∈ prs, BpOk n p
  s : prs.Pairwise (fun a b => Srt.tlt2 a b = true)
theorem wd_inj {n : Nat} (hn : n ≤ 4) {p q : BP} (hp : BpOk n p) (hq : BpOk n q) (h : wdP p = wdP q) : p = q := by
  have e := wd_part p
  rw [h, wd_part q] at e
  injection e with e1 e2
  injection e2 with _ e2
  exact Prod.ext (ts_inj (lt40r hp.1 hp.2.1 hn) (lt40r hq.1 hq.2.1 hn) e1.symm) (ts_inj hp.2.2 hq.2.2 e2.symm)
theorem wds_inj {n : Nat} (hn : n ≤ 4) : ∀ {xs ys : List BP}, (∀ p ∈ xs, BpOk n p) → (∀ p ∈ ys, BpOk n p) → xs.map wdP = ys.map wdP → xs = ys
  | [], [], _, _, _ => rfl
  | [], y :: ys, _, _, h => nomatch h
  | x :: xs, [], _, _, h => nomatch h
  | x :: xs, y :: ys, hx, hy, h => by
    rw [List.map_cons, List.map_cons] at h
    obtain ⟨e1, e2⟩ := List.cons.inj h
    rw [wd_inj hn (hx x (by simp)) (hy y (by simp)) e1, wds_inj hn (fun p hp => hx p (List.mem_cons_of_mem _ hp)) (fun p hp => hy p (List.mem_cons_of_mem _ hp)) e2]
theorem wd_no32 (p : BP) : 32 ∉ (wdP p).cps.toList := fun h => by
  unfold wdP at h
  rw [Str.cps_append, Str.cps_append, Array.toList_append, Array.toList_append] at h
  rcases List.mem_append.mp h with h | h
  · rcases List.mem_append.mp h with h | h
    · have := ts_signs _ _ h
      omega
    · exact absurd h (by decide)
  · have := ts_signs _ _ h
    omega
theorem wds_split {prs : List BP} (h : prs ≠ []) : Txt.split (Txt.join " " (prs.map wdP)) " " = prs.map wdP := by
  rw [blank_is]
  refine split_join (by simpa using h) fun p hp => ?_
  obtain ⟨q, _, rfl⟩ := List.mem_map.mp hp
  exact wd_no32 q
theorem wd_pos (p : BP) : 1 ≤ (wdP p).length := by
  unfold wdP
  have : (("/" : String) : Str).length = 1 := by decide
  simp only [Str.length_append]
  omega
theorem RdT.nil {n : Nat} {prs : List BP} (h : RdT n "" prs) : prs = [] := by
  cases prs with
  | nil => rfl
  | cons p r =>
    have h1 := mem_join_len " " (ps := (p :: r).map wdP) (p := wdP p) (by simp)
    have h2 := wd_pos p
    have e := h.e
    have h3 : (Str.join " " ((p :: r).map wdP)).length = 0 := by
      have : Str.join " " ((p :: r).map wdP) = (("" : String) : Str) := by rw [show Str.join " " ((p :: r).map wdP) = Txt.join " " ((p :: r).map wdP) by rw [tj]]; exact e.symm
      rw [this]
      decide
    omega
theorem RdT.split {n : Nat} {z : Str} {prs : List BP} (h : RdT n z prs) (hz : z ≠ "") : Txt.split z " " = prs.map wdP := by
  have := h.e
  rw [this, wds_split]
  rintro rfl
  exact hz this
theorem RdT.one {n : Nat} (hn : n ≤ 4) {z : Str} {prs prs' : List BP} (h : RdT n z prs) (h' : RdT n z prs') : prs = prs' := by
  by_cases hz : z = ""
  · subst hz
    rw [h.nil, h'.nil]
  · exact wds_inj hn h.b h'.b ((h.split hz).symm.trans (h'.split hz))
theorem rd_empty (n : Nat) : RdT n "" [] := ⟨rfl, (fun _ h => nomatch h), List.Pairwise.nil⟩
theorem rise_le {a b : Srt.T2} (h : Srt.tlt2 a b = true) : Srt.tlt2 b a = false := by
  rw [Srt.tlt2_iff] at h
  rw [Srt.tlt2_no]
  omega
theorem le_rise {a b : Srt.T2} (h : Srt.tlt2 b a = false) (ne : a ≠ b) : Srt.tlt2 a b = true := by
  rw [Srt.tlt2_no] at h
  rw [Srt.tlt2_iff]
  obtain ⟨a1, a2⟩ := a
  obtain ⟨b1, b2⟩ := b
  dsimp only at h ⊢
  have : ¬ (a1 = b1 ∧ a2 = b2) := fun z => ne (by rw [z.1, z.2])
  omega
theorem rise_nd {prs : List BP} (h : prs.Pairwise (fun a b => Srt.tlt2 a b = true)) : prs.Nodup := by
  refine h.imp fun {a b} z e => ?_
  subst e
  rw [Srt.tlt2_iff] at z
  omega
theorem RdT.wt {n : Nat} {z : Str} {prs : List BP} (h : RdT n z prs) : WT prs z := ⟨prs, .refl _, h.s.imp rise_le, h.e⟩
theorem RdT.ok {n : Nat} (hn : n ≤ 4) {z : Str} {prs : List BP} (h : RdT n z prs) (l : prs.length ≤ 20) : PrsOk prs := ⟨rise_nd h.s, l, fun p hp => by
  obtain ⟨h1, h2, h3⟩ := h.b p hp
  obtain ⟨m0, m1⟩ := w40.mp h3
  exact ⟨h1, by omega, m0, m1⟩⟩
/-- what is read is what is written -/
theorem wt_rd {n : Nat} (hn : n ≤ 4) {z : Str} {prs : List BP} (hne : z ≠ "") (hz : Txt.split z " " = prs.map wdP) (b : ∀ p ∈ prs, BpOk n p) (nd : prs.Nodup) (h : WT prs z) : RdT n z prs := by
  obtain ⟨fs, pm, srt, e⟩ := h
  have hf : fs ≠ [] := by
    rintro rfl
    exact hne e
  have e2 : fs = prs := by
    refine wds_inj hn (fun p hp => b p (pm.subset hp)) b ?_
    rw [← hz, e, wds_split hf]
  subst e2
  refine ⟨e, b, ?_⟩
  have := srt.and nd
  exact this.imp fun {a b} ⟨h1, h2⟩ => le_rise h1 h2
section
variable {P : Program} {w : World} {K : PySem.W.Frag} {mg : Str → Option Value} {base : Heap} {C : Addr}
inductive sp_rdl (K : PySem.W.Frag) (mg : Str → Option Value) (C Dc : Addr) (vs : List V) (H : Hp) (Q : VK) (E : XK) : Prop
  | mk (x : Addr) (b : Int) (ps : List Int) (rows : List Lad.Step) (z : Str) (e0 : vs = [.ref x, .str z]) (hz : z.length ≤ 50000) (hL : LadAt C H x b ps rows) (rl : rows.length ≤ 4) (sl : (Txt.split z " ").length ≤ 20)
      (q : ∀ prs p d H', RdT rows.length z prs → Same H H' → LockAt Dc H' p x d prs → Q (.ref p) H') (er : (∀ prs, ¬ RdT rows.length z prs) → ∀ k H', Same H H' → E (.ref (cOf mg "NoText")) k H') : sp_rdl K mg C Dc vs H Q E
  | no (x : Addr) (v : V) (t : Value) (e0 : vs = [.ref x, v]) (h : TyW H v t) (k : PySem.W.kitOne K t (.type "str") = some false) (er : E (.ref (cOf mg "NoText")) none H) : sp_rdl K mg C Dc vs H Q E
theorem sc_rdl : FnScope ["ladder", "text", "locks", "word"] ["ladder", "text"] (defScope s_read_locks) := ⟨rfl, rfl, rfl, by decide +kernel, rfl, by decide +kernel, by decide +kernel⟩
set_option maxHeartbeats 4000000 in
theorem rdl (T : Txt K mg C) : CanX P w K mg base 8 "read_locks" ["ladder", "text"] (sp_rdl K mg C (cOf mg "Locks")) := by
  obtain ⟨f1, fd1, F1, M1, bF⟩ := T.m_Locks_init
  refine fn_canX T.f_read_locks sc_rdl (fun vs H Q E h => ?_) (fun f cdv A outer s H vs Q E hr W h => ?_)
  · cases h with
    | mk x b ps rows z e => subst e; rfl
    | no x v t e => subst e; rfl
  · refine ⟨_, (pss_cons (ps_expr (pe_canX (need_text T) W hr (pa1 (pv 1))))
      (pss_cons (ps_set (i := 2) sc_rdl.nd rfl (Or.inl rfl) (pe_make M1 (linit_ok T F1) (hr.mono (by decide)) rfl T.mg_Locks bF .nil pass0 (pa1 (pv 0))))
      (pss_cons (ps_if (pt_cmpR op_eq (pv 1) pe_str (nomark _))
        (pss_one (ps_ret (pv 2)))
        pss_nil)
      (pss_cons (ps_forX W rfl (pi_listK K (pe_bmK K PySem.F.plainAttrs_str PySem.F.slot_str_split PySem.F.type_str_split mt_split (pv 1) (pa1 pe_str))) (fun _ => pg_name (i := 3) sc_rdl.nd rfl (Or.inl rfl))
        (fun _ W' => pss_one (ps_expr (pe_canX (shut_read T) W' hr (pa2 (pv 2) (pv 3))))))
      (pss_cons (ps_if (pt_cmpR op_ne (pe_canM0 (pv 2) T.cl_Locks (written T) hr) (pv 1) (nomark _))
        (pss_one (ps_raise W rfl T.x_NoText.cls (pa1 pe_str)))
        pss_nil)
      (pss_one (ps_ret (pv 2)))))))), ?_⟩
    cases h with
    | no x v t e0 h k er =>
      subst e0
      exact ⟨_, rfl, .no v t rfl h k er⟩
    | mk x b ps rows z e0 hzl hL rl sl q er =>
      subst e0
      refine ⟨_, rfl, .ok z rfl ?_⟩
      refine ⟨_, rfl, fun p dx hp hdx hne => ?_⟩
      have sM : Same H (upd (upd H dx (.own p)) p (.ins (cOf mg "Locks") dx [])) := (Same.upd hdx).trans (Same.upd (by rw [upd_ne (Ne.symm hne)]; exact hp))
      refine ⟨p, dx, x, rfl, upd_same, fun d H1 c1 hd hK1 => ⟨rfl, ?_⟩⟩
      have s1 : Same H H1 := fun a o e => c1 _ _ (sM _ _ e) (ne_of_none e hp)
      have ndH : H d = none := sM.free hd
      refine ⟨_, rfl, rfl, _, rfl, ?_⟩
      by_cases hz : z = ""
      · refine iteC (decide_eq_true (by rw [hz])) ?_
        subst hz
        exact ⟨_, rfl, q [] p d H1 (rd_empty _) s1 hK1⟩
      refine iteD (decide_eq_false fun e => hz (V.str.inj e)) ?_
      have sml : ∀ y ∈ Txt.split z " ", y.length ≤ z.length := fun y hy => split_mem hy
      have hsp : ∀ prs, RdT rows.length z prs → Txt.split z " " = prs.map wdP := fun prs h => h.split hz
      have hback : ∀ prs : List BP, Txt.split z " " = prs.map wdP → (∀ p ∈ prs, BpOk rows.length p) → prs.Nodup → WT prs z → RdT rows.length z prs := fun prs h1 h2 h3 h4 => wt_rd rl hz h1 h2 h3 h4
      refine ⟨_, rfl, rfl, _, _, rfl, rfl, by decide, line6 (by omega), line6 (by omega), fun S hS => ?_⟩
      generalize Txt.split z " " = ws at *
      have sS := Same.upd (H := H1) (o := .lst (ws.map V.str)) hS
      have gS : (upd H1 S (.lst (ws.map V.str))) S = some (.lst (ws.map V.str)) := upd_same
      generalize (upd H1 S (.lst (ws.map V.str))) = H2 at sS gS
      have nS : S ≠ d := fun e => by rw [e, hK1.s] at hS; cases hS
      have nHS : H S = none := s1.free hS
      refine ⟨S, rfl, ⟨_, .of gS⟩, for_list (xs := ws.map V.str) (fun i σ H3 => ∃ v3 prs, σ = [some (.ref x), some (.str z), some (.ref p), v3] ∧ Same H H3 ∧ H3 S = some (.lst (ws.map V.str)) ∧ LockAt (cOf mg "Locks") H3 p x d prs ∧ ws.take i = prs.map wdP ∧ (∀ p ∈ prs, BpOk rows.length p) ∧ prs.Nodup)
        ⟨none, [], rfl, s1.trans sS, gS, hK1.same sS, rfl, (fun _ h => nomatch h), .nil⟩ (fun i σ H3 hi h => ?_) (fun i y σ H3 hy h => ?_) (fun σ H3 h => ?_)⟩
      · obtain ⟨v3, prs, rfl, _, g3, _⟩ := h
        exact .of g3
      · obtain ⟨v3, prs, rfl, s3, g3, hK3, e3, b3, nd3⟩ := h
        rw [List.getElem?_map] at hy
        obtain ⟨wd, hwd, rfl⟩ := Option.map_eq_some_iff.mp hy
        have hm := List.mem_of_getElem? hwd
        have wl := sml wd hm
        have pl : prs.length ≤ 20 := by
          have := congrArg List.length e3
          rw [List.length_take, List.length_map] at this
          omega
        refine ⟨_, rfl, _, rfl, ?_⟩
        by_cases hg : ∃ bp, IsW rows.length wd bp ∧ bp ∉ prs
        · obtain ⟨bp, hw, no⟩ := hg
          refine .good p x d b ps rows prs wd bp rfl (by omega) hK3 (hL.same s3) rl (by omega) hw no fun H4 c4 hK4 => ?_
          refine ⟨_, prs ++ [bp], rfl, fun a o e => c4 _ _ (s3 _ _ e) (ne_of_none e ndH), c4 _ _ g3 nS, hK4, ?_, ?_, ?_⟩
          · rw [List.take_add_one, hwd, e3, List.map_append, hw.e]
            rfl
          · intro q' hq
            rcases List.mem_append.mp hq with h | h
            · exact b3 q' h
            · rw [List.mem_singleton.mp h]; exact ⟨hw.r0, hw.r1, hw.m⟩
          · rw [List.nodup_append]
            exact ⟨nd3, by simp, fun a ha b hb e => no (by rw [List.mem_singleton.mp hb] at e; exact e ▸ ha)⟩
        · refine .bad p x d b ps rows prs wd rfl (by omega) hK3 (hL.same s3) rl ?_ fun k H4 s4 => ?_
          · by_cases hh : ∃ bp, IsW rows.length wd bp
            · obtain ⟨bp, hw⟩ := hh
              refine .dup bp hw ?_
              by_cases hin : bp ∈ prs
              · exact hin
              · exact absurd ⟨bp, hw, hin⟩ hg
            · exact .no fun p' h => hh ⟨p', h⟩
          · refine er (fun prs' h => hg ?_) k H4 (s3.trans s4)
            have e := hsp prs' h
            rw [e, ← List.map_take] at e3
            have e4 : prs'.take i = prs := wds_inj rl (fun p' hp' => h.b p' (List.mem_of_mem_take hp')) b3 e3
            rw [e, List.getElem?_map] at hwd
            obtain ⟨bp, hbp, rfl⟩ := Option.map_eq_some_iff.mp hwd
            have hb := h.b bp (List.mem_of_getElem? hbp)
            refine ⟨bp, ⟨rfl, hb.1, hb.2.1, hb.2.2⟩, fun hin => ?_⟩
            rw [← e4] at hin
            have nd := rise_nd h.s
            obtain ⟨j, hj⟩ := List.getElem?_of_mem hin
            rw [List.getElem?_take] at hj
            split at hj
            · next hji =>
              obtain ⟨l1, e1⟩ := List.getElem?_eq_some_iff.mp hj
              obtain ⟨l2, e2⟩ := List.getElem?_eq_some_iff.mp hbp
              have := (List.nodup_iff_pairwise_ne.mp nd)
              rw [List.pairwise_iff_getElem] at this
              exact this j i l1 l2 hji (e1.trans e2.symm)
            · cases hj
      · obtain ⟨v3, prs, rfl, s3, g3, hK3, e3, b3, nd3⟩ := h
        rw [List.length_map, List.take_length] at e3
        have pl : prs.length ≤ 20 := by
          have := congrArg List.length e3
          rw [List.length_map] at this
          omega
        obtain ⟨dx3, hp3⟩ := hK3.i
        refine ⟨_, rfl, p, dx3, _, rfl, hp3, rfl, p, x, d, prs, rfl, hK3, ⟨nd3, pl, fun p' hp' => ?_⟩, fun t H4 s4 hW => ?_⟩
        · obtain ⟨h1, h2, h3⟩ := b3 p' hp'
          obtain ⟨m0, m1⟩ := w40.mp h3
          exact ⟨h1, by omega, m0, m1⟩
        · refine ⟨_, rfl, rfl, _, rfl, ?_⟩
          by_cases ht : t = z
          · subst ht
            have : (!decide (V.str t = V.str t)) = false := by simp
            exact iteD this ⟨_, rfl, q prs p d H4 (hback prs e3 b3 nd3 hW) (s3.trans s4) (hK3.same s4)⟩
          · have : (!decide (V.str t = V.str z)) = true := by rw [decide_eq_false fun e => ht (V.str.inj e)]; rfl
            refine iteC this ⟨⟨one_line, er (fun prs' h => ht ?_) none H4 (s3.trans s4)⟩⟩
            have e := hsp prs' h
            rw [e] at e3
            have e4 := wds_inj rl h.b b3 e3
            rw [e4] at h
            exact hW.one h.wt
end
end Pr
set_option Elab.async false
set_option linter.all false
set_option maxRecDepth 100000
/-! the law's reading of a number, again -/
namespace Pr
open PySem L2 PyProof.Rows Ent Any
theorem _root_.L2.Same.keepN {H H' : Hp} {D : Addr} {o : HO} (s : Same H H') (h : H D = none) : Same H (L2.upd H' D o) := fun b u e => by
  rw [L2.upd_ne (ne_of_none e h)]
  exact s _ _ e
abbrev Asc (z : Str) : Prop := ∀ c ∈ z.cps.toList, c < 128
abbrev D10 : Str := (("0123456789" : String) : Str)
theorem d10 : ∀ c, c < 128 → (c ∈ D10.cps.toList ↔ (48 ≤ c ∧ c ≤ 57)) := by decide +kernel
theorem fgs_sub {l : List Nat} : ∀ c ∈ fgs l, c ∈ l := fun c hc => by
  unfold fgs at hc
  split at hc
  · exact List.mem_cons_of_mem _ hc
  · exact hc
theorem fgs_len (l : List Nat) : (fgs l).length ≤ l.length := by
  unfold fgs
  split
  · simp
  · exact Nat.le_refl _
section
variable {P : Program} {w : World} {K : PySem.W.Frag} {mg : Str → Option Value} {base : Heap} {C : Addr}
inductive sp_lnum (vs : List V) (H : Hp) (Q : VK) (E : XK) : Prop
  | mk (z : Str) (e : vs = [.str z]) (hl : z.length ≤ 50000) (asc : Asc z) (q : ∀ H', Same H H' → Q (nV (numM 40 z)) H') : sp_lnum vs H Q E
theorem sc_lnum : FnScope ["_law_word", "_law_figures"] ["_law_word"] (defScope s_law_number) := ⟨rfl, rfl, rfl, by decide +kernel, rfl, by decide +kernel, by decide +kernel⟩
set_option maxHeartbeats 4000000 in
theorem lnum (T : Txt K mg C) : Can P w K mg base 1 "_law_number" ["_law_word"] sp_lnum := by
  refine fn_can T.f_law_number sc_lnum (fun vs H Q E h => ?_) (fun f cdv A outer s H vs Q E hr h => ?_)
  · obtain ⟨z, rfl, _⟩ := h
    rfl
  · obtain ⟨z, rfl, hl, asc, q⟩ := h
    refine ⟨_, (pss_cut (ps_set (i := 1) sc_lnum.nd rfl (Or.inl rfl) (pe_slice sl_str (pv 0) (po_some (pe_t call_int1 T.b_int boot_int (pa1 (pe_cmpR op_eq (pe_slice sl_str (pv 0) po_none (po_some pe_int)) pe_str (nomark _))))) po_none))
      (pss_cons (ps_if (PW.pt (pw_or (pt_not (pt_chain op_le op_le pe_int (pe_b call_len_str T.b_len boot_len (pa1 (pv 1))) pe_int)) (pw_or1 (pt_not (pt_val (pe_b (call_all_seqK K rfl) T.b_all boot_all (pa1 (pe_lc rfl (lcS sc_lnum) (pi_str (pv 1)) (fun _ _ _ _ => pts_nil) (fun _ _ _ _ => (pe_cmpR op_in_str (pv 0) pe_str rfl))))))))))
        (pss_one (ps_ret pe_non))
        pss_nil)
      (pss_cons (ps_if (PW.pt (pw_and (pt_cmpR op_eq (pe_ix ix_str (pv 1) pe_int (fun _ _ => rfl)) pe_str (nomark _)) (pw_and1 (pt_cmpR op_ne (pv 0) pe_str (nomark _)))))
        (pss_one (ps_ret pe_non))
        pss_nil)
      (pss_one (ps_ret (pe_t call_int_text T.b_int boot_int (pa1 (pv 0)))))))), ?_⟩
    have t1 := slt_len z 1
    have t2 := sld_len z 1
    refine ⟨fun σ H1 => H1 = H ∧ ∃ bare : Str, σ = [some (.str z), some (.str bare)] ∧ bare.cps.toList = fgs z.cps.toList, ?_, ?_⟩
    · refine ⟨_, rfl, _, rfl, _, rfl, .mk z rfl (Nat.le_trans t1 (by omega)) ⟨rfl, .inr ⟨_, rfl, ?_⟩⟩⟩
      have e1 : decide (V.str (StrLaws.sliceText z none (some 1)) = V.str "-") = decide (z.cps.toList.head? = some 45) := by
        rw [decide_eq_decide]
        have e : (StrLaws.sliceText z none (some 1)).cps.toList = z.cps.toList.take 1 := sl_take z 1
        constructor
        · intro h
          have h2 := V.str.inj h
          rw [h2] at e
          have e3 : (("-" : String) : Str).cps.toList = [45] := by decide
          rw [e3] at e
          cases hz : z.cps.toList with
          | nil => rw [hz] at e; cases e
          | cons a r => rw [hz] at e; rw [show a = 45 from (List.cons.inj e).1.symm]; rfl
        · intro h
          refine congrArg V.str (str_ext ?_)
          rw [e]
          cases hz : z.cps.toList with
          | nil => rw [hz] at h; cases h
          | cons a r => rw [hz] at h; rw [show a = 45 from Option.some.inj h]; show [45] = _; decide
      rw [e1]
      by_cases h45 : z.cps.toList.head? = some 45
      · rw [decide_eq_true h45]
        refine ⟨_, rfl, .mk z rfl (Nat.le_trans t2 (by omega)) ⟨rfl, _, rfl, ?_⟩⟩
        have e := sl_drop z 1
        rw [if_pos rfl, show (StrLaws.sliceText z (some 1) none).cps.toList = z.cps.toList.drop 1 from e]
        cases hz : z.cps.toList with
        | nil => rw [hz] at h45; cases h45
        | cons a r => rw [hz] at h45; rw [show a = 45 from Option.some.inj h45]; rfl
      · rw [decide_eq_false h45]
        refine ⟨_, rfl, .mk z rfl (Nat.le_trans (sld_len z 0) (by omega)) ⟨rfl, _, rfl, ?_⟩⟩
        have e := sl_drop z 0
        rw [if_neg Bool.false_ne_true, show (StrLaws.sliceText z (some 0) none).cps.toList = z.cps.toList.drop 0 from e, List.drop_zero]
        unfold fgs
        split
        · next r heq => rw [heq] at h45; exact absurd rfl h45
        · rfl
    · rintro σ H1 ⟨rfl, bare, rfl, hb⟩
      have bl : bare.length = (fgs z.cps.toList).length := by rw [str_len, hb]
      have fl := fgs_len z.cps.toList
      have zl := str_len z
      have non : ¬ Wr 40 z.cps.toList → ∀ H', Same H1 H' → Q .non H' := fun h H' s => by
        cases e : numM 40 z with
        | none => rw [e] at q; exact q _ s
        | some i =>
          obtain ⟨e1, e2⟩ := numM_some e
          rw [e1] at h
          exact absurd (num_wr (by decide) e2) h
      have yes : Wr 40 z.cps.toList → ∃ i, z = ts i ∧ i.natAbs < 10 ^ 40 ∧ ∀ H', Same H1 H' → Q (.int i) H' := fun w => by
        obtain ⟨i, e1, e2⟩ := wr_num w
        refine ⟨i, e1, e2, fun H' s => ?_⟩
        have := q H' s
        rw [e1, numM_ts (by decide) e2] at this
        exact this
      refine ⟨_, rfl, _, rfl, line6 (by omega), _, _, rfl, rfl, _, rfl, ?_⟩
      by_cases h0 : bare = ""
      · have : ¬ (1 : Int) ≤ (bare.length : Int) := by rw [h0]; decide
        refine iteD (decide_eq_false this) ⟨_, rfl, iteC rfl (non (fun w => w.ne ?_) _ (Same.refl _))⟩
        rw [← hb, h0]
        decide
      have b1 : (1 : Int) ≤ (bare.length : Int) := by
        have : bare.cps.toList ≠ [] := fun e => h0 (str_ext (by rw [e]; decide))
        rw [str_len]
        have := List.length_pos_iff.mpr this
        omega
      refine iteC (decide_eq_true b1) ⟨_, _, rfl, rfl, _, rfl, ?_⟩
      by_cases h40' : ¬ (bare.length : Int) ≤ 40
      · rw [decide_eq_false h40']
        exact iteC rfl (non (fun w => by have := w.ln; omega) _ (Same.refl _))
      have h40 := Classical.not_not.mp h40'
      rw [decide_eq_true h40]
      refine iteD rfl ⟨_, rfl, _, rfl, ?_, fun D hD => ?_⟩
      · rw [← Array.all_toList, List.all_eq_true]
        exact fun c hc => decide_eq_true (asc c (fgs_sub c (by rw [← hb]; exact hc)))
      refine lc_go (n := bare.cps.size) (fun i ys H2 => H2 D = some (.lst ys) ∧ Same H1 H2 ∧ ys = ((bare.cps.toList.take i).map fun c => decide (c ∈ D10.cps.toList)).map V.bl) ⟨upd_same, Same.upd hD, rfl⟩ (fun i ys H1 h => h.1) (fun ys H2 h => ⟨Nat.le_refl _, ?_⟩) fun i ys H2 hi h => ⟨hi, fun x H' y => ?_⟩
      · obtain ⟨g1, g2, rfl⟩ := h
        rw [List.take_of_length_le (by rw [Array.length_toList]; exact Nat.le_refl _)] at g1
        refine ⟨D, _, rfl, .of g1, ?_⟩
        rw [List.all_map, hb]
        refine ⟨_, rfl, ?_⟩
        have alls : ((fgs z.cps.toList).all (id ∘ fun c => decide (c ∈ D10.cps.toList))) = true ↔ ∀ c ∈ fgs z.cps.toList, 48 ≤ c ∧ c ≤ 57 := by
          rw [List.all_eq_true]
          exact ⟨fun h c hc => (d10 c (asc c (fgs_sub c hc))).mp (of_decide_eq_true (h c hc)), fun h c hc => decide_eq_true ((d10 c (asc c (fgs_sub c hc))).mpr (h c hc))⟩
        cases ha : (fgs z.cps.toList).all (id ∘ fun c => decide (c ∈ D10.cps.toList)) with
        | false => exact iteT (non (fun w => by rw [alls.mpr w.d] at ha; cases ha) _ g2)
        | true =>
          have dd := alls.mp ha
          have ne : fgs z.cps.toList ≠ [] := fun e => h0 (str_ext (by rw [hb, e]; decide))
          refine iteF ?_
          obtain ⟨c, r, hcr⟩ : ∃ c r, fgs z.cps.toList = c :: r := by
            cases e : fgs z.cps.toList with
            | nil => exact absurd e ne
            | cons c r => exact ⟨c, r, rfl⟩
          refine ⟨_, rfl, _, _, c, rfl, rfl, line6 (by omega), atI_nat (j := 0) (by rw [hb, hcr]; rfl), rfl, _, rfl, ?_⟩
          have c48 : decide (V.str (⟨#[c]⟩ : Str) = V.str "0") = decide (c = 48) := by
            rw [decide_eq_decide]
            constructor
            · intro h
              have e2 := congrArg (fun x : Str => x.cps.toList) (V.str.inj h)
              have e3 : (("0" : String) : Str).cps.toList = [48] := by decide
              rw [e3] at e2
              exact (List.cons.inj e2).1
            · rintro rfl; decide
          have fin : Wr 40 z.cps.toList → ∃ i, z = ts i ∧ intText? z = some i ∧ z.length ≤ 41 ∧ Q (.int i) H2 := fun w => by
            obtain ⟨i, e1, e2, qi⟩ := yes w
            refine ⟨i, e1, by rw [e1]; exact ts_reads e2, by rw [e1]; exact ts_len e2, qi _ g2⟩
          rw [c48]
          by_cases hc : c = 48
          · refine iteC (decide_eq_true hc) ⟨_, rfl, rfl, _, rfl, ?_⟩
            by_cases hz0 : z = "0"
            · have w : Wr 40 z.cps.toList := ⟨ne, dd, by omega, fun _ => by rw [hz0]; decide⟩
              obtain ⟨i, e1, e2, e3, qi⟩ := fin w
              have d3 : (!decide (V.str z = V.str "0")) = false := by rw [hz0]; simp
              exact iteD d3 ⟨_, rfl, _, i, rfl, e2, by omega, qi⟩
            · have d3 : (!decide (V.str z = V.str "0")) = true := by rw [decide_eq_false fun e => hz0 (V.str.inj e)]; rfl
              refine iteC d3 (non (fun w => hz0 ?_) _ g2)
              have e := w.z (by rw [hcr, hc]; rfl)
              refine str_ext ?_
              rw [e]
              decide
          · refine iteD (decide_eq_false hc) ?_
            obtain ⟨i, e1, e2, e3, qi⟩ := fin ⟨ne, dd, by omega, fun z0 => by rw [hcr] at z0; exact absurd (Option.some.inj z0) hc⟩
            exact ⟨_, rfl, _, i, rfl, e2, by omega, qi⟩
      · obtain ⟨g1, g2, rfl⟩ := h
        obtain ⟨e1, c, hc, e2⟩ := y
        subst e1 e2
        refine yesI ⟨_, rfl, _, _, rfl, rfl, ?_⟩
        have hf : (!(Builtin.Str.occurrences D10 ⟨#[c]⟩ 0 D10.length 1).isEmpty) = decide (c ∈ D10.cps.toList) := StrLaws.found_one _ _
        rw [hf]
        have bs : bare.cps.size = bare.length := rfl
        refine LcNx.mk6 hi (by omega) (by rw [List.length_map, List.length_map, List.length_take]; omega) g1 ⟨upd_same, (g2.keepN hD), ?_⟩
        rw [List.take_add_one, hc]
        simp
end
end Pr
set_option Elab.async false
set_option linter.all false
set_option maxRecDepth 100000
/-! the law's reading of locks -/
namespace L2
open PySem PySem.Spec PyProof.Rows
theorem op_in_seqK {X : Cx} (K : PySem.W.Frag) (e : X.K = K := by rfl) : OpR X (compareOp .In) (rIn K false) := by subst e; exact op_in_seq
theorem op_ltTK {X : Cx} (K : PySem.W.Frag) (hu : X.A.units < cLine) (e : X.K = K := by rfl) : OpR X (compareOp .Lt) (rLtT K) := by subst e; exact op_ltT hu
end L2
namespace Pr
open PySem L2 PyProof.Rows Ent Any
theorem cut_drop1 (xs : List V) (h : 1 ≤ xs.length) : cutV xs (some 1) none = xs.drop 1 := by
  unfold cutV
  have e : HT.sIx xs.length 0 (some 1) = 1 := by
    have := HT.sIx_nat xs.length 0 1
    rw [Nat.min_eq_left h] at this
    exact this
  rw [e, HT.sIx_none]
  exact List.take_of_length_le (by rw [List.length_drop]; omega)
theorem inV_non : ∀ (os : List (Option Int)), inV .non (os.map nV) = os.any (·.isNone)
  | [] => rfl
  | o :: r => by
    have ih := inV_non r
    unfold inV at ih ⊢
    rw [List.map_cons, List.any_cons, List.any_cons, ih]
    cases o <;> rfl
theorem flat_os (os : List (Option Int)) : (os.map nV).all flatV = true := by
  rw [List.all_eq_true]
  intro v hv
  obtain ⟨o, _, rfl⟩ := List.mem_map.mp hv
  cases o <;> rfl
theorem os_some : ∀ {os : List (Option Int)}, os.any (·.isNone) = false → ∃ is : List Int, os = is.map some
  | [], _ => ⟨[], rfl⟩
  | none :: r, h => by simp at h
  | some i :: r, h => by
    obtain ⟨is, rfl⟩ := os_some (os := r) (by simpa using h)
    exact ⟨i :: is, rfl⟩
theorem nums_of : ∀ {ws : List Str} {ns : List Int}, ws.map (numM 40) = ns.map some → ws = ns.map ts ∧ ∀ n ∈ ns, n.natAbs < 10 ^ 40
  | [], [], _ => ⟨rfl, fun _ h => nomatch h⟩
  | [], a :: r, en => nomatch en
  | x :: r, [], en => nomatch en
  | x :: r, a :: l, en => by
    rw [List.map_cons, List.map_cons] at en
    obtain ⟨e1, e2⟩ := List.cons.inj en
    obtain ⟨f1, f2⟩ := numM_some e1
    obtain ⟨g1, g2⟩ := nums_of e2
    refine ⟨by rw [f1, g1]; rfl, fun n hn => ?_⟩
    rcases List.mem_cons.mp hn with h | h
    · rw [h]; exact f2
    · exact g2 n h
theorem wd_split (p : BP) : Txt.split (wdP p) "/" = [ts p.1, ts p.2] := by
  have e : wdP p = Txt.join ⟨#[47]⟩ [ts p.1, ts p.2] := by
    unfold wdP
    rw [tj, ← slash_is]
    rfl
  rw [e, slash_is]
  refine split_join (by simp) fun q hq => ?_
  simp only [List.mem_cons, List.not_mem_nil, or_false] at hq
  rcases hq with rfl | rfl <;> exact no47 _
theorem isW_os {n : Nat} (hn : n ≤ 4) {z : Str} {p : BP} (h : IsW n z p) : (Txt.split z "/").map (numM 40) = [some p.1, some p.2] := by
  rw [h.e, wd_split, List.map_cons, List.map_cons, numM_ts (by decide) (lt40r h.r0 h.r1 hn), numM_ts (by decide) h.m]
  rfl
theorem os_isW {n : Nat} {z : Str} {p : BP} (h : (Txt.split z "/").map (numM 40) = [some p.1, some p.2]) (r0 : 0 ≤ p.1) (r1 : p.1 ≤ (n : Int)) : IsW n z p := by
  obtain ⟨e, b⟩ := nums_of (ns := [p.1, p.2]) h
  refine ⟨?_, r0, r1, b _ (by simp)⟩
  have := StrLaws.join_split z "/"
  rw [e] at this
  rw [← this]
  unfold wdP
  rfl
def rise : List BP → Bool
  | a :: b :: r => Srt.tlt2 a b && rise (b :: r)
  | _ => true
theorem tlt2_tr {a b c : BP} (h : Srt.tlt2 a b = true) (h' : Srt.tlt2 b c = true) : Srt.tlt2 a c = true := by
  rw [Srt.tlt2_iff] at *
  omega
theorem rise_iff : ∀ (l : List BP), rise l = true ↔ l.Pairwise (fun a b => Srt.tlt2 a b = true)
  | [] => by simp [rise]
  | [a] => by simp [rise]
  | a :: b :: r => by
    have ih := rise_iff (b :: r)
    unfold rise
    rw [Bool.and_eq_true, ih, List.pairwise_cons (l := b :: r)]
    constructor
    · rintro ⟨h1, h2⟩
      refine ⟨fun c hc => ?_, h2⟩
      rcases List.mem_cons.mp hc with h | h
      · rw [h]; exact h1
      · exact tlt2_tr h1 ((List.pairwise_cons.mp h2).1 c h)
    · rintro ⟨h1, h2⟩
      exact ⟨h1 b (by simp), h2⟩
theorem rise_zip : ∀ (l : List BP), (List.zipWith Srt.tlt2 l (l.drop 1)).all id = rise l
  | [] => rfl
  | [a] => rfl
  | a :: b :: r => by
    have ih := rise_zip (b :: r)
    show (Srt.tlt2 a b && (List.zipWith Srt.tlt2 (b :: r) r).all id) = _
    unfold rise
    rw [← ih]
    rfl
theorem lex_tlt (a b : BP) : HT.lexLt [a.1, a.2] [b.1, b.2] = Srt.tlt2 a b := by
  unfold Srt.tlt2
  rw [HT.lexLt_cons, HT.lexLt_cons, HT.lexLt_nil_nil]
  by_cases h : a.1 = b.1
  · rw [if_pos h, if_pos h]
    by_cases h2 : a.2 = b.2
    · rw [if_pos h2, h2]; simp
    · rw [if_neg h2]
  · rw [if_neg h, if_neg h]
theorem pmap2 {α β : Type} {F G : α → β → Prop} (f : ∀ a b, F a b → G a b) : ∀ {l₁ : List α} {l₂ : List β}, Paired F l₁ l₂ → Paired G l₁ l₂
  | _, _, .nil => .nil
  | _, _, .cons h t => .cons (f _ _ h) (pmap2 f t)
theorem prs2_same {H H' : Hp} (s : Same H H') {us : List V} {prs : List BP} (h : Prs2 H us prs) : Prs2 H' us prs := pmap2 (fun _ _ ⟨a, e, q⟩ => ⟨a, e, s _ _ q⟩) h
section
variable {P : Program} {w : World} {K : PySem.W.Frag} {mg : Str → Option Value} {base : Heap} {C : Addr}
inductive sp_lread (vs : List V) (H : Hp) (Q : VK) (E : XK) : Prop
  | mk (z : Str) (n : Nat) (e : vs = [.str z, .int (n + 1)]) (hn : n ≤ 4) (hl : z.length ≤ 50000) (asc : Asc z) (hz : z ≠ "") (sl : (Txt.split z " ").length ≤ 20) (q : ∀ prs L us H', RdT n z prs → Same H H' → H' L = some (.lst us) → Prs2 H' us prs → Q (.ref L) H')
      (bd : (∀ prs, ¬ RdT n z prs) → ∀ H', Same H H' → Q .non H') : sp_lread vs H Q E
theorem sc_lread : FnScope ["_law_text_here", "_law_rolls", "_law_found", "_law_word", "_law_numbers"] ["_law_text_here", "_law_rolls"] (defScope s_law_read) := ⟨rfl, rfl, rfl, by decide +kernel, rfl, by decide +kernel, by decide +kernel⟩
set_option maxHeartbeats 8000000 in
theorem lread (T : Txt K mg C) : Can P w K mg base 2 "_law_read" ["_law_text_here", "_law_rolls"] sp_lread := by
  refine fn_can T.f_law_read sc_lread (fun vs H Q E h => ?_) (fun f cdv A outer s H vs Q E hr h => ?_)
  · obtain ⟨z, n, rfl, _⟩ := h
    rfl
  · obtain ⟨z, n, rfl, hn, hl, asc, hz, sl, q, bd⟩ := h
    refine ⟨_, (pss_cons (ps_set (i := 2) sc_lread.nd rfl (Or.inl rfl) (pe_lst pa_nil))
      (pss_cons (ps_for PassesOwn.never rfl (pi_listK K (pe_bmK K PySem.F.plainAttrs_str PySem.F.slot_str_split PySem.F.type_str_split mt_split (pv 0) (pa1 pe_str))) (pg_name (i := 3) sc_lread.nd rfl (Or.inl rfl))
        (pss_cons (ps_setLC (i := 4) rfl rfl rfl (lcS sc_lread) (pi_listK K (pe_bmK K PySem.F.plainAttrs_str PySem.F.slot_str_split PySem.F.type_str_split mt_split (pv 3) (pa1 pe_str))) (fun _ _ _ _ => pts_nil) (fun _ _ _ _ => (pe_can (lnum T) hr (pa1 (pv 0)))))
        (pss_cons (ps_if (PW.pt (pw_or (pt_cmpR op_ne (pe_b (call_lenK K) T.b_len boot_len (pa1 (pv 4))) pe_int (nomark _)) (pw_or (pt_cmpR (op_in_seqK K) pe_non (pv 4) rfl) (pw_or1 (pt_not (pt_chain op_le op_lt pe_int (pe_ix (ix_listK K) (pv 4) pe_int (fun _ _ => rfl)) (pv 1)))))))
          (pss_one (ps_ret pe_non))
          pss_nil)
        (pss_one (ps_expr (pe_bmK K PySem.F.plainAttrs_list PySem.F.slot_list_append PySem.F.type_list_append mt_append (pv 2) (pa1 (pe_tup (pa2 (pe_ix (ix_listK K) (pv 4) pe_int (fun _ _ => rfl)) (pe_ix (ix_listK K) (pv 4) pe_int (fun _ _ => rfl)))))))))))
      (pss_cons (ps_if (pt_not (pt_val (pe_b (call_all_seqK K rfl) T.b_all boot_all (pa1 (pe_ln (xs := ["_law_one", "_law_other"]) (Ns := ["_law_text_here", "_law_rolls", "_law_found", "_law_word", "_law_numbers"]) rfl (lnS _ sc_lread) (pi_zip K rfl T.b_zip (pa2 (pv 2) (pe_slice (sl_listK K) (pv 2) (po_some pe_int) po_none))) (pg_pair rfl (lnS _ sc_lread)) (fun _ _ _ _ => pts_nil) (fun _ _ _ _ => (pe_cmpR (op_ltTK K (Nat.lt_of_succ_lt (hu_of hr))) (pv 0) (pv 1) (nomark _))))))))
        (pss_one (ps_ret pe_non))
        pss_nil)
      (pss_one (ps_ret (pv 2)))))), ?_⟩
    have sml : ∀ x ∈ Txt.split z " ", x.length ≤ z.length := fun x hx => split_mem hx
    have sma : ∀ x ∈ Txt.split z " ", Asc x := fun x hx c hc => by
      have h1 := join_mem_cps (c := " ") hx hc
      rw [StrLaws.join_split] at h1
      exact asc c h1
    have snn : Txt.split z " " ≠ [] := split_ne z (by decide +kernel)
    have hsp : ∀ prs, RdT n z prs → Txt.split z " " = prs.map wdP := fun prs h => h.split hz
    have hback : ∀ prs : List BP, Txt.split z " " = prs.map wdP → z = Txt.join " " (prs.map wdP) := fun prs h => by
      rw [← h, tj, StrLaws.join_split]
    refine ⟨Nat.zero_le _, fun L hL => ?_⟩
    have sL := Same.upd (H := H) (o := .lst []) hL
    have gL : (upd H L (.lst [])) L = some (.lst []) := upd_same
    generalize (upd H L (.lst [])) = H1 at sL gL
    refine ⟨_, rfl, rfl, _, _, rfl, rfl, by decide, line6 (by omega), line6 (by omega), fun S hS => ?_⟩
    generalize Txt.split z " " = ws at *
    have sS := Same.upd (H := H1) (o := .lst (ws.map V.str)) hS
    have gS : (upd H1 S (.lst (ws.map V.str))) S = some (.lst (ws.map V.str)) := upd_same
    generalize (upd H1 S (.lst (ws.map V.str))) = H2 at sS gS
    have nLS : L ≠ S := fun e => by rw [← e, gL] at hS; cases hS
    refine ⟨S, rfl, ⟨_, .of gS⟩, for_list (xs := ws.map V.str) (fun i σ H3 => ∃ v3 v4 us prs, σ = [some (.str z), some (.int (n + 1)), some (.ref L), v3, v4] ∧ Same H H3 ∧ H3 S = some (.lst (ws.map V.str)) ∧ H3 L = some (.lst us) ∧ Prs2 H3 us prs ∧ ws.take i = prs.map wdP ∧ (∀ p ∈ prs, BpOk n p))
      ⟨none, none, [], [], rfl, sL.trans sS, gS, sS _ _ gL, .nil, rfl, (fun _ h => nomatch h)⟩ (fun i σ H3 hi h => ?_) (fun i y σ H3 hy h => ?_) (fun σ H3 h => ?_)⟩
    · obtain ⟨v3, v4, us, prs, rfl, _, g3, _⟩ := h
      exact .of g3
    · obtain ⟨v3, v4, us, prs, rfl, s3, g3, gL3, pp3, e3, b3⟩ := h
      have hi : i < ws.length := by
        have := (List.getElem?_eq_some_iff.mp hy).1
        rw [List.length_map] at this
        exact this
      rw [List.getElem?_map] at hy
      obtain ⟨wd, hwd, rfl⟩ := Option.map_eq_some_iff.mp hy
      have hm := List.mem_of_getElem? hwd
      have wl := sml wd hm
      have wa := sma wd hm
      have ul : us.length ≤ 20 := by
        have := congrArg List.length e3
        rw [List.length_take, List.length_map] at this
        rw [pp3.length]
        omega
      have scn := split_cnt wd "/" (by decide)
      have sml2 : ∀ x ∈ Txt.split wd "/", x.length ≤ wd.length := fun x hx => split_mem hx
      have sma2 : ∀ x ∈ Txt.split wd "/", Asc x := fun x hx c hc => by
        have h1 := join_mem_cps (c := "/") hx hc
        rw [StrLaws.join_split] at h1
        exact wa c h1
      have isw : ∀ p, IsW n wd p → (Txt.split wd "/").map (numM 40) = [some p.1, some p.2] := fun p h => isW_os hn h
      have wis : ∀ p : BP, (Txt.split wd "/").map (numM 40) = [some p.1, some p.2] → 0 ≤ p.1 → p.1 ≤ (n : Int) → IsW n wd p := fun p h => os_isW h
      have no : (∀ p, ¬ IsW n wd p) → ∀ H', Same H3 H' → Q .non H' := fun h H' s' => bd (fun prs' h' => by
        have e := hsp prs' h'
        rw [e, List.getElem?_map] at hwd
        obtain ⟨bp, hbp, rfl⟩ := Option.map_eq_some_iff.mp hwd
        have hb := h'.b bp (List.mem_of_getElem? hbp)
        exact h bp ⟨rfl, hb.1, hb.2.1, hb.2.2⟩) _ (s3.trans s')
      refine ⟨_, rfl, rfl, _, _, rfl, rfl, by decide, line6 (by omega), line6 (by omega), fun S2 hS2 => ?_⟩
      generalize Txt.split wd "/" = pcs at *
      have s4 := Same.upd (H := H3) (o := .lst (pcs.map V.str)) hS2
      have k4 : (upd H3 S2 (.lst (pcs.map V.str))) S2 = some (.lst (pcs.map V.str)) := upd_same
      generalize (upd H3 S2 (.lst (pcs.map V.str))) = H4 at s4 k4
      refine ⟨S2, rfl, ⟨_, .of k4⟩, fun D hD => ?_⟩
      refine lc_list (K := K) (xs := pcs.map V.str) (fun i ys H5 => H5 D = some (.lst ys) ∧ Same H4 H5 ∧ ys = ((pcs.take i).map (numM 40)).map nV) ⟨upd_same, Same.upd hD, rfl⟩ (fun i ys H5 h => ⟨h.1, h.2.1.seq (.of k4)⟩) (fun ys H5 h => ?_) fun i x ys H5 hi hx h => ?_
      case refine_2 =>
        obtain ⟨d1, d2, rfl⟩ := h
        rw [List.length_map] at hi
        rw [List.getElem?_map] at hx
        obtain ⟨pc, hpc, rfl⟩ := Option.map_eq_some_iff.mp hx
        have hm := List.mem_of_getElem? hpc
        have pl := sml2 pc hm
        refine yesI ⟨_, rfl, .mk pc rfl (by omega) (sma2 pc hm) fun H6 s6 => ?_⟩
        refine LcNx.mk6 (by rw [List.length_map]; exact hi) (by rw [List.length_map]; omega) (by rw [List.length_map, List.length_map, List.length_take]; omega) (s6 _ _ d1) ⟨upd_same, (d2.trans s6).keepN hD, ?_⟩
        rw [List.take_add_one, hpc]
        simp
      obtain ⟨d1, d2, rfl⟩ := h
      rw [List.length_map, List.take_length] at d1
      have s35 := s4.trans d2
      obtain ⟨os, hos⟩ : ∃ os, os = pcs.map (numM 40) := ⟨_, rfl⟩
      rw [← hos] at d1 isw wis
      refine ⟨_, rfl, D, _, rfl, .inl (.of d1), rfl, _, rfl, ?_⟩
      rw [List.length_map]
      by_cases h2' : ¬ os.length = 2
      · have d3 : (!decide (V.int (os.length : Int) = V.int 2)) = true := by
          rw [decide_eq_false fun e => h2' (by have := V.int.inj e; omega)]; rfl
        refine iteC d3 (no (fun p h => h2' ?_) _ s35)
        rw [isw p h]
        rfl
      have h2 := Classical.not_not.mp h2'
      have d3 : (!decide (V.int (os.length : Int) = V.int 2)) = false := by rw [h2]; decide
      refine iteD d3 ⟨_, rfl, D, _, rfl, .inl (.of d1), rfl, flat_os os, ?_⟩
      rw [inV_non]
      refine ⟨_, rfl, ?_⟩
      cases hany : os.any (·.isNone) with
      | true =>
        refine iteT (no (fun p h => ?_) _ s35)
        rw [isw p h] at hany
        simp at hany
      | false =>
        refine iteF ?_
        obtain ⟨is, his⟩ := os_some hany
        obtain ⟨r, m, rfl⟩ : ∃ r m, is = [r, m] := by
          rw [his, List.length_map] at h2
          exact len2 h2
        have eV : os.map nV = [V.int r, V.int m] := by rw [his]; rfl
        rw [eV] at d1
        have eos : os = [some r, some m] := his
        refine ⟨_, rfl, D, _, _, _, rfl, rfl, .of d1, atI_nat (j := 0) rfl, _, _, rfl, rfl, _, rfl, ?_⟩
        by_cases r0' : ¬ 0 ≤ r
        · refine iteD (decide_eq_false r0') ⟨_, rfl, iteC rfl (no (fun p h => r0' ?_) _ s35)⟩
          have := isw p h
          rw [eos] at this
          have e1 : r = p.1 := Option.some.inj (List.cons.inj this).1
          rw [e1]; exact h.r0
        have r0 := Classical.not_not.mp r0'
        refine iteC (decide_eq_true r0) ⟨_, rfl, _, _, rfl, rfl, _, rfl, ?_⟩
        by_cases r1' : ¬ r < (n : Int) + 1
        · rw [decide_eq_false r1']
          refine iteC rfl (no (fun p h => r1' ?_) _ s35)
          have := isw p h
          rw [eos] at this
          have e1 : r = p.1 := Option.some.inj (List.cons.inj this).1
          have := h.r1
          omega
        have r1 := Classical.not_not.mp r1'
        rw [decide_eq_true r1]
        refine iteD rfl ?_
        have hw : IsW n wd (r, m) := wis (r, m) eos r0 (by show r ≤ (n : Int); omega)
        refine ⟨_, rfl, .inl ⟨rfl, _, .of (s35 _ _ gL3)⟩, _, rfl, D, _, _, _, rfl, rfl, .of d1, atI_nat (j := 0) rfl, _, rfl, D, _, _, _, rfl, rfl, .of d1, atI_nat (j := 1) rfl, two_line, fun t ht => ?_⟩
        have s6 := Same.upd (H := H5) (o := .tup [.int r, .int m]) ht
        have k6 : (upd H5 t (.tup [.int r, .int m])) t = some (.tup [.int r, .int m]) := upd_same
        generalize (upd H5 t (.tup [.int r, .int m])) = H6 at s6 k6
        have s36 := s35.trans s6
        have gL6 := s36 _ _ gL3
        refine ⟨L, us, _, rfl, rfl, gL6, line6 (by omega), ?_⟩
        have nt : t ≠ L := fun e => by rw [e, s35 _ _ gL3] at ht; cases ht
        refine ⟨_, _, us ++ [.ref t], prs ++ [(r, m)], rfl, (s3.trans s36).keepN hL, ?_, upd_same, ?_, ?_, ?_⟩
        · rw [upd_ne (Ne.symm nLS)]; exact s36 _ _ g3
        · refine Paired.snoc ⟨t, rfl, by rw [upd_ne nt]; exact k6⟩ ?_
          refine pmap2 (fun x y ⟨a, e, h⟩ => ⟨a, e, ?_⟩) pp3
          have h6 := s36 _ _ h
          rw [upd_ne (ne_of h6 gL6 (by intro z; cases z))]
          exact h6
        · rw [List.take_add_one, hwd, e3, List.map_append, hw.e]
          rfl
        · intro p hp
          rcases List.mem_append.mp hp with h | h
          · exact b3 p h
          · rw [List.mem_singleton.mp h]; exact ⟨hw.r0, hw.r1, hw.m⟩
    · obtain ⟨v3, v4, us, prs, rfl, s3, g3, gL3, pp3, e3, b3⟩ := h
      rw [List.length_map, List.take_length] at e3
      have ul : us.length = ws.length := by
        rw [pp3.length, e3, List.length_map]
      have wp : 1 ≤ ws.length := List.length_pos_iff.mpr snn
      refine ⟨_, rfl, _, rfl, _, rfl, L, _, rfl, .of gL3, fun R hR => ?_⟩
      rw [cut_drop1 _ (by omega)]
      have s4 := Same.upd (H := H3) (o := .lst (us.drop 1)) hR
      have k4 : (upd H3 R (.lst (us.drop 1))) R = some (.lst (us.drop 1)) := upd_same
      generalize (upd H3 R (.lst (us.drop 1))) = H4 at s4 k4
      refine ⟨L, R, _, _, rfl, .of (s4 _ _ gL3), .of k4, fun D hD => ?_⟩
      have pp4 := prs2_same s4 pp3
      have gL4 := s4 _ _ gL3
      refine lcN_go (n := us.length - 1) (fun i ys H5 => H5 D = some (.lst ys) ∧ Same H4 H5 ∧ ys = ((List.zipWith Srt.tlt2 prs (prs.drop 1)).take i).map V.bl) ⟨upd_same, Same.upd hD, rfl⟩ (fun i ys H5 h => h.1) (fun ys H5 h => ⟨?_, ?_⟩) fun i ys H5 hi h => ⟨?_, fun x H' u hu y => ?_⟩
      · exact ⟨_, _, .of (h.2.1 _ _ gL4), .of (h.2.1 _ _ k4), .inr (by rw [List.length_drop]; exact Nat.le_refl _)⟩
      · obtain ⟨d1, d2, rfl⟩ := h
        rw [List.take_of_length_le (by rw [List.length_zipWith, List.length_drop, ← pp3.length]; omega)] at d1
        refine ⟨D, _, rfl, .of d1, ?_⟩
        rw [rise_zip]
        have s35 := s4.trans d2
        refine ⟨_, rfl, ?_⟩
        cases hri : rise prs with
        | false =>
          refine iteT (bd (fun prs' h' => ?_) _ (s3.trans s35))
          have e4 := wds_inj hn h'.b b3 ((hsp prs' h').symm.trans e3)
          rw [(rise_iff prs).mpr (e4 ▸ h'.s)] at hri
          cases hri
        | true =>
          exact iteF ⟨_, rfl, q prs L us _ ⟨hback prs e3, b3, (rise_iff prs).mp hri⟩ (s3.trans s35) (s35 _ _ gL3) (prs2_same s35 pp3)⟩
      · obtain ⟨d1, d2, rfl⟩ := h
        exact ⟨_, _, us[i], (us.drop 1)[i]'(by rw [List.length_drop]; omega), .of (d2 _ _ gL4), .of (d2 _ _ k4), List.getElem?_eq_getElem _, List.getElem?_eq_getElem _⟩
      · obtain ⟨d1, d2, rfl⟩ := h
        obtain ⟨t, x1, x2, rfl, ht, hx1, hx2, rfl⟩ := y
        have hx1' := hx1 _ (.of (d2 _ _ gL4))
        have hx2' := hx2 _ (.of (d2 _ _ k4))
        rw [List.getElem?_drop] at hx2'
        obtain ⟨p1, hp1, a1, rfl, ha1⟩ := Paired.get pp4 hx1'
        obtain ⟨p2, hp2, a2, rfl, ha2⟩ := Paired.get pp4 hx2'
        obtain ⟨u1, u2, rfl⟩ := len2 hu
        have s5 := Same.upd (H := H5) (o := .tup [.ref a1, .ref a2]) ht
        have k5 : (upd H5 t (.tup [.ref a1, .ref a2])) t = some (.tup [.ref a1, .ref a2]) := upd_same
        generalize (upd H5 t (.tup [.ref a1, .ref a2])) = H6 at s5 k5
        refine ⟨t, _, rfl, .of k5, rfl, _, _, rfl, _, _, rfl, rfl, ⟨[some (.ref a1), some (.ref a2)], rfl, rfl⟩, yesI ?_⟩
        refine ⟨_, rfl, _, rfl, a1, a2, [p1.1, p1.2], [p2.1, p2.2], rfl, rfl, .of (s5 _ _ (d2 _ _ ha1)), .of (s5 _ _ (d2 _ _ ha2)), ?_⟩
        rw [lex_tlt]
        refine LcNx.mk6 hi (by omega) (by rw [List.length_map, List.length_take]; omega) (s5 _ _ d1) ⟨upd_same, (d2.trans s5).keepN hD, ?_⟩
        have hz2 : (List.zipWith Srt.tlt2 prs (prs.drop 1))[i]? = some (Srt.tlt2 p1 p2) := by
          rw [List.getElem?_zipWith, hp1, List.getElem?_drop, hp2]
        rw [List.take_add_one, hz2]
        simp
end
end Pr
set_option Elab.async false
set_option linter.all false
set_option maxRecDepth 100000
/-! what the law is told -/
namespace Pr
open PySem L2 PyProof.Rows Ent Any
section
variable {P : Program} {w : World} {K : PySem.W.Frag} {mg : Str → Option Value} {base : Heap} {C : Addr}
inductive sp_told (K : PySem.W.Frag) (C Dc : Addr) (vs : List V) (H : Hp) (Q : VK) (E : XK) : Prop
  | mk (x : Addr) (b : Int) (ps : List Int) (rows : List Lad.Step) (z : Str) (e0 : vs = [.ref x, .str z]) (hz : z.length ≤ 50000) (hL : LadAt C H x b ps rows) (rl : rows.length ≤ 4) (sl : (Txt.split z " ").length ≤ 20)
      (q : ∀ prs p d H', RdT rows.length z prs → Same H H' → LockAt Dc H' p x d prs → Q (.ref p) H') (bd : (∀ prs, ¬ RdT rows.length z prs) → ∀ H', Same H H' → Q .non H') : sp_told K C Dc vs H Q E
  | no (x : Addr) (v : V) (t : Value) (e0 : vs = [.ref x, v]) (h : TyW H v t) (k : PySem.W.kitOne K t (.type "str") = some false) (q : ∀ H', Same H H' → Q .non H') : sp_told K C Dc vs H Q E
theorem sc_told : FnScope ["_law_ladder_here", "_law_text_here", "_law_found"] ["_law_ladder_here", "_law_text_here"] (defScope s_law_told) := ⟨rfl, rfl, rfl, by decide +kernel, rfl, by decide +kernel, by decide +kernel⟩
set_option maxHeartbeats 4000000 in
theorem told (T : Txt K mg C) : Can P w K mg base 9 "_law_told" ["_law_ladder_here", "_law_text_here"] (sp_told K C (cOf mg "Locks")) := by
  refine fn_can T.f_law_told sc_told (fun vs H Q E h => ?_) (fun f cdv A outer s H vs Q E hr h => ?_)
  · cases h with
    | mk x b ps rows z e => subst e; rfl
    | no x v t e => subst e; rfl
  · refine ⟨_, (pss_cons (ps_set (i := 2) sc_told.nd rfl (Or.inl rfl) pe_non)
      (pss_cons (ps_tryC (n := 3) (fun pn xe E W => (pss_one (ps_set (i := 2) sc_told.nd rfl (Or.inl rfl) (pe_canX (rdl T) W hr (pa2 (pv 0) (pv 1))))))
        (fun kk => ph0 T.x_NoText.m (fun a => pss_one (ps_set (i := 2) sc_told.nd rfl (Or.inl rfl) pe_non)) ph_nil))
      (pss_one (ps_ret (pv 2))))), ?_⟩
    cases h with
    | mk x b ps rows z e0 hz hL rl sl q bd =>
      subst e0
      refine ⟨_, rfl, _, rfl, .mk x b ps rows z rfl hz hL rl sl (fun prs p d H' h s1 hK => ?_) (fun h k H' s1 => ?_)⟩
      · exact ⟨_, rfl, q prs p d H' h s1 hK⟩
      · intro σ' hσ
        match σ', hσ with
        | [a0, a1, a2], _ => exact .mk true T.e_NoText_NoText (iteT ⟨_, rfl, bd h _ s1⟩)
    | no x v t e0 h k q =>
      subst e0
      refine ⟨_, rfl, _, rfl, .no x v t rfl h k ?_⟩
      intro σ' hσ
      match σ', hσ with
      | [a0, a1, a2], _ => exact .mk true T.e_NoText_NoText (iteT ⟨_, rfl, q _ (Same.refl _)⟩)
inductive sp_agrees (C : Addr) (vs : List V) (H : Hp) (Q : VK) (E : XK) : Prop
  | mk (x : Addr) (b : Int) (ps : List Int) (rows : List Lad.Step) (z : Str) (e0 : vs = [.ref x, .str z]) (hz : z.length ≤ 50000) (asc : Asc z) (hL : LadAt C H x b ps rows) (rl : rows.length ≤ 4) (sl : (Txt.split z " ").length ≤ 20) (q : ∀ H', Same H H' → Q (.bl true) H') : sp_agrees C vs H Q E
theorem sc_agrees : FnScope ["_law_ladder_here", "_law_text_here", "_law_due", "_law_found"] ["_law_ladder_here", "_law_text_here"] (defScope s_law_agrees) := ⟨rfl, rfl, rfl, by decide +kernel, rfl, by decide +kernel, by decide +kernel⟩
set_option maxHeartbeats 8000000 in
theorem agrees (T : Txt K mg C) : Can P w K mg base 10 "_law_agrees" ["_law_ladder_here", "_law_text_here"] (sp_agrees C) := by
  refine fn_can T.f_law_agrees sc_agrees (fun vs H Q E h => ?_) (fun f cdv A outer s H vs Q E hr h => ?_)
  · obtain ⟨x, b, ps, rows, z, rfl, _⟩ := h
    rfl
  · obtain ⟨x, b, ps, rows, z, rfl, hzl, asc, hL, rl, sl, q⟩ := h
    refine ⟨_, (pss_cons (ps_set (i := 2) sc_agrees.nd rfl (Or.inl rfl) (pe_lst pa_nil))
      (pss_cut (ps_if (pt_cmpR op_ne (pv 1) pe_str (nomark _))
        (pss_one (ps_set (i := 2) sc_agrees.nd rfl (Or.inl rfl) (pe_can (lread T) hr (pa2 (pv 1) (pe_canM0 (pv 0) T.cl (rolls T) hr)))))
        pss_nil)
      (pss_cons (ps_set (i := 3) sc_agrees.nd rfl (Or.inr rfl) (pe_can (told T) hr (pa2 (pv 0) (pv 1))))
      (pss_cons (ps_if (PW.pt (pw_or (pt_cmpR op_isN (pv 2) pe_non (nomark _)) (pw_or1 (pt_cmpR op_isN (pv 3) pe_non (nomark _)))))
        (pss_one (ps_ret (pe_and (pe_cmpR op_isN (pv 2) pe_non (nomark _)) (pe_one (pe_cmpR op_isN (pv 3) pe_non (nomark _))))))
        pss_nil)
      (pss_one (ps_ret (pe_and (pe_cmpR op_eq (pe_canM0 (pv 3) T.cl_Locks (written T) hr) (pv 1) (nomark _)) (pe_one (pe_b (call_all_seqK K rfl) T.b_all boot_all (pa1 (pe_ln (xs := ["_law_roll", "_law_number_here"]) (Ns := ["_law_ladder_here", "_law_text_here", "_law_due", "_law_found"]) rfl (lnS _ sc_agrees) (pi_listK K (pv 2)) (pg_pair rfl (lnS _ sc_agrees)) (fun _ _ _ _ => pts_nil) (fun _ _ _ _ => (pe_canM (pv 5) T.cl_Locks (is_shut T) hr (pa2 (pv 0) (pv 1))))))))))))))), ?_⟩
    refine ⟨Nat.zero_le _, fun L hL0 => ?_⟩
    have sL := Same.upd (H := H) (o := .lst []) hL0
    have gL : (upd H L (.lst [])) L = some (.lst []) := upd_same
    generalize (upd H L (.lst [])) = H1 at sL gL
    refine ⟨fun σ H2 => Same H H2 ∧ ∃ due, σ = [some (.ref x), some (.str z), some due, none] ∧ ((∃ prs D us, due = .ref D ∧ RdT rows.length z prs ∧ H2 D = some (.lst us) ∧ Prs2 H2 us prs) ∨ (due = .non ∧ ∀ prs, ¬ RdT rows.length z prs)), ?_, ?_⟩
    · refine ⟨_, rfl, rfl, _, rfl, ?_⟩
      by_cases hz : z = ""
      · subst hz
        refine iteD (by simp) ⟨sL, _, rfl, .inl ⟨[], L, [], rfl, rd_empty _, gL, .nil⟩⟩
      · have d3 : (!decide (V.str z = V.str "")) = true := by rw [decide_eq_false fun e => hz (V.str.inj e)]; rfl
        obtain ⟨ldx, fa, fo, fc, hi⟩ := lad_ins (hL.same sL)
        refine iteC d3 ⟨_, rfl, _, rfl, x, ldx, _, rfl, hi, flds_no _ _ _ (by decide) (by decide) (by decide), x, b, ps, rows, rfl, hL.same sL, .mk z rows.length rfl rl hzl asc hz sl (fun prs D us H' h s1 g1 p1 => ?_) fun h H' s1 => ?_⟩
        · exact ⟨sL.trans s1, _, rfl, .inl ⟨prs, D, us, rfl, h, g1, p1⟩⟩
        · exact ⟨sL.trans s1, _, rfl, .inr ⟨rfl, h⟩⟩
    · rintro σ H2 ⟨s2, due, rfl, hd⟩
      refine ⟨_, rfl, _, rfl, .mk x b ps rows z rfl hzl (hL.same s2) rl sl (fun prs p d H3 h s3 hK => ?_) (fun h H3 s3 => ?_)⟩
      · rcases hd with ⟨prs', D, us, rfl, h', g2, p2⟩ | ⟨_, hno⟩
        · have := h'.one rl h
          subst this
          have g3 := s3 _ _ g2
          have p3 := prs2_same s3 p2
          have lpr : prs'.length ≤ 20 := by
            by_cases hz : z = ""
            · subst hz
              rw [h.nil]
              decide
            · rw [h.split hz, List.length_map] at sl
              exact sl
          obtain ⟨dx, hp⟩ := hK.i
          refine ⟨_, rfl, rfl, _, rfl, iteD (by simp) ⟨_, rfl, rfl, _, rfl, iteD (by simp) ?_⟩⟩
          refine ⟨_, rfl, p, dx, _, rfl, hp, rfl, p, x, d, prs', rfl, hK, h.ok rl lpr, fun t H4 s4 hW => ?_⟩
          have ht : t = z := hW.one h.wt
          subst ht
          refine ⟨_, rfl, rfl, .mk _ rfl (iteC (decide_eq_true rfl) ?_)⟩
          have g4 := s4 _ _ g3
          have p4 := prs2_same s4 p3
          have hul : us.length = prs'.length := p4.length
          refine ⟨_, rfl, D, rfl, ⟨_, .of g4⟩, fun D2 hD2 => ?_⟩
          refine lcN_list (xs := us) (fun i zs H5 => H5 D2 = some (.lst zs) ∧ Same H4 H5 ∧ zs = (List.replicate i true).map V.bl) ⟨upd_same, Same.upd hD2, rfl⟩ (fun i zs H5 h => ⟨h.1, .of (h.2.1 _ _ g4)⟩) (fun zs H5 h => ?_) fun i x' zs H5 u hu hi hx h => ?_
          · obtain ⟨d1, d2, rfl⟩ := h
            refine ⟨D2, _, rfl, .of d1, ?_⟩
            rw [List.all_replicate]
            have := q _ (s2.trans (s3.trans (s4.trans d2)))
            simpa using this
          · obtain ⟨d1, d2, rfl⟩ := h
            obtain ⟨u1, u2, rfl⟩ := len2 hu
            obtain ⟨e, he, t', rfl, ht'⟩ := Paired.get p4 hx
            have hm := List.mem_of_getElem? he
            obtain ⟨b0, b1, b2⟩ := h.b e hm
            obtain ⟨m0, m1⟩ := w40.mp b2
            have hK5 := hK.same (s4.trans d2)
            obtain ⟨dx5, hp5⟩ := hK5.i
            refine ⟨t', _, rfl, .of (d2 _ _ ht'), rfl, _, _, rfl, _, _, rfl, rfl, ⟨[some (.int e.1), some (.int e.2)], rfl, rfl⟩, yesI ?_⟩
            refine ⟨_, rfl, p, dx5, _, rfl, hp5, rfl, _, rfl, _, rfl, p, x, d, e.1, e.2, b, ps, rows, prs', rfl, hK5, hL.same (s2.trans (s3.trans (s4.trans d2))), b0, b1, m0, m1, fun H6 s6 => ?_⟩
            rw [decide_eq_true (show (e.1, e.2) ∈ prs' from hm)]
            refine LcNx.mk hi (by omega) (by rw [List.length_map, List.length_replicate]; exact Nat.le_refl _) (s6 _ _ d1) ⟨upd_same, (d2.trans s6).keepN hD2, ?_⟩
            rw [List.replicate_succ']
            simp
        · exact absurd h (hno prs)
      · rcases hd with ⟨prs', D, us, rfl, h', g2, p2⟩ | ⟨rfl, hno⟩
        · exact absurd h' (h prs')
        · refine ⟨_, rfl, rfl, _, rfl, iteC (by simp) ?_⟩
          refine ⟨_, rfl, rfl, .mk _ rfl (iteC (by simp) ⟨_, rfl, rfl, ?_⟩)⟩
          exact q _ (s2.trans s3)
inductive sp_ltext (vs : List V) (H : Hp) (Q : VK) (E : XK) : Prop
  | mk (L : Addr) (us : List V) (prs : List BP) (e0 : vs = [.ref L]) (hl : H L = some (.lst us)) (pp : Prs2 H us prs) (l : prs.length ≤ 20) (b : ∀ p ∈ prs, BpOk 4 p) (q : ∀ H', Same H H' → Q (.str (Txt.join " " (prs.map wdP))) H') : sp_ltext vs H Q E
theorem sc_ltext : FnScope ["_law_bars_here"] ["_law_bars_here"] (defScope s_law_text) := ⟨rfl, rfl, rfl, by decide +kernel, rfl, by decide +kernel, by decide +kernel⟩
set_option maxHeartbeats 4000000 in
theorem ltext (T : Txt K mg C) : Can P w K mg base 1 "_law_text" ["_law_bars_here"] sp_ltext := by
  refine fn_can T.f_law_text sc_ltext (fun vs H Q E h => ?_) (fun f cdv A outer s H vs Q E hr h => ?_)
  · obtain ⟨L, us, prs, rfl, _⟩ := h
    rfl
  · obtain ⟨L, us, prs, rfl, hL, pp, pl, pb, q⟩ := h
    refine ⟨_, (pss_one (ps_ret (pe_bmK K PySem.F.plainAttrs_str PySem.F.slot_str_join PySem.F.type_str_join mt_join pe_str (pa1 (pe_ln (xs := ["_law_roll", "_law_number_here"]) (Ns := ["_law_bars_here"]) rfl (lnS _ sc_ltext) (pi_listK K (pv 0)) (pg_pair rfl (lnS _ sc_ltext)) (fun _ _ _ _ => pts_nil) (fun _ _ _ _ => (pe_op op_add_str (pe_op op_add_str (pe_t call_str_int T.b_str boot_str (pa1 (pv 0))) pe_str) (pe_t call_str_int T.b_str boot_str (pa1 (pv 1)))))))))), ?_⟩
    refine ⟨rfl, _, rfl, L, rfl, ⟨_, .of hL⟩, fun D hD => ?_⟩
    have hul : us.length = prs.length := pp.length
    refine lcN_list (xs := us) (fun i zs H1 => H1 D = some (.lst zs) ∧ Same H H1 ∧ zs = ((prs.take i).map wdP).map V.str) ⟨upd_same, Same.upd hD, rfl⟩ (fun i zs H1 h => ⟨h.1, .of (h.2.1 _ _ hL)⟩) (fun zs H1 h => ?_) fun i x' zs H1 u hu hi hx h => ?_
    · obtain ⟨h1, h2, rfl⟩ := h
      rw [hul, List.take_length] at h1
      refine ⟨_, D, _, rfl, rfl, .of h1, Ent.joinOk_le (n := 90) (fun t ht => ?_) (by rw [List.length_map]; omega), q H1 h2⟩
      obtain ⟨e, he, rfl⟩ := List.mem_map.mp ht
      have hb := pb e he
      have l1 : (Ent.ts e.1).length ≤ 41 := Ent.ts_len (lt40r hb.1 hb.2.1 (by decide))
      have l2 : (Ent.ts e.2).length ≤ 41 := Ent.ts_len hb.2.2
      have l3 : (("/" : String) : Str).length = 1 := by decide
      unfold wdP
      simp only [Str.length_append]
      omega
    · obtain ⟨h1, h2, rfl⟩ := h
      obtain ⟨u1, u2, rfl⟩ := len2 hu
      obtain ⟨e, he, t, rfl, ht⟩ := Paired.get pp hx
      have hb := pb e (List.mem_of_getElem? he)
      have n1 : e.1.natAbs < 10 ^ 40 := lt40r hb.1 hb.2.1 (by decide)
      have n2 : e.2.natAbs < 10 ^ 40 := hb.2.2
      have l1 : (Str.ofString (toString e.1)).length ≤ 41 := Ent.ts_len n1
      have l2 : (Str.ofString (toString e.2)).length ≤ 41 := Ent.ts_len n2
      have l3 : (Str.ofString "/").length = 1 := by decide
      refine ⟨t, _, rfl, .of (h2 _ _ ht), rfl, _, _, rfl, _, _, rfl, rfl, ⟨[some (.int e.1), some (.int e.2)], rfl, rfl⟩, yesI ?_⟩
      refine ⟨_, rfl, _, rfl, Ent.ts_log n1, _, _, rfl, rfl, line1 (by omega), _, rfl, _, rfl, Ent.ts_log n2, _, _, rfl, rfl, line1 (by simp only [Str.length_append]; omega), ?_⟩
      refine LcNx.mk hi (by omega) (by rw [List.length_map, List.length_map, List.length_take]; omega) h1 ⟨upd_same, h2.keepN hD, ?_⟩
      rw [List.take_add_one, he]
      simp [wdP, Ent.ts]
end
end Pr
set_option Elab.async false
set_option linter.all false
set_option maxRecDepth 100000
/-! the law's draws: the ladder -/
namespace Pr
open PySem L2 PyProof.Rows Ent Any
/-- the law's pot of draws: a list of two ints -/
inductive PotAt (H : Hp) (p : Addr) : Prop
  | mk (x : Int) (y : Int) (h0_ : H p = some (.lst [.int x, .int y])) : PotAt H p
theorem PotAt.ne {H : Hp} {p l : Addr} (h : PotAt H p) (hl : H l = none) : l ≠ p := by
  obtain ⟨x, y, h⟩ := h
  exact Ne.symm (ne_of_none h hl)
theorem PotAt.same {H H' : Hp} {p : Addr} (h : PotAt H p) (s : Same H H') : PotAt H' p := by
  obtain ⟨x, y, h⟩ := h
  exact ⟨x, y, s _ _ h⟩
theorem pa5 {X : Cx} {a b c d e : Expr} {ta tb tc td te : TE} (ha : PE X a ta) (hb : PE X b tb) (hc : PE X c tc) (hd : PE X d td) (he : PE X e te)
    (h1 : starEach [a, b, c, d, e] X.env = (false, eval a X.env) :: starEach [b, c, d, e] X.env := by rfl) (h2 : starEach [b, c, d, e] X.env = (false, eval b X.env) :: starEach [c, d, e] X.env := by rfl) (h3 : starEach [c, d, e] X.env = (false, eval c X.env) :: starEach [d, e] X.env := by rfl) (h4 : starEach [d, e] X.env = (false, eval d X.env) :: starEach [e] X.env := by rfl) (h5 : starEach [e] X.env = (false, eval e X.env) :: starEach [] X.env := by rfl) :
    PA X [a, b, c, d, e] (tCons ta (tCons tb (tCons tc (tCons td (tCons te tNil))))) := pa_cons ha (pa_cons hb (pa_cons hc (pa_cons hd (pa_cons he pa_nil h5) h4) h3) h2) h1
theorem small_line {n : Nat} (h : n ≤ 1000) : n ≤ sizeLine := Nat.le_of_lt (small1000 h)
theorem bsmall (c : Bool) : -(2 ^ 64) < (if c = true then (1 : Int) else 0) ∧ (if c = true then (1 : Int) else 0) < 2 ^ 64 := by cases c <;> decide
section
variable {P : Program} {w : World} {K : PySem.W.Frag} {mg : Str → Option Value} {base : Heap} {C : Addr}
inductive sp_pot (K : PySem.W.Frag) (vs : List V) (H : Hp) (Q : VK) (E : XK) : Prop
  | mk (a : Addr) (ns : List Int) (k : Int) (h0_ : vs = [.ref a, .int k]) (h1_ : SqL K H a (ns.map V.int)) (h2_ : ns.length ≤ 900) (h3_ : 0 ≤ k) (h4_ : ∀ p H', Same H H' → H p = none → PotAt H' p → Q (.ref p) H') : sp_pot K vs H Q E
theorem sc_pot : FnScope ["_law_script", "_law_k", "_law_cell"] ["_law_script", "_law_k"] (defScope s_law_pot) := ⟨rfl, rfl, rfl, by decide +kernel, rfl, by decide +kernel, by decide +kernel⟩
theorem pot (T : Txt K mg C) : Can P w K mg base 1 "_law_pot" ["_law_script", "_law_k"] (sp_pot K) := by
  refine fn_can T.f_law_pot sc_pot (fun vs H Q E h => ?_) (fun f cdv A outer s H vs Q E hr h => ?_)
  · obtain ⟨a, ns, k, rfl, _⟩ := h
    rfl
  · obtain ⟨a, ns, k, rfl, ha, hlen, hk, q⟩ := h
    refine ⟨_, pss_cons (ps_set (i := 2) sc_pot.nd rfl (Or.inl rfl) (pe_ix (ix_listK K) (pe_op op_cat (pe_t (call_list_ofK K) T.b_list boot_list (pa1 (pv 0))) (pe_lst (pa1 pe_int))) (pe_b (call_min2 rfl) T.b_min boot_min (pa2 (pv 1) (pe_b (call_lenK K) T.b_len boot_len (pa1 (pv 0))))) (fun _ _ => rfl)))
      (pss_one (ps_ret (pe_lst (pa2 (pe_op op_mul (pv 2) (pe_t call_int1 T.b_int boot_int (pa1 (pe_cmpR op_ge (pv 2) (pe_op op_pow pe_int pe_int) (nomark _)))))
        (pe_op op_mod (pe_op op_add (pe_op op_add (pe_op op_mul (pe_op op_mod (pv 2) pe_int) pe_int) (pe_op op_mul pe_int (pv 1))) pe_int) pe_int))))), ?_⟩
    refine ⟨_, rfl, a, _, rfl, .inl ha, fun l1 hl1 => ⟨small_line (by decide +kernel), fun l2 hl2 => ?_⟩⟩
    have n12 : l1 ≠ l2 := ne_of_none upd_same hl2
    refine ⟨l1, l2, _, _, rfl, rfl, by rw [upd_ne n12]; exact upd_same, upd_same, small_line (by rw [List.length_map, List.length_singleton]; omega), fun l3 hl3 => ?_⟩
    have s3 : Same H _ := ((Same.upd (o := .lst (ns.map V.int)) hl1).trans (Same.upd (o := .lst [.int 0]) hl2)).trans (Same.upd (o := .lst (ns.map V.int ++ [.int 0])) hl3)
    refine ⟨_, rfl, _, rfl, a, _, rfl, .inl (s3.seq ha), _, _, rfl, ?_⟩
    have hm0 : 0 ≤ (if (((ns.map V.int).length : Nat) : Int) < k then (((ns.map V.int).length : Nat) : Int) else k) := by split <;> omega
    have hm1 : (if (((ns.map V.int).length : Nat) : Int) < k then (((ns.map V.int).length : Nat) : Int) else k) < (((ns ++ [0]).length : Nat) : Int) := by
      rw [List.length_map, List.length_append, List.length_singleton]
      split <;> omega
    have e3 : ns.map V.int ++ [V.int 0] = (ns ++ [0]).map V.int := by rw [List.map_append]; rfl
    refine ⟨l3, _, _, _, rfl, rfl, .of (upd_same.trans (by rw [e3])), atI_ints hm0 hm1, ?_⟩
    refine ⟨_, rfl, _, rfl, _, _, rfl, rfl, ⟨by decide +kernel, by decide +kernel, by decide +kernel⟩, _, _, rfl, rfl, .inr ⟨_, rfl, _, _, rfl, rfl, .inr (bsmall _), ?_⟩⟩
    refine ⟨_, rfl, _, _, rfl, rfl, (by show (0 : Int) < _; decide +kernel), _, _, rfl, rfl, .inr ⟨by decide +kernel, by decide +kernel⟩, _, rfl, _, _, rfl, rfl, .inl ⟨by decide +kernel, by decide +kernel⟩, _, _, rfl, rfl, _, _, rfl, rfl, _, _, rfl, rfl, (by show (0 : Int) < _; decide +kernel), two_line, fun p hp => ?_⟩
    refine q p _ (s3.trans (Same.upd hp)) ?_ ⟨_, _, upd_same⟩
    exact s3.free hp
inductive sp_digit (vs : List V) (H : Hp) (Q : VK) (E : XK) : Prop
  | mk (p : Addr) (many : Int) (h0_ : vs = [.ref p, .int many]) (h1_ : PotAt H p) (h2_ : 0 < many) (h3_ : many < 2 ^ 300) (h4_ : ∀ d H', 0 ≤ d → d < many → But p H H' → PotAt H' p → Q (.int d) H') : sp_digit vs H Q E
theorem sc_digit : FnScope ["_law_pot_here", "_law_many", "_law_digit_here"] ["_law_pot_here", "_law_many"] (defScope s_law_digit) := ⟨rfl, rfl, rfl, by decide +kernel, rfl, by decide +kernel, by decide +kernel⟩
theorem digit (T : Txt K mg C) : Can P w K mg base 1 "_law_digit" ["_law_pot_here", "_law_many"] sp_digit := by
  refine fn_can T.f_law_digit sc_digit (fun vs H Q E h => ?_) (fun f cdv A outer s H vs Q E hr h => ?_)
  · obtain ⟨p, many, rfl, _⟩ := h
    rfl
  · obtain ⟨p, many, rfl, ⟨x, y, hp⟩, h0, h1, q⟩ := h
    refine ⟨_, pss_cons (ps_if (pt_cmpR op_gt (pe_ix (ix_listK K) (pv 0) pe_int (fun _ _ => rfl)) pe_int (nomark _))
        (pss_cons (ps_set (i := 2) sc_digit.nd rfl (Or.inl rfl) (pe_op op_mod (pe_ix (ix_listK K) (pv 0) pe_int (fun _ _ => rfl)) (pv 1)))
        (pss_cons (ps_asg (pe_op op_fdivB (pe_ix (ix_listK K) (pv 0) pe_int (fun _ _ => rfl)) (pv 1)) (pg_sub (pv 0) pe_int set_list))
        (pss_one (ps_ret (pv 2))))) pss_nil)
      (pss_cons (ps_asg (pe_op op_mod (pe_op op_add (pe_op op_mul (pe_ix (ix_listK K) (pv 0) pe_int (fun _ _ => rfl)) pe_int) pe_int) pe_int) (pg_sub (pv 0) pe_int set_list))
      (pss_one (ps_ret (pe_op op_mod (pe_op op_fdivB (pe_ix (ix_listK K) (pv 0) pe_int (fun _ _ => rfl)) pe_int) (pv 1))))), ?_⟩
    refine ⟨_, rfl, p, _, _, _, rfl, rfl, .of hp, rfl, _, _, rfl, rfl, _, rfl, ?_⟩
    refine ite2 (fun hc => ?_) (fun hc => ?_)
    · refine ⟨_, rfl, p, _, _, _, rfl, rfl, .of hp, rfl, _, rfl, _, _, rfl, rfl, h0, ?_⟩
      refine ⟨_, rfl, p, _, _, _, rfl, rfl, .of hp, rfl, _, rfl, _, _, rfl, rfl, ⟨h0, h1⟩, _, rfl, p, _, _, _, rfl, rfl, hp, rfl, _, rfl, ?_⟩
      exact q _ _ (Int.emod_nonneg _ (by omega)) (Int.emod_lt_of_pos _ h0) But.upd ⟨_, _, upd_same⟩
    · refine ⟨_, rfl, p, _, _, _, rfl, rfl, .of hp, rfl, _, _, rfl, rfl, .inr ⟨by decide +kernel, by decide +kernel⟩, _, _, rfl, rfl, _, _, rfl, rfl, (by show (0 : Int) < _; decide +kernel), _, rfl, p, _, _, _, rfl, rfl, hp, rfl, ?_⟩
      refine ⟨_, rfl, p, _, _, _, rfl, rfl, .of upd_same, rfl, _, _, rfl, rfl, ⟨by decide +kernel, by decide +kernel⟩, _, rfl, _, _, rfl, rfl, h0, ?_⟩
      exact q _ _ (Int.emod_nonneg _ (by omega)) (Int.emod_lt_of_pos _ h0) But.upd ⟨_, _, upd_same⟩
end
theorem partB_of {d : Int} (h1 : -1000000000 ≤ d) (h2 : d ≤ 1000000000) (h3 : d ≠ 0) : partB d = true := by
  unfold partB
  rw [decide_eq_true h1, decide_eq_true h2, decide_eq_false h3]
  rfl
theorem sizesB_of {S : List Int} (h1 : 1 ≤ S.length) (h2 : S.length ≤ 12) (h3 : ∀ v ∈ S, 1 ≤ v ∧ v ≤ 1000) : sizesB S = true := by
  unfold sizesB lenB
  rw [decide_eq_true (by omega), decide_eq_true (by omega), Bool.and_true, Bool.true_and, List.all_eq_true]
  intro v hv
  unfold sizeB
  rw [decide_eq_true (h3 v hv).1, decide_eq_true (h3 v hv).2]
  rfl
theorem partsB_of {ps : List Int} (h1 : 1 ≤ ps.length) (h2 : ps.length ≤ 12) (h3 : ∀ v ∈ ps, partB v = true) (h4 : 0 < ps.headD 0) : partsB ps = true := by
  unfold partsB lenB headB
  rw [decide_eq_true (by omega), decide_eq_true (by omega), decide_eq_true h4, List.all_eq_true.mpr h3]
  rfl
theorem rowsB_of {rows : List Lad.Step} (h2 : rows.length ≤ 4) (h3 : ∀ v ∈ rows, rowB v = true) : rowsB rows = true := by
  unfold rowsB lenB
  rw [decide_eq_true (by omega), decide_eq_true (by omega), List.all_eq_true.mpr h3]
  rfl
/-- a row whose sizes are a list -/
def RowL (p L : Addr) (H : Hp) (v : V) (s : Lad.Step) : Prop := ∃ r l, v = .ref r ∧ H r = some (.tup [.int s.1, .ref l]) ∧ H l = some (.lst (s.2.map V.int)) ∧ s.2.length ≤ 1000 ∧ r ≠ p ∧ l ≠ p ∧ r ≠ L ∧ l ≠ L
theorem RowL.but {p L : Addr} {H H' : Hp} {v : V} {s : Lad.Step} (h : RowL p L H v s) (c : But p H H') : RowL p L H' v s := by
  obtain ⟨r, l, e, h1, h2, h3, n1, n2, n3, n4⟩ := h
  exact ⟨r, l, e, c _ _ h1 n1, c _ _ h2 n2, h3, n1, n2, n3, n4⟩
theorem RowL.updL {p L : Addr} {H : Hp} {o : HO} {v : V} {s : Lad.Step} (h : RowL p L H v s) : RowL p L (upd H L o) v s := by
  obtain ⟨r, l, e, h1, h2, h3, n1, n2, n3, n4⟩ := h
  exact ⟨r, l, e, by rw [upd_ne n3]; exact h1, by rw [upd_ne n4]; exact h2, h3, n1, n2, n3, n4⟩
theorem RowL.g {p L : Addr} {H : Hp} {v : V} {s : Lad.Step} (h : RowL p L H v s) : RowG H v s := by
  obtain ⟨r, l, e, h1, h2, h3, _⟩ := h
  exact ⟨r, l, _, _, e, h1, .inr rfl, h2, .inl rfl, h3⟩
theorem LadAt.but {C : Addr} {H H' : Hp} {p x : Addr} {b : Int} {ps : List Int} {rows : List Lad.Step} (hp : PotAt H p) (c : But p H H') (hL : LadAt C H x b ps rows) : LadAt C H' x b ps rows := by
  obtain ⟨y1, y2, hy⟩ := hp
  obtain ⟨ldx, a1, a2, a3, us', j1, j2, j3, j4, j5⟩ := hL
  have tp : ∀ b' ys, H b' = some (.tup ys) → H' b' = some (.tup ys) := fun b' ys h => c _ _ h fun z => by rw [z, hy] at h; cases h
  refine ⟨ldx, a1, a2, a3, us', c _ _ j1 (fun z => by rw [z, hy] at j1; cases j1), tp _ _ j2, tp _ _ j3, tp _ _ j4, Paired.mono (fun _ _ z => ?_) j5⟩
  obtain ⟨r', l', e', q1, q2⟩ := z
  exact ⟨r', l', e', tp _ _ q1, tp _ _ q2⟩
section
variable {P : Program} {w : World} {K : PySem.W.Frag} {mg : Str → Option Value} {base : Heap} {C : Addr}
inductive sp_llad (C : Addr) (vs : List V) (H : Hp) (Q : VK) (E : XK) : Prop
  | mk (p : Addr) (e : vs = [.ref p]) (hp : PotAt H p) (q : ∀ x b ps rows H', But p H H' → PotAt H' p → LadAt C H' x b ps rows → LadOk b ps rows → Q (.ref x) H') : sp_llad C vs H Q E
theorem sc_llad : FnScope ["_law_pot_here", "_law_rows", "_law_k"] ["_law_pot_here"] (defScope s_law_ladder) := ⟨rfl, rfl, rfl, by decide +kernel, rfl, by decide +kernel, by decide +kernel⟩
set_option maxHeartbeats 8000000 in
theorem llad (T : Txt K mg C) : Can P w K mg base 8 "_law_ladder" ["_law_pot_here"] (sp_llad C) := by
  obtain ⟨f0, fd0, F0, M, bL⟩ := T.m_init
  refine fn_can T.f_law_ladder sc_llad (fun vs H Q E h => ?_) (fun f cdv A outer s H vs Q E hr h => ?_)
  · obtain ⟨p, rfl, _⟩ := h
    rfl
  · obtain ⟨p, rfl, hp, q⟩ := h
    refine ⟨_, (pss_cons (ps_set (i := 1) sc_llad.nd rfl (Or.inl rfl) (pe_lst pa_nil))
      (pss_cons (ps_for PassesOwn.never rfl (pi_range1 rfl T.b_range (pa1 (pe_can (digit T) hr (pa2 (pv 0) pe_int)))) (pg_name (i := 2) sc_llad.nd rfl (Or.inl rfl))
        (pss_one (ps_expr (pe_bmK K PySem.F.plainAttrs_list PySem.F.slot_list_append PySem.F.type_list_append mt_append (pv 1) (pa1 (pe_tup (pa2 (pe_op op_sub (pe_can (digit T) hr (pa2 (pv 0) pe_int)) pe_int) (pe_lc rfl (lcS sc_llad) (pi_range1 rfl T.b_range (pa1 (pe_op op_add pe_int (pe_can (digit T) hr (pa2 (pv 0) pe_int))))) (fun _ _ _ _ => pts_nil) (fun _ _ _ _ => (pe_op op_add pe_int (pe_can (digit T) hr (pa2 (pv 1) pe_int))))))))))))
      (pss_one (ps_ret (pe_make M (init_ok T F0) (hr.mono (by decide)) rfl T.mgC bL .nil pass0 (pa3 (pe_op op_sub (pe_can (digit T) hr (pa2 (pv 0) pe_int)) pe_int) (pe_lst (pa2 (pe_op op_add pe_int (pe_can (digit T) hr (pa2 (pv 0) pe_int))) (pe_op op_sub (pe_un un_neg pe_int) (pe_can (digit T) hr (pa2 (pv 0) pe_int))))) (pv 1))))))), ?_⟩
    refine ⟨Nat.zero_le _, fun L hL => ?_⟩
    have s1 : Same H (upd H L (.lst [])) := Same.upd hL
    have hL1 : (upd H L (.lst [])) L = some (.lst []) := upd_same
    generalize (upd H L (.lst [])) = H1 at s1 hL1
    have nL := hp.ne hL
    refine ⟨_, rfl, p, _, rfl, hp.same s1, by decide +kernel, by decide +kernel, fun d0 H2 a0 b0 c2 hp2 => ⟨_, rfl, by omega, by omega, ?_⟩⟩
    refine for_range (n := d0.toNat) (fun i σ H5 => ∃ v2 us rows, σ = [some (.ref p), some (.ref L), v2] ∧ rows.length = i ∧ (∀ s ∈ rows, rowB s = true) ∧ But p H H5 ∧ PotAt H5 p ∧ H5 L = some (.lst us) ∧ Paired (RowL p L H5) us rows)
      ⟨none, [], [], rfl, rfl, (fun v hv => nomatch hv), s1.but.trans c2, hp2, c2 _ _ hL1 nL, .nil⟩ ?turn ?fin
    case fin =>
      rintro σ H5 ⟨v2, us, rows, rfl, e1, e2, c5, hp5, hL5, pr5⟩
      refine ⟨_, rfl, p, _, rfl, hp5, by decide +kernel, by decide +kernel, fun g1 H6 ga1 gb1 c6 hp6 => ⟨_, _, rfl, rfl, ?_⟩⟩
      refine ⟨_, rfl, p, _, rfl, hp6, by decide +kernel, by decide +kernel, fun g2 H7 ga2 gb2 c7 hp7 => ⟨_, _, rfl, rfl, ?_⟩⟩
      refine ⟨_, rfl, _, rfl, p, _, rfl, hp7, by decide +kernel, by decide +kernel, fun g3 H8 ga3 gb3 c8 hp8 => ⟨_, _, rfl, rfl, two_line, fun pl hpl => ⟨_, rfl, ?_⟩⟩⟩
      have s9 : Same H8 (upd H8 pl (.lst [.int (1 + g2), .int (-1 - g3)])) := Same.upd hpl
      have k9 : (upd H8 pl (.lst [.int (1 + g2), .int (-1 - g3)])) pl = some (.lst ([1 + g2, -1 - g3].map V.int)) := upd_same
      have npl := hp8.ne hpl
      have hp9 := hp8.same s9
      intro x dx hx hdx hne
      have sM : Same (upd H8 pl (.lst [.int (1 + g2), .int (-1 - g3)])) (upd (upd (upd H8 pl (.lst [.int (1 + g2), .int (-1 - g3)])) dx (.own x)) x (.ins C dx [])) := (Same.upd hdx).trans (Same.upd (by rw [upd_ne (Ne.symm hne)]; exact hx))
      have c58 : But p H5 H8 := (c6.trans c7).trans c8
      have hL8 := c58 _ _ hL5 nL
      have pr8 : Paired (RowL p L H8) us rows := pmap2 (fun _ _ z => z.but c58) pr5
      have ok : LadOk (g1 - 49) [1 + g2, -1 - g3] rows := ⟨by
        have hW : W30 = 1000000000000000000000000000000 := rfl
        unfold wideB
        rw [decide_eq_true (by omega), decide_eq_true (by omega)]
        rfl, partsB_of (by show 1 ≤ 2; decide) (by show 2 ≤ 12; decide) (fun v hv => by
          simp only [List.mem_cons, List.not_mem_nil, or_false] at hv
          rcases hv with rfl | rfl <;> exact partB_of (by omega) (by omega) (by omega)) (by show 0 < 1 + g2; omega), rowsB_of (by omega) e2⟩
      refine ⟨x, dx, _, pl, _, [1 + g2, -1 - g3], L, _, us, rows, rfl, upd_same, sM _ _ k9, .inl rfl, sM _ _ (s9 _ _ hL8), .inl rfl, Paired.mono (fun _ _ z => (RowG.same (s9.trans sM) z.g)) pr8, ok, fun HA cA hLA => ⟨rfl, ?_⟩⟩
      have npx : p ≠ x := by
        obtain ⟨y1, y2, hy⟩ := hp9
        exact fun z => by rw [z, hx] at hy; cases hy
      have cAll : But p H HA := fun c o h n => by
        have h5 := c58 _ _ (c5 _ _ h n) n
        have h9 := s9 _ _ h5
        exact cA _ _ (sM _ _ h9) (fun z => by rw [z, hx] at h9; cases h9)
      refine q x _ _ _ HA cAll ?_ hLA ok
      obtain ⟨y1, y2, hy⟩ := hp9
      exact ⟨y1, y2, cA _ _ (sM _ _ hy) npx⟩
    case turn =>
      rintro i σ H5 hi ⟨v2, us, rows, rfl, e1, e2, c5, hp5, hL5, pr5⟩
      refine ⟨_, rfl, .inl ⟨rfl, _, .of hL5⟩, _, rfl, p, _, rfl, hp5, by decide +kernel, by decide +kernel, fun d1 H6 a1 b1 c6 hp6 => ⟨_, _, rfl, rfl, ?_⟩⟩
      refine ⟨_, rfl, p, _, rfl, hp6, by decide +kernel, by decide +kernel, fun d2 H7 a2 b2 c7 hp7 => ⟨_, _, rfl, rfl, _, rfl, by omega, by omega, fun D hD => ?_⟩⟩
      have c57 := c6.trans c7
      have nD := hp7.ne hD
      refine lc_range (n := (1 + d2).toNat) (fun j ys H8 => ∃ S : List Int, ys = S.map V.int ∧ S.length = j ∧ (∀ v ∈ S, 1 ≤ v ∧ v ≤ 1000) ∧ But p H7 H8 ∧ PotAt H8 p ∧ H8 D = some (.lst ys)) ⟨[], rfl, rfl, (fun v hv => nomatch hv), (Same.upd hD).but, hp7.same (Same.upd hD), upd_same⟩ (fun j ys H8 h => ?_) (fun ys H8 h => ?_) fun j ys H8 hj h => ?_
      · obtain ⟨S, _, _, _, _, _, g⟩ := h
        exact g
      · obtain ⟨S, rfl, h1, h2, c8, hp8, k8⟩ := h
        refine ⟨two_line, fun t ht => ?_⟩
        have s9 := Same.upd (H := H8) (o := .tup [.int (d1 - 4), .ref D]) ht
        have k9 : (upd H8 t (.tup [.int (d1 - 4), .ref D])) t = some (.tup [.int (d1 - 4), .ref D]) := upd_same
        have nt := hp8.ne ht
        have hp9 := hp8.same s9
        generalize (upd H8 t (.tup [.int (d1 - 4), .ref D])) = H9 at s9 k9 hp9
        have c58 : But p H5 H8 := c57.trans c8
        have hL8 := c58 _ _ hL5 nL
        have hL9 := s9 _ _ hL8
        have nLD : D ≠ L := fun z => by rw [z, c57 _ _ hL5 nL] at hD; cases hD
        have nLt : t ≠ L := fun z => by rw [z, hL8] at ht; cases ht
        refine ⟨L, _, _, rfl, rfl, hL9, small1000 (by rw [pr5.length]; omega), _, us ++ [.ref t], rows ++ [(d1 - 4, S)], rfl, ?_, ?_, ?_, ?_, upd_same, ?_⟩
        · rw [List.length_append, e1]; rfl
        · intro v hv
          rcases List.mem_append.mp hv with z | z
          · exact e2 v z
          · rw [List.mem_singleton.mp z]
            have hW : W30 = 1000000000000000000000000000000 := rfl
            unfold rowB wideB
            rw [decide_eq_true (by show -W30 < d1 - 4; omega), decide_eq_true (by show d1 - 4 < W30; omega), sizesB_of (by show 1 ≤ S.length; omega) (by show S.length ≤ 12; omega) h2]
            rfl
        · exact fun b o z n => by rw [upd_ne (ne_of_none z hL)]; exact s9 _ _ (c58 b o (c5 b o z n) n)
        · obtain ⟨x, y, z⟩ := hp9
          exact ⟨x, y, by rw [upd_ne (Ne.symm nL)]; exact z⟩
        · refine Paired.snoc ⟨t, D, rfl, by rw [upd_ne nLt]; exact k9, by rw [upd_ne nLD]; exact s9 _ _ k8, by show S.length ≤ 1000; omega, nt, nD, nLt, nLD⟩ ?_
          exact pmap2 (fun _ _ z => ((z.but (c58.trans s9.but)).updL)) pr5
      · obtain ⟨S, rfl, h1, h2, c8, hp8, k8⟩ := h
        refine yesI ⟨_, rfl, p, _, rfl, hp8, by decide +kernel, by decide +kernel, fun d3 H9 a3 b3 c9 hp9 => ⟨_, _, rfl, rfl, ?_⟩⟩
        refine LcNx.mk hj (by omega) (by rw [List.length_map]; omega) (c9 _ _ k8 nD) ⟨S ++ [1 + d3], ?_, ?_, ?_, ?_, ?_, ?_⟩
        · rw [List.map_append]; rfl
        · rw [List.length_append, h1]; rfl
        · intro v hv
          rcases List.mem_append.mp hv with z | z
          · exact h2 v z
          · rw [List.mem_singleton.mp z]; omega
        · exact fun b o z n => by rw [upd_ne (ne_of_none z hD)]; exact c9 _ _ (c8 b o z n) n
        · obtain ⟨x, y, z⟩ := hp9
          exact ⟨x, y, by rw [upd_ne (Ne.symm nD)]; exact z⟩
        · exact upd_same
end
end Pr
set_option Elab.async false
set_option linter.all false
set_option maxRecDepth 100000
/-! the law's draws: bars -/
namespace Pr
open PySem L2 PyProof.Rows Ent Any
theorem pick5 {k : Int} {x y z u t : Int} (h0 : 0 ≤ k) (h1 : k < 5) : ∃ v, atI [V.int x, V.int y, V.int z, V.int u, V.int t] k = some (.int v) ∧ (v = x ∨ v = y ∨ v = z ∨ v = u ∨ v = t) := by
  obtain ⟨m, rfl⟩ : ∃ m : Nat, k = m := ⟨k.toNat, by omega⟩
  match m, h1 with
  | 0, _ => exact ⟨x, atI_nat rfl, .inl rfl⟩
  | 1, _ => exact ⟨y, atI_nat rfl, .inr (.inl rfl)⟩
  | 2, _ => exact ⟨z, atI_nat rfl, .inr (.inr (.inl rfl))⟩
  | 3, _ => exact ⟨u, atI_nat rfl, .inr (.inr (.inr (.inl rfl)))⟩
  | 4, _ => exact ⟨t, atI_nat rfl, .inr (.inr (.inr (.inr rfl)))⟩
  | m + 5, h => exact absurd h (by omega)
theorem putK_in {prs : List BP} {p : BP} (h : p ∈ prs) : putK (sd prs) (keyOf p) (.bl true) = sd prs := by
  unfold putK
  rw [valV_any, valV_sd, decide_eq_true h, if_pos rfl]
  unfold sd
  rw [List.map_map]
  refine List.map_congr_left fun q _ => ?_
  show (if keyOf q = keyOf p then (keyOf q, V.bl true) else (keyOf q, V.bl true)) = (keyOf q, V.bl true)
  split <;> rfl
section
variable {P : Program} {w : World} {K : PySem.W.Frag} {mg : Str → Option Value} {base : Heap} {C : Addr}
inductive sp_lbars (vs : List V) (H : Hp) (Q : VK) (E : XK) : Prop
  | mk (p : Addr) (n : Nat) (e : vs = [.ref p, .int (n + 1)]) (hn : n ≤ 4) (hp : PotAt H p) (q : ∀ L us prs H', But p H H' → PotAt H' p → L ≠ p → H' L = some (.lst us) → Prs2 H' us prs → prs.Pairwise (fun a b => Srt.tlt2 a b = true) → prs.length ≤ 8 → (∀ e ∈ prs, BpOk n e) → Q (.ref L) H') : sp_lbars vs H Q E
theorem sc_lbars : FnScope ["_law_pot_here", "_law_rolls", "_law_found", "_law_k", "_law_near", "_law_far", "_law_some"] ["_law_pot_here", "_law_rolls"] (defScope s_law_bars) := ⟨rfl, rfl, rfl, by decide +kernel, rfl, by decide +kernel, by decide +kernel⟩
set_option maxHeartbeats 8000000 in
theorem lbars (T : Txt K mg C) : Can P w K mg base 2 "_law_bars" ["_law_pot_here", "_law_rolls"] sp_lbars := by
  refine fn_can T.f_law_bars sc_lbars (fun vs H Q E h => ?_) (fun f cdv A outer s H vs Q E hr h => ?_)
  · obtain ⟨p, n, rfl, _⟩ := h
    rfl
  · obtain ⟨p, n, rfl, hn, hp, q⟩ := h
    refine ⟨_, (pss_cons (ps_set (i := 2) sc_lbars.nd rfl (Or.inl rfl) pe_dnewT)
      (pss_cons (ps_for PassesOwn.never rfl (pi_range1 rfl T.b_range (pa1 (pe_can (digit T) hr (pa2 (pv 0) pe_int)))) (pg_name (i := 3) sc_lbars.nd rfl (Or.inl rfl))
        (pss_cons (ps_set (i := 4) sc_lbars.nd rfl (Or.inl rfl) (pe_op op_sub (pe_can (digit T) hr (pa2 (pv 0) pe_int)) pe_int))
        (pss_cons (ps_set (i := 5) sc_lbars.nd rfl (Or.inl rfl) (pe_op op_add (pe_op op_sub (pe_can (digit T) hr (pa2 (pv 0) (pe_op op_sub (pe_op op_mul pe_int (pe_op op_pow pe_int pe_int)) pe_int))) (pe_op op_pow pe_int pe_int)) pe_int))
        (pss_cons (ps_set (i := 6) sc_lbars.nd rfl (Or.inl rfl) (pe_lst (pa5 (pv 4) (pv 4) (pv 5) (pe_op op_sub (pe_op op_sub (pe_op op_pow pe_int pe_int) pe_int) (pe_b call_abs T.b_abs boot_abs (pa1 (pv 4)))) (pe_op op_add (pe_op op_sub (pe_b call_abs T.b_abs boot_abs (pa1 (pv 4))) (pe_op op_pow pe_int pe_int)) pe_int))))
        (pss_one (ps_dput (hu_of hr) (pv 2) (pe_tup (pa2 (pe_can (digit T) hr (pa2 (pv 0) (pv 1))) (pe_ix (ix_listK K) (pv 6) (pe_can (digit T) hr (pa2 (pv 0) pe_int)) (fun _ _ => rfl)))) pe_bl rfl))))))
      (pss_one (ps_ret (pe_b (call_sorted_dT rfl) T.b_sorted boot_sorted (pa1 (pv 2))))))), ?_⟩
    have e40 : (10 : Int) ^ (40 : Int).toNat = 10000000000000000000000000000000000000000 := by decide +kernel
    have n40 : (10 : Nat) ^ 40 = 10000000000000000000000000000000000000000 := by decide +kernel
    intro d hd
    have s1 : Same H (upd H d (.dT [])) := Same.upd hd
    have k1 : (upd H d (.dT [])) d = some (.dT (sd [])) := upd_same
    generalize (upd H d (.dT [])) = H1 at s1 k1
    have nd := hp.ne hd
    refine ⟨_, rfl, p, _, rfl, hp.same s1, by decide +kernel, by decide +kernel, fun d0 H2 a0 b0 c2 hp2 => ⟨_, rfl, by omega, by omega, ?_⟩⟩
    refine for_range (n := d0.toNat) (fun i σ HX => ∃ v3 v4 v5 v6 prs, σ = [some (.ref p), some (.int (n + 1)), some (.ref d), v3, v4, v5, v6] ∧ prs.length ≤ i ∧ prs.Nodup ∧ (∀ e ∈ prs, BpOk n e) ∧ But p H HX ∧ PotAt HX p ∧ HX d = some (.dT (sd prs)))
      ⟨none, none, none, none, [], rfl, Nat.le_refl _, List.nodup_nil, (fun _ h => nomatch h), s1.but.trans c2, hp2, c2 _ _ k1 nd⟩ ?turn ?fin
    case fin =>
      rintro σ HX ⟨v3, v4, v5, v6, prs, rfl, l1, nd1, bb, cX, hpX, kX⟩
      have hkeys : (sd prs).map (·.1) = prs.map (fun e => [Sum.inl e.1, Sum.inl e.2]) := by unfold sd; rw [List.map_map]; rfl
      refine ⟨_, rfl, d, _, prs, rfl, kX, hkeys, by omega, fun L ys fs pr pm srt hL => ?_⟩
      refine q L ys fs _ (cX.trans (Same.upd hL).but) (hpX.same (Same.upd hL)) (hpX.ne hL) upd_same (prs2_same (Same.upd hL) pr) ?_ (by rw [pm.length_eq]; omega) fun e he => bb e (pm.subset he)
      exact (srt.and (pm.nodup_iff.mpr nd1)).imp fun {a b} ⟨h1, h2⟩ => le_rise h1 h2
    case turn =>
      rintro i σ HX hi ⟨v3, v4, v5, v6, prs, rfl, l1, nd1, bb, cX, hpX, kX⟩
      refine ⟨_, rfl, p, _, rfl, hpX, by decide +kernel, by decide +kernel, fun d1 H3 a1 b1 c3 hp3 => ⟨_, _, rfl, rfl, ?_⟩⟩
      refine ⟨_, rfl, _, _, rfl, rfl, ⟨by decide +kernel, by decide +kernel, by decide +kernel⟩, _, _, rfl, rfl, .inl ⟨by decide +kernel, by decide +kernel⟩, _, _, rfl, rfl, p, _, rfl, hp3, by decide +kernel, by decide +kernel, fun d2 H4 a2 b2 c4 hp4 => ⟨_, _, rfl, rfl, ⟨by decide +kernel, by decide +kernel, by decide +kernel⟩, _, _, rfl, rfl, _, _, rfl, rfl, ?_⟩⟩
      rw [e40] at b2 ⊢
      refine ⟨_, rfl, _, rfl, _, rfl, _, _, rfl, rfl, ⟨by decide +kernel, by decide +kernel, by decide +kernel⟩, _, _, rfl, rfl, _, rfl, _, rfl, _, _, rfl, rfl, _, rfl, _, rfl, _, _, rfl, rfl, ⟨by decide +kernel, by decide +kernel, by decide +kernel⟩, _, _, rfl, rfl, _, _, rfl, rfl, small_line (by show 5 ≤ 1000; decide), fun l hl => ?_⟩
      rw [e40]
      generalize hmm : ([V.int (d1 - 11), V.int (d1 - 11), V.int (d2 - 10000000000000000000000000000000000000000 + 1), V.int (10000000000000000000000000000000000000000 - 1 - (if d1 - 11 < 0 then -(d1 - 11) else d1 - 11)), V.int ((if d1 - 11 < 0 then -(d1 - 11) else d1 - 11) - 10000000000000000000000000000000000000000 + 1)] : List V) = mm
      have s5 := Same.upd (H := H4) (o := .lst mm) hl
      have k5 : (upd H4 l (.lst mm)) l = some (.lst mm) := upd_same
      have nl := hp4.ne hl
      generalize (upd H4 l (.lst mm)) = H5 at s5 k5
      have hp5 := hp4.same s5
      refine ⟨_, rfl, _, rfl, _, rfl, p, _, rfl, hp5, by omega, Int.lt_trans (b := 100) (by omega) (by decide +kernel), fun r H6 r0 r1 c6 hp6 => ?_⟩
      refine ⟨_, rfl, _, rfl, p, _, rfl, hp6, by decide +kernel, by decide +kernel, fun j H7 j0 j1 c7 hp7 => ?_⟩
      obtain ⟨v, hv, hor⟩ : ∃ v, atI mm j = some (.int v) ∧ v.natAbs < 10 ^ 40 := by
        rw [← hmm]
        obtain ⟨v, hv, ho⟩ := pick5 (x := d1 - 11) (y := d1 - 11) (z := d2 - 10000000000000000000000000000000000000000 + 1) (u := 10000000000000000000000000000000000000000 - 1 - (if d1 - 11 < 0 then -(d1 - 11) else d1 - 11)) (t := (if d1 - 11 < 0 then -(d1 - 11) else d1 - 11) - 10000000000000000000000000000000000000000 + 1) j0 j1
        refine ⟨v, hv, ?_⟩
        rw [n40]
        have ha : 0 ≤ (if d1 - 11 < 0 then -(d1 - 11) else d1 - 11) ∧ (if d1 - 11 < 0 then -(d1 - 11) else d1 - 11) ≤ 11 := by split <;> omega
        generalize (if d1 - 11 < 0 then -(d1 - 11) else d1 - 11) = ab at ha ho
        rcases ho with rfl | rfl | rfl | rfl | rfl <;> omega
      have c57 : But p H5 H7 := c6.trans c7
      have cX7 : But p HX H7 := ((c3.trans c4).trans s5.but).trans c57
      refine ⟨l, _, _, _, rfl, rfl, .of (c57 _ _ k5 nl), hv, two_line, fun t ht => ?_⟩
      have s8 := Same.upd (H := H7) (o := .tup [.int r, .int v]) ht
      have k8 : (upd H7 t (.tup [.int r, .int v])) t = some (.tup [.int r, .int v]) := upd_same
      have nt := hp7.ne ht
      generalize (upd H7 t (.tup [.int r, .int v])) = H8 at s8 k8
      have kd := s8 _ _ (cX7 _ _ kX nd)
      refine ⟨d, _, rfl, DPut.t (k := keyOf (r, v)) kd k8 (by rw [sd_len, sizeLine_eq]; omega), ?_⟩
      have cXA : But p H H8 := cX.trans (cX7.trans s8.but)
      have fin : ∀ prs', prs'.length ≤ i + 1 → prs'.Nodup → (∀ e ∈ prs', BpOk n e) → But p H (upd H8 d (.dT (sd prs'))) ∧ PotAt (upd H8 d (.dT (sd prs'))) p := fun prs' _ _ _ => by
        refine ⟨fun b o z m => by rw [upd_ne (ne_of_none z hd)]; exact cXA b o z m, ?_⟩
        obtain ⟨x, y, z⟩ := hp7.same s8
        exact ⟨x, y, by rw [upd_ne (Ne.symm nd)]; exact z⟩
      by_cases hin : (r, v) ∈ prs
      · rw [putK_in hin]
        obtain ⟨f1, f2⟩ := fin prs (by omega) nd1 bb
        exact ⟨_, _, _, _, prs, rfl, by omega, nd1, bb, f1, f2, upd_same⟩
      · rw [putK_sd hin]
        have l2 : (prs ++ [(r, v)]).length ≤ i + 1 := by rw [List.length_append, List.length_singleton]; omega
        have nd2 : (prs ++ [(r, v)]).Nodup := by
          rw [List.nodup_append]
          exact ⟨nd1, by simp, fun a ha b hb e => hin (by rw [List.mem_singleton.mp hb] at e; exact e ▸ ha)⟩
        have bb2 : ∀ e ∈ prs ++ [(r, v)], BpOk n e := fun e he => by
          rcases List.mem_append.mp he with h | h
          · exact bb e h
          · rw [List.mem_singleton.mp h]; exact ⟨r0, by show r ≤ (n : Int); omega, hor⟩
        obtain ⟨f1, f2⟩ := fin _ l2 nd2 bb2
        exact ⟨_, _, _, _, _, rfl, l2, nd2, bb2, f1, f2, upd_same⟩
end
end Pr
set_option Elab.async false
set_option linter.all false
set_option maxRecDepth 100000
/-! spoilt texts -/
namespace Ent
open PySem Builtin Builtin.Str StrLaws PyProof.Rows
theorem join_lb : ∀ (ps : List Str), ps ≠ [] → (ps.map (·.length)).sum + ps.length = (Str.join " " ps).length + 1
  | [], h => absurd rfl h
  | [p], _ => by
    show (p.length + 0) + 1 = p.length + 1
    omega
  | p :: q :: r, _ => by
    have ih := join_lb (q :: r) (by simp)
    have b1 := blank_len
    rw [PyProof.Rows.join_cons_cons]
    simp only [Str.length_append, List.map_cons, List.sum_cons, List.length_cons] at ih ⊢
    omega
theorem join_memb {c : Str} : ∀ {ps : List Str} {x : Nat}, x ∈ (Str.join c ps).cps.toList → x ∈ c.cps.toList ∨ ∃ p ∈ ps, x ∈ p.cps.toList
  | [], x, h => by
    have : x ∈ ([] : List Nat) := h
    exact nomatch this
  | [q], x, h => .inr ⟨q, by simp, h⟩
  | q :: r :: s, x, h => by
    rw [PyProof.Rows.join_cons_cons, Str.cps_append, Str.cps_append, Array.toList_append, Array.toList_append] at h
    rcases List.mem_append.mp h with h | h
    · rcases List.mem_append.mp h with h | h
      · exact .inr ⟨q, by simp, h⟩
      · exact .inl h
    · rcases join_memb h with h | ⟨p, hp, h⟩
      · exact .inl h
      · exact .inr ⟨p, List.mem_cons_of_mem _ hp, h⟩
theorem sum_take {α : Type} (f : α → Nat) (l : List α) (k : Nat) : ((l.take k).map f).sum + ((l.drop k).map f).sum = (l.map f).sum := by
  rw [← List.sum_append, ← List.map_append, List.take_append_drop]
theorem cnt_is (c : Nat) : ∀ l : List Nat, cnt c l = (l.count c : Int)
  | [] => rfl
  | a :: r => by
    rw [cnt_cons, cnt_is c r, List.count_cons]
    by_cases h : a = c
    · rw [if_pos h, if_pos (by simp [h])]; omega
    · rw [if_neg h, if_neg (by simp [h])]; omega
theorem words_len (z : Str) : (Txt.split z " ").length = z.cps.toList.count 32 + 1 := by
  have := split_len z 32
  rw [cnt_is, ← blank_is] at this
  omega
theorem join_bl {ps : List Str} (h : ps ≠ []) (hf : ∀ p ∈ ps, 32 ∉ p.cps.toList) : (Txt.join " " ps).cps.toList.count 32 + 1 = ps.length := by
  rw [← words_len, blank_is, split_join h hf]
end Ent
namespace Pr
open PySem L2 PyProof.Rows Ent Any
theorem cut_to {xs : List V} {n : Nat} : cutV xs none (some (n : Int)) = xs.take n := by
  unfold cutV
  rw [HT.sIx_nat, HT.sIx_none, Nat.sub_zero, List.drop_zero]
  by_cases h : n ≤ xs.length
  · rw [Nat.min_eq_left h]
  · rw [Nat.min_eq_right (by omega), List.take_of_length_le (Nat.le_refl _), List.take_of_length_le (by omega)]
theorem cut_from {xs : List V} {n : Nat} (h : n ≤ xs.length) : cutV xs (some (n : Int)) none = xs.drop n := by
  unfold cutV
  rw [HT.sIx_nat, HT.sIx_none, Nat.min_eq_left h]
  exact List.take_of_length_le (by rw [List.length_drop]; omega)
theorem asc_take {z : Str} (h : Asc z) (n : Nat) : Asc (StrLaws.sliceText z none (some (n : Int))) := fun c hc => by
  rw [sl_take] at hc
  exact h c (List.mem_of_mem_take hc)
theorem asc_drop {z : Str} (h : Asc z) (n : Nat) : Asc (StrLaws.sliceText z (some (n : Int)) none) := fun c hc => by
  rw [sl_drop] at hc
  exact h c (List.mem_of_mem_drop hc)
theorem asc_app {x y : Str} (h : Asc x) (h' : Asc y) : Asc (x ++ y) := fun c hc => by
  rw [Str.cps_append, Array.toList_append] at hc
  rcases List.mem_append.mp hc with hc | hc
  · exact h c hc
  · exact h' c hc
theorem zero_is : (("0" : String) : Str) = ⟨#[48]⟩ := by decide
abbrev SG : Str := (("0123456789-/ +_.ab\n\t" : String) : Str)
theorem sg_asc : ∀ c ∈ SG.cps.toList, c < 128 := by decide +kernel
/-- a plain text of some length, with some blanks -/
structure Gd (z : Str) (N M : Nat) : Prop where
  l : z.length ≤ N
  a : Asc z
  b : z.cps.toList.count 32 ≤ M
/-- a word -/
structure Gw (z : Str) : Prop where
  a : Asc z
  f : 32 ∉ z.cps.toList
theorem gw_words {z : Str} (h : Asc z) : ∀ x ∈ Txt.split z " ", Gw x := fun x hx => ⟨fun c hc => by
  have h1 := join_mem_cps (c := " ") hx hc
  rw [StrLaws.join_split] at h1
  exact h c h1, by
  rw [blank_is] at hx
  exact StrLaws.split_free z 32 x hx⟩
theorem gd_join {ps : List Str} {N M : Nat} (h : ps ≠ []) (hw : ∀ x ∈ ps, Gw x) (hl : (ps.map (·.length)).sum + ps.length ≤ N + 1) (hm : ps.length ≤ M + 1) : Gd (Txt.join " " ps) N M := by
  have b := join_bl h fun p hp => (hw p hp).f
  have l := join_lb ps h
  refine ⟨by rw [tj]; omega, fun c hc => ?_, by omega⟩
  rw [tj] at hc
  rcases join_memb hc with h | ⟨p, hp, h⟩
  · have : ∀ c ∈ ((" " : String) : Str).cps.toList, c < 128 := by decide
    exact this c h
  · exact (hw p hp).a c h
theorem gw_app {x y : Str} (h : Gw x) (h' : Gw y) : Gw (x ++ y) := ⟨asc_app h.a h'.a, fun hc => by
  rw [Str.cps_append, Array.toList_append] at hc
  rcases List.mem_append.mp hc with hc | hc
  · exact h.f hc
  · exact h'.f hc⟩
theorem gw_ts (i : Int) : Gw (ts i) := ⟨fun c hc => by have := ts_signs _ _ hc; omega, fun hc => by have := ts_signs _ _ hc; omega⟩
theorem gw_mul (n : Int) : Gw (Txt.mul ⟨#[48]⟩ n) := by
  have e := mul_one_list 48 n
  refine ⟨fun d hd => ?_, fun hd => ?_⟩
  · rw [e] at hd
    rw [(List.mem_replicate.mp hd).2]
    decide
  · rw [e] at hd
    exact absurd (List.mem_replicate.mp hd).2 (by decide)
theorem mul_len {n : Int} (h0 : 0 ≤ n) : (Txt.mul ⟨#[48]⟩ n).length = n.toNat := by
  rw [str_len, mul_one_list, List.length_replicate]
theorem joinOk6 {ps : List Str} (h : (ps.map (·.length)).sum + ps.length ≤ 100000) : JoinOk " " ps = true := by
  refine PyProof.Rows.joinOk_of ?_
  rw [blank_len, Nat.mul_one]
  omega
theorem bl_take (z : Str) (n : Nat) : (StrLaws.sliceText z none (some (n : Int))).cps.toList.count 32 + (StrLaws.sliceText z (some (n : Int)) none).cps.toList.count 32 = z.cps.toList.count 32 := by
  rw [sl_take, sl_drop, ← List.count_append, List.take_append_drop]
theorem bl_drop1 (z : Str) (n : Nat) : (StrLaws.sliceText z (some ((n + 1 : Nat) : Int)) none).cps.toList.count 32 ≤ (StrLaws.sliceText z (some (n : Int)) none).cps.toList.count 32 := by
  rw [sl_drop, sl_drop, show z.cps.toList.drop (n + 1) = (z.cps.toList.drop n).drop 1 by rw [List.drop_drop]]
  exact (List.drop_sublist _ _).count_le _
theorem len_take (z : Str) (n : Nat) : (StrLaws.sliceText z none (some (n : Int))).length + (StrLaws.sliceText z (some (n : Int)) none).length = z.length := by
  rw [str_len, str_len, str_len, sl_take, sl_drop, ← List.length_append, List.take_append_drop]
theorem len_drop1 (z : Str) (n : Nat) : (StrLaws.sliceText z (some ((n + 1 : Nat) : Int)) none).length ≤ (StrLaws.sliceText z (some (n : Int)) none).length := by
  rw [str_len, str_len, sl_drop, sl_drop, List.length_drop, List.length_drop]
  omega
theorem bl_app (x y : Str) : (x ++ y).cps.toList.count 32 = x.cps.toList.count 32 + y.cps.toList.count 32 := by
  rw [Str.cps_append, Array.toList_append, List.count_append]
theorem bl_one (c : Nat) : ((⟨#[c]⟩ : Str).cps.toList).count 32 ≤ 1 := by
  show [c].count 32 ≤ 1
  exact List.count_le_length
theorem deqI (a b : Int) : decide (V.int a = V.int b) = decide (a = b) := by
  rw [decide_eq_decide]
  exact ⟨fun h => V.int.inj h, fun h => by rw [h]⟩
section
variable {P : Program} {w : World} {K : PySem.W.Frag} {mg : Str → Option Value} {base : Heap} {C : Addr}
inductive sp_sign (vs : List V) (H : Hp) (Q : VK) (E : XK) : Prop
  | mk (p : Addr) (z : Str) (N M : Nat) (e : vs = [.ref p, .str z]) (hp : PotAt H p) (g : Gd z N M) (hN : N ≤ 15000) (q : ∀ y H', But p H H' → PotAt H' p → Gd y (N + 1) (M + 1) → Q (.str y) H') : sp_sign vs H Q E
theorem sc_sign : FnScope ["_law_pot_here", "_law_text_here", "_law_at", "_law_sign", "_law_way"] ["_law_pot_here", "_law_text_here"] (defScope s_law_sign_spoilt) := ⟨rfl, rfl, rfl, by decide +kernel, rfl, by decide +kernel, by decide +kernel⟩
set_option maxHeartbeats 8000000 in
theorem lsign (T : Txt K mg C) : Can P w K mg base 2 "_law_sign_spoilt" ["_law_pot_here", "_law_text_here"] sp_sign := by
  refine fn_can T.f_law_sign_spoilt sc_sign (fun vs H Q E h => ?_) (fun f cdv A outer s H vs Q E hr h => ?_)
  · obtain ⟨p, z, N, M, rfl, _⟩ := h
    rfl
  · obtain ⟨p, z, N, M, rfl, hp, ⟨hl, asc, hb⟩, hN, q⟩ := h
    refine ⟨_, (pss_cons (ps_set (i := 2) sc_sign.nd rfl (Or.inl rfl) (pe_can (digit T) hr (pa2 (pv 0) (pe_op op_add (pe_b call_len_str T.b_len boot_len (pa1 (pv 1))) pe_int))))
      (pss_cons (ps_set (i := 3) sc_sign.nd rfl (Or.inl rfl) (pe_ix ix_str pe_str (pe_can (digit T) hr (pa2 (pv 0) pe_int)) (fun _ _ => rfl)))
      (pss_cons (ps_set (i := 4) sc_sign.nd rfl (Or.inl rfl) (pe_can (digit T) hr (pa2 (pv 0) pe_int)))
      (pss_cons (ps_if (pt_cmpR op_eq (pv 4) pe_int (nomark _))
        (pss_one (ps_ret (pe_op op_add_str (pe_op op_add_str (pe_slice sl_str (pv 1) po_none (po_some (pv 2))) (pv 3)) (pe_slice sl_str (pv 1) (po_some (pv 2)) po_none))))
        pss_nil)
      (pss_cons (ps_if (pt_cmpR op_eq (pv 4) pe_int (nomark _))
        (pss_one (ps_ret (pe_op op_add_str (pe_slice sl_str (pv 1) po_none (po_some (pv 2))) (pe_slice sl_str (pv 1) (po_some (pe_op op_add (pv 2) pe_int)) po_none))))
        pss_nil)
      (pss_one (ps_ret (pe_op op_add_str (pe_op op_add_str (pe_slice sl_str (pv 1) po_none (po_some (pv 2))) (pv 3)) (pe_slice sl_str (pv 1) (po_some (pe_op op_add (pv 2) pe_int)) po_none))))))))), ?_⟩
    refine ⟨_, rfl, _, rfl, _, rfl, line6 (by omega), _, _, rfl, rfl, p, _, rfl, hp, by omega, Int.lt_trans (b := 100000) (by omega) (by decide +kernel), fun at' H2 a0 a1 c2 p2 => ?_⟩
    obtain ⟨n, rfl⟩ : ∃ n : Nat, at' = n := ⟨at'.toNat, by omega⟩
    refine ⟨_, rfl, p, 20, rfl, p2, by decide, by decide +kernel, fun sg H4 s0 s1 c4 p4 => ?_⟩
    have sgl : SG.cps.toList.length = 20 := by decide
    obtain ⟨k, rfl⟩ : ∃ k : Nat, sg = k := ⟨sg.toNat, by omega⟩
    have hk : k < SG.cps.toList.length := by omega
    have hsg : SG.cps.toList[k]? = some SG.cps.toList[k] := List.getElem?_eq_getElem hk
    generalize SG.cps.toList[k] = c at hsg
    have c128 : c < 128 := sg_asc c (List.mem_of_getElem? hsg)
    have casc : Asc ⟨#[c]⟩ := fun d hd => by
      have : d ∈ [c] := hd
      rw [List.mem_singleton.mp this]; exact c128
    have clen : (⟨#[c]⟩ : Str).length = 1 := rfl
    have cb := bl_one c
    refine ⟨SG, _, c, rfl, rfl, by decide, atI_nat hsg, ?_⟩
    refine ⟨_, rfl, p, 3, rfl, p4, by decide, by decide +kernel, fun wy H6 w0 w1 c6 p6 => ?_⟩
    have cc : But p H H6 := (c2.trans c4).trans c6
    have e1n : ((n : Int) + 1) = ((n + 1 : Nat) : Int) := by omega
    have lt := len_take z n
    have ld := len_drop1 z n
    have bt := bl_take z n
    have bd := bl_drop1 z n
    refine ⟨_, rfl, rfl, _, rfl, ?_⟩
    rw [deqI]
    by_cases h0 : wy = 0
    · refine iteC (decide_eq_true h0) ?_
      refine ⟨_, rfl, _, rfl, _, rfl, .mk z rfl (by omega) ⟨_, rfl, _, _, rfl, rfl, line6 (by omega), ?_⟩⟩
      refine ⟨_, rfl, _, rfl, _, rfl, .mk z rfl (by omega) ⟨_, _, rfl, rfl, line6 (by simp only [Str.length_append]; omega), ?_⟩⟩
      exact q _ _ cc p6 ⟨by simp only [Str.length_append]; omega, asc_app (asc_app (asc_take asc n) casc) (asc_drop asc n), by rw [bl_app, bl_app]; omega⟩
    refine iteD (decide_eq_false h0) ⟨_, rfl, rfl, _, rfl, ?_⟩
    rw [deqI]
    by_cases h1 : wy = 1
    · refine iteC (decide_eq_true h1) ?_
      refine ⟨_, rfl, _, rfl, _, rfl, .mk z rfl (by omega) ?_⟩
      refine ⟨_, rfl, _, rfl, _, _, rfl, rfl, _, rfl, ?_⟩
      rw [e1n]
      refine .mk z rfl (by omega) ⟨_, _, rfl, rfl, line6 (by omega), ?_⟩
      exact q _ _ cc p6 ⟨by simp only [Str.length_append]; omega, asc_app (asc_take asc n) (asc_drop asc (n + 1)), by rw [bl_app]; omega⟩
    refine iteD (decide_eq_false h1) ?_
    refine ⟨_, rfl, _, rfl, _, rfl, .mk z rfl (by omega) ⟨_, rfl, _, _, rfl, rfl, line6 (by omega), ?_⟩⟩
    refine ⟨_, rfl, _, rfl, _, _, rfl, rfl, _, rfl, ?_⟩
    rw [e1n]
    refine .mk z rfl (by omega) ⟨_, _, rfl, rfl, line6 (by simp only [Str.length_append]; omega), ?_⟩
    exact q _ _ cc p6 ⟨by simp only [Str.length_append]; omega, asc_app (asc_app (asc_take asc n) casc) (asc_drop asc (n + 1)), by rw [bl_app, bl_app]; omega⟩
end
end Pr
set_option Elab.async false
set_option linter.all false
set_option maxRecDepth 100000
/-! texts spoilt by words -/
namespace Pr
open PySem L2 PyProof.Rows Ent Any
theorem Gd.mono {z : Str} {N M N' M' : Nat} (h : Gd z N M) (a : N ≤ N') (b : M ≤ M') : Gd z N' M' := ⟨Nat.le_trans h.l a, h.a, Nat.le_trans h.b b⟩
theorem sum_app {l l' : List Str} : ((l ++ l').map (·.length)).sum = (l.map (·.length)).sum + (l'.map (·.length)).sum := by
  rw [List.map_append, List.sum_append]
theorem sum_one (x : Str) : ([x].map (·.length)).sum = x.length := by simp
section
variable {P : Program} {w : World} {K : PySem.W.Frag} {mg : Str → Option Value} {base : Heap} {C : Addr}
inductive sp_spoilt (vs : List V) (H : Hp) (Q : VK) (E : XK) : Prop
  | mk (p : Addr) (z : Str) (n N M : Nat) (e : vs = [.ref p, .str z, .int (n + 1)]) (hn : n ≤ 4) (hp : PotAt H p) (g : Gd z N M) (hN : N ≤ 15000) (h50 : 50 ≤ N) (q : ∀ y H', But p H H' → PotAt H' p → Gd y (3 * N) (M + 1) → Q (.str y) H') : sp_spoilt vs H Q E
theorem sc_spoilt : FnScope ["_law_pot_here", "_law_text_here", "_law_rolls", "_law_way", "_law_words", "_law_at"] ["_law_pot_here", "_law_text_here", "_law_rolls"] (defScope s_law_spoilt) := ⟨rfl, rfl, rfl, by decide +kernel, rfl, by decide +kernel, by decide +kernel⟩
set_option maxHeartbeats 8000000 in
theorem lspoilt (T : Txt K mg C) : Can P w K mg base 3 "_law_spoilt" ["_law_pot_here", "_law_text_here", "_law_rolls"] sp_spoilt := by
  refine fn_can T.f_law_spoilt sc_spoilt (fun vs H Q E h => ?_) (fun f cdv A outer s H vs Q E hr h => ?_)
  · obtain ⟨p, z, n, N, M, rfl, _⟩ := h
    rfl
  · obtain ⟨p, z, n, N, M, rfl, hn, hp, g, hN, h50, q⟩ := h
    refine ⟨_, (pss_cons (ps_set (i := 3) sc_spoilt.nd rfl (Or.inl rfl) (pe_can (digit T) hr (pa2 (pv 0) pe_int)))
      (pss_cons (ps_set (i := 4) sc_spoilt.nd rfl (Or.inl rfl) (pe_bmK K PySem.F.plainAttrs_str PySem.F.slot_str_split PySem.F.type_str_split mt_split (pv 1) (pa1 pe_str)))
      (pss_cons (ps_set (i := 5) sc_spoilt.nd rfl (Or.inl rfl) (pe_can (digit T) hr (pa2 (pv 0) (pe_b (call_lenK K) T.b_len boot_len (pa1 (pv 4))))))
      (pss_cons (ps_if (pt_cmpR op_lt (pv 3) pe_int (nomark _))
        (pss_one (ps_ret (pe_can (lsign T) hr (pa2 (pv 0) (pv 1)))))
        pss_nil)
      (pss_cons (ps_if (pt_cmpR op_eq (pv 3) pe_int (nomark _))
        (pss_one (ps_ret (pe_bmK K PySem.F.plainAttrs_str PySem.F.slot_str_join PySem.F.type_str_join mt_join pe_str (pa1 (pe_op op_cat (pe_op op_cat (pe_slice (sl_listK K) (pv 4) po_none (po_some (pv 5))) (pe_lst (pa1 (pe_ix (ix_listK K) (pv 4) (pv 5) (fun _ _ => rfl))))) (pe_slice (sl_listK K) (pv 4) (po_some (pv 5)) po_none))))))
        pss_nil)
      (pss_cons (ps_if (pt_cmpR op_eq (pv 3) pe_int (nomark _))
        (pss_one (ps_ret (pe_bmK K PySem.F.plainAttrs_str PySem.F.slot_str_join PySem.F.type_str_join mt_join pe_str (pa1 (pe_op op_cat (pe_slice (sl_listK K) (pv 4) (po_some (pv 5)) po_none) (pe_slice (sl_listK K) (pv 4) po_none (po_some (pv 5))))))))
        pss_nil)
      (pss_cons (ps_if (pt_cmpR op_eq (pv 3) pe_int (nomark _))
        (pss_one (ps_ret (pe_bmK K PySem.F.plainAttrs_str PySem.F.slot_str_join PySem.F.type_str_join mt_join pe_str (pa1 (pe_op op_cat (pe_slice (sl_listK K) (pv 4) po_none (po_some (pv 5))) (pe_lst (pa1 (pe_op op_add_str (pe_t call_str_int T.b_str boot_str (pa1 (pe_op op_add (pv 2) (pe_can (digit T) hr (pa2 (pv 0) pe_int))))) pe_str))))))))
        pss_nil)
      (pss_one (ps_ret (pe_bmK K PySem.F.plainAttrs_str PySem.F.slot_str_join PySem.F.type_str_join mt_join pe_str (pa1 (pe_op op_cat (pe_slice (sl_listK K) (pv 4) po_none (po_some (pv 5))) (pe_lst (pa1 (pe_op op_add_str (pe_op op_add_str pe_str pe_str) (pe_op op_mulS pe_str (pe_op op_add pe_int (pe_can (digit T) hr (pa2 (pv 0) pe_int))))))))))))))))))), ?_⟩
    refine ⟨_, rfl, p, 7, rfl, hp, by decide, by decide +kernel, fun wy H1 w0 w1 c1 p1 => ?_⟩
    have gl := g.l
    have snn : Txt.split z " " ≠ [] := split_ne z (by decide +kernel)
    have gw := gw_words g.a
    have swl := words_len z
    have gb := g.b
    have jlb := join_lb _ snn
    rw [StrLaws.join_split] at jlb
    have scn := split_cnt z " " (by decide)
    refine ⟨_, rfl, rfl, _, _, rfl, rfl, by decide, line6 (by omega), line6 (by omega), fun W hW => ?_⟩
    generalize Txt.split z " " = ws at *
    have s2 := Same.upd (H := H1) (o := .lst (ws.map V.str)) hW
    have k2 : (upd H1 W (.lst (ws.map V.str))) W = some (.lst (ws.map V.str)) := upd_same
    have nW := p1.ne hW
    generalize (upd H1 W (.lst (ws.map V.str))) = H2 at s2 k2
    have p2 := p1.same s2
    have wl : 0 < ws.length := List.length_pos_iff.mpr snn
    have wml : ((ws.map V.str).length : Int) = ws.length := by rw [List.length_map]
    refine ⟨_, rfl, _, rfl, W, _, rfl, .inl (.of k2), p, _, rfl, p2, by rw [wml]; omega, by rw [wml]; exact Int.lt_trans (b := 100000) (by omega) (by decide +kernel), fun at' H3 a0 a1 c3 p3 => ?_⟩
    rw [wml] at a1
    obtain ⟨r, rfl⟩ : ∃ r : Nat, at' = r := ⟨at'.toNat, by omega⟩
    have hrl : r < ws.length := by omega
    have k3 := c3 _ _ k2 nW
    have cc : But p H H3 := (c1.trans s2.but).trans c3
    have st := sum_take (fun x : Str => x.length) ws r
    have tw : ∀ x ∈ ws.take r, Gw x := fun x hx => gw x (List.mem_of_mem_take hx)
    have dw : ∀ x ∈ ws.drop r, Gw x := fun x hx => gw x (List.mem_of_mem_drop hx)
    have tl : (ws.take r).length = r := by rw [List.length_take]; omega
    have dl : (ws.drop r).length = ws.length - r := List.length_drop
    have vt : (ws.map V.str).take r = (ws.take r).map V.str := by rw [List.map_take]
    have vd : (ws.map V.str).drop r = (ws.drop r).map V.str := by rw [List.map_drop]
    refine ⟨_, rfl, _, _, rfl, rfl, _, rfl, ?_⟩
    by_cases h0 : wy < 3
    · refine iteC (decide_eq_true h0) ⟨_, rfl, _, rfl, .mk p z N M rfl p3 g hN fun y H4 c4 p4 gy => ?_⟩
      exact q y H4 (cc.trans c4) p4 (gy.mono (by omega) (Nat.le_refl _))
    refine iteD (decide_eq_false h0) ⟨_, rfl, rfl, _, rfl, ?_⟩
    rw [deqI]
    by_cases h3 : wy = 3
    · refine iteC (decide_eq_true h3) ?_
      refine ⟨rfl, _, rfl, _, rfl, _, rfl, W, _, rfl, .of k3, fun A1 hA1 => ?_⟩
      rw [cut_to, vt]
      have s4 := Same.upd (H := H3) (o := .lst ((ws.take r).map V.str)) hA1
      have k4 : (upd H3 A1 (.lst ((ws.take r).map V.str))) A1 = some (.lst ((ws.take r).map V.str)) := upd_same
      generalize (upd H3 A1 (.lst ((ws.take r).map V.str))) = H4 at s4 k4
      have hgx : (ws.map V.str)[r]? = some (.str ws[r]) := by rw [List.getElem?_map, List.getElem?_eq_getElem hrl]; rfl
      refine ⟨_, rfl, _, rfl, W, _, _, _, rfl, rfl, .of (s4 _ _ k3), atI_nat hgx, one_line, fun A2 hA2 => ?_⟩
      have s5 := Same.upd (H := H4) (o := .lst [.str ws[r]]) hA2
      have k5 : (upd H4 A2 (.lst [.str ws[r]])) A2 = some (.lst [.str ws[r]]) := upd_same
      generalize (upd H4 A2 (.lst [.str ws[r]])) = H5 at s5 k5
      refine ⟨A1, A2, _, _, rfl, rfl, s5 _ _ k4, k5, line6 (by rw [List.length_map, tl, List.length_singleton]; omega), fun A3 hA3 => ?_⟩
      have s6 := Same.upd (H := H5) (o := .lst ((ws.take r).map V.str ++ [.str ws[r]])) hA3
      have k6 : (upd H5 A3 (.lst ((ws.take r).map V.str ++ [.str ws[r]]))) A3 = some (.lst ((ws.take r).map V.str ++ [.str ws[r]])) := upd_same
      generalize (upd H5 A3 (.lst ((ws.take r).map V.str ++ [.str ws[r]]))) = H6 at s6 k6
      refine ⟨_, rfl, _, rfl, _, rfl, W, _, rfl, .of (s6 _ _ (s5 _ _ (s4 _ _ k3))), fun A4 hA4 => ?_⟩
      rw [cut_from (by rw [List.length_map]; omega), vd]
      have s7 := Same.upd (H := H6) (o := .lst ((ws.drop r).map V.str)) hA4
      have k7 : (upd H6 A4 (.lst ((ws.drop r).map V.str))) A4 = some (.lst ((ws.drop r).map V.str)) := upd_same
      generalize (upd H6 A4 (.lst ((ws.drop r).map V.str))) = H7 at s7 k7
      refine ⟨A3, A4, _, _, rfl, rfl, s7 _ _ k6, k7, line6 (by simp only [List.length_append, List.length_map, List.length_singleton, tl, dl]; omega), fun A5 hA5 => ?_⟩
      have e8 : (ws.take r).map V.str ++ [V.str ws[r]] ++ (ws.drop r).map V.str = (ws.take r ++ [ws[r]] ++ ws.drop r).map V.str := by simp only [List.map_append]; rfl
      rw [e8]
      have s8 := Same.upd (H := H7) (o := .lst ((ws.take r ++ [ws[r]] ++ ws.drop r).map V.str)) hA5
      have k8 : (upd H7 A5 (.lst ((ws.take r ++ [ws[r]] ++ ws.drop r).map V.str))) A5 = some (.lst ((ws.take r ++ [ws[r]] ++ ws.drop r).map V.str)) := upd_same
      generalize (upd H7 A5 (.lst ((ws.take r ++ [ws[r]] ++ ws.drop r).map V.str))) = H8 at s8 k8
      have s38 : Same H3 H8 := s4.trans (s5.trans (s6.trans (s7.trans s8)))
      have wr : ws[r].length ≤ (ws.map (·.length)).sum := by
        have h1 := sum_take (fun x : Str => x.length) ws r
        have h2 : ws.drop r = ws[r] :: ws.drop (r + 1) := List.drop_eq_getElem_cons hrl
        rw [h2, List.map_cons, List.sum_cons] at h1
        omega
      have hs : ((ws.take r ++ [ws[r]] ++ ws.drop r).map (·.length)).sum + (ws.take r ++ [ws[r]] ++ ws.drop r).length ≤ 2 * N + 3 ∧ (ws.take r ++ [ws[r]] ++ ws.drop r).length = ws.length + 1 := by
        have h1 : (ws.take r ++ [ws[r]] ++ ws.drop r).length = ws.length + 1 := by rw [List.length_append, List.length_append, tl, dl, List.length_singleton]; omega
        refine ⟨?_, h1⟩
        rw [h1, sum_app, sum_app, sum_one]
        omega
      refine ⟨_, A5, _, rfl, rfl, .of k8, joinOk6 (by omega), q _ H8 (cc.trans s38.but) (p3.same s38) (gd_join (fun e => by have h9 := hs.2; rw [e] at h9; cases h9) (fun x hx => ?_) (by omega) (by omega))⟩
      rcases List.mem_append.mp hx with h | h
      · rcases List.mem_append.mp h with h | h
        · exact tw x h
        · rw [List.mem_singleton.mp h]; exact gw _ (List.getElem_mem hrl)
      · exact dw x h
    refine iteD (decide_eq_false h3) ⟨_, rfl, rfl, _, rfl, ?_⟩
    rw [deqI]
    by_cases h4 : wy = 4
    · refine iteC (decide_eq_true h4) ?_
      refine ⟨rfl, _, rfl, _, rfl, _, rfl, W, _, rfl, .of k3, fun A1 hA1 => ?_⟩
      rw [cut_from (by rw [List.length_map]; omega), vd]
      have s4 := Same.upd (H := H3) (o := .lst ((ws.drop r).map V.str)) hA1
      have k4 : (upd H3 A1 (.lst ((ws.drop r).map V.str))) A1 = some (.lst ((ws.drop r).map V.str)) := upd_same
      generalize (upd H3 A1 (.lst ((ws.drop r).map V.str))) = H4 at s4 k4
      refine ⟨_, rfl, _, rfl, _, rfl, W, _, rfl, .of (s4 _ _ k3), fun A2 hA2 => ?_⟩
      rw [cut_to, vt]
      have s5 := Same.upd (H := H4) (o := .lst ((ws.take r).map V.str)) hA2
      have k5 : (upd H4 A2 (.lst ((ws.take r).map V.str))) A2 = some (.lst ((ws.take r).map V.str)) := upd_same
      generalize (upd H4 A2 (.lst ((ws.take r).map V.str))) = H5 at s5 k5
      refine ⟨A1, A2, _, _, rfl, rfl, s5 _ _ k4, k5, line6 (by simp only [List.length_map, tl, dl]; omega), fun A5 hA5 => ?_⟩
      rw [← List.map_append]
      have s8 := Same.upd (H := H5) (o := .lst ((ws.drop r ++ ws.take r).map V.str)) hA5
      have k8 : (upd H5 A5 (.lst ((ws.drop r ++ ws.take r).map V.str))) A5 = some (.lst ((ws.drop r ++ ws.take r).map V.str)) := upd_same
      generalize (upd H5 A5 (.lst ((ws.drop r ++ ws.take r).map V.str))) = H8 at s8 k8
      have s38 : Same H3 H8 := s4.trans (s5.trans s8)
      have hl' : (ws.drop r ++ ws.take r).length = ws.length := by rw [List.length_append, tl, dl]; omega
      have hs : ((ws.drop r ++ ws.take r).map (·.length)).sum = (ws.map (·.length)).sum := by rw [sum_app]; omega
      have hne : ws.drop r ++ ws.take r ≠ [] := fun e => by rw [e] at hl'; simp at hl'; omega
      refine ⟨_, A5, _, rfl, rfl, .of k8, joinOk6 (by rw [hs, hl']; omega), q _ H8 (cc.trans s38.but) (p3.same s38) (gd_join hne (fun x hx => ?_) (by rw [hs, hl']; omega) (by omega))⟩
      rcases List.mem_append.mp hx with h | h
      · exact dw x h
      · exact tw x h
    refine iteD (decide_eq_false h4) ⟨_, rfl, rfl, _, rfl, ?_⟩
    rw [deqI]
    have last : ∀ (y : Str), Gw y → y.length ≤ 50 → Gd (Txt.join " " (ws.take r ++ [y])) (3 * N) (M + 1) ∧ JoinOk " " (ws.take r ++ [y]) = true := fun y gy yl => by
      have hl' : (ws.take r ++ [y]).length = r + 1 := by rw [List.length_append, tl]; rfl
      have hs : ((ws.take r ++ [y]).map (·.length)).sum ≤ (ws.map (·.length)).sum + y.length := by rw [sum_app, sum_one]; omega
      refine ⟨gd_join (by simp) (fun x hx => ?_) (by rw [hl']; omega) (by omega), joinOk6 (by rw [hl']; omega)⟩
      rcases List.mem_append.mp hx with h | h
      · exact tw x h
      · rw [List.mem_singleton.mp h]; exact gy
    by_cases h5 : wy = 5
    · refine iteC (decide_eq_true h5) ?_
      refine ⟨rfl, _, rfl, _, rfl, _, rfl, W, _, rfl, .of k3, fun A1 hA1 => ?_⟩
      rw [cut_to, vt]
      have s4 := Same.upd (H := H3) (o := .lst ((ws.take r).map V.str)) hA1
      have k4 : (upd H3 A1 (.lst ((ws.take r).map V.str))) A1 = some (.lst ((ws.take r).map V.str)) := upd_same
      have n1 := p3.ne hA1
      generalize (upd H3 A1 (.lst ((ws.take r).map V.str))) = H4 at s4 k4
      refine ⟨_, rfl, _, rfl, p, 2, rfl, p3.same s4, by decide, by decide +kernel, fun d5 H5 b0 b1 c5 p5 => ⟨_, _, rfl, rfl, ?_⟩⟩
      have m40 : ((n : Int) + 1 + d5).natAbs < 10 ^ 40 := Nat.lt_of_lt_of_le (m := 10) (by omega) (by decide +kernel)
      have tl1 : (Str.ofString (toString ((n : Int) + 1 + d5))).length ≤ 41 := Ent.ts_len m40
      have sl : (("/0" : String) : Str).length = 2 := by decide
      refine ⟨_, rfl, Ent.ts_log m40, _, _, rfl, rfl, line6 (by omega), one_line, fun A2 hA2 => ?_⟩
      have gy : Gw (Str.ofString (toString ((n : Int) + 1 + d5)) ++ (("/0" : String) : Str)) := gw_app (gw_ts _) ⟨by decide, by decide⟩
      have yl : (Str.ofString (toString ((n : Int) + 1 + d5)) ++ (("/0" : String) : Str)).length ≤ 50 := by simp only [Str.length_append]; omega
      generalize (Str.ofString (toString ((n : Int) + 1 + d5)) ++ (("/0" : String) : Str)) = y at gy yl hA2 ⊢
      have s6 := Same.upd (H := H5) (o := .lst [.str y]) hA2
      have k6 : (upd H5 A2 (.lst [.str y])) A2 = some (.lst [.str y]) := upd_same
      generalize (upd H5 A2 (.lst [.str y])) = H6 at s6 k6
      refine ⟨A1, A2, _, _, rfl, rfl, s6 _ _ (c5 _ _ k4 n1), k6, line6 (by rw [List.length_map, tl, List.length_singleton]; omega), fun A5 hA5 => ?_⟩
      have e8 : (ws.take r).map V.str ++ [V.str y] = (ws.take r ++ [y]).map V.str := by rw [List.map_append]; rfl
      rw [e8]
      obtain ⟨g1, g2⟩ := last y gy yl
      exact ⟨_, A5, _, rfl, rfl, .of upd_same, g2, q _ _ ((((cc.trans s4.but).trans c5).trans s6.but).trans (Same.upd hA5).but) ((p5.same s6).same (Same.upd hA5)) g1⟩
    · refine iteD (decide_eq_false h5) ?_
      refine ⟨rfl, _, rfl, _, rfl, _, rfl, W, _, rfl, .of k3, fun A1 hA1 => ?_⟩
      rw [cut_to, vt]
      have s4 := Same.upd (H := H3) (o := .lst ((ws.take r).map V.str)) hA1
      have k4 : (upd H3 A1 (.lst ((ws.take r).map V.str))) A1 = some (.lst ((ws.take r).map V.str)) := upd_same
      have n1 := p3.ne hA1
      generalize (upd H3 A1 (.lst ((ws.take r).map V.str))) = H4 at s4 k4
      refine ⟨_, _, rfl, rfl, by decide, _, rfl, p, 2, rfl, p3.same s4, by decide, by decide +kernel, fun d5 H5 b0 b1 c5 p5 => ⟨_, _, rfl, rfl, ?_⟩⟩
      have ml := mul_len (n := 40 + d5) (by omega)
      have l1 : (("0" : String) : Str).length = 1 := by decide
      have mg' := gw_mul (40 + d5)
      rw [← zero_is] at ml mg'
      have l3 : ((("0/" : String) : Str) ++ (("1" : String) : Str)).length = 3 := by decide
      refine .mk _ _ rfl rfl (by omega) (by omega) (by rw [l1]; omega) ⟨_, _, rfl, rfl, line6 (by omega), one_line, fun A2 hA2 => ?_⟩
      have gy : Gw ((("0/" : String) : Str) ++ (("1" : String) : Str) ++ Txt.mul (("0" : String) : Str) (40 + d5)) := gw_app (gw_app ⟨by decide, by decide⟩ ⟨by decide, by decide⟩) mg'
      have yl : ((("0/" : String) : Str) ++ (("1" : String) : Str) ++ Txt.mul (("0" : String) : Str) (40 + d5)).length ≤ 50 := by rw [Str.length_append, l3]; omega
      generalize ((("0/" : String) : Str) ++ (("1" : String) : Str) ++ Txt.mul (("0" : String) : Str) (40 + d5)) = y at gy yl hA2 ⊢
      have s6 := Same.upd (H := H5) (o := .lst [.str y]) hA2
      have k6 : (upd H5 A2 (.lst [.str y])) A2 = some (.lst [.str y]) := upd_same
      generalize (upd H5 A2 (.lst [.str y])) = H6 at s6 k6
      refine ⟨A1, A2, _, _, rfl, rfl, s6 _ _ (c5 _ _ k4 n1), k6, line6 (by rw [List.length_map, tl, List.length_singleton]; omega), fun A5 hA5 => ?_⟩
      have e8 : (ws.take r).map V.str ++ [V.str y] = (ws.take r ++ [y]).map V.str := by rw [List.map_append]; rfl
      rw [e8]
      obtain ⟨g1, g2⟩ := last y gy yl
      exact ⟨_, A5, _, rfl, rfl, .of upd_same, g2, q _ _ ((((cc.trans s4.but).trans c5).trans s6.but).trans (Same.upd hA5).but) ((p5.same s6).same (Same.upd hA5)) g1⟩
end
end Pr
set_option Elab.async false
set_option linter.all false
set_option maxRecDepth 100000
namespace L2
open PySem PyProof.Rows
variable {K : PySem.W.Frag} {x qual : Str} {st : Stmt} {g : Addr} {fd : FuncData} {p q r s t u v : Str}
end L2
set_option Elab.async false
set_option linter.all false
set_option maxRecDepth 100000
/-! reversed(l) of a list, walked by a for. -/
namespace L2
open PySem PySem.Spec PyProof.Rows
/-- from the last item to the first -/
def Itw (K : PySem.W.Frag) (a : Addr) (n : Nat) : It :=
  ⟨fun i H => ∃ xs x, SqL K H a xs ∧ xs.length = n ∧ i < n ∧ xs[n - 1 - i]? = some x, fun i H x H' => H' = H ∧ ∀ xs, SqL K H a xs → xs[n - 1 - i]? = some x, fun i _ => i = n⟩
theorem turn_rvl {P : Program} {w : World} {K : PySem.W.Frag} {tg : Expr} (a it : Addr) (n : Nat) : Turn P w K tg (Itw K a n) [it] it (fun i h => h.IsRevIter it a ((n : Int) - 1 - (i : Int)) ∧ True) where
  mem := by simp
  obj := fun i h st b hb => by
    have e : b = it := by simpa using hb
    subst e
    obtain ⟨⟨o, e, c, d⟩, _⟩ := st
    exact ⟨o, e, fun v z => by rw [d] at z; cases z⟩
  keep := fun i h h' st k => ⟨st.1.at fun o e => k it (by simp) o e, trivial⟩
  item := by
    intro X hP hw hK hc i pins s σ H E I hf st hg
    subst hP hw hK
    obtain ⟨xs, x, hq, hlen, hin, hx⟩ := hg
    obtain ⟨its, rv, p, hz⟩ := I.list hq
    obtain ⟨u, hu, ru⟩ := rv.get hx
    obtain ⟨f0, f1, f2, f3, f4, f5⟩ := hf it (by simp)
    have hl := rv.length
    have e1 : (n : Int) - 1 - (i : Int) = ((n - 1 - i : Nat) : Int) := by omega
    have st1 := st.1
    rw [e1] at st1
    have p' : s.heap.IsList a its.toArray := by
      obtain ⟨o, k, h1, h2, h3, h4⟩ := p
      exact ⟨o, h1, h2, k, h4⟩
    refine wpAny_pyNext_rev_item st1 p' (x := u) (by simpa using hu) fun h' st' sb => ?_
    have I1 : Inv X pins σ H { s with heap := h' } := I.turned (t' := s.toks) (fun b o hb e => (sb.2 b hb).trans e) f0 f1 f3 f4 f5
    obtain ⟨o, e, c, d⟩ := id st'
    have e2 : ((n - 1 - i : Nat) : Int) - 1 = (n : Int) - 1 - ((i + 1 : Nat) : Int) := by omega
    rw [e2] at st'
    exact ⟨u, rfl, go_of (s := { s with heap := h' }) e c d (by decide) ⟨x, H, I1, ru, ⟨rfl, fun ys hy => by rw [I.list_inj hy hq]; exact hx⟩, ⟨st', trivial⟩, fun b hb => (hf b hb).1⟩⟩
  done := by
    intro X hP hw hK hc i pins s σ H E I hf st hg
    subst hP hw hK
    have hg : i = n := hg
    obtain ⟨f0, f1, f2, f3, f4, f5⟩ := hf it (by simp)
    have e1 : (n : Int) - 1 - (i : Int) = -1 := by omega
    have st1 := st.1
    rw [e1] at st1
    exact wpAny_pyNext_rev_end (I.ok.hd hc) st1 fun h' eb => ⟨rfl, I.turned (t' := s.toks) (fun b o hb e => eb b o hb e) f0 f1 f3 f4 f5⟩
  self := fun _ _ _ _ _ st h => wpAny_pyIter_revIter st.1 h
section
variable {X : Cx} {tg : Expr}
inductive iRevLX (K : PySem.W.Frag) (R : It → Hp → Prop) (vs : List V) (H1 : Hp) : Prop
  | mk (a : Addr) (xs : List V) (e : vs = [.ref a]) (h : SqL K H1 a xs) (q : R (Itw K a xs.length) H1) : iRevLX K R vs H1
def iRevL (K : PySem.W.Frag) (ta : TA) : TI := fun σ H R => ta σ H fun vs H1 => iRevLX K R vs H1
theorem pi_revL {a : Expr} {ta : TA} {p pos : Pos} (hg : Gl X "reversed") (hm : X.mg "reversed" = none) (ha : PA X [a] ta) (hs : starEach [a] X.env = [(false, eval a X.env)] := by rfl) : PI X tg (.Call (.Name "reversed" p) [a] [] pos) (iRevL X.K ta) := by
  intro pins s σ H R I h
  refine Call_ (ld_blt I hg hm boot_reversed (PyProof.Rows.callWith_type1 (thn (ha pos pins s σ H _ I h) fun us s1 ⟨vs, H1, I1, r1, q1⟩ => ?_) hs rfl))
  obtain ⟨a, xs, e, hq, q⟩ := q1
  subst e
  obtain ⟨u, rfl, rx⟩ := vals1 r1
  cases rx
  obtain ⟨its, rv, pl, hz⟩ := I1.list hq
  have hl := rv.length
  have p' : s1.heap.IsList a its.toArray := by
    obtain ⟨o, k, h1, h2, h3, h4⟩ := pl
    exact ⟨o, h1, h2, k, h4⟩
  refine call_reversed_list p' ?_
  have st : (s1.heap.push (revObj a ((its.toArray.size : Int) - 1))).IsRevIter s1.heap.objs.size a ((xs.length : Int) - 1 - ((0 : Nat) : Int)) := by
    refine ⟨_, Heap.get?_push_size _ rfl, rfl, ?_⟩
    show Data.fields #[Value.ref a, rawInt ((its.toArray.size : Int) - 1)] = _
    rw [List.size_toArray, hl]
    congr 3
    simp
  refine wpAny_pyIter_revIter (s := { s1 with heap := s1.heap.push (revObj a ((its.toArray.size : Int) - 1)) }) st ?_
  refine ⟨s1.heap.objs.size, [s1.heap.objs.size], _, _, H1, rfl, I1.kept fun b o e => Heap.get?_push_of_some _ e, turn_rvl a _ xs.length, ⟨st, trivial⟩, fun b hb => ?_, q⟩
  have e : b = s1.heap.objs.size := by simpa using hb
  subst e
  exact I1.fpOk (Nat.le_refl _) (I1.hok.fresh (Nat.le_refl _))
theorem pi_revLK (K : PySem.W.Frag) {a : Expr} {ta : TA} {p pos : Pos} (hg : Gl X "reversed") (hm : X.mg "reversed" = none) (ha : PA X [a] ta) (hs : starEach [a] X.env = [(false, eval a X.env)] := by rfl) (e : X.K = K := by rfl) : PI X tg (.Call (.Name "reversed" p) [a] [] pos) (iRevL K ta) := by subst e; exact pi_revL hg hm ha hs
end
/-- over reversed(l) -/
theorem for_revL {K : PySem.W.Frag} {a : Addr} {xs : List V} {g : TG} {tb : TS} {D : Ends} {σ : St} {H : Hp} (Pv : Nat → St → Hp → Prop) (h0 : Pv 0 σ H) (hl : ∀ i σ H, i ≤ xs.length → Pv i σ H → SqL K H a xs)
    (hs : ∀ i x σ H, i < xs.length → xs[xs.length - 1 - i]? = some x → Pv i σ H → g x σ H fun σ2 H2 => tb { D with nx := Pv (i + 1), ct := Pv (i + 1), bk := D.nx } σ2 H2) (hd : ∀ σ H, Pv xs.length σ H → D.nx σ H) :
    ∃ W : Nat → Nat → St → Hp → Prop, (∃ m, W 0 m σ H) ∧ ∀ i m σ H, W i m σ H →
      ((Itw K a xs.length).stop i H ∧ D.nx σ H) ∨ ((Itw K a xs.length).go i H ∧ ∃ N : St → Hp → Prop, (∀ σ' H', N σ' H' → ∃ m', m' < m ∧ W (i + 1) m' σ' H') ∧ ∀ x H', (Itw K a xs.length).yld i H x H' → g x σ H' fun σ2 H2 => tb { D with nx := N, ct := N, bk := D.nx } σ2 H2) := by
  refine ⟨fun i m σ H => m = xs.length - i ∧ i ≤ xs.length ∧ Pv i σ H, ⟨xs.length, by simp, Nat.zero_le _, h0⟩, ?_⟩
  rintro i m σ H ⟨rfl, hi, p⟩
  have q := hl i σ H hi p
  by_cases hlt : i < xs.length
  · refine .inr ⟨⟨xs, xs[xs.length - 1 - i]'(by omega), q, rfl, hlt, List.getElem?_eq_getElem _⟩, Pv (i + 1), fun σ' H' p' => ⟨xs.length - (i + 1), by omega, rfl, hlt, p'⟩, fun x H' y => ?_⟩
    obtain ⟨e, y⟩ := y
    subst e
    exact hs i x σ _ hlt (y xs q) p
  · have e : i = xs.length := by omega
    subst e
    exact .inl ⟨rfl, hd σ H p⟩
end L2
set_option Elab.async false
set_option linter.all false
set_option maxRecDepth 100000
/-! the law of locks written -/
namespace Pr
open PySem L2 PyProof.Rows Ent Any
theorem Same.butF {HX H1 H2 : Hp} {p : Addr} (s : Same HX H1) (c : But p H1 H2) (hp : HX p = none) : Same HX H2 := fun b o e => c _ _ (s _ _ e) (ne_of_none e hp)
theorem LadAt.butD {C : Addr} {H H' : Hp} {d x : Addr} {b : Int} {ps : List Int} {rows : List Lad.Step} {kvs : List (List Key × V)} (hd : H d = some (.dT kvs)) (c : But d H H') (hL : LadAt C H x b ps rows) : LadAt C H' x b ps rows := by
  obtain ⟨ldx, a1, a2, a3, us', j1, j2, j3, j4, j5⟩ := hL
  have tp : ∀ b' ys, H b' = some (.tup ys) → H' b' = some (.tup ys) := fun b' ys h => c _ _ h fun z => by rw [z, hd] at h; cases h
  refine ⟨ldx, a1, a2, a3, us', c _ _ j1 (fun z => by rw [z, hd] at j1; cases j1), tp _ _ j2, tp _ _ j3, tp _ _ j4, Paired.mono (fun _ _ z => ?_) j5⟩
  obtain ⟨r', l', e', q1, q2⟩ := z
  exact ⟨r', l', e', tp _ _ q1, tp _ _ q2⟩
theorem prs2_butD {H H' : Hp} {d : Addr} {kvs : List (List Key × V)} (hd : H d = some (.dT kvs)) (c : But d H H') {us : List V} {prs : List BP} (h : Prs2 H us prs) : Prs2 H' us prs :=
  pmap2 (fun _ _ ⟨a, e, q⟩ => ⟨a, e, c _ _ q fun z => by rw [z, hd] at q; cases q⟩) h
theorem wd_len {n : Nat} (hn : n ≤ 4) {p : BP} (h : BpOk n p) : (wdP p).length ≤ 83 := by
  have l1 : (Ent.ts p.1).length ≤ 41 := Ent.ts_len (lt40r h.1 h.2.1 hn)
  have l2 : (Ent.ts p.2).length ≤ 41 := Ent.ts_len h.2.2
  have l3 : (("/" : String) : Str).length = 1 := by decide
  unfold wdP
  simp only [Str.length_append]
  omega
theorem gw_wd (p : BP) : Gw (wdP p) := by
  unfold wdP
  exact gw_app (gw_app (gw_ts _) ⟨by decide, by decide⟩) (gw_ts _)
theorem RdT.gd {n : Nat} (hn : n ≤ 4) {z : Str} {prs : List BP} (h : RdT n z prs) (l : prs.length ≤ 8) : Gd z 700 7 := by
  rw [h.e]
  by_cases hp : prs = []
  · subst hp
    exact ⟨by decide, by decide, by decide⟩
  · have hs := Ent.sum_le (f := fun x : Str => x.length) (n := 83) (l := prs.map wdP) fun x hx => by
      obtain ⟨p, hp, rfl⟩ := List.mem_map.mp hx
      exact wd_len hn (h.b p hp)
    rw [List.length_map] at hs
    refine gd_join (by simpa using hp) (fun x hx => ?_) (by rw [List.length_map]; omega) (by rw [List.length_map]; omega)
    obtain ⟨p, _, rfl⟩ := List.mem_map.mp hx
    exact gw_wd p
theorem Gd.sl {z : Str} {N M : Nat} (h : Gd z N M) (hM : M ≤ 19) : (Txt.split z " ").length ≤ 20 := by
  rw [words_len]
  have := h.b
  omega
section
variable {P : Program} {w : World} {K : PySem.W.Frag} {mg : Str → Option Value} {base : Heap} {C : Addr}
inductive sp_law (K : PySem.W.Frag) (vs : List V) (H : Hp) (Q : VK) (E : XK) : Prop
  | mk (a : Addr) (ns : List Int) (h0_ : vs = [.ref a]) (h1_ : SqL K H a (ns.map V.int)) (h2_ : ns.length ≤ 63) (h3_ : ∀ H', Q (.bl true) H') : sp_law K vs H Q E
theorem sc_law : FnScope ["_law_script", "_law_things", "_law_k", "_law_pot_here", "_law_ladder_here", "_law_bars_here", "_law_locks", "_law_roll", "_law_number_here", "_law_text_here", "_law_j", "_law_spoilt_here", "_law_i"] ["_law_script"] (defScope s_law) := ⟨rfl, rfl, rfl, by decide +kernel, rfl, by decide +kernel, by decide +kernel⟩
set_option maxHeartbeats 16000000 in
theorem law_ok (T : Txt K mg C) {fa : Addr} {fd : FuncData} (FL : Fun K "law" "law" s_law fa fd) : FnOk P w K mg base CX0 11 fa fd ["_law_script"] (sp_law K) := by
  obtain ⟨f1, fd1, F1, M1, bF⟩ := T.m_Locks_init
  refine FL.ok sc_law (fun vs H Q E h => ?_) (fun cdv A outer s H vs Q E hr h => ?_)
  · obtain ⟨a, ns, rfl, _⟩ := h
    rfl
  · obtain ⟨a, ns, rfl, ha, hlen, k⟩ := h
    refine ⟨_, (pss_cons (ps_set (i := 1) sc_law.nd rfl (Or.inl rfl) (pe_lst (pa_cons pe_non (pa_cons pe_int (pa_cons pe_bl (pa_cons (pe_lst pa_nil) (pa_cons (pe_lst (pa1 pe_str)) (pa3 (pe_tup (pa1 pe_str)) (pe_lit (pps_cons pe_str pe_bl pps_nil) rfl rfl (by simp) (by decide)) pe_int))))))))
      (pss_cons (ps_for PassesOwn.never rfl (pi_range1 rfl T.b_range (pa1 (pe_b (call_max2 rfl) T.b_max boot_max (pa2 pe_int (pe_b (call_min2 rfl) T.b_min boot_min (pa2 (pe_b (call_lenK K) T.b_len boot_len (pa1 (pv 0))) pe_int)))))) (pg_name (i := 2) sc_law.nd rfl (Or.inl rfl))
        (pss_cons (ps_set (i := 3) sc_law.nd rfl (Or.inl rfl) (pe_can (pot T) hr (pa2 (pv 0) (pv 2))))
        (pss_cons (ps_set (i := 4) sc_law.nd rfl (Or.inl rfl) (pe_can (llad T) hr (pa1 (pv 3))))
        (pss_cons (ps_set (i := 5) sc_law.nd rfl (Or.inl rfl) (pe_can (lbars T) hr (pa2 (pv 3) (pe_canM0 (pv 4) T.cl (rolls T) hr))))
        (pss_cons (ps_set (i := 6) sc_law.nd rfl (Or.inl rfl) (pe_make M1 (linit_ok T F1) (hr.mono (by decide)) rfl T.mg_Locks bF .nil pass0 (pa1 (pv 4))))
        (pss_cut (ps_for PassesOwn.never rfl (pi_revLK K rfl T.b_reversed (pa1 (pv 5))) (pg_tupK K rfl (pgs_cons (pg_name (i := 7) sc_law.nd rfl (Or.inl rfl)) (pgs_cons (pg_name (i := 8) sc_law.nd rfl (Or.inl rfl)) pgs_nil)))
          (pss_one (ps_expr (pe_canM (pv 6) T.cl_Locks (shut T) hr (pa2 (pv 7) (pv 8))))))
        (pss_cons (ps_set (i := 9) sc_law.nd rfl (Or.inl rfl) (pe_canM0 (pv 6) T.cl_Locks (written T) hr))
        (pss_cons (ps_if (PW.pt (pw_or (pt_cmpR op_ne (pv 9) (pe_can (ltext T) hr (pa1 (pv 5))) (nomark _)) (pw_or1 (pt_cmpR op_ne (pe_canM0 (pe_can (told T) hr (pa2 (pv 4) (pv 9))) T.cl_Locks (written T) hr) (pv 9) (nomark _)))))
          (pss_one (ps_ret pe_bl))
          pss_nil)
        (pss_cut (ps_for PassesOwn.never rfl (pi_range1 rfl T.b_range (pa1 pe_int)) (pg_name (i := 10) sc_law.nd rfl (Or.inl rfl))
          (pss_cons (ps_set (i := 11) sc_law.nd rfl (Or.inl rfl) (pv 9))
          (pss_cons (ps_for PassesOwn.never rfl (pi_range1 rfl T.b_range (pa1 (pe_op op_add pe_int (pe_can (digit T) hr (pa2 (pv 3) pe_int))))) (pg_name (i := 12) sc_law.nd rfl (Or.inl rfl))
            (pss_one (ps_set (i := 11) sc_law.nd rfl (Or.inl rfl) (pe_can (lspoilt T) hr (pa3 (pv 3) (pv 11) (pe_canM0 (pv 4) T.cl (rolls T) hr))))))
          (pss_one (ps_if (PW.pt (pw_or (pt_not (pt_val (pe_can (agrees T) hr (pa2 (pv 4) (pv 11))))) (pw_or1 (pt_not (pt_val (pe_can (agrees T) hr (pa2 (pv 4) (pv 9))))))))
            (pss_one (ps_ret pe_bl))
            pss_nil)))))
        (pss_one (ps_if (pt_cmpR op_notN (pe_can (told T) hr (pa2 (pv 4) (pe_ix (ix_listK K) (pv 1) (pe_can (digit T) hr (pa2 (pv 3) pe_int)) (fun _ _ => rfl)))) pe_non (nomark _))
          (pss_one (ps_ret pe_bl))
          pss_nil)))))))))))
      (pss_one (ps_ret pe_bl)))), ?_⟩
    have hlm : ((ns.map V.int).length : Int) = ns.length := by rw [List.length_map]
    refine ⟨Nat.zero_le _, fun A0 hA0 => ?_⟩
    have t0 := Same.upd (H := H) (o := .lst []) hA0
    have k0 : (upd H A0 (.lst [])) A0 = some (.lst []) := upd_same
    generalize (upd H A0 (.lst [])) = G0 at t0 k0
    refine ⟨one_line, fun A1 hA1 => ?_⟩
    have t1 := Same.upd (H := G0) (o := .lst [.str "0/0"]) hA1
    have k1 : (upd G0 A1 (.lst [.str "0/0"])) A1 = some (.lst [.str "0/0"]) := upd_same
    generalize (upd G0 A1 (.lst [.str "0/0"])) = G1 at t1 k1
    refine ⟨one_line, fun A2 hA2 => ?_⟩
    have t2 := Same.upd (H := G1) (o := .tup [.str "0/0"]) hA2
    have k2 : (upd G1 A2 (.tup [.str "0/0"])) A2 = some (.tup [.str "0/0"]) := upd_same
    generalize (upd G1 A2 (.tup [.str "0/0"])) = G2 at t2 k2
    intro Dk hDk
    refine ⟨upd_same, [(some (.inr "0/0"), .bl true)], [(.str "0/0", .bool true)], rfl, List.pairwise_singleton _ _, .cons ⟨rfl, rfl⟩ .nil, ?_⟩
    have t3 : Same G2 (upd (upd G2 Dk (.dK [])) Dk (LitO Dk [(.str "0/0", .bool true)])) := fun bb oo e => by rw [upd_ne (ne_of_none e hDk), upd_ne (ne_of_none e hDk)]; exact e
    have k3 : (upd (upd G2 Dk (.dK [])) Dk (LitO Dk [(.str "0/0", .bool true)])) Dk = some (LitO Dk [(.str "0/0", .bool true)]) := upd_same
    generalize (upd (upd G2 Dk (.dK [])) Dk (LitO Dk [(.str "0/0", .bool true)])) = G3 at t3 k3
    refine ⟨by show 8 ≤ sizeLine; decide, fun B hB => ?_⟩
    generalize hmm : ([.non, .int 0, .bl true, .ref A0, .ref A1, .ref A2, .ref Dk, .int 7] : List V) = mm
    have ml : mm.length = 8 := by rw [← hmm]; rfl
    have t4 := Same.upd (H := G3) (o := .lst mm) hB
    have k4 : (upd G3 B (.lst mm)) B = some (.lst mm) := upd_same
    generalize (upd G3 B (.lst mm)) = G4 at t4 k4
    have ha4 := (t0.trans (t1.trans (t2.trans (t3.trans t4)))).seq ha
    have j0 := t4 _ _ (t3 _ _ (t2 _ _ (t1 _ _ k0)))
    have j1 := t4 _ _ (t3 _ _ (t2 _ _ k1))
    have j2 := t4 _ _ (t3 _ _ k2)
    have j3 := t4 _ _ k3
    have bz : ∀ v ∈ mm, ∀ G5, Same G4 G5 → ∃ t, TyW G5 v t ∧ PySem.W.kitOne K t (.type "str") = some false := fun v hv G5 s5 => by
      rw [← hmm] at hv
      simp only [List.mem_cons, List.not_mem_nil, or_false] at hv
      rcases hv with rfl | rfl | rfl | rfl | rfl | rfl | rfl | rfl
      · exact ⟨_, .non, rfl⟩
      · exact ⟨_, .s (.int 0), rfl⟩
      · exact ⟨_, .s (.bl true), rfl⟩
      · exact ⟨_, .s (.lst (s5 _ _ j0)), rfl⟩
      · exact ⟨_, .s (.lst (s5 _ _ j1)), rfl⟩
      · exact ⟨_, .s (.tup (s5 _ _ j2)), rfl⟩
      · exact ⟨_, .lit (s5 _ _ j3), rfl⟩
      · exact ⟨_, .s (.int 7), rfl⟩
    clear t0 t1 t2 t3 t4 k0 k1 k2 k3 hA0 hA1 hA2 hDk hB j0 j1 j2 j3
    refine ⟨_, rfl, a, _, rfl, .inl ha4, _, _, rfl, _, _, rfl, _, rfl, by rw [hlm]; repeat' split <;> omega, by rw [hlm]; repeat' split <;> omega, ?_⟩
    refine for_range (fun i σ HX => ∃ v2 v3 v4 v5 v6 v7 v8 v9 v10 v11 v12, σ = [some (.ref a), some (.ref B), v2, v3, v4, v5, v6, v7, v8, v9, v10, v11, v12] ∧ Same G4 HX) ⟨_, _, _, _, _, _, _, _, _, _, _, rfl, Same.refl _⟩ (fun i σ HX hi h => ?_) (fun σ HX h => k _)
    obtain ⟨v2, v3, v4, v5, v6, v7, v8, v9, v10, v11, v12, rfl, sX⟩ := h
    refine ⟨_, rfl, _, rfl, a, ns, _, rfl, sX.seq ha4, by omega, by omega, fun p H1 s1 np hp1 => ?_⟩
    refine ⟨_, rfl, .mk p rfl hp1 fun x b ps rows H2 c2 hp2 hL2 ok => ?_⟩
    have S2 : Same HX H2 := Same.butF s1 c2 np
    have rl := (rowsB_ok ok.r).1
    obtain ⟨ldx, fa', fo, fc, hi2⟩ := lad_ins hL2
    refine ⟨_, rfl, _, rfl, x, ldx, _, rfl, hi2, flds_no _ _ _ (by decide) (by decide) (by decide), x, b, ps, rows, rfl, hL2, .mk p rows.length rfl rl hp2 fun L us prs H3 c3 hp3 nL kL pp3 srt l8 bb => ?_⟩
    have S3 : Same HX H3 := Same.butF S2 c3 np
    have hL3 := hL2.but hp2 c3
    refine ⟨_, rfl, fun lk dx hlk hdx hne => ?_⟩
    have sM : Same H3 (upd (upd H3 dx (.own lk)) lk (.ins (cOf mg "Locks") dx [])) := (Same.upd hdx).trans (Same.upd (by rw [upd_ne (Ne.symm hne)]; exact hlk))
    refine ⟨lk, dx, x, rfl, upd_same, fun d H4 c4 hd hK4 => ⟨rfl, ?_⟩⟩
    have s34 : Same H3 H4 := fun a' o e => c4 _ _ (sM _ _ e) (ne_of_none e hlk)
    have ndX : HX d = none := S3.free (sM.free hd)
    have S4 := S3.trans s34
    have hL4 := hL3.same s34
    have pp4 := prs2_same s34 pp3
    have kL4 := s34 _ _ kL
    have hp4 := hp3.same s34
    clear sM c4 hlk hdx hne hd
    have hul : us.length = prs.length := pp4.length
    have nd := rise_nd srt
    have ndr : prs.reverse.Nodup := (List.reverse_perm prs).symm.nodup_iff.mp nd
    have nLd : L ≠ d := fun z => by rw [z, hK4.s] at kL4; cases kL4
    refine ⟨fun σ H5 => ∃ v7 v8, σ = [some (.ref a), some (.ref B), some (.int (0 + (i : Int))), some (.ref p), some (.ref x), some (.ref L), some (.ref lk), v7, v8, v9, v10, v11, v12] ∧ But d H4 H5 ∧ LockAt (cOf mg "Locks") H5 lk x d prs.reverse, ?_, ?_⟩
    · refine ⟨_, rfl, L, us, rfl, .of kL4, ?_⟩
      refine for_revL (xs := us) (fun i' σ H5 => ∃ v7 v8, σ = [some (.ref a), some (.ref B), some (.int (0 + (i : Int))), some (.ref p), some (.ref x), some (.ref L), some (.ref lk), v7, v8, v9, v10, v11, v12] ∧ But d H4 H5 ∧ LockAt (cOf mg "Locks") H5 lk x d (prs.reverse.take i')) ⟨_, _, rfl, (fun _ _ e _ => e), hK4⟩ (fun i' σ H5 hi' h => ?_) (fun i' xv σ H5 hi' hxv h => ?_) (fun σ H5 h => ?_)
      · obtain ⟨v7, v8, rfl, c5, hK5⟩ := h
        exact .of (c5 _ _ kL4 nLd)
      · obtain ⟨v7, v8, rfl, c5, hK5⟩ := h
        have pp5 := prs2_butD hK4.s c5 pp4
        obtain ⟨e, he, t, rfl, ht⟩ := Paired.get pp5 hxv
        have hrev : prs.reverse[i']? = some e := by
          rw [List.getElem?_reverse (by omega), ← hul]
          exact he
        obtain ⟨b0, b1, b2⟩ := bb e (List.mem_of_getElem? he)
        obtain ⟨m0, m1⟩ := w40.mp b2
        obtain ⟨dx5, hlk5⟩ := hK5.i
        refine ⟨t, _, rfl, .of ht, rfl, _, _, rfl, _, _, rfl, rfl, ?_⟩
        refine ⟨_, rfl, lk, dx5, _, rfl, hlk5, rfl, _, rfl, _, rfl, lk, x, d, e.1, e.2, b, ps, rows, prs.reverse.take i', rfl, hK5, hL4.butD hK4.s c5, b0, b1, m0, m1, by rw [List.length_take, List.length_reverse]; omega, fun hin => ?_, fun H6 c6 hK6 => ?_⟩
        · obtain ⟨j, hj⟩ := List.getElem?_of_mem hin
          rw [List.getElem?_take] at hj
          split at hj
          · next hji =>
            obtain ⟨l1, e1⟩ := List.getElem?_eq_some_iff.mp hj
            obtain ⟨l2, e2⟩ := List.getElem?_eq_some_iff.mp hrev
            have := (List.nodup_iff_pairwise_ne.mp ndr)
            rw [List.pairwise_iff_getElem] at this
            exact this j i' l1 l2 hji (e1.trans e2.symm)
          · cases hj
        · refine ⟨_, _, rfl, c5.trans c6, ?_⟩
          rw [List.take_add_one, hrev]
          exact hK6
      · obtain ⟨v7, v8, rfl, c5, hK5⟩ := h
        rw [hul, ← List.length_reverse, List.take_length] at hK5
        exact ⟨_, _, rfl, c5, hK5⟩
    rintro σ H5 ⟨v7, v8, rfl, c5, hK5⟩
    have S5 : Same HX H5 := Same.butF S4 c5 ndX
    have hL5 := hL4.butD hK4.s c5
    have pp5 := prs2_butD hK4.s c5 pp4
    have kL5 := c5 _ _ kL4 nLd
    have hp5 : PotAt H5 p := by
      obtain ⟨y1, y2, hy⟩ := hp4
      exact ⟨y1, y2, c5 _ _ hy fun z => by rw [z, hK4.s] at hy; cases hy⟩
    obtain ⟨dx5, hlk5⟩ := hK5.i
    have rd0 : RdT rows.length (Txt.join " " (prs.map wdP)) prs := ⟨rfl, bb, srt⟩
    have ok0 := rd0.ok rl (by omega)
    have okr : PrsOk prs.reverse := ⟨ndr, by rw [List.length_reverse]; omega, fun e he => ok0.b e (List.mem_reverse.mp he)⟩
    refine ⟨_, rfl, lk, dx5, _, rfl, hlk5, rfl, lk, x, d, prs.reverse, rfl, hK5, okr, fun z H6 s6 hW => ?_⟩
    have hz : z = Txt.join " " (prs.map wdP) := hW.one ⟨prs, (List.reverse_perm prs).symm, srt.imp rise_le, rfl⟩
    rw [← hz] at rd0
    have gz := rd0.gd rl l8
    have gzl := gz.l
    refine ⟨_, rfl, _, rfl, .mk L us prs rfl (s6 _ _ kL5) (prs2_same s6 pp5) (by omega) (fun e he => ⟨(bb e he).1, by have := (bb e he).2.1; omega, (bb e he).2.2⟩) fun H7 s7 => ?_⟩
    rw [← hz]
    have dz : (!decide (V.str z = V.str z)) = false := by simp
    have S7 : Same HX H7 := S5.trans (s6.trans s7)
    have hL7 := hL5.same (s6.trans s7)
    have hp7 := hp5.same (s6.trans s7)
    refine ⟨rfl, _, rfl, iteD dz ⟨_, rfl, _, rfl, .mk x b ps rows z rfl (by omega) hL7 rl (gz.sl (by decide)) (fun prs' lk2 d2 H8 h8 s8 hK8 => ?_) fun hno => absurd rd0 (hno prs)⟩⟩
    have := h8.one rl rd0
    subst this
    obtain ⟨dx8, hlk8⟩ := hK8.i
    refine ⟨lk2, dx8, _, rfl, hlk8, rfl, lk2, x, d2, _, rfl, hK8, ok0, fun z2 H9 s9 hW9 => ?_⟩
    have hz2 : z2 = z := hW9.one rd0.wt
    subst hz2
    refine ⟨_, rfl, rfl, _, rfl, iteD dz ?_⟩
    have S9 : Same HX H9 := S7.trans (s8.trans s9)
    have hL9 := hL7.same (s8.trans s9)
    have hp9 := hp7.same (s8.trans s9)
    refine ⟨fun σ HY => ∃ v10 v11 v12, σ = [some (.ref a), some (.ref B), some (.int (0 + (i : Int))), some (.ref p), some (.ref x), some (.ref L), some (.ref lk), v7, v8, some (.str z2), v10, v11, v12] ∧ Same HX HY ∧ LadAt C HY x b ps rows ∧ PotAt HY p, ?_, ?_⟩
    · refine ⟨_, rfl, by decide, by decide, ?_⟩
      refine for_range (n := 4) (fun j σ HY => ∃ v10 v11 v12, σ = [some (.ref a), some (.ref B), some (.int (0 + (i : Int))), some (.ref p), some (.ref x), some (.ref L), some (.ref lk), v7, v8, some (.str z2), v10, v11, v12] ∧ Same HX HY ∧ LadAt C HY x b ps rows ∧ PotAt HY p) ⟨_, _, _, rfl, S9, hL9, hp9⟩ (fun j σ HY hj h => ?_) (fun σ HY h => h)
      obtain ⟨v10, v11, v12, rfl, SY, hLY, hpY⟩ := h
      refine ⟨_, rfl, ?_⟩
      refine ⟨_, rfl, p, _, rfl, hpY, by decide +kernel, by decide +kernel, fun d3 HZ a3 b3 cZ hpZ => ⟨_, _, rfl, rfl, _, rfl, by omega, by omega, ?_⟩⟩
      refine for_range (n := (1 + d3).toNat) (fun e σ HY => ∃ v12 y, σ = [some (.ref a), some (.ref B), some (.int (0 + (i : Int))), some (.ref p), some (.ref x), some (.ref L), some (.ref lk), v7, v8, some (.str z2), some (.int (0 + (j : Int))), some (.str y), v12] ∧ Same HX HY ∧ LadAt C HY x b ps rows ∧ PotAt HY p ∧ Gd y (700 * 3 ^ e) (7 + e)) ⟨_, z2, rfl, Same.butF SY cZ np, hLY.but hpY cZ, hpZ, gz⟩ (fun e σ HU he h => ?_) (fun σ HU h => ?_)
      · obtain ⟨v12', y, rfl, SU, hLU, hpU, gy⟩ := h
        obtain ⟨ldxU, f1', f2', f3', hiU⟩ := lad_ins hLU
        have p9 : 3 ^ e ≤ 9 ∧ 1 ≤ 3 ^ e := by
          rcases (show e = 0 ∨ e = 1 ∨ e = 2 by omega) with rfl | rfl | rfl <;> decide
        refine ⟨_, rfl, _, rfl, _, rfl, x, ldxU, _, rfl, hiU, flds_no _ _ _ (by decide) (by decide) (by decide), x, b, ps, rows, rfl, hLU, .mk p y rows.length (700 * 3 ^ e) (7 + e) rfl rl hpU gy (by omega) (by omega) fun y' HV cV hpV gV => ?_⟩
        exact ⟨_, y', rfl, Same.butF SU cV np, hLU.but hpU cV, hpV, gV.mono (by rw [Nat.pow_succ]; omega) (by omega)⟩
      · obtain ⟨v12', y, rfl, SU, hLU, hpU, gy⟩ := h
        have gy' : Gd y 18900 10 := by
          refine gy.mono ?_ (by omega)
          rcases (show (1 + d3).toNat = 1 ∨ (1 + d3).toNat = 2 ∨ (1 + d3).toNat = 3 by omega) with h | h | h <;> rw [h] <;> decide
        have gyl := gy'.l
        refine ⟨_, rfl, _, rfl, .mk x b ps rows y rfl (by omega) gy'.a hLU rl (gy'.sl (by decide)) fun HV sV => ⟨_, rfl, iteF ?_⟩⟩
        refine ⟨_, rfl, _, rfl, .mk x b ps rows z2 rfl (by omega) gz.a (hLU.same sV) rl (gz.sl (by decide)) fun HW sW => ⟨_, rfl, iteF ?_⟩⟩
        exact ⟨_, _, _, rfl, SU.trans (sV.trans sW), hLU.same (sV.trans sW), hpU.same (sV.trans sW)⟩
    rintro σ HY ⟨v10', v11', v12', rfl, SY, hLY, hpY⟩
    refine ⟨_, rfl, _, rfl, _, rfl, p, 8, rfl, hpY, by decide, by decide +kernel, fun dd HZ d0 d1 cZ hpZ => ?_⟩
    have SZ : Same HX HZ := Same.butF SY cZ np
    obtain ⟨v, hv, ev⟩ : ∃ v, v ∈ mm ∧ atI mm dd = some v := by
      obtain ⟨j, rfl⟩ : ∃ j : Nat, dd = j := ⟨dd.toNat, by omega⟩
      have hj : j < mm.length := by omega
      exact ⟨_, List.getElem_mem hj, atI_nat (List.getElem?_eq_getElem hj)⟩
    obtain ⟨t, ty, kt⟩ := bz v hv HZ (sX.trans SZ)
    refine ⟨B, _, _, v, rfl, rfl, .of ((sX.trans SZ) _ _ k4), ev, .no x v t rfl ty kt fun HV sV => ⟨rfl, _, rfl, iteD (by rfl) ?_⟩⟩
    exact ⟨_, _, _, _, _, _, _, _, _, _, _, rfl, sX.trans (SZ.trans sV)⟩
end
end Pr
set_option Elab.async false
set_option linter.all false
set_option maxRecDepth 100000
namespace Pr
open PySem PySem.Spec PyProof.Rows L2
section
variable {P : Program} {w : World} {K : PySem.W.Frag} {mg : Str → Option Value} {C : Addr}
theorem law_all (T : Txt K mg C) {fa : Addr} (hmg : mg "law" = some (.ref fa)) :
    ∃ fd : FuncData, (∀ (s : Shared) (u : Value), BindsTo s fd ⟨[u], []⟩ [("_law_script", u)]) ∧ ∀ base : Heap, K.In base → base.Ns mainGlobals mg → FnOk P w K mg base CX0 11 fa fd ["_law_script"] (sp_law K) := by
  obtain ⟨f, fd, F⟩ := T.f_law
  have e := hmg.symm.trans F.m
  cases e
  obtain ⟨oc, od, kV, doc, pm, an, cdv, ct, osl, rfl, lk, hcd⟩ := F.fn.ex
  exact ⟨_, fun s u => .of_eq rfl, fun base _ _ => law_ok T F.fn⟩
end
theorem walk {l : PySem.W.OpenLaw} {q : Program} {loose : List Str} {XP : (Str → Option Value) → Heap → Prop} {YP : World → Heap → Prop} {d : DefRec} {K : Params → PySem.W.Frag} (hn : l.most = some 63) (hdf : d.params.defaults = [])
    (hY : ∀ (w : World) (h : Heap), YP w h → (K w.params).In h)
    (F : ∀ (w : World) (mg : Str → Option Value) (fa : Addr) (h : Heap), (K w.params).In h → h.Ns mainGlobals mg → mg d.name = some (.ref fa) →
      ∃ fd : FuncData, (∀ (s : Shared) (u : Value), BindsTo s fd ⟨[u], []⟩ [("_law_script", u)]) ∧ ∀ base : Heap, (K w.params).In base → base.Ns mainGlobals mg → FnOk l.prog w (K w.params) mg base CX0 11 fa fd ["_law_script"] (sp_law (K w.params))) :
    PySem.W.WalkO q loose XP YP l.row.toRowW d [] (fun f vs => PySem.call f vs) :=
  L2.walk_of (n := 63) (k := 11) (x := "_law_script") (CX := fun _ => CX0) (sp := fun w => sp_law (K w.params)) hn (by decide) hdf ⟨rfl, by decide, by decide, rfl⟩ hY F (fun _ _ a ns hl _ hS => ⟨a, ns, rfl, hS, hl, fun _ => rfl⟩) fun _ _ _ _ _ z => z
end Pr
set_option Elab.async false
set_option linter.all false
set_option maxRecDepth 100000
/-! what the head must show of a def, of a method: one fact each -/
namespace L2
open PySem PyProof.Rows
inductive FE (K : PySem.W.Frag) (x : Str) (st : Stmt) : Prop
  | mk {f : Addr} {od an : Option Addr} {sl : Array (Option Value)} {oc kV dc pm cd ct : Value} (a : PySem.W.nsIn K mainGlobals x = some (some (.ref f))) (l : K.lookup f = some ⟨oc, od, .func (PySem.W.fnOf x x (defArgs st) (defBody st) (defScope st) .none kV dc pm an cd ct), sl⟩) (c : PySem.W.codeIn K cd x = true) (k : PySem.W.keepIn K (.ref f) = true) : FE K x st
inductive FM (K : PySem.W.Frag) (C : Addr) (x q : Str) (st : Stmt) : Prop
  | mk {f : Addr} {od an : Option Addr} {sl : Array (Option Value)} {oc kV dc pm cd ct : Value} (a : PySem.W.findIn K (.ref C) x = some (some (.ref f))) (i : PySem.W.isFn K (.ref f) = true) (l : K.lookup f = some ⟨oc, od, .func (PySem.W.fnOf x q (defArgs st) (defBody st) (defScope st) .none kV dc pm an cd ct), sl⟩) (c : PySem.W.codeIn K cd q = true) (k : PySem.W.keepIn K (.ref f) = true) : FM K C x q st
variable {K : PySem.W.Frag} {h : Heap} {mg : Str → Option Value} {x q : Str} {st : Stmt} {ps : List Str} {C : Addr}
theorem FE.fn (X : K.In h) (G : h.Ns mainGlobals mg) (e : FE K x st) (b : ∀ f fd, Fun K x x st f fd → Binds K fd ps []) : ∃ f fd, Fn K mg x st ps f fd := by
  obtain ⟨a, l, c, k⟩ := e
  exact ⟨_, _, fun_mk l c k, PySem.W.mg_of X G a, b _ _ (fun_mk l c k)⟩
theorem FM.fm (e : FM K C x q st) (b : ∀ f fd, Fun K x q st f fd → Binds K fd ps []) : ∃ f fd, Fm K C x q st ps f fd := by
  obtain ⟨a, i, l, c, k⟩ := e
  exact ⟨_, _, fun_mk l c k, ⟨a, i, k⟩, b _ _ (fun_mk l c k)⟩
theorem FM.mk_ (e : FM K C "__init__" q st) (mk : PySem.W.makesIn K C = true) (kc : PySem.W.keepIn K (.ref C) = true) (b : ∀ f fd, Fun K "__init__" q st f fd → Binds K fd ps []) : ∃ f fd, Fun K "__init__" q st f fd ∧ Mk K C f ∧ Binds K fd ps [] := by
  obtain ⟨a, i, l, c, k⟩ := e
  exact ⟨_, _, fun_mk l c k, ⟨mk, a, i, kc⟩, b _ _ (fun_mk l c k)⟩
end L2
set_option Elab.async false
set_option linter.all false
set_option maxRecDepth 100000
namespace Pr
open PySem L2 PyProof.Rows
set_option maxHeartbeats 0 in
theorem txt_mk {K : PySem.W.Frag} {h : Heap} {mg : Str → Option Value} {C : Addr} (X : K.In h) (G : h.Ns mainGlobals mg) {t_WIDE_END : Tok} {t_NUMBER_END : Tok} {t_NUMBER_FIGURES : Tok} {t_MOST_PARTS : Tok} {t_MOST_LENGTH : Tok} {t_MOST_ROWS : Tok} {t_MOST_SIZES : Tok} {t_MOST_SIZE : Tok} {q_Locks : Addr} {c_NoRoll : Addr} {cd_NoRoll : ClassData} {c_NoNumber : Addr} {cd_NoNumber : ClassData} {c_NoText : Addr} {cd_NoText : ClassData} {c_NoLock : Addr} {cd_NoLock : ClassData}
    (aC : PySem.W.nsIn K mainGlobals "Ladder" = some (some (.ref C)))
    (a1 : FE K "is_whole" s_is_whole)
    (a2 : FE K "is_whole_from" s_is_whole_from)
    (a3 : FE K "is_wide" s_is_wide)
    (a4 : FE K "is_list" s_is_list)
    (a5 : FE K "is_list_from" s_is_list_from)
    (a6 : FE K "need_roll" s_need_roll)
    (a7 : FE K "need_number" s_need_number)
    (a8 : FE K "need_text" s_need_text)
    (a9 : FE K "whole_of" s_whole_of)
    (a10 : FE K "read_locks" s_read_locks)
    (a11 : FE K "shut_read" s_shut_read)
    (a12 : FE K "is_part" s_is_part)
    (a13 : FE K "are_parts" s_are_parts)
    (a14 : FE K "are_sizes" s_are_sizes)
    (a15 : FE K "is_row" s_is_row)
    (a16 : FE K "are_rows" s_are_rows)
    (a17 : FE K "bar_lengths" s_bar_lengths)
    (a18 : FE K "_law_pot" s_law_pot)
    (a19 : FE K "_law_digit" s_law_digit)
    (a20 : FE K "_law_ladder" s_law_ladder)
    (a21 : FE K "_law_bars" s_law_bars)
    (a22 : FE K "_law_text" s_law_text)
    (a23 : FE K "_law_sign_spoilt" s_law_sign_spoilt)
    (a24 : FE K "_law_spoilt" s_law_spoilt)
    (a25 : FE K "_law_number" s_law_number)
    (a26 : FE K "_law_read" s_law_read)
    (a27 : FE K "_law_told" s_law_told)
    (a28 : FE K "_law_agrees" s_law_agrees)
    (a29 : FE K "law" s_law)
    (c_WIDE_END : PySem.W.nsIn K mainGlobals "WIDE_END" = some (some (.int 1000000000000000000000000000000 t_WIDE_END)))
    (c_NUMBER_END : PySem.W.nsIn K mainGlobals "NUMBER_END" = some (some (.int 10000000000000000000000000000000000000000 t_NUMBER_END)))
    (c_NUMBER_FIGURES : PySem.W.nsIn K mainGlobals "NUMBER_FIGURES" = some (some (.int 40 t_NUMBER_FIGURES)))
    (c_MOST_PARTS : PySem.W.nsIn K mainGlobals "MOST_PARTS" = some (some (.int 12 t_MOST_PARTS)))
    (c_MOST_LENGTH : PySem.W.nsIn K mainGlobals "MOST_LENGTH" = some (some (.int 1000000000 t_MOST_LENGTH)))
    (c_MOST_ROWS : PySem.W.nsIn K mainGlobals "MOST_ROWS" = some (some (.int 4 t_MOST_ROWS)))
    (c_MOST_SIZES : PySem.W.nsIn K mainGlobals "MOST_SIZES" = some (some (.int 12 t_MOST_SIZES)))
    (c_MOST_SIZE : PySem.W.nsIn K mainGlobals "MOST_SIZE" = some (some (.int 1000 t_MOST_SIZE)))
    (b_ValueError : PySem.W.nsIn K mainGlobals "ValueError" = some none)
    (b_abs : PySem.W.nsIn K mainGlobals "abs" = some none)
    (b_all : PySem.W.nsIn K mainGlobals "all" = some none)
    (b_bool : PySem.W.nsIn K mainGlobals "bool" = some none)
    (b_int : PySem.W.nsIn K mainGlobals "int" = some none)
    (b_isinstance : PySem.W.nsIn K mainGlobals "isinstance" = some none)
    (b_len : PySem.W.nsIn K mainGlobals "len" = some none)
    (b_list : PySem.W.nsIn K mainGlobals "list" = some none)
    (b_max : PySem.W.nsIn K mainGlobals "max" = some none)
    (b_min : PySem.W.nsIn K mainGlobals "min" = some none)
    (b_range : PySem.W.nsIn K mainGlobals "range" = some none)
    (b_reversed : PySem.W.nsIn K mainGlobals "reversed" = some none)
    (b_sorted : PySem.W.nsIn K mainGlobals "sorted" = some none)
    (b_str : PySem.W.nsIn K mainGlobals "str" = some none)
    (b_tuple : PySem.W.nsIn K mainGlobals "tuple" = some none)
    (b_zip : PySem.W.nsIn K mainGlobals "zip" = some none)
    (pg : PySem.W.plainGet K C Str.empty = true)
    (hd : PySem.W.hasDictIn K C = true)
    (po : PySem.W.plainOver K C = true)
    (sa : PySem.W.findIn K (.ref C) "__setattr__" = some (some (.builtin "object.__setattr__")))
    (mk : PySem.W.makesIn K C = true)
    (kc : PySem.W.keepIn K (.ref C) = true)
    (n_open_lengths : PySem.W.findIn K (.ref C) "open_lengths" = some none)
    (n_part_lengths : PySem.W.findIn K (.ref C) "part_lengths" = some none)
    (n_steps : PySem.W.findIn K (.ref C) "steps" = some none)
    (m1 : FM K C "__init__" "Ladder.__init__" sm_init)
    (m2 : FM K C "begin" "Ladder.begin" sm_begin)
    (m3 : FM K C "parts" "Ladder.parts" sm_parts)
    (m4 : FM K C "rows" "Ladder.rows" sm_rows)
    (m5 : FM K C "rolls" "Ladder.rolls" sm_rolls)
    (aC_Locks : PySem.W.nsIn K mainGlobals "Locks" = some (some (.ref q_Locks)))
    (pg_Locks : PySem.W.plainGet K q_Locks Str.empty = true)
    (hd_Locks : PySem.W.hasDictIn K q_Locks = true)
    (po_Locks : PySem.W.plainOver K q_Locks = true)
    (sa_Locks : PySem.W.findIn K (.ref q_Locks) "__setattr__" = some (some (.builtin "object.__setattr__")))
    (mk_Locks : PySem.W.makesIn K q_Locks = true)
    (kc_Locks : PySem.W.keepIn K (.ref q_Locks) = true)
    (n_Locks_ladder : PySem.W.findIn K (.ref q_Locks) "ladder" = some none)
    (n_Locks_shut_pairs : PySem.W.findIn K (.ref q_Locks) "shut_pairs" = some none)
    (m_Locks_init : FM K q_Locks "__init__" "Locks.__init__" sm_Locks_init)
    (m_Locks_shut : FM K q_Locks "shut" "Locks.shut" sm_Locks_shut)
    (m_Locks_is_shut : FM K q_Locks "is_shut" "Locks.is_shut" sm_Locks_is_shut)
    (m_Locks_written : FM K q_Locks "written" "Locks.written" sm_Locks_written)
    (esp : PySem.W.specialIn K (.builtin "object.__class__") "__get__" = some (some (.builtin "getset_descriptor.__get__")))
    (etk : PySem.W.takesIn K (.builtin "object.__class__") = some true)
    (ea_NoRoll : PySem.W.nsIn K mainGlobals "NoRoll" = some (some (.ref c_NoRoll)))
    (eo_NoRoll : PySem.W.excIn K c_NoRoll bmV "ValueError.__new__" = true)
    (eg_NoRoll : PySem.W.findIn K (.ref c_NoRoll) "__getattribute__" = some (some (.builtin "BaseException.__getattribute__")))
    (en_NoRoll : PySem.W.findIn K (.ref c_NoRoll) "__getattr__" = some none)
    (ef_NoRoll : PySem.W.findIn K (.ref c_NoRoll) "__class__" = some (some (.builtin "object.__class__")))
    (em_NoRoll : PySem.W.mroIn K c_NoRoll (.type "object") = some true)
    (es_NoRoll : PySem.W.subIn K (.ref c_NoRoll) (.type "BaseException") = some true)
    (ec_NoRoll : PySem.W.clsIn K c_NoRoll = some cd_NoRoll)
    (ea_NoNumber : PySem.W.nsIn K mainGlobals "NoNumber" = some (some (.ref c_NoNumber)))
    (eo_NoNumber : PySem.W.excIn K c_NoNumber bmV "ValueError.__new__" = true)
    (eg_NoNumber : PySem.W.findIn K (.ref c_NoNumber) "__getattribute__" = some (some (.builtin "BaseException.__getattribute__")))
    (en_NoNumber : PySem.W.findIn K (.ref c_NoNumber) "__getattr__" = some none)
    (ef_NoNumber : PySem.W.findIn K (.ref c_NoNumber) "__class__" = some (some (.builtin "object.__class__")))
    (em_NoNumber : PySem.W.mroIn K c_NoNumber (.type "object") = some true)
    (es_NoNumber : PySem.W.subIn K (.ref c_NoNumber) (.type "BaseException") = some true)
    (ec_NoNumber : PySem.W.clsIn K c_NoNumber = some cd_NoNumber)
    (ea_NoText : PySem.W.nsIn K mainGlobals "NoText" = some (some (.ref c_NoText)))
    (eo_NoText : PySem.W.excIn K c_NoText bmV "ValueError.__new__" = true)
    (eg_NoText : PySem.W.findIn K (.ref c_NoText) "__getattribute__" = some (some (.builtin "BaseException.__getattribute__")))
    (en_NoText : PySem.W.findIn K (.ref c_NoText) "__getattr__" = some none)
    (ef_NoText : PySem.W.findIn K (.ref c_NoText) "__class__" = some (some (.builtin "object.__class__")))
    (em_NoText : PySem.W.mroIn K c_NoText (.type "object") = some true)
    (es_NoText : PySem.W.subIn K (.ref c_NoText) (.type "BaseException") = some true)
    (ec_NoText : PySem.W.clsIn K c_NoText = some cd_NoText)
    (ea_NoLock : PySem.W.nsIn K mainGlobals "NoLock" = some (some (.ref c_NoLock)))
    (eo_NoLock : PySem.W.excIn K c_NoLock bmV "ValueError.__new__" = true)
    (eg_NoLock : PySem.W.findIn K (.ref c_NoLock) "__getattribute__" = some (some (.builtin "BaseException.__getattribute__")))
    (en_NoLock : PySem.W.findIn K (.ref c_NoLock) "__getattr__" = some none)
    (ef_NoLock : PySem.W.findIn K (.ref c_NoLock) "__class__" = some (some (.builtin "object.__class__")))
    (em_NoLock : PySem.W.mroIn K c_NoLock (.type "object") = some true)
    (es_NoLock : PySem.W.subIn K (.ref c_NoLock) (.type "BaseException") = some true)
    (ec_NoLock : PySem.W.clsIn K c_NoLock = some cd_NoLock)
    (e_NoLock_NoRoll : PySem.W.exmOne K (.ref c_NoLock) (.ref c_NoRoll) = some false)
    (e_NoLock_NoNumber : PySem.W.exmOne K (.ref c_NoLock) (.ref c_NoNumber) = some false)
    (e_NoLock_NoLock : PySem.W.exmOne K (.ref c_NoLock) (.ref c_NoLock) = some true)
    (e_NoNumber_NoRoll : PySem.W.exmOne K (.ref c_NoNumber) (.ref c_NoRoll) = some false)
    (e_NoNumber_NoNumber : PySem.W.exmOne K (.ref c_NoNumber) (.ref c_NoNumber) = some true)
    (e_NoNumber_NoLock : PySem.W.exmOne K (.ref c_NoNumber) (.ref c_NoLock) = some false)
    (e_NoRoll_NoRoll : PySem.W.exmOne K (.ref c_NoRoll) (.ref c_NoRoll) = some true)
    (e_NoRoll_NoNumber : PySem.W.exmOne K (.ref c_NoRoll) (.ref c_NoNumber) = some false)
    (e_NoRoll_NoLock : PySem.W.exmOne K (.ref c_NoRoll) (.ref c_NoLock) = some false)
    (e_NoText_NoText : PySem.W.exmOne K (.ref c_NoText) (.ref c_NoText) = some true) : Txt K mg C :=
  ⟨a1.fn X G fun _ _ F => F.b1 (by intros; rfl),
   a2.fn X G fun _ _ F => F.b3 (by intros; rfl),
   a3.fn X G fun _ _ F => F.b1 (by intros; rfl),
   a4.fn X G fun _ _ F => F.b1 (by intros; rfl),
   a5.fn X G fun _ _ F => F.b3 (by intros; rfl),
   a6.fn X G fun _ _ F => F.b3 (by intros; rfl),
   a7.fn X G fun _ _ F => F.b1 (by intros; rfl),
   a8.fn X G fun _ _ F => F.b1 (by intros; rfl),
   a9.fn X G fun _ _ F => F.b2 (by intros; rfl),
   a10.fn X G fun _ _ F => F.b2 (by intros; rfl),
   a11.fn X G fun _ _ F => F.b2 (by intros; rfl),
   a12.fn X G fun _ _ F => F.b1 (by intros; rfl),
   a13.fn X G fun _ _ F => F.b1 (by intros; rfl),
   a14.fn X G fun _ _ F => F.b1 (by intros; rfl),
   a15.fn X G fun _ _ F => F.b1 (by intros; rfl),
   a16.fn X G fun _ _ F => F.b1 (by intros; rfl),
   a17.fn X G fun _ _ F => F.b1 (by intros; rfl),
   a18.fn X G fun _ _ F => F.b2 (by intros; rfl),
   a19.fn X G fun _ _ F => F.b2 (by intros; rfl),
   a20.fn X G fun _ _ F => F.b1 (by intros; rfl),
   a21.fn X G fun _ _ F => F.b2 (by intros; rfl),
   a22.fn X G fun _ _ F => F.b1 (by intros; rfl),
   a23.fn X G fun _ _ F => F.b2 (by intros; rfl),
   a24.fn X G fun _ _ F => F.b3 (by intros; rfl),
   a25.fn X G fun _ _ F => F.b1 (by intros; rfl),
   a26.fn X G fun _ _ F => F.b2 (by intros; rfl),
   a27.fn X G fun _ _ F => F.b2 (by intros; rfl),
   a28.fn X G fun _ _ F => F.b2 (by intros; rfl),
   a29.fn X G fun _ _ F => F.b1 (by intros; rfl),
   ⟨_, PySem.W.mg_of X G c_WIDE_END⟩,
   ⟨_, PySem.W.mg_of X G c_NUMBER_END⟩,
   ⟨_, PySem.W.mg_of X G c_NUMBER_FIGURES⟩,
   ⟨_, PySem.W.mg_of X G c_MOST_PARTS⟩,
   ⟨_, PySem.W.mg_of X G c_MOST_LENGTH⟩,
   ⟨_, PySem.W.mg_of X G c_MOST_ROWS⟩,
   ⟨_, PySem.W.mg_of X G c_MOST_SIZES⟩,
   ⟨_, PySem.W.mg_of X G c_MOST_SIZE⟩,
   PySem.W.mg_none_of X G b_ValueError,
   PySem.W.mg_none_of X G b_abs,
   PySem.W.mg_none_of X G b_all,
   PySem.W.mg_none_of X G b_bool,
   PySem.W.mg_none_of X G b_int,
   PySem.W.mg_none_of X G b_isinstance,
   PySem.W.mg_none_of X G b_len,
   PySem.W.mg_none_of X G b_list,
   PySem.W.mg_none_of X G b_max,
   PySem.W.mg_none_of X G b_min,
   PySem.W.mg_none_of X G b_range,
   PySem.W.mg_none_of X G b_reversed,
   PySem.W.mg_none_of X G b_sorted,
   PySem.W.mg_none_of X G b_str,
   PySem.W.mg_none_of X G b_tuple,
   PySem.W.mg_none_of X G b_zip,
   ⟨pg, hd, po, sa⟩,
   PySem.W.mg_of X G aC,
   n_open_lengths,
   n_part_lengths,
   n_steps,
   m1.mk_ mk kc (fun _ _ F => F.b4 (by intros; rfl)),
   m2.fm fun _ _ F => F.b1 (by intros; rfl),
   m3.fm fun _ _ F => F.b1 (by intros; rfl),
   m4.fm fun _ _ F => F.b1 (by intros; rfl),
   m5.fm fun _ _ F => F.b1 (by intros; rfl),
   (by rw [cOf_eq (PySem.W.mg_of X G aC_Locks)]; exact ⟨pg_Locks, hd_Locks, po_Locks, sa_Locks⟩),
   (by rw [cOf_eq (PySem.W.mg_of X G aC_Locks)]; exact PySem.W.mg_of X G aC_Locks),
   (by rw [cOf_eq (PySem.W.mg_of X G aC_Locks)]; exact n_Locks_ladder),
   (by rw [cOf_eq (PySem.W.mg_of X G aC_Locks)]; exact n_Locks_shut_pairs),
   (by rw [cOf_eq (PySem.W.mg_of X G aC_Locks)]; exact m_Locks_init.mk_ mk_Locks kc_Locks (fun _ _ F => F.b2 (by intros; rfl))),
   (by rw [cOf_eq (PySem.W.mg_of X G aC_Locks)]; exact m_Locks_shut.fm fun _ _ F => F.b3 (by intros; rfl)),
   (by rw [cOf_eq (PySem.W.mg_of X G aC_Locks)]; exact m_Locks_is_shut.fm fun _ _ F => F.b3 (by intros; rfl)),
   (by rw [cOf_eq (PySem.W.mg_of X G aC_Locks)]; exact m_Locks_written.fm fun _ _ F => F.b1 (by intros; rfl)),
   xc_mk (PySem.W.mg_of X G ea_NoRoll) eo_NoRoll eg_NoRoll en_NoRoll ef_NoRoll esp etk em_NoRoll es_NoRoll ec_NoRoll,
   xc_mk (PySem.W.mg_of X G ea_NoNumber) eo_NoNumber eg_NoNumber en_NoNumber ef_NoNumber esp etk em_NoNumber es_NoNumber ec_NoNumber,
   xc_mk (PySem.W.mg_of X G ea_NoText) eo_NoText eg_NoText en_NoText ef_NoText esp etk em_NoText es_NoText ec_NoText,
   xc_mk (PySem.W.mg_of X G ea_NoLock) eo_NoLock eg_NoLock en_NoLock ef_NoLock esp etk em_NoLock es_NoLock ec_NoLock,
   (by rw [cOf_eq (PySem.W.mg_of X G ea_NoLock), cOf_eq (PySem.W.mg_of X G ea_NoRoll)]; exact e_NoLock_NoRoll),
   (by rw [cOf_eq (PySem.W.mg_of X G ea_NoLock), cOf_eq (PySem.W.mg_of X G ea_NoNumber)]; exact e_NoLock_NoNumber),
   (by rw [cOf_eq (PySem.W.mg_of X G ea_NoLock)]; exact e_NoLock_NoLock),
   (by rw [cOf_eq (PySem.W.mg_of X G ea_NoNumber), cOf_eq (PySem.W.mg_of X G ea_NoRoll)]; exact e_NoNumber_NoRoll),
   (by rw [cOf_eq (PySem.W.mg_of X G ea_NoNumber)]; exact e_NoNumber_NoNumber),
   (by rw [cOf_eq (PySem.W.mg_of X G ea_NoNumber), cOf_eq (PySem.W.mg_of X G ea_NoLock)]; exact e_NoNumber_NoLock),
   (by rw [cOf_eq (PySem.W.mg_of X G ea_NoRoll)]; exact e_NoRoll_NoRoll),
   (by rw [cOf_eq (PySem.W.mg_of X G ea_NoRoll), cOf_eq (PySem.W.mg_of X G ea_NoNumber)]; exact e_NoRoll_NoNumber),
   (by rw [cOf_eq (PySem.W.mg_of X G ea_NoRoll), cOf_eq (PySem.W.mg_of X G ea_NoLock)]; exact e_NoRoll_NoLock),
   (by rw [cOf_eq (PySem.W.mg_of X G ea_NoText)]; exact e_NoText_NoText)⟩
end Pr
set_option Elab.async false
set_option linter.all false
set_option maxRecDepth 100000
open PySem PySem.W PyProof.Rows
def PySem.W.Fast.tw12556318885030336296 : Nat := 0
def PySem.W.Fast.tw861502493610598483 : Nat := 0
def PySem.W.Fast.tw14133788633963359269 : Nat := 0
def PySem.W.Fast.tw15219865102035514327 : Nat := 0
def PySem.W.Fast.tw7774113678449685934 : Nat := 0
def PySem.W.Fast.tw6846642427337595233 : Nat := 0
def PySem.W.Fast.tw3187600833561265495 : Nat := 0
def PySem.W.Fast.tw9023412946914863120 : Nat := 0
def PySem.W.Fast.tw13310030377091497835 : Nat := 0
def PySem.W.Fast.tw4891155283279915023 : Nat := 0
def PySem.W.Fast.tw13485263441057248554 : Nat := 0
def PySem.W.Fast.tw2034817482908223496 : Nat := 0
def PySem.W.Fast.tw16654469307462801742 : Nat := 0
def PySem.W.Fast.tw11766270337846329995 : Nat := 0
def PySem.W.Fast.tw1158361714356455011 : Nat := 0
def PySem.W.Fast.tw4483904966330829159 : Nat := 0
def PySem.W.Fast.tw1070438729232803039 : Nat := 0
def PySem.W.Fast.tw5459702643516471331 : Nat := 0
def PySem.W.Fast.tw15181078141257973585 : Nat := 0
def PySem.W.Fast.tw10368827614151553891 : Nat := 0
def PySem.W.Fast.tw12848530379965262573 : Nat := 0
def PySem.W.Fast.tw16506471722634982818 : Nat := 0
def PySem.W.Fast.tw8498532028676091811 : Nat := 0
def PySem.W.Fast.tw3303267245142563540 : Nat := 0
def PySem.W.Fast.tw10826640976665885199 : Nat := 0
def PySem.W.Fast.tw7374399212775623666 : Nat := 0
def PySem.W.Fast.tw384561282630992784 : Nat := 0
def PySem.W.Fast.tw5537553045615171315 : Nat := 0
def PySem.W.Fast.tw16723463757517087524 : Nat := 0
def PySem.W.Fast.tw5725222548895626118 : Nat := 0
def PySem.W.Fast.tw11481637867367846703 : Nat := 0
def PySem.W.Fast.tw2875624504187281209 : Nat := 0
def PySem.W.Fast.tw9630203353718772412 : Nat := 0
def PySem.W.Fast.tw15240619367488684849 : Nat := 0
def PySem.W.Fast.tw9363214764283991203 : Nat := 0
def PySem.W.Fast.tw10624116801336726872 : Nat := 0
def PySem.W.Fast.tw16140922888777852060 : Nat := 0
def PySem.W.Fast.tw5000232492035539693 : Nat := 0
def PySem.W.Fast.tw8186657734068701312 : Nat := 0
def PySem.W.Fast.tw1915925776726481438 : Nat := 0
set_option maxHeartbeats 0 in
open_top hd for PySem.Challenge.rw_peakroll_k64_locks_text
set_option maxHeartbeats 0 in
theorem PySem.Challenge.cw_peakroll_k64_locks_text_holds : PySem.Challenge.rw_peakroll_k64_locks_text.Holds := by
  refine hd ?_
  k_fill
  refine Pr.walk (l := PySem.Challenge.rw_peakroll_k64_locks_text) rfl rfl (fun w h Y => PySem.W.kIn_of Y) ?F
  case F =>
    intro w mg fa h KX G hmg
    have T : ∃ C, Pr.Txt (L2.KOf KX) mg C := by
      dsimp only [L2.KOf]
      refine' ⟨_, Pr.txt_mk KX G ?aC ?a1 ?a2 ?a3 ?a4 ?a5 ?a6 ?a7 ?a8 ?a9 ?a10 ?a11 ?a12 ?a13 ?a14 ?a15 ?a16 ?a17 ?a18 ?a19 ?a20 ?a21 ?a22 ?a23 ?a24 ?a25 ?a26 ?a27 ?a28 ?a29 ?c_WIDE_END ?c_NUMBER_END ?c_NUMBER_FIGURES ?c_MOST_PARTS ?c_MOST_LENGTH ?c_MOST_ROWS ?c_MOST_SIZES ?c_MOST_SIZE ?b_ValueError ?b_abs ?b_all ?b_bool ?b_int ?b_isinstance ?b_len ?b_list ?b_max ?b_min ?b_range ?b_reversed ?b_sorted ?b_str ?b_tuple ?b_zip ?pg ?hd ?po ?sa ?mk ?kc ?n_open_lengths ?n_part_lengths ?n_steps ?m1 ?m2 ?m3 ?m4 ?m5 ?aC_Locks ?pg_Locks ?hd_Locks ?po_Locks ?sa_Locks ?mk_Locks ?kc_Locks ?n_Locks_ladder ?n_Locks_shut_pairs ?m_Locks_init ?m_Locks_shut ?m_Locks_is_shut ?m_Locks_written ?esp ?etk ?ea_NoRoll ?eo_NoRoll ?eg_NoRoll ?en_NoRoll ?ef_NoRoll ?em_NoRoll ?es_NoRoll ?ec_NoRoll ?ea_NoNumber ?eo_NoNumber ?eg_NoNumber ?en_NoNumber ?ef_NoNumber ?em_NoNumber ?es_NoNumber ?ec_NoNumber ?ea_NoText ?eo_NoText ?eg_NoText ?en_NoText ?ef_NoText ?em_NoText ?es_NoText ?ec_NoText ?ea_NoLock ?eo_NoLock ?eg_NoLock ?en_NoLock ?ef_NoLock ?em_NoLock ?es_NoLock ?ec_NoLock ?e_NoLock_NoRoll ?e_NoLock_NoNumber ?e_NoLock_NoLock ?e_NoNumber_NoRoll ?e_NoNumber_NoNumber ?e_NoNumber_NoLock ?e_NoRoll_NoRoll ?e_NoRoll_NoNumber ?e_NoRoll_NoLock ?e_NoText_NoText⟩
      (case aC => k_is)
      (case a1 | a2 | a3 | a4 | a5 | a6 | a7 | a8 | a9 | a10 | a11 | a12 | a13 | a14 | a15 | a16 | a17 | a18 | a19 | a20 | a21 | a22 | a23 | a24 | a25 | a26 | a27 | a28 | a29 => apply L2.FE.mk; k_is; k_is; k_is; k_is)
      (case c_WIDE_END | c_NUMBER_END | c_NUMBER_FIGURES | c_MOST_PARTS | c_MOST_LENGTH | c_MOST_ROWS | c_MOST_SIZES | c_MOST_SIZE | b_ValueError | b_abs | b_all | b_bool | b_int | b_isinstance | b_len | b_list | b_max | b_min | b_range | b_reversed | b_sorted | b_str | b_tuple | b_zip | pg | hd | po | sa | mk | kc | n_open_lengths | n_part_lengths | n_steps => k_is)
      (case m1 | m2 | m3 | m4 | m5 => apply L2.FM.mk; k_is; k_is; k_is; k_is; k_is)
      (case aC_Locks | pg_Locks | hd_Locks | po_Locks | sa_Locks | mk_Locks | kc_Locks | n_Locks_ladder | n_Locks_shut_pairs => k_is)
      (case m_Locks_init | m_Locks_shut | m_Locks_is_shut | m_Locks_written => apply L2.FM.mk; k_is; k_is; k_is; k_is; k_is)
      (case esp | etk => k_is)
      (case ea_NoRoll => k_is)
      (case eo_NoRoll => k_exc)
      (case eg_NoRoll => k_is)
      (case en_NoRoll => k_is)
      (case ef_NoRoll => k_is)
      (case em_NoRoll => k_is)
      (case es_NoRoll => k_is)
      (case ec_NoRoll => k_is)
      (case ea_NoNumber => k_is)
      (case eo_NoNumber => k_exc)
      (case eg_NoNumber => k_is)
      (case en_NoNumber => k_is)
      (case ef_NoNumber => k_is)
      (case em_NoNumber => k_is)
      (case es_NoNumber => k_is)
      (case ec_NoNumber => k_is)
      (case ea_NoText => k_is)
      (case eo_NoText => k_exc)
      (case eg_NoText => k_is)
      (case en_NoText => k_is)
      (case ef_NoText => k_is)
      (case em_NoText => k_is)
      (case es_NoText => k_is)
      (case ec_NoText => k_is)
      (case ea_NoLock => k_is)
      (case eo_NoLock => k_exc)
      (case eg_NoLock => k_is)
      (case en_NoLock => k_is)
      (case ef_NoLock => k_is)
      (case em_NoLock => k_is)
      (case es_NoLock => k_is)
      (case ec_NoLock => k_is)
      (case e_NoLock_NoRoll => kts_exm)
      (case e_NoLock_NoNumber => kts_exm)
      (case e_NoLock_NoLock => kts_exm)
      (case e_NoNumber_NoRoll => kts_exm)
      (case e_NoNumber_NoNumber => kts_exm)
      (case e_NoNumber_NoLock => kts_exm)
      (case e_NoRoll_NoRoll => kts_exm)
      (case e_NoRoll_NoNumber => kts_exm)
      (case e_NoRoll_NoLock => kts_exm)
      (case e_NoText_NoText => kts_exm)
    obtain ⟨C, T⟩ := T
    exact Pr.law_all T hmg
