import PyProof.Rows.All
import Wide.All
import OpenK.AllK
import Wide.FinOn
import Lean
import PyProof.EqAt
import PyProof.EqKinds
import PyProof.TupleCall
import KE.KTryMore
import PyProof.RaisesMany
import PyProof.RulesAs
import PyProof.ExcBaseAll.ValueError
import PyProof.NsDelKeeps
import KE.KIsNot
import PyProof.ExcArgs
import KE.RegKIsAll
import KE.RegKTryMore
import KE.KSortTup
import KE.KIntText
import PyProof.StrLawsNeg
import PyProof.Draws
import PyProof.CallFns
import PyProof.Rows.StrJoinRep
import PySem.Challenge.RW_peakroll_k91_rows_of_words
set_option Elab.async false
set_option linter.all false
set_option maxRecDepth 100000
/-! THE HAND LAYER, for ints, bools, texts, own classes, LISTS and tuples (index, slices, in, append, pop ..), calls, loops. Paste it whole ahead of your own text; what your proof does not reach may be deleted. -/
namespace L2
open PySem PySem.Spec PyProof.Rows

/-- a key: an int or a str -/
abbrev Key := Sum Int Str
def keyIs : Key → Value → Bool
  | .inl k, v => Value.isInt k v
  | .inr x, v => Value.isStrOf x v
def keyH (w : World) : Key → Int
  | .inl k => hashInt k
  | .inr x => hashStr w x
theorem keyIs_shape : ∀ {k : Key} {v : Value}, keyIs k v = true → (∃ i t, k = Sum.inl i ∧ v = Value.int i t) ∨ (∃ x t, k = Sum.inr x ∧ v = Value.str x t)
  | .inl i, v, h => by
    obtain ⟨t, e⟩ := Value.isInt_shape (k := i) (v := v) h
    exact .inl ⟨i, t, rfl, e⟩
  | .inr x, v, h => by
    obtain ⟨t, e⟩ := Value.isStrOf_shape (x := x) (v := v) h
    exact .inr ⟨x, t, rfl, e⟩
theorem keyIs_int (i : Int) (t : Tok) : keyIs (.inl i) (.int i t) = true := by simp [keyIs, Value.isInt]
theorem keyIs_str (x : Str) (t : Tok) : keyIs (.inr x) (.str x t) = true := by simp [keyIs, Value.isStrOf]
theorem key_ll (a b : Int) : decide ((Sum.inl a : Key) = Sum.inl b) = (a == b) := by
  by_cases e : a = b
  · subst e; simp
  · have h : ¬ (Sum.inl a : Key) = Sum.inl b := fun q => e (Sum.inl.inj q)
    rw [decide_eq_false h]
    exact (beq_eq_false_iff_ne.mpr e).symm
theorem key_rr (a b : Str) : decide ((Sum.inr a : Key) = Sum.inr b) = decide (a = b) := by
  by_cases e : a = b
  · subst e; simp
  · have h : ¬ (Sum.inr a : Key) = Sum.inr b := fun q => e (Sum.inr.inj q)
    rw [decide_eq_false h, decide_eq_false e]
theorem key_lr (a : Int) (b : Str) : decide ((Sum.inl a : Key) = Sum.inr b) = false := decide_eq_false (fun q => nomatch q)
theorem key_rl (a : Str) (b : Int) : decide ((Sum.inr a : Key) = Sum.inl b) = false := decide_eq_false (fun q => nomatch q)

def mixKind (prog : Program) (w : World) : PySem.KeyKind prog w Key where
  is := keyIs
  hash := keyH w
  inj := fun v a b ha hb => by
    rcases keyIs_shape ha with ⟨i, t, rfl, rfl⟩ | ⟨x, t, rfl, rfl⟩
    · rcases keyIs_shape hb with ⟨j, u, rfl, e⟩ | ⟨y, u, rfl, e⟩
      · injection e with e1 _; rw [e1]
      · exact nomatch e
    · rcases keyIs_shape hb with ⟨j, u, rfl, e⟩ | ⟨y, u, rfl, e⟩
      · exact nomatch e
      · injection e with e1 _; rw [e1]
  byValue := fun k v h => by
    rcases keyIs_shape h with ⟨i, t, rfl, rfl⟩ | ⟨x, t, rfl, rfl⟩ <;> rfl
  pyHash := fun hv h => by
    rcases keyIs_shape hv with ⟨i, t, rfl, rfl⟩ | ⟨x, t, rfl, rfl⟩
    · exact wpAny_pyHash_int h
    · exact wpAny_pyHash_str h
  eqBool := fun hu hv h => by
    rcases keyIs_shape hu with ⟨i, t, rfl, rfl⟩ | ⟨x, t, rfl, rfl⟩
    · rcases keyIs_shape hv with ⟨j, u, rfl, rfl⟩ | ⟨y, u, rfl, rfl⟩
      · rw [key_ll] at h; exact wpAny_eqBool_int h
      · rw [key_lr] at h; exact SeqAt.EqAt.int_str i t y u _ _ _ _ h
    · rcases keyIs_shape hv with ⟨j, u, rfl, rfl⟩ | ⟨y, u, rfl, rfl⟩
      · rw [key_rl] at h; exact SeqAt.EqAt.str_int x t j u _ _ _ _ h
      · rw [key_rr] at h; exact wpAny_eqBool_str h
  «strs» := fun k x t v h => by
    rcases keyIs_shape h with ⟨i, u, rfl, e⟩ | ⟨y, u, rfl, e⟩
    · exact nomatch e
    · injection e with e1 _
      subst e1
      cases v <;> rfl

theorem mixKind_int (prog : Program) (w : World) (i : Int) (t : Tok) : (mixKind prog w).is (.inl i) (.int i t) = true := keyIs_int i t
theorem mixKind_str (prog : Program) (w : World) (x : Str) (t : Tok) : (mixKind prog w).is (.inr x) (.str x t) = true := keyIs_str x t
end L2

namespace L2
open PySem PySem.Spec PyProof.Rows

/-- a value, without the heap -/
inductive V where
  | non | bl (b : Bool) | int (i : Int) | str (x : Str) | byt (b : Array UInt8) | flt (b : UInt64) | ref (a : Addr) | ty (n : String)
  deriving DecidableEq

def RelV : V → Value → Prop
  | .non, u => u = Value.none
  | .bl b, u => u = Value.bool b
  | .int i, u => ∃ t, u = Value.int i t
  | .str x, u => ∃ t, u = Value.str x t
  | .byt b, u => ∃ t, u = Value.bytes b t
  | .flt b, u => ∃ t, u = Value.float b t
  | .ref a, u => u = Value.ref a
  | .ty n, u => u = Value.type n

abbrev Vals : List V → List Value → Prop := Paired RelV
theorem Vals.length {xs : List V} {us : List Value} (r : Vals xs us) : xs.length = us.length := Paired.length r
theorem Vals.get : ∀ {xs : List V} {us : List Value} {i : Nat} {x : V}, Vals xs us → xs[i]? = some x → ∃ u, us[i]? = some u ∧ RelV x u
  | _, _, _, _, .nil, e => by simp at e
  | _, _, 0, _, .cons r _, e => by simp at e; subst e; exact ⟨_, rfl, r⟩
  | _, _, i + 1, x, .cons _ t, e => by
    obtain ⟨u, h1, h2⟩ := Vals.get (i := i) (x := x) t (by simpa using e)
    exact ⟨u, by simpa using h1, h2⟩
theorem Vals.set {x : V} {u : Value} (r : RelV x u) : ∀ {xs : List V} {us : List Value} (i : Nat), Vals xs us → Vals (xs.set i x) (us.set i u)
  | _, _, _, .nil => .nil
  | _, _, 0, .cons _ t => .cons r t
  | _, _, i + 1, .cons q t => .cons q (Vals.set r i t)
theorem Vals.append : ∀ {xs ys : List V} {us ws : List Value}, Vals xs us → Vals ys ws → Vals (xs ++ ys) (us ++ ws)
  | _, _, _, _, .nil, s => s
  | _, _, _, _, .cons r t, s => .cons r (Vals.append t s)
theorem Vals.take : ∀ {xs : List V} {us : List Value} (n : Nat), Vals xs us → Vals (xs.take n) (us.take n)
  | _, _, 0, _ => .nil
  | _, _, _ + 1, .nil => .nil
  | _, _, n + 1, .cons r t => .cons r (Vals.take n t)
theorem Vals.drop : ∀ {xs : List V} {us : List Value} (n : Nat), Vals xs us → Vals (xs.drop n) (us.drop n)
  | _, _, 0, r => r
  | _, _, _ + 1, .nil => .nil
  | _, _, n + 1, .cons _ t => Vals.drop n t

def RelO : Option V → Option Value → Prop
  | some v, some u => RelV v u
  | none, none => True
  | _, _ => False
def KV {κ : Type} : List (κ × V) → List (κ × Value) → Prop := Paired fun (p : κ × V) (q : κ × Value) => p.1 = q.1 ∧ RelV p.2 q.2

/-- a key of a dict (00_mix): an int or a text -/
def kV : Key → V
  | .inl i => .int i
  | .inr x => .str x

/-- what stands at a tracked address -/
inductive HO where
  /-- a list -/
  | lst (xs : List V)
  /-- a tuple (never changes) -/
  | tup (xs : List V)
  /-- a dict whose keys are ints and texts; one whose keys are tuples of ints and texts (the empty one is both) -/
  | dK (kvs : List (Key × V)) | dT (kvs : List (List Key × V))
  /-- a set of ints: its members, its size -/
  | set (S : Int → Bool) (n : Nat)
  /-- an instance of the class at C, its dict at dx, its attributes -/
  | ins (C dx : Addr) (fs : List (Str × V))
  /-- the dict of the instance at x -/
  | own (x : Addr)
  /-- the dict of an exception -/
  | xd (fs : List (Str × V))
  /-- a bound method, f of x -/
  | met (f x : Addr)
  /-- a range object lo, lo + 1, .. below hi -/
  | rng (lo hi : Int)
  /-- a thing that is known to the object (the script; a dict while a loop walks it): read, never written while it is so -/
  | frz (o : Obj) (u : HO)
  /-- a code object's table -/
  | tbl (ps : Array Value)
  /-- any other thing, by what is true of its one object (a def of one's own: SetO a S n := HO.ext fun h => ..) -/
  | ext (φ : Heap → Prop)

abbrev Hp := Addr → Option HO
def upd (H : Hp) (a : Addr) (o : HO) : Hp := fun b => if b = a then some o else H b
theorem upd_same {H : Hp} {a : Addr} {o : HO} : upd H a o a = some o := by unfold upd; rw [if_pos rfl]
theorem upd_ne {H : Hp} {a b : Addr} {o : HO} (h : b ≠ a) : upd H a o b = H b := by unfold upd; rw [if_neg h]
theorem ne_of_none {H : Hp} {a b : Addr} {o : HO} (h : H a = some o) (h' : H b = none) : a ≠ b := by
  intro e; subst e; rw [h] at h'; cases h'

section
variable (P : Program) (w : World)
def ObjOk (H : Hp) (h : Heap) (a : Addr) : HO → Prop
  | .lst xs => xs.length ≤ sizeLine ∧ ∃ (its : List Value) (n : Nat), Vals xs its ∧ h.get? a = some { cls := .type "list", data := .seq its.toArray n }
  | .tup xs => xs.length ≤ sizeLine ∧ ∃ its : List Value, Vals xs its ∧ IsTup h a its.toArray
  | .dK kvs => kvs.length ≤ sizeLine ∧ (a == sysModules) = false ∧ ∃ vs, KV kvs vs ∧ h.DictOf (mixKind P w) a vs
  | .dT kvs => kvs.length ≤ sizeLine ∧ (a == sysModules) = false ∧ ∃ xs : List (List Key × Addr × Value),
      Paired (fun (p : List Key × V) (q : List Key × Addr × Value) => p.1 = q.1 ∧ H q.2.1 = some (.tup (p.1.map kV)) ∧ RelV p.2 q.2.2) kvs xs ∧
      ∃ o es ep, h.get? a = some o ∧ o.ExactDict ∧ o.data = .dict es ep ∧ es.toList = xs.map (entryOfKey (tupleKind (mixKind P w))) ∧ (xs.map (·.1)).Nodup
  | .set S n => h.SetOf (intKind P w) a S n
  | .ins C dx fs => H dx = some (.own a) ∧ fs.length ≤ 1000 ∧ dx ≠ a ∧ h.get? a = some (PySem.W.instObj C dx) ∧
      ∃ mA, h.Ns1 dx mA ∧ (∀ f, RelO (fs.lookup f) (mA f)) ∧ PySem.Within mA (fs.map (·.1))
  | .own _ => ∃ o, h.get? a = some o
  | .xd fs => ∃ mA, h.Ns1 a mA ∧ ∀ f, RelO (fs.lookup f) (mA f)
  | .rng lo hi => ∃ t u v, h.get? a = some { cls := .type "range", data := .fields #[.int lo t, .int hi u, .int 1 v] }
  | .frz o u => h.get? a = some o ∧ ObjOk H h a u
  | .tbl ps => h.get? a = some { cls := .none, data := .fields ps }
  | .met f x => h.get? a = some (PySem.W.methodObj (.ref f) (.ref x))
  | .ext φ => φ h ∧ (∃ o, h.get? a = some o) ∧ ∀ h1 h2 : Heap, φ h1 → (∀ o, h1.get? a = some o → h2.get? a = some o) → φ h2
/-- the abstract heap is held -/
def HOk (H : Hp) (h : Heap) : Prop := ∀ a o, H a = some o → ObjOk P w H h a o
end

section
variable {P : Program} {w : World} {H H' : Hp} {h h' : Heap} {a : Addr} {o : HO}
theorem ObjOk.lt (x : ObjOk P w H h a o) : a < h.objs.size := by
  cases o with
  | lst xs => obtain ⟨_, _, _, _, e⟩ := x; exact Heap.lt_size e
  | tup xs => obtain ⟨_, _, _, p⟩ := x; exact p.lt
  | dK kvs => obtain ⟨_, _, _, _, o, _, _, e, _⟩ := x; exact Heap.lt_size e
  | dT kvs => obtain ⟨_, _, _, _, o, _, _, e, _⟩ := x; exact Heap.lt_size e
  | set S n => obtain ⟨o, _, _, _, e, _⟩ := x; exact Heap.lt_size e
  | ins C dx fs => obtain ⟨_, _, _, e, _⟩ := x; exact Heap.lt_size e
  | own y => obtain ⟨_, e⟩ := x; exact Heap.lt_size e
  | xd fs => obtain ⟨_, ⟨_, _, _, e, _⟩, _⟩ := x; exact Heap.lt_size e
  | rng lo hi => obtain ⟨_, _, _, e⟩ := x; exact Heap.lt_size e
  | frz ob u => obtain ⟨e, _⟩ := x; exact Heap.lt_size e
  | tbl ps => exact Heap.lt_size (show h.get? a = some _ from x)
  | met f y => exact Heap.lt_size (show h.get? a = some _ from x)
  | ext φ => obtain ⟨_, ⟨_, e⟩, _⟩ := x; exact Heap.lt_size e
theorem Paired.mapP {α β : Type} {F G : α → β → Prop} : ∀ {l₁ : List α} {l₂ : List β}, Paired F l₁ l₂ → (∀ a b, F a b → G a b) → Paired G l₁ l₂
  | _, _, .nil, _ => .nil
  | _, _, .cons r t, f => .cons (f _ _ r) (Paired.mapP t f)
/-- what an object's description leans on: its own object, its own dict, the tuples -/
theorem ObjOk.stay (x : ObjOk P w H h a o) (k : ∀ b u, (b = a ∨ H b = some (.own a)) → h.get? b = some u → h'.get? b = some u)
    (ho : ∀ b, H b = some (.own a) → H' b = some (.own a)) (ht : ∀ b xs, H b = some (.tup xs) → H' b = some (.tup xs)) : ObjOk P w H' h' a o := by
  induction o with
  | lst xs => obtain ⟨z, its, n, r, e⟩ := x; exact ⟨z, its, n, r, k _ _ (.inl rfl) e⟩
  | tup xs => obtain ⟨z, its, r, ob, e, c⟩ := x; exact ⟨z, its, r, ob, k _ _ (.inl rfl) e, c⟩
  | dK kvs => obtain ⟨z, y, vs, r, ob, es, ep, e, c⟩ := x; exact ⟨z, y, vs, r, ob, es, ep, k _ _ (.inl rfl) e, c⟩
  | dT kvs =>
    obtain ⟨z, y, xs, r, ob, es, ep, e, c⟩ := x
    exact ⟨z, y, xs, Paired.mapP r fun p q z => ⟨z.1, ht _ _ z.2.1, z.2.2⟩, ob, es, ep, k _ _ (.inl rfl) e, c⟩
  | set S n => obtain ⟨ob, es, ep, t, e, c⟩ := x; exact ⟨ob, es, ep, t, k _ _ (.inl rfl) e, c⟩
  | ins C dx fs =>
    obtain ⟨d, z, ne, e, mA, ⟨od, es, ep, e2, c⟩, r⟩ := x
    exact ⟨ho _ d, z, ne, k _ _ (.inl rfl) e, mA, ⟨od, es, ep, k _ _ (.inr d) e2, c⟩, r⟩
  | own y => obtain ⟨ob, e⟩ := x; exact ⟨ob, k _ _ (.inl rfl) e⟩
  | xd fs => obtain ⟨mA, ⟨od, es, ep, e, c⟩, r⟩ := x; exact ⟨mA, ⟨od, es, ep, k _ _ (.inl rfl) e, c⟩, r⟩
  | rng lo hi => obtain ⟨t, u, v, e⟩ := x; exact ⟨t, u, v, k _ _ (.inl rfl) e⟩
  | frz ob u ih => obtain ⟨e, q⟩ := x; exact ⟨k _ _ (.inl rfl) e, ih q⟩
  | tbl ps =>
    have e : h.get? a = some { cls := .none, data := .fields ps } := x
    show h'.get? a = some { cls := .none, data := .fields ps }
    exact k a _ (.inl rfl) e
  | met f y =>
    have e : h.get? a = some (PySem.W.methodObj (.ref f) (.ref y)) := x
    show h'.get? a = some (PySem.W.methodObj (.ref f) (.ref y))
    exact k a _ (.inl rfl) e
  | ext φ => obtain ⟨p, ⟨o, e⟩, st⟩ := x; exact ⟨st _ _ p fun o q => k _ _ (.inl rfl) q, ⟨o, k _ _ (.inl rfl) e⟩, st⟩
theorem HOk.lt (x : HOk P w H h) (e : H a = some o) : a < h.objs.size := (x a o e).lt
theorem HOk.fresh (x : HOk P w H h) (e : h.objs.size ≤ a) : H a = none := by
  cases q : H a with
  | none => rfl
  | some u => exact absurd (Nat.lt_of_lt_of_le (x.lt q) e) (Nat.lt_irrefl _)
/-- every object of the heap is kept -/
theorem HOk.kept (x : HOk P w H h) (k : ∀ b u, h.get? b = some u → h'.get? b = some u) : HOk P w H h' := fun a o e =>
  (x a o e).stay (fun b u _ q => k b u q) (fun _ q => q) fun _ _ q => q
/-- a new object is laid and tracked -/
theorem HOk.laid (x : HOk P w H h) (k : ∀ b u, h.get? b = some u → h'.get? b = some u) (hp : h.objs.size ≤ a) (new : ObjOk P w (upd H a o) h' a o) : HOk P w (upd H a o) h' := fun b u e => by
  have hn := x.fresh hp
  by_cases hb : b = a
  · subst hb; rw [upd_same] at e; cases e; exact new
  · rw [upd_ne hb] at e
    exact (x b u e).stay (fun c v _ q => k c v q) (fun c q => by rw [upd_ne (ne_of_none q hn)]; exact q) fun c xs q => by rw [upd_ne (ne_of_none q hn)]; exact q
end

/-- what may be read as u: it is u, or a known u -/
def Rd (H : Hp) (a : Addr) (u : HO) : Prop := H a = some u ∨ ∃ o, H a = some (.frz o u)
theorem Rd.ok {P : Program} {w : World} {H : Hp} {h : Heap} {a : Addr} {u : HO} (r : Rd H a u) (x : HOk P w H h) : ObjOk P w H h a u := by
  rcases r with r | ⟨o, r⟩
  · exact x a u r
  · obtain ⟨_, q⟩ := x a _ r
    exact q
/-- what may be written -/
def Mut : Option HO → Prop
  | some (.lst _) => True
  | some (.dK _) => True
  | some (.dT _) => True
  | some (.set _ _) => True
  | some (.ins _ _ _) => True
  | some (.ext _) => True
  | _ => False
section
variable {P : Program} {w : World} {H : Hp} {h h' : Heap} {x e : Addr} {o' : HO}
/-- the object at e is changed: x itself, or the dict of the instance x -/
theorem HOk.write (ok : HOk P w H h) (mu : Mut (H x)) (he : e = x ∨ H e = some (.own x)) (k : ∀ b u, b ≠ e → h.get? b = some u → h'.get? b = some u) (heo : ∃ u, h'.get? e = some u)
    (new : ObjOk P w (upd H x o') h' x o') : HOk P w (upd H x o') h' := fun b u q => by
  have nown : ∀ c y, H c = some (.own y) → c ≠ x := fun c y r z => by subst z; rw [r] at mu; exact mu
  have ntup : ∀ c xs, H c = some (.tup xs) → c ≠ x := fun c xs r z => by subst z; rw [r] at mu; exact mu
  by_cases hb : b = x
  · subst hb; rw [upd_same] at q; cases q; exact new
  · rw [upd_ne hb] at q
    by_cases hbe : b = e
    · have q' : H b = some (.own x) := by
        rcases he with z | z
        · exact absurd (hbe.trans z) hb
        · rw [hbe]; exact z
      rw [q] at q'; cases q'
      obtain ⟨v, hv⟩ := heo
      exact ⟨v, by rw [hbe]; exact hv⟩
    · refine (ok b u q).stay (fun c v hc r => k c v ?_ r) (fun c r => by rw [upd_ne (nown c b r)]; exact r) fun c xs r => by rw [upd_ne (ntup c xs r)]; exact r
      rcases hc with rfl | hc
      · exact hbe
      · rintro rfl
        rcases he with z | z
        · exact nown c b hc z
        · rw [hc] at z; cases z; exact hb rfl
end

/-! ### kept unless tracked; of the frames at fs (the callers') the slots may change (an exception that passes writes there); of the records at ex (iterators) nothing is said -/
structure Un (fs ex : List Addr) (H H' : Hp) (h h' : Heap) : Prop where
  keep : ∀ b o, h.get? b = some o → H b = none → b ∉ fs → b ∉ ex → h'.get? b = some o
  slot : ∀ b o, h.get? b = some o → H b = none → b ∈ fs → b ∉ ex → ∃ sl, h'.get? b = some { o with slots := sl }
  free : ∀ b o, h.get? b = some o → H b = none → b ∉ ex → H' b = none
  there : ∀ b o, h.get? b = some o → b ∉ ex → ∃ o', h'.get? b = some o'
  tups : ∀ b xs, H b = some (.tup xs) → H' b = some (.tup xs)
  frzs : ∀ b o u, H b = some (.frz o u) → H' b = some (.frz o u)
  tbls : ∀ b ps, H b = some (.tbl ps) → ∃ more, H' b = some (.tbl (ps ++ more))
section
variable {fs fs' ex ex' : List Addr} {H H1 H2 : Hp} {h h1 h2 h' : Heap} {a x e : Addr} {o : HO}
theorem Un.any (u : Un fs ex H H1 h h1) {b : Addr} {ob : Obj} (q : h.get? b = some ob) (n : H b = none) (hx : b ∉ ex) : ∃ sl, h1.get? b = some { ob with slots := sl } := by
  by_cases hb : b ∈ fs
  · exact u.slot b ob q n hb hx
  · exact ⟨ob.slots, u.keep b ob q n hb hx⟩
theorem Un.kept (k : ∀ b u, h.get? b = some u → h'.get? b = some u) : Un fs ex H H h h' :=
  ⟨fun b ob q _ _ _ => k b ob q, fun b ob q _ _ _ => ⟨ob.slots, k b ob q⟩, fun _ _ _ n _ => n, fun b ob q _ => ⟨ob, k b ob q⟩, fun _ _ q => q, fun _ _ _ q => q, fun _ ps q => ⟨#[], by rw [q]; simp⟩⟩
theorem Un.refl : Un fs ex H H h h := Un.kept fun _ _ q => q
theorem Un.laid (k : ∀ b u, h.get? b = some u → h'.get? b = some u) (hp : h.objs.size ≤ a) (hn : H a = none) : Un fs ex H (upd H a o) h h' where
  keep := fun b u q _ _ _ => k b u q
  slot := fun b u q _ _ _ => ⟨u.slots, k b u q⟩
  free := fun b u q n _ => by rw [upd_ne (Nat.ne_of_lt (Nat.lt_of_lt_of_le (Heap.lt_size q) hp))]; exact n
  there := fun b u q _ => ⟨u, k b u q⟩
  tups := fun b xs q => by rw [upd_ne (ne_of_none q hn)]; exact q
  frzs := fun b u xs q => by rw [upd_ne (ne_of_none q hn)]; exact q
  tbls := fun b ps q => ⟨#[], by rw [upd_ne (ne_of_none q hn), q]; simp⟩
theorem Un.write (mu : Mut (H x)) (he : e = x ∨ H e = some (.own x)) (k : ∀ b u, b ≠ e → h.get? b = some u → h'.get? b = some u) (heo : ∃ u, h'.get? e = some u) : Un fs ex H (upd H x o) h h' := by
  have hx : ∀ b, H b = none → b ≠ x := fun b n z => by subst z; rw [n] at mu; exact mu
  have hb : ∀ b, H b = none → b ≠ e := fun b n z => by
    subst z
    rcases he with r | r
    · exact hx b n r
    · rw [n] at r; cases r
  have hm : ∀ b u, H b = some u → ¬ Mut (some u) → b ≠ x := fun b u q nm z => by subst z; rw [q] at mu; exact nm mu
  refine ⟨fun b u q n _ _ => k b u (hb b n) q, fun b u q n _ _ => ⟨u.slots, k b u (hb b n) q⟩, fun b u q n _ => by rw [upd_ne (hx b n)]; exact n, fun b u q _ => ?_,
    fun b xs q => by rw [upd_ne (hm b _ q fun z => z)]; exact q, fun b u xs q => by rw [upd_ne (hm b _ q fun z => z)]; exact q, fun b ps q => ⟨#[], by rw [upd_ne (hm b _ q fun z => z), q]; simp⟩⟩
  by_cases hbe : b = e
  · subst hbe; exact heo
  · exact ⟨u, k b u hbe q⟩
end

/-! ### the heap without what is tracked -/
def trk (h : Heap) (H : Hp) : List Addr := (List.range h.objs.size).filter fun a => (H a).isSome
def hidT (h : Heap) (H : Hp) : Heap := PySem.W.hideAll h (trk h H)
theorem hidT_size (h : Heap) (H : Hp) : (hidT h H).objs.size = h.objs.size := PySem.W.hideAll_size _ _
theorem hidT_get {h : Heap} {H : Hp} {b : Addr} {o : Obj} (e : h.get? b = some o) (n : H b = none) : (hidT h H).get? b = some o :=
  PySem.W.hideAll_get _ e fun hm => by
    have q : (H b).isSome = true := (List.mem_filter.mp hm).2
    rw [n] at q; simp at q
theorem of_hidT {h : Heap} {H : Hp} {b : Addr} {o : Obj} (e : (hidT h H).get? b = some o) : h.get? b = some o ∧ H b = none := by
  have e' : h.get? b = some o := PySem.W.of_hideAll (trk h H) e
  refine ⟨e', ?_⟩
  cases q : H b with
  | none => rfl
  | some x =>
    have hm : b ∈ trk h H := List.mem_filter.mpr ⟨List.mem_range.mpr (Heap.lt_size e'), by simp [q]⟩
    have z : (hidT h H).get? b = none := PySem.W.hideAll_none (trk h H) hm
    rw [z] at e; cases e

/-! ### OpenK's ledger, filled with every new object but one -/
end L2

namespace L2
open PySem PySem.Spec PyProof.Rows

/-- the module's facts, over the base: the heap at the law's entry without what is tracked there -/
structure Mod (K : PySem.W.Frag) (mg : Str → Option Value) (base : Heap) : Prop where
  kin : K.In base
  glob : base.Ns mainGlobals mg
  blt : ∃ mb, base.Ns builtinsNs mb ∧ ∀ x : Str, x ≠ "__name__" → mb x = bootBuiltins x
  nolimit : base.NoLimit

/-- the context: a def's body (or a comprehension's block) running. base: fixed through the whole law; s₀, H₀: the entry; outer: the frames whose slots others may change (a def's callers); stack: all frames that run;
   ex: iterators that were made ahead of the entry and are walked here (a comprehension's); fn: the names whose cells were made at the entry (a def: all; a comprehension's block: its own); calm: not within an except suite; pn: pins that every state bears; xe: what is wanted of an exception that leaves the code -/
structure Cx where
  prog : Program
  w : World
  K : PySem.W.Frag
  mg : Str → Option Value
  base : Heap
  A : Around
  N : List Str
  s₀ : Shared
  H₀ : Hp
  env : Env
  outer : List Env
  stack : List Env
  ex : List Addr
  fn : Str → Bool
  calm : Bool
  pn : List (Addr × Obj)
  xe : Value → Shared → Prop
/-- the callers' frames -/
def frs (l : List Env) : List Addr := l.filterMap (·.frame)
abbrev Cx.fs (X : Cx) : List Addr := frs X.outer

def Vis (sc : Scope) (x : Str) : Prop := sc.names.lookup x = some .local ∨ sc.names.lookup x = some .cell ∨ sc.names.lookup x = some .free
def Loc (sc : Scope) (x : Str) : Prop := sc.names.lookup x = some .local ∨ sc.names.lookup x = some .cell
def Look (env : Env) (h : Heap) (m : Str → Option Value) (x : Str) (u : Value) : Prop :=
  (env.kindOf x = some .local ∧ m x = some u) ∨ ((env.kindOf x = some .cell ∨ env.kindOf x = some .free) ∧ ∃ c, env.cells.lookup x = some c ∧ h.IsCell c (some u))

structure Cx.Ok (X : Cx) : Prop where
  mod : Mod X.K X.mg X.base
  kind : X.env.scope.kind = .function
  glob : X.env.globals = mainGlobals
  blt : X.env.builtins = builtinsNs
  above : X.s₀.heap.objs.size ≤ X.env.locals
  inj : ∀ x y c, X.env.cells.lookup x = some c → X.env.cells.lookup y = some c → x = y
  has : ∀ x, (X.env.kindOf x = some .cell ∨ X.env.kindOf x = some .free) → ∃ c, X.env.cells.lookup x = some c
  cab : ∀ x c, X.fn x = true → X.env.cells.lookup x = some c → X.s₀.heap.objs.size ≤ c
  hd : X.calm = true → X.A.handled = none
  frames : X.A.frames = some X.stack
  stk : X.stack = X.outer ∨ (X.stack = X.env :: X.outer ∧ X.env.frame = some X.env.locals)
  exf : ∀ b ∈ X.ex, b ≠ X.env.locals ∧ ∀ x c, X.env.cells.lookup x = some c → c ≠ b
  bs : ∀ b o, X.base.get? b = some o → X.s₀.heap.get? b = some o ∧ X.H₀ b = none
  bsz : X.base.objs.size ≤ X.s₀.heap.objs.size
  noex : ∀ b o, X.base.get? b = some o → b ∉ X.ex
  exfs : ∀ b ∈ X.ex, b ∉ X.fs
  funs : X.s₀.heap.FunFrames X.base X.outer
  frf : ∀ b ∈ X.fs, X.H₀ b = none

structure Inv (X : Cx) (pins : List (Addr × Obj)) (σ : List (Option V)) (H : Hp) (s : Shared) : Prop where
  ok : X.Ok
  os : s.os = X.s₀.os
  bare : AllBare s.gens
  base : Un X.fs X.ex X.H₀ H X.s₀.heap s.heap
  loc : ∃ m, s.heap.Ns X.env.locals m ∧ ∀ (i : Nat) (x : Str) (v : V), X.N[i]? = some x → σ[i]? = some (some v) → Vis X.env.scope x → ∃ u, RelV v u ∧ Look X.env s.heap m x u
  cell : ∀ x c, X.env.cells.lookup x = some c → ∃ v, s.heap.IsCell c v
  free : H X.env.locals = none
  freeC : ∀ x c, X.env.cells.lookup x = some c → H c = none
  pin : ∀ p ∈ X.pn ++ pins, s.heap.get? p.1 = some p.2 ∧ H p.1 = none ∧ p.1 ≠ X.env.locals ∧ p.1 ∉ X.fs ∧ ∀ v, p.2.data ≠ .cell v
  hok : HOk X.prog X.w H s.heap
  len : σ.length = X.N.length

section
variable {X : Cx} {pins : List (Addr × Obj)} {σ : List (Option V)} {H H' : Hp} {s : Shared} {h' : Heap}

theorem Cx.Ok.nofr (ok : X.Ok) {b : Addr} {o : Obj} (e : X.base.get? b = some o) : b ∉ X.fs := fun hb => by
  have := (ok.funs.mem hb).1
  rw [e] at this; cases this
theorem Inv.bs (I : Inv X pins σ H s) : ∀ b o, X.base.get? b = some o → s.heap.get? b = some o ∧ H b = none := fun b o e =>
  ⟨I.base.keep b o (I.ok.bs b o e).1 (I.ok.bs b o e).2 (I.ok.nofr e) (I.ok.noex b o e), I.base.free b o (I.ok.bs b o e).1 (I.ok.bs b o e).2 (I.ok.noex b o e)⟩
theorem Inv.bk (I : Inv X pins σ H s) : ∀ b o, X.base.get? b = some o → s.heap.get? b = some o := fun b o e => (I.bs b o e).1
theorem Inv.mod (I : Inv X pins σ H s) : Mod X.K X.mg X.base := I.ok.mod
theorem Inv.kIn (I : Inv X pins σ H s) : X.K.In s.heap := I.ok.mod.kin.keeps I.bk
theorem Inv.lt (I : Inv X pins σ H s) : X.env.locals < s.heap.objs.size := let ⟨_, hn, _⟩ := I.loc; hn.lt
theorem Inv.sz (I : Inv X pins σ H s) : X.s₀.heap.objs.size ≤ s.heap.objs.size := Nat.le_trans I.ok.above (Nat.le_of_lt I.lt)
theorem Inv.nofs (I : Inv X pins σ H s) {a : Addr} (h : s.heap.objs.size ≤ a) : a ∉ X.fs := fun hb => by
  obtain ⟨_, o, ho, _⟩ := I.ok.funs.mem hb
  exact absurd (Nat.lt_of_lt_of_le (Heap.lt_size ho) (Nat.le_trans I.sz h)) (Nat.lt_irrefl _)
theorem Inv.cne (I : Inv X pins σ H s) : ∀ x c, X.env.cells.lookup x = some c → c ≠ X.env.locals := fun x c e z => by
  obtain ⟨v, o, ho, hd⟩ := I.cell x c e
  obtain ⟨m, ⟨o', es, ep, ho', hd', _⟩, _⟩ := I.loc
  rw [z, ho'] at ho; cases ho; rw [hd'] at hd; cases hd
theorem Inv.funs (I : Inv X pins σ H s) : s.heap.FunFrames X.base X.outer := by
  have all : ∀ (l : List Env), (∀ b ∈ frs l, b ∈ X.fs) → X.s₀.heap.FunFrames X.base l → s.heap.FunFrames X.base l := by
    intro l
    induction l with
    | nil => intro _ _; trivial
    | cons env r ih =>
      intro hs hl
      obtain ⟨hk, ⟨L, o, hf, hn, ho, hd⟩, hr⟩ := hl
      have hL : L ∈ X.fs := hs L (by unfold frs; rw [List.filterMap_cons, hf]; exact List.mem_cons_self)
      obtain ⟨sl, e⟩ := I.base.slot L o ho (I.ok.frf L hL) hL fun z => I.ok.exfs L z hL
      exact ⟨hk, ⟨L, _, hf, hn, e, hd⟩, ih (fun b hb => hs b (by unfold frs; rw [List.filterMap_cons, hf]; exact List.mem_cons_of_mem _ hb)) hr⟩
  exact all X.outer (fun _ hb => hb) I.ok.funs

/-- the frames that run, for a call -/
theorem Inv.stack (I : Inv X pins σ H s) : s.heap.FunFrames X.base X.stack := by
  rcases I.ok.stk with e | ⟨e, hf⟩
  · rw [e]; exact I.funs
  · rw [e]
    obtain ⟨m, hn, _⟩ := I.loc
    refine .cons (by rw [I.ok.kind]; decide) hf hn ?_ I.funs
    exact Heap.get?_none_of_le (Nat.le_trans I.ok.bsz I.ok.above)
theorem Inv.stkSub (I : Inv X pins σ H s) : ∀ b ∈ frs X.stack, b ∈ X.env.locals :: X.fs := fun b hb => by
  rcases I.ok.stk with e | ⟨e, hf⟩
  · rw [e] at hb; exact List.mem_cons_of_mem _ hb
  · rw [e] at hb
    unfold frs at hb
    rw [List.filterMap_cons, hf] at hb
    exact hb
theorem Inv.stkFree (I : Inv X pins σ H s) : ∀ b ∈ frs X.stack, H b = none := fun b hb => by
  rcases List.mem_cons.mp (I.stkSub b hb) with e | hb
  · rw [e]; exact I.free
  · obtain ⟨_, o, ho, _⟩ := I.ok.funs.mem hb
    exact I.base.free b o ho (I.ok.frf b hb) fun z => I.ok.exfs b z hb

/-- THE STEP: the untracked objects but the frame and the records at ch are kept (the callers' frames up to slots), the frame's map is kept, the new abstract heap is held -/
theorem Inv.step {g' : Array GenState} {t' : Nat} {d' : Drawn} {ch : List Addr} (I : Inv X pins σ H s)
    (hch : ∀ b ∈ ch, (b ∈ X.ex ∨ X.s₀.heap.objs.size ≤ b) ∧ b ≠ X.env.locals ∧ (∀ x c, X.env.cells.lookup x = some c → c ≠ b) ∧ ∀ p ∈ X.pn ++ pins, p.1 ≠ b)
    (keep : ∀ b o, b ≠ X.env.locals → b ∉ X.fs → b ∉ ch → s.heap.get? b = some o → H b = none → h'.get? b = some o)
    (slot : ∀ b o, b ≠ X.env.locals → b ∈ X.fs → b ∉ ch → s.heap.get? b = some o → H b = none → ∃ sl, h'.get? b = some { o with slots := sl }) (free : ∀ b o, b ∉ ch → s.heap.get? b = some o → H b = none → H' b = none)
    (there : ∀ b o, b ∉ ch → s.heap.get? b = some o → ∃ o', h'.get? b = some o')
    (tups : ∀ b xs, H b = some (.tup xs) → H' b = some (.tup xs)) (frzs : ∀ b o u, H b = some (.frz o u) → H' b = some (.frz o u)) (tbls : ∀ b ps, H b = some (.tbl ps) → ∃ more, H' b = some (.tbl (ps ++ more)))
    (ns : ∀ m, s.heap.Ns X.env.locals m → h'.Ns X.env.locals m) (hok : HOk X.prog X.w H' h') (hg : AllBare g') :
    Inv X pins σ H' { s with heap := h', gens := g', drawn := d', toks := t' } := by
  have neL : ∀ b o, X.s₀.heap.get? b = some o → b ≠ X.env.locals := fun b o e => Nat.ne_of_lt (Nat.lt_of_lt_of_le (Heap.lt_size e) I.ok.above)
  have neC : ∀ b o, X.s₀.heap.get? b = some o → b ∉ X.ex → b ∉ ch := fun b o e hx hb => by
    rcases (hch b hb).1 with z | z
    · exact hx z
    · exact absurd (Nat.lt_of_lt_of_le (Heap.lt_size e) z) (Nat.lt_irrefl _)
  have cellK : ∀ x c, X.env.cells.lookup x = some c → ∀ v, s.heap.IsCell c v → h'.IsCell c v := fun x c e v ⟨o, ho, hd⟩ => by
    have nch : c ∉ ch := fun z => (hch c z).2.2.1 x c e rfl
    by_cases hc : c ∈ X.fs
    · obtain ⟨sl, q⟩ := slot c o (I.cne x c e) hc nch ho (I.freeC x c e)
      exact ⟨_, q, hd⟩
    · exact ⟨o, keep c o (I.cne x c e) hc nch ho (I.freeC x c e), hd⟩
  refine ⟨I.ok, I.os, hg, ⟨fun b o e n hb hx => ?_, fun b o e n hb hx => ?_, fun b o e n hx => ?_, fun b o e hx => ?_, fun b xs e => tups b xs (I.base.tups b xs e), fun b o xs e => frzs b o xs (I.base.frzs b o xs e), fun b ps e => ?_⟩, ?_, fun x c e => ?_, ?_, fun x c e => ?_, fun p hp => ?_, hok, I.len⟩
  · exact keep b o (neL b o e) hb (neC b o e hx) (I.base.keep b o e n hb hx) (I.base.free b o e n hx)
  · obtain ⟨sl, e1⟩ := I.base.slot b o e n hb hx
    obtain ⟨sl', e2⟩ := slot b _ (neL b o e) hb (neC b o e hx) e1 (I.base.free b o e n hx)
    exact ⟨sl', e2⟩
  · obtain ⟨o', e1⟩ := I.base.there b o e hx
    exact free b o' (neC b o e hx) e1 (I.base.free b o e n hx)
  · obtain ⟨o', e1⟩ := I.base.there b o e hx
    exact there b o' (neC b o e hx) e1
  · obtain ⟨m1, e1⟩ := I.base.tbls b ps e
    obtain ⟨m2, e2⟩ := tbls b _ e1
    exact ⟨m1 ++ m2, by rw [e2, Array.append_assoc]⟩
  · obtain ⟨m, hn, hl⟩ := I.loc
    refine ⟨m, ns m hn, fun i x v e1 e2 e3 => ?_⟩
    obtain ⟨u, r, l⟩ := hl i x v e1 e2 e3
    refine ⟨u, r, ?_⟩
    rcases l with l | ⟨k, c, e, z⟩
    · exact .inl l
    · exact .inr ⟨k, c, e, cellK x c e _ z⟩
  · obtain ⟨v, z⟩ := I.cell x c e
    exact ⟨v, cellK x c e v z⟩
  · obtain ⟨m, ⟨o, _, _, ho, _⟩, _⟩ := I.loc
    exact free _ o (fun z => (hch _ z).2.1 rfl) ho I.free
  · obtain ⟨v, o, ho, hd⟩ := I.cell x c e
    exact free c o (fun z => (hch c z).2.2.1 x c e rfl) ho (I.freeC x c e)
  · obtain ⟨e, n, ne, nf, d⟩ := I.pin p hp
    have nch : p.1 ∉ ch := fun z => (hch p.1 z).2.2.2 p hp rfl
    exact ⟨keep p.1 p.2 ne nf nch e n, free p.1 p.2 nch e n, ne, nf, d⟩
/-- .. where the frame's own object is kept too -/
theorem Inv.un {t' : Nat} (I : Inv X pins σ H s) (u : Un X.fs [] H H' s.heap h') (hok : HOk X.prog X.w H' h') : Inv X pins σ H' { s with heap := h', toks := t' } := by
  obtain ⟨m, ⟨o, es, ep, ho, r⟩, _⟩ := id I.loc
  obtain ⟨sl, hL⟩ := u.any ho I.free (by simp)
  exact I.step (g' := s.gens) (d' := s.drawn) (ch := []) (fun _ z => nomatch z) (fun b o _ hb _ e n => u.keep b o e n hb (by simp)) (fun b o _ hb _ e n => u.slot b o e n hb (by simp)) (fun b o _ e n => u.free b o e n (by simp)) (fun b o _ e => u.there b o e (by simp)) u.tups u.frzs u.tbls (fun m' hm => by
    obtain ⟨o', es', ep', ho', r'⟩ := hm
    rw [ho] at ho'; cases ho'
    exact ⟨_, es', ep', hL, r'⟩) hok I.bare
/-- behind a call (or a comprehension's block): the slots of this frame may have changed too, the records at ch may have turned -/
theorem Inv.call {g' : Array GenState} {t' : Nat} {d' : Drawn} {ch : List Addr} (I : Inv X pins σ H s) (u : Un (frs X.stack) ch H H' s.heap h') (hok : HOk X.prog X.w H' h') (hg : AllBare g')
    (hch : ∀ b ∈ ch, (b ∈ X.ex ∨ X.s₀.heap.objs.size ≤ b) ∧ b ≠ X.env.locals ∧ (∀ x c, X.env.cells.lookup x = some c → c ≠ b) ∧ ∀ p ∈ X.pn ++ pins, p.1 ≠ b) :
    Inv X pins σ H' { s with heap := h', gens := g', drawn := d', toks := t' } := by
  obtain ⟨m, ⟨o, es, ep, ho, r⟩, _⟩ := id I.loc
  obtain ⟨sl, hL⟩ := u.any ho I.free fun z => (hch _ z).2.1 rfl
  exact I.step (ch := ch) hch (fun b o hL hb hc e n => u.keep b o e n (fun z => (List.mem_cons.mp (I.stkSub b z)).elim hL hb) hc) (fun b o _ _ hc e n => u.any e n hc) (fun b o hc e n => u.free b o e n hc) (fun b o hc e => u.there b o e hc) u.tups u.frzs u.tbls (fun m' hm => by
    obtain ⟨o', es', ep', ho', r'⟩ := hm
    rw [ho] at ho'; cases ho'
    exact ⟨_, es', ep', hL, r'⟩) hok hg
/-- an untracked record of ours (an iterator) has turned -/
theorem Inv.turned {t' : Nat} {it : Addr} (I : Inv X pins σ H s) (k : ∀ b o, b ≠ it → s.heap.get? b = some o → h'.get? b = some o) (hn : H it = none) (hL : it ≠ X.env.locals)
    (h1 : it ∈ X.ex ∨ X.s₀.heap.objs.size ≤ it) (h2 : ∀ x c, X.env.cells.lookup x = some c → c ≠ it) (h3 : ∀ p ∈ X.pn ++ pins, p.1 ≠ it) : Inv X pins σ H { s with heap := h', toks := t' } := by
  have nit : ∀ b u, H b = some u → b ≠ it := fun b u e z => by rw [z, hn] at e; cases e
  refine I.step (g' := s.gens) (d' := s.drawn) (ch := [it]) (fun b hb => ?_) (fun b o _ _ hc e _ => k b o (fun z => hc (by simp [z])) e) (fun b o _ _ hc e _ => ⟨o.slots, k b o (fun z => hc (by simp [z])) e⟩) (fun _ _ _ _ n => n)
    (fun b o hc e => ⟨o, k b o (fun z => hc (by simp [z])) e⟩) (fun _ _ e => e) (fun _ _ _ e => e) (fun b ps e => ⟨#[], by rw [e]; simp⟩) (fun m hm => ?_) (fun b u e => ?_) I.bare
  · have e : b = it := by simpa using hb
    subst e
    exact ⟨h1, hL, h2, h3⟩
  · obtain ⟨o, es, ep, ho, r⟩ := hm
    exact ⟨o, es, ep, k _ o (Ne.symm hL) ho, r⟩
  · refine (I.hok b u e).stay (fun c v hc q => k c v ?_ q) (fun _ q => q) fun _ _ q => q
    rcases hc with z | z
    · rw [z]; exact nit b u e
    · exact nit c _ z
theorem Inv.tok (I : Inv X pins σ H s) (t : Nat) : Inv X pins σ H { s with toks := t } := I.un (h' := s.heap) (t' := t) Un.refl I.hok
/-- all objects kept -/
theorem Inv.kept {t' : Nat} (I : Inv X pins σ H s) (k : ∀ b u, s.heap.get? b = some u → h'.get? b = some u) : Inv X pins σ H { s with heap := h', toks := t' } := I.un (Un.kept k) (I.hok.kept k)
/-- a new object laid and tracked -/
theorem Inv.laid {a : Addr} {o : HO} {t' : Nat} (I : Inv X pins σ H s) (k : ∀ b u, s.heap.get? b = some u → h'.get? b = some u) (hp : s.heap.objs.size ≤ a) (new : ObjOk X.prog X.w (upd H a o) h' a o) :
    Inv X pins σ (upd H a o) { s with heap := h', toks := t' } := I.un (Un.laid k hp (I.hok.fresh hp)) (I.hok.laid k hp new)
/-- an object written -/
theorem Inv.write {x e : Addr} {o : HO} {t' : Nat} (I : Inv X pins σ H s) (mu : Mut (H x)) (he : e = x ∨ H e = some (.own x)) (k : ∀ b u, b ≠ e → s.heap.get? b = some u → h'.get? b = some u) (heo : ∃ u, h'.get? e = some u)
    (new : ObjOk X.prog X.w (upd H x o) h' x o) : Inv X pins σ (upd H x o) { s with heap := h', toks := t' } := I.un (Un.write mu he k heo) (I.hok.write mu he k heo new)
theorem Inv.pins_of {pins' : List (Addr × Obj)} (I : Inv X pins σ H s) (h : ∀ p ∈ pins', s.heap.get? p.1 = some p.2 ∧ H p.1 = none ∧ p.1 ≠ X.env.locals ∧ p.1 ∉ X.fs ∧ ∀ v, p.2.data ≠ .cell v) : Inv X pins' σ H s :=
  ⟨I.ok, I.os, I.bare, I.base, I.loc, I.cell, I.free, I.freeC, fun p hp => (List.mem_append.mp hp).elim (fun z => I.pin p (List.mem_append_left _ z)) (h p), I.hok, I.len⟩

theorem nodup_ix {N : List Str} (hN : N.Nodup) {i j : Nat} {x : Str} (a : N[i]? = some x) (b : N[j]? = some x) : i = j := by
  obtain ⟨h1, e1⟩ := List.getElem?_eq_some_iff.mp a
  obtain ⟨h2, e2⟩ := List.getElem?_eq_some_iff.mp b
  exact (List.getElem_inj hN).mp (e1.trans e2.symm)

/-- a name is stored; what changed -/
theorem store_ok2 {M : Model} {A : Around} {E : Value → Shared → Prop} {i : Nat} {x : Str} {v : V} {u : Value} {Q : Unit → Shared → Prop} (I : Inv X pins σ H s) (hN : X.N.Nodup) (hi : X.N[i]? = some x) (hx : Loc X.env.scope x) (r : RelV v u)
    (h : ∀ s', Inv X pins (σ.set i (some v)) H s' → (∃ a, Heap.SameBut a s.heap s'.heap ∧ (a = X.env.locals ∨ X.env.cells.lookup x = some a)) → Q () s') (hf : X.fn x = true ∨ X.env.scope.names.lookup x = some .local := by first | exact .inl rfl | exact .inr rfl | assumption) : wpAny M A (storeName X.env x u) Q E s := by
  obtain ⟨m, hn, hl⟩ := id I.loc
  have hcls : (X.env.scope.kind == .class || (X.env.scope.kind == .module && X.env.locals != X.env.globals)) = false := by rw [I.ok.kind]; rfl
  have hiσ : i < σ.length := by rw [I.len]; exact (List.getElem?_eq_some_iff.mp hi).1
  have cne := I.cne
  have tracked : ∀ {a : Addr} {h' : Heap}, (∃ o, s.heap.get? a = some o ∧ H a = none) → Heap.SameBut a s.heap h' → HOk X.prog X.w H h' := fun {a h'} ha hs b ob e => by
    obtain ⟨_, _, hfree⟩ := ha
    refine (I.hok b ob e).stay (fun c w' hc q => (hs.2 c ?_).trans q) (fun _ q => q) fun _ _ q => q
    rintro rfl
    rcases hc with rfl | hc
    · rw [hfree] at e; cases e
    · rw [hfree] at hc; cases hc
  rcases hx with hk | hk
  · refine wpAny_storeName_local hk hn (fun h' hn' hs => ?_) hcls
    obtain ⟨oL, _, _, hoL, _⟩ := id hn
    refine h _ ⟨I.ok, I.os, I.bare, ⟨fun b o e n hb hx => ?_, fun b o e n hb hx => ?_, I.base.free, fun b o e hx => ?_, I.base.tups, I.base.frzs, I.base.tbls⟩, ⟨_, hn', fun j y v' e1 e2 e3 => ?_⟩, fun y c e => ?_, I.free, I.freeC, fun p hp => ?_, tracked ⟨oL, hoL, I.free⟩ hs, by simpa using I.len⟩ ⟨_, hs, .inl rfl⟩
    · exact (hs.2 b (Nat.ne_of_lt (Nat.lt_of_lt_of_le (Heap.lt_size e) I.ok.above))).trans (I.base.keep b o e n hb hx)
    · obtain ⟨sl, e1⟩ := I.base.slot b o e n hb hx
      exact ⟨sl, (hs.2 b (Nat.ne_of_lt (Nat.lt_of_lt_of_le (Heap.lt_size e) I.ok.above))).trans e1⟩
    · obtain ⟨o', e1⟩ := I.base.there b o e hx
      exact ⟨o', (hs.2 b (Nat.ne_of_lt (Nat.lt_of_lt_of_le (Heap.lt_size e) I.ok.above))).trans e1⟩
    · by_cases hj : j = i
      · subst hj
        rw [hi] at e1; cases e1
        rw [List.getElem?_set_self hiσ] at e2
        cases e2
        exact ⟨u, r, .inl ⟨hk, by simp⟩⟩
      · rw [List.getElem?_set_ne (Ne.symm hj)] at e2
        obtain ⟨u', r', q⟩ := hl j y v' e1 e2 e3
        refine ⟨u', r', ?_⟩
        rcases q with ⟨k, e⟩ | ⟨k, c, e, z⟩
        · refine .inl ⟨k, ?_⟩
          have : y ≠ x := fun e => hj (nodup_ix hN e1 (e ▸ hi))
          simp [this, e]
        · exact .inr ⟨k, c, e, z.sameBut hs (cne y c e)⟩
    · obtain ⟨w', z⟩ := I.cell y c e
      exact ⟨w', z.sameBut hs (cne y c e)⟩
    · obtain ⟨e, n, ne, nf, d⟩ := I.pin p hp
      exact ⟨(hs.2 p.1 ne).trans e, n, ne, nf, d⟩
  · have hfn : X.fn x = true := by
      rcases hf with z | z
      · exact z
      · rw [z] at hk; cases hk
    obtain ⟨c, hc⟩ := I.ok.has x (.inl hk)
    obtain ⟨w', z⟩ := I.cell x c hc
    refine wpAny_storeName_cell I.ok.kind hk hc z (fun h' hc' hs => ?_)
    obtain ⟨oc, hoc, hocd⟩ := id z
    refine h { s with heap := h' } ⟨I.ok, I.os, I.bare, ⟨fun b o e n hb hx => ?_, fun b o e n hb hx => ?_, I.base.free, fun b o e hx => ?_, I.base.tups, I.base.frzs, I.base.tbls⟩, ⟨m, hn.sameBut hs (Ne.symm (cne x c hc)), fun j y v' e1 e2 e3 => ?_⟩, fun y c' e => ?_, I.free, I.freeC, fun p hp => ?_, tracked ⟨oc, hoc, I.freeC x c hc⟩ hs, by simpa using I.len⟩ ⟨c, hs, .inr hc⟩
    · exact (hs.2 b (Nat.ne_of_lt (Nat.lt_of_lt_of_le (Heap.lt_size e) (I.ok.cab x c hfn hc)))).trans (I.base.keep b o e n hb hx)
    · obtain ⟨sl, e1⟩ := I.base.slot b o e n hb hx
      exact ⟨sl, (hs.2 b (Nat.ne_of_lt (Nat.lt_of_lt_of_le (Heap.lt_size e) (I.ok.cab x c hfn hc)))).trans e1⟩
    · obtain ⟨o', e1⟩ := I.base.there b o e hx
      exact ⟨o', (hs.2 b (Nat.ne_of_lt (Nat.lt_of_lt_of_le (Heap.lt_size e) (I.ok.cab x c hfn hc)))).trans e1⟩
    · by_cases hj : j = i
      · subst hj
        rw [hi] at e1; cases e1
        rw [List.getElem?_set_self hiσ] at e2
        cases e2
        exact ⟨u, r, .inr ⟨.inl hk, c, hc, hc'⟩⟩
      · rw [List.getElem?_set_ne (Ne.symm hj)] at e2
        obtain ⟨u', r', q⟩ := hl j y v' e1 e2 e3
        refine ⟨u', r', ?_⟩
        rcases q with q | ⟨k, c', e, z'⟩
        · exact .inl q
        · refine .inr ⟨k, c', e, z'.sameBut hs ?_⟩
          rintro rfl
          exact hj (nodup_ix hN e1 (I.ok.inj _ _ _ e hc ▸ hi))
    · by_cases hcc : c' = c
      · subst hcc; exact ⟨_, hc'⟩
      · obtain ⟨w2, z2⟩ := I.cell y c' e
        exact ⟨w2, z2.sameBut hs hcc⟩
    · obtain ⟨e, n, ne, nf, d⟩ := I.pin p hp
      refine ⟨(hs.2 p.1 ?_).trans e, n, ne, nf, d⟩
      intro q
      rw [q, hoc] at e
      have q' : oc = p.2 := Option.some.inj e
      exact d w' (by rw [← q']; exact hocd)
theorem store_ok {M : Model} {A : Around} {E : Value → Shared → Prop} {i : Nat} {x : Str} {v : V} {u : Value} {Q : Unit → Shared → Prop} (I : Inv X pins σ H s) (hN : X.N.Nodup) (hi : X.N[i]? = some x) (hx : Loc X.env.scope x) (r : RelV v u)
    (h : ∀ s', Inv X pins (σ.set i (some v)) H s' → Q () s') (hf : X.fn x = true ∨ X.env.scope.names.lookup x = some .local := by first | exact .inl rfl | exact .inr rfl | assumption) : wpAny M A (storeName X.env x u) Q E s :=
  store_ok2 I hN hi hx r (fun s' I' _ => h s' I') hf
/-- behind a call or a block, the state as it is -/
theorem Inv.call' {s' : Shared} {ch : List Addr} (I : Inv X pins σ H s) (ho : s'.os = s.os) (u : Un (frs X.stack) ch H H' s.heap s'.heap) (hok : HOk X.prog X.w H' s'.heap) (hg : AllBare s'.gens)
    (hch : ∀ b ∈ ch, (b ∈ X.ex ∨ X.s₀.heap.objs.size ≤ b) ∧ b ≠ X.env.locals ∧ (∀ x c, X.env.cells.lookup x = some c → c ≠ b) ∧ ∀ p ∈ X.pn ++ pins, p.1 ≠ b) : Inv X pins σ H' s' := by
  obtain ⟨h', g', d', t', o'⟩ := s'
  have e : o' = s.os := ho
  subst e
  exact I.call (g' := g') (t' := t') (d' := d') u hok hg hch
end

/-! ### the judgements -/
/-- an exception: its class, its own dict's address (where it has one), the abstract heap behind it -/
abbrev XK := Value → Option Addr → Hp → Prop
abbrev St := List (Option V)
abbrev VK := V → Hp → Prop
/-- an expression's reading; a test's; an argument list's -/
abbrev TE := St → Hp → VK → Prop
abbrev TT := St → Hp → (Bool → Hp → Prop) → Prop
abbrev TA := St → Hp → (List V → Hp → Prop) → Prop
/-- what is wanted behind a statement -/
structure Ends where
  nx : St → Hp → Prop
  rt : VK
  bk : St → Hp → Prop := fun _ _ => False
  ct : St → Hp → Prop := fun _ _ => False
abbrev TS := Ends → St → Hp → Prop

def EP (X : Cx) (pins : List (Addr × Obj)) (σ : St) (Q : VK) (u : Value) (s' : Shared) : Prop := ∃ v H', Inv X pins σ H' s' ∧ RelV v u ∧ Q v H'
def TP (X : Cx) (pins : List (Addr × Obj)) (σ : St) (Q : Bool → Hp → Prop) (b : Bool) (s' : Shared) : Prop := ∃ H', Inv X pins σ H' s' ∧ Q b H'
def AP (X : Cx) (pins : List (Addr × Obj)) (σ : St) (Q : List V → Hp → Prop) (us : List Value) (s' : Shared) : Prop := ∃ vs H', Inv X pins σ H' s' ∧ Vals vs us ∧ Q vs H'
def SP (X : Cx) (pins : List (Addr × Obj)) (D : Ends) (f : Flow) (s' : Shared) : Prop :=
  match f with
  | .next => ∃ σ' H', Inv X pins σ' H' s' ∧ D.nx σ' H'
  | .brk => ∃ σ' H', Inv X pins σ' H' s' ∧ D.bk σ' H'
  | .cont => ∃ σ' H', Inv X pins σ' H' s' ∧ D.ct σ' H'
  | .ret u => ∃ v σ' H', Inv X pins σ' H' s' ∧ RelV v u ∧ D.rt v H'

structure PE (X : Cx) (e : Expr) (t : TE) : Prop where
  go : ∀ (pins : List (Addr × Obj)) (s : Shared) (σ : St) (H : Hp) (Q : VK), Inv X pins σ H s → t σ H Q → wpAny (model X.prog X.w) X.A (eval e X.env) (EP X pins σ Q) X.xe s
instance {X : Cx} {e : Expr} {t : TE} : CoeFun (PE X e t) (fun _ => ∀ (pins : List (Addr × Obj)) (s : Shared) (σ : St) (H : Hp) (Q : VK), Inv X pins σ H s → t σ H Q → wpAny (model X.prog X.w) X.A (eval e X.env) (EP X pins σ Q) X.xe s) := ⟨PE.go⟩
structure PT (X : Cx) (e : Expr) (t : TT) : Prop where
  go : ∀ (pins : List (Addr × Obj)) (s : Shared) (σ : St) (H : Hp) (Q : Bool → Hp → Prop), Inv X pins σ H s → t σ H Q → wpAny (model X.prog X.w) X.A (isTrue e X.env (eval e X.env)) (TP X pins σ Q) X.xe s
instance {X : Cx} {e : Expr} {t : TT} : CoeFun (PT X e t) (fun _ => ∀ (pins : List (Addr × Obj)) (s : Shared) (σ : St) (H : Hp) (Q : Bool → Hp → Prop), Inv X pins σ H s → t σ H Q → wpAny (model X.prog X.w) X.A (isTrue e X.env (eval e X.env)) (TP X pins σ Q) X.xe s) := ⟨PT.go⟩
/-- a test whatever its 'whole' is (and, or) -/
structure PW (X : Cx) (e : Expr) (t : TT) : Prop where
  go : ∀ (whole : Sem Value) (pins : List (Addr × Obj)) (s : Shared) (σ : St) (H : Hp) (Q : Bool → Hp → Prop), Inv X pins σ H s → t σ H Q → wpAny (model X.prog X.w) X.A (isTrue e X.env whole) (TP X pins σ Q) X.xe s
instance {X : Cx} {e : Expr} {t : TT} : CoeFun (PW X e t) (fun _ => ∀ (whole : Sem Value) (pins : List (Addr × Obj)) (s : Shared) (σ : St) (H : Hp) (Q : Bool → Hp → Prop), Inv X pins σ H s → t σ H Q → wpAny (model X.prog X.w) X.A (isTrue e X.env whole) (TP X pins σ Q) X.xe s) := ⟨PW.go⟩
theorem PW.pt {X : Cx} {e : Expr} {t : TT} (h : PW X e t) : PT X e t := .mk (h _)
/-- an argument list (no star), from the left -/
structure PA (X : Cx) (es : List Expr) (t : TA) : Prop where
  go : ∀ (pos : Pos) (pins : List (Addr × Obj)) (s : Shared) (σ : St) (H : Hp) (Q : List V → Hp → Prop), Inv X pins σ H s → t σ H Q → wpAny (model X.prog X.w) X.A (spliced (backTo pos (starEach es X.env))) (AP X pins σ Q) X.xe s
instance {X : Cx} {es : List Expr} {t : TA} : CoeFun (PA X es t) (fun _ => ∀ (pos : Pos) (pins : List (Addr × Obj)) (s : Shared) (σ : St) (H : Hp) (Q : List V → Hp → Prop), Inv X pins σ H s → t σ H Q → wpAny (model X.prog X.w) X.A (spliced (backTo pos (starEach es X.env))) (AP X pins σ Q) X.xe s) := ⟨PA.go⟩
structure PS (X : Cx) (st : Stmt) (t : TS) : Prop where
  go : ∀ (pins : List (Addr × Obj)) (s : Shared) (σ : St) (H : Hp) (D : Ends), Inv X pins σ H s → t D σ H → wpAny (model X.prog X.w) X.A (exec st X.env) (SP X pins D) X.xe s
instance {X : Cx} {st : Stmt} {t : TS} : CoeFun (PS X st t) (fun _ => ∀ (pins : List (Addr × Obj)) (s : Shared) (σ : St) (H : Hp) (D : Ends), Inv X pins σ H s → t D σ H → wpAny (model X.prog X.w) X.A (exec st X.env) (SP X pins D) X.xe s) := ⟨PS.go⟩
structure PSs (X : Cx) (st : List Stmt) (t : TS) : Prop where
  go : ∀ (pins : List (Addr × Obj)) (s : Shared) (σ : St) (H : Hp) (D : Ends), Inv X pins σ H s → t D σ H → wpAny (model X.prog X.w) X.A (execs st X.env) (SP X pins D) X.xe s
instance {X : Cx} {st : List Stmt} {t : TS} : CoeFun (PSs X st t) (fun _ => ∀ (pins : List (Addr × Obj)) (s : Shared) (σ : St) (H : Hp) (D : Ends), Inv X pins σ H s → t D σ H → wpAny (model X.prog X.w) X.A (execs st X.env) (SP X pins D) X.xe s) := ⟨PSs.go⟩
/-- weaken the end -/
theorem thn {α : Type} {t : Sem α} {Q Q' : α → Shared → Prop} {M : Model} {A : Around} {E : Value → Shared → Prop} {s : Shared} (h : wpAny M A t Q E s) (hQ : ∀ a s, Q a s → Q' a s) : wpAny M A t Q' E s := wpAny_mono h hQ fun _ _ x => x
end L2

namespace L2
open PySem PySem.Spec PyProof.Rows
section
variable {X : Cx}


/-! ### names and constants -/
inductive tVar (i : Nat) (σ : St) (H : Hp) (Q : VK) : Prop
  | mk (v : V) (e : σ[i]? = some (some v)) (q : Q v H) : tVar i σ H Q
abbrev tC (v : V) : TE := fun _ H Q => Q v H
theorem pe_var {i : Nat} {x : Str} {pos : Pos} (hN : X.N[i]? = some x) (hv : Vis X.env.scope x) (hd : (x == ("__debug__" : Str)) = false := by decide) (hcd : (x == ("__classdict__" : Str)) = false := by decide) : PE X (.Name x pos) (tVar i) := by
  refine ⟨?_⟩
  intro pins s σ H Q I h
  obtain ⟨v, e, h⟩ := h
  obtain ⟨m, hn, hl⟩ := I.loc
  obtain ⟨u, r, l⟩ := hl i x v hN e hv
  have fin : EP X pins σ Q u s := ⟨v, H, I, r, h⟩
  rcases l with ⟨hk, hm⟩ | ⟨hk, c, hc, hcell⟩
  · exact wpAny_Name (wpAny_loadName_local I.ok.kind hk hn hm fin) hd
  · rcases hk with hk | hk
    · exact wpAny_Name (wpAny_loadName_cell I.ok.kind hk hc hcell fin) hd
    · exact wpAny_Name (wpAny_loadName_free I.ok.kind hk hc hcell fin hcd) hd
theorem pe_int {i j pos} : PE X (.Constant (.int i) j pos) (tC (.int i)) := .mk fun _ _ _ H _ I h => wpAny_Constant_int ⟨.int i, H, I.tok _, ⟨_, rfl⟩, h⟩
theorem pe_bl {b j pos} : PE X (.Constant (.bool b) j pos) (tC (.bl b)) := .mk fun _ _ _ H _ I h => Constant_bool ⟨.bl b, H, I, rfl, h⟩
theorem pe_non {j pos} : PE X (.Constant .none j pos) (tC .non) := .mk fun _ _ _ H _ I h => Constant_none ⟨.non, H, I, rfl, h⟩
theorem pe_str {x j pos} : PE X (.Constant (.str x) j pos) (tC (.str x)) := .mk fun _ _ _ H _ I h => Calls.Constant_str ⟨.str x, H, I.tok _, ⟨_, rfl⟩, h⟩

/-- a global name of the def -/
def Gl (X : Cx) (x : Str) : Prop := X.env.kindOf x = some .globalImplicit
theorem ld_glob {E : Value → Shared → Prop} {pins : List (Addr × Obj)} {s : Shared} {σ : St} {H : Hp} {x : Str} {u : Value} {pos : Pos} {Q : Value → Shared → Prop} (I : Inv X pins σ H s) (hg : Gl X x) (hm : X.mg x = some u) (h : Q u s)
    (hd : (x == ("__debug__" : Str)) = false := by decide) : wpAny (model X.prog X.w) X.A (eval (.Name x pos) X.env) Q E s :=
  Calls.Name_function_global I.ok.kind hg (Calls.loadGlobal_global (by rw [I.ok.glob]; exact I.mod.glob.keeps I.bk) hm h) hd
theorem ld_blt {E : Value → Shared → Prop} {pins : List (Addr × Obj)} {s : Shared} {σ : St} {H : Hp} {x : Str} {u : Value} {pos : Pos} {Q : Value → Shared → Prop} (I : Inv X pins σ H s) (hg : Gl X x) (hm : X.mg x = none) (hv : bootBuiltins x = some u) (h : Q u s)
    (hn : x ≠ "__name__" := by decide) (hd : (x == ("__debug__" : Str)) = false := by decide) : wpAny (model X.prog X.w) X.A (eval (.Name x pos) X.env) Q E s := by
  obtain ⟨mb, h1, h2⟩ := I.mod.blt
  exact Calls.Name_function_global I.ok.kind hg (Calls.loadGlobal_builtin (by rw [I.ok.glob]; exact I.mod.glob.keeps I.bk) hm (by rw [I.ok.blt]; exact h1.keeps I.bk) ((h2 x hn).trans hv) h) hd
/-- a module's constant, a class, a function, as a value -/
theorem pe_glob {x : Str} {v : V} {u : Value} {pos : Pos} (hg : Gl X x) (hm : X.mg x = some u) (r : RelV v u) (hd : (x == ("__debug__" : Str)) = false := by decide) : PE X (.Name x pos) (tC v) := .mk
  fun _ _ _ H _ I h => ld_glob I hg hm ⟨v, H, I, r, h⟩ hd
theorem pe_bltn {x : Str} {v : V} {u : Value} {pos : Pos} (hg : Gl X x) (hm : X.mg x = none) (hv : bootBuiltins x = some u) (r : RelV v u) (hn : x ≠ "__name__" := by decide) (hd : (x == ("__debug__" : Str)) = false := by decide) : PE X (.Name x pos) (tC v) := .mk
  fun _ _ _ H _ I h => ld_blt I hg hm hv ⟨v, H, I, r, h⟩ hn hd

/-! ### arithmetic -/
variable {a b : Expr} {ta tb : TE} {pos : Pos}

/-! ### comparisons -/
def PC (X : Cx) (op : CmpOp) (a b : Expr) (t : TE) : Prop :=
  ∀ (pins : List (Addr × Obj)) (s : Shared) (σ : St) (H : Hp) (Q : VK), Inv X pins σ H s → t σ H Q →
    wpAny (model X.prog X.w) X.A (eval a X.env) (fun v s₁ => wpAny (model X.prog X.w) X.A (eval b X.env) (fun u s₂ => wpAny (model X.prog X.w) X.A (compareOp op v u) (EP X pins σ Q) X.xe s₂) X.xe s₁) X.xe s
/-- a comparison as a value, as a test -/
inductive tBx (x : V) (H1 : Hp) (Q : Bool → Hp → Prop) : Prop
  | mk (c : Bool) (e : x = .bl c) (q : Q c H1) : tBx x H1 Q
def tB (t : TE) : TT := fun σ H Q => t σ H fun x H1 => tBx x H1 Q
theorem pt_cmp {op : CmpOp} {t : TE} (h : PC X op a b t) (h1 : behindInMarks op b = false := by first | exact nobehind _ (by decide) (by decide) | rfl) : PT X (.Compare a [op] [b] pos) (tB t) := by
  refine ⟨?_⟩
  intro pins s σ H Q I hw
  refine wpAny_isTrue_Compare1 (thn (h pins s σ H _ I hw) fun v s1 h1 => thn h1 fun u s2 h2 => thn h2 fun c s3 ⟨x, H1, I1, r1, q1⟩ => ?_) h1
  obtain ⟨d, rfl, q⟩ := q1
  cases r1
  exact wpAny_truthy_bool ⟨H1, I1, q⟩
/-- an expression whose value is a bool, as a test -/
theorem pt_val {e : Expr} {t : TE} (h : PE X e t) (he : ∀ whole, isTrue e X.env whole = (do let v ← whole; standAt e.pos; holding [v] (truthy v)) := by intro _; rfl) : PT X e (tB t) := by
  refine ⟨?_⟩
  intro pins s σ H Q I hw
  refine isTrue_plain (thn (h pins s σ H _ I hw) fun v s1 ⟨x, H1, I1, r1, q1⟩ => ?_) (he _)
  obtain ⟨d, rfl, q⟩ := q1
  cases r1
  exact wpAny_truthy_bool ⟨H1, I1, q⟩

/-! ### and, or, not -/
variable {tA tB' : TT} {rest : List Expr}
def tAnd (t u : TT) : TT := fun σ H Q => t σ H fun c H1 => if c = true then u σ H1 Q else Q false H1
def tOr (t u : TT) : TT := fun σ H Q => t σ H fun c H1 => if c = true then Q true H1 else u σ H1 Q
def tNot (t : TT) : TT := fun σ H Q => t σ H fun c H1 => Q (!c) H1
theorem pw_and1 (ha : PT X a tA) : PW X (.BoolOp .And [a] pos) tA := by
  refine ⟨?_⟩
  intro wh pins s σ H Q I h
  refine isTrue_and (thn (ha pins s σ H Q I h) fun c s1 e => ?_)
  cases c with
  | true => exact isTrue_and_nil e
  | false => exact e
theorem pw_or1 (ha : PT X a tA) : PW X (.BoolOp .Or [a] pos) tA := by
  refine ⟨?_⟩
  intro wh pins s σ H Q I h
  refine isTrue_or (thn (ha pins s σ H Q I h) fun c s1 e => ?_)
  cases c with
  | false => exact isTrue_or_nil e
  | true => exact e
theorem pw_and (ha : PT X a tA) (hb : PW X (.BoolOp .And (b :: rest) pos) tB') : PW X (.BoolOp .And (a :: b :: rest) pos) (tAnd tA tB') := by
  refine ⟨?_⟩
  intro wh pins s σ H Q I h
  refine isTrue_and (thn (ha pins s σ H _ I h) fun c s1 ⟨H1, I1, q1⟩ => ?_)
  cases c with
  | true => exact hb wh pins s1 σ H1 Q I1 q1
  | false => exact ⟨H1, I1, q1⟩
theorem pw_or (ha : PT X a tA) (hb : PW X (.BoolOp .Or (b :: rest) pos) tB') : PW X (.BoolOp .Or (a :: b :: rest) pos) (tOr tA tB') := by
  refine ⟨?_⟩
  intro wh pins s σ H Q I h
  refine isTrue_or (thn (ha pins s σ H _ I h) fun c s1 ⟨H1, I1, q1⟩ => ?_)
  cases c with
  | true => exact ⟨H1, I1, q1⟩
  | false => exact hb wh pins s1 σ H1 Q I1 q1
theorem pt_not (ha : PT X a tA) : PT X (.UnaryOp .Not a pos) (tNot tA) := by
  refine ⟨?_⟩
  intro pins s σ H Q I h
  exact isTrue_not (ha pins s σ H (fun c H1 => Q (!c) H1) I h)
/-- .. as values (bools) -/
inductive tAndX (tb : TE) (σ : St) (x : V) (H1 : Hp) (Q : VK) : Prop
  | mk (c : Bool) (e : x = .bl c) (q : if c = true then tb σ H1 Q else Q (.bl false) H1) : tAndX tb σ x H1 Q
def tAndV (ta tb : TE) : TE := fun σ H Q => ta σ H fun x H1 => tAndX tb σ x H1 Q
theorem pe_one {op} {t : TE} (h : PE X a t) : PE X (.BoolOp op [a] pos) t := .mk fun pins s σ H Q I hw => BoolOp_one (h pins s σ H Q I hw)
theorem pe_and (ha : PE X a ta) (hb : PE X (.BoolOp .And (b :: rest) pos) tb) : PE X (.BoolOp .And (a :: b :: rest) pos) (tAndV ta tb) := by
  refine ⟨?_⟩
  intro pins s σ H Q I h
  refine BoolOp_and (thn (ha pins s σ H _ I h) fun v s1 ⟨x, H1, I1, r1, q1⟩ => ?_)
  obtain ⟨c, rfl, q1⟩ := q1
  cases r1
  refine wpAny_truthy_bool ?_
  cases c with
  | true => exact hb pins s1 σ H1 Q I1 q1
  | false => exact ⟨.bl false, H1, I1, rfl, q1⟩
/-- a if t else b -/
def tIf (t : TT) (ta tb : TE) : TE := fun σ H Q => t σ H fun c H1 => if c = true then ta σ H1 Q else tb σ H1 Q
theorem pe_ifExp {c : Expr} (hc : PT X c tA) (ha : PE X a ta) (hb : PE X b tb) : PE X (.IfExp c a b pos) (tIf tA ta tb) := by
  refine ⟨?_⟩
  intro pins s σ H Q I h
  refine wpAny_IfExp (thn (hc pins s σ H _ I h) fun d s1 ⟨H1, I1, q1⟩ => ?_)
  cases d with
  | true => exact ha pins s1 σ H1 Q I1 q1
  | false => exact hb pins s1 σ H1 Q I1 q1
end
end L2

namespace L2
open PySem PySem.Spec PyProof.Rows

/-! ### a list, a tuple that is read: tracked, frozen, or an object of the module -/
def SqL (K : PySem.W.Frag) (H : Hp) (a : Addr) (xs : List V) : Prop :=
  Rd H a (.lst xs) ∨
    ∃ (o : Obj) (its : Array Value) (n : Nat), K.lookup a = some o ∧ o.cls = .type "list" ∧ o.dict = none ∧ o.data = .seq its n ∧ its.size ≤ sizeLine ∧ Vals xs its.toList
def SqT (K : PySem.W.Frag) (H : Hp) (a : Addr) (xs : List V) : Prop :=
  Rd H a (.tup xs) ∨
    ∃ (o : Obj) (its : Array Value) (n : Nat), K.lookup a = some o ∧ o.cls = .type "tuple" ∧ o.data = .seq its n ∧ its.size ≤ sizeLine ∧ Vals xs its.toList
def absV : Value → Option V
  | .none => some .non
  | .bool b => some (.bl b)
  | .int i _ => some (.int i)
  | .str x _ => some (.str x)
  | .bytes b _ => some (.byt b)
  | .float b _ => some (.flt b)
  | .ref a => some (.ref a)
  | .type n => some (.ty n)
  | _ => none
theorem RelV.abs {x : V} {u : Value} (r : RelV x u) : absV u = some x := by
  cases x with
  | non => cases r; rfl
  | bl _ => cases r; rfl
  | int _ => obtain ⟨t, rfl⟩ := r; rfl
  | str _ => obtain ⟨t, rfl⟩ := r; rfl
  | byt _ => obtain ⟨t, rfl⟩ := r; rfl
  | flt _ => obtain ⟨t, rfl⟩ := r; rfl
  | ref _ => cases r; rfl
  | ty _ => cases r; rfl
theorem RelV.inj {x y : V} {u : Value} (r : RelV x u) (q : RelV y u) : x = y := Option.some.inj (r.abs.symm.trans q.abs)
theorem Vals.inj : ∀ {xs ys : List V} {us : List Value}, Vals xs us → Vals ys us → xs = ys
  | _, _, _, .nil, .nil => rfl
  | _, _, _, .cons r t, .cons r' t' => by rw [r.inj r', Vals.inj t t']
section
variable {X : Cx} {pins : List (Addr × Obj)} {σ : St} {H : Hp} {s : Shared} {a : Addr} {xs ys : List V}
theorem SqL.of {K : PySem.W.Frag} (h : H a = some (.lst xs)) : SqL K H a xs := .inl (.inl h)
theorem SqT.of {K : PySem.W.Frag} (h : H a = some (.tup xs)) : SqT K H a xs := .inl (.inl h)
theorem Inv.list (I : Inv X pins σ H s) (h : SqL X.K H a xs) : ∃ its : List Value, Vals xs its ∧ PlainL s.heap a its.toArray ∧ xs.length ≤ sizeLine := by
  rcases h with h | ⟨o, its, n, hk, hc, hd, hs, hz, r⟩
  · obtain ⟨z, its, n, r, e⟩ := h.ok I.hok
    exact ⟨its, r, ⟨_, n, e, rfl, rfl, rfl⟩, z⟩
  · refine ⟨its.toList, r, ⟨o, n, I.kIn a o hk, hc, hd, by simpa using hs⟩, ?_⟩
    have e := r.length
    simp only [Array.length_toList] at e
    omega
theorem Inv.tuple (I : Inv X pins σ H s) (h : SqT X.K H a xs) : ∃ its : List Value, Vals xs its ∧ IsTup s.heap a its.toArray ∧ xs.length ≤ sizeLine := by
  rcases h with h | ⟨o, its, n, hk, hc, hs, hz, r⟩
  · obtain ⟨z, its, r, p⟩ := h.ok I.hok
    exact ⟨its, r, p, z⟩
  · refine ⟨its.toList, r, ⟨o, I.kIn a o hk, hc, n, by simpa using hs⟩, ?_⟩
    have e := r.length
    simp only [Array.length_toList] at e
    omega
theorem Inv.list_inj (I : Inv X pins σ H s) (h : SqL X.K H a xs) (h' : SqL X.K H a ys) : xs = ys := by
  obtain ⟨its, r, ⟨o, n, e, _, _, d⟩, _⟩ := I.list h
  obtain ⟨its', r', ⟨o', n', e', _, _, d'⟩, _⟩ := I.list h'
  rw [e] at e'; cases e'
  rw [d] at d'
  injection d' with d1 _
  have : its = its' := by simpa using congrArg Array.toList d1
  subst this
  exact r.inj r'
theorem Inv.tuple_inj (I : Inv X pins σ H s) (h : SqT X.K H a xs) (h' : SqT X.K H a ys) : xs = ys := by
  obtain ⟨its, r, ⟨o, e, _, n, d⟩, _⟩ := I.tuple h
  obtain ⟨its', r', ⟨o', e', _, n', d'⟩, _⟩ := I.tuple h'
  rw [e] at e'; cases e'
  rw [d] at d'
  injection d' with d1 _
  have : its = its' := by simpa using congrArg Array.toList d1
  subst this
  exact r.inj r'
end

/-! ### another wish about exceptions -/
abbrev Cx.wish (X : Cx) (E : Value → Shared → Prop) : Cx := { X with xe := E }
/-- no exception leaves -/
abbrev Cx.nox (X : Cx) : Cx := X.wish fun _ _ => False
theorem Cx.Ok.wish {X : Cx} (ok : X.Ok) (E : Value → Shared → Prop) : (X.wish E).Ok :=
  ⟨ok.mod, ok.kind, ok.glob, ok.blt, ok.above, ok.inj, ok.has, ok.cab, ok.hd, ok.frames, ok.stk, ok.exf, ok.bs, ok.bsz, ok.noex, ok.exfs, ok.funs, ok.frf⟩
theorem Cx.Ok.unwish {X : Cx} {E : Value → Shared → Prop} (ok : (X.wish E).Ok) : X.Ok :=
  ⟨ok.mod, ok.kind, ok.glob, ok.blt, ok.above, ok.inj, ok.has, ok.cab, ok.hd, ok.frames, ok.stk, ok.exf, ok.bs, ok.bsz, ok.noex, ok.exfs, ok.funs, ok.frf⟩
section
variable {X : Cx} {pins : List (Addr × Obj)} {σ : St} {H : Hp} {s : Shared} {E : Value → Shared → Prop}
theorem Inv.wish (I : Inv X pins σ H s) (E : Value → Shared → Prop) : Inv (X.wish E) pins σ H s := ⟨I.ok.wish E, I.os, I.bare, I.base, I.loc, I.cell, I.free, I.freeC, I.pin, I.hok, I.len⟩
theorem Inv.unwish (I : Inv (X.wish E) pins σ H s) : Inv X pins σ H s := ⟨I.ok.unwish, I.os, I.bare, I.base, I.loc, I.cell, I.free, I.freeC, I.pin, I.hok, I.len⟩
theorem SP.unwish {D : Ends} {f : Flow} {s' : Shared} (h : SP (X.wish E) pins D f s') : SP X pins D f s' := by
  cases f with
  | next => obtain ⟨σ', H', I, q⟩ := h; exact ⟨σ', H', I.unwish, q⟩
  | brk => obtain ⟨σ', H', I, q⟩ := h; exact ⟨σ', H', I.unwish, q⟩
  | cont => obtain ⟨σ', H', I, q⟩ := h; exact ⟨σ', H', I.unwish, q⟩
  | ret u => obtain ⟨v, σ', H', I, r, q⟩ := h; exact ⟨v, σ', H', I.unwish, r, q⟩
theorem PSs.nox {st : List Stmt} {t : TS} (h : PSs X.nox st t) : PSs X st t := .mk fun pins s σ H D I hw =>
  wpAny_mono (h pins s σ H D (I.wish _) hw) (fun _ _ q => q.unwish) fun _ _ z => False.elim z
end

/-! ### blocks and small statements -/
section
variable {X : Cx} {st : Stmt} {rest : List Stmt} {t u : TS} {e : Expr} {te : TE} {pos : Pos}
def tNext : TS := fun D σ H => D.nx σ H
def tSeq (t u : TS) : TS := fun D σ H => t { D with nx := u D } σ H
theorem pss_nil : PSs X [] tNext := .mk fun _ _ σ H _ I h => wpAny_execs_nil ⟨σ, H, I, h⟩
theorem pss_cons (h1 : PS X st t) (h2 : PSs X rest u) : PSs X (st :: rest) (tSeq t u) := by
  refine ⟨?_⟩
  intro pins s σ H D I h
  refine wpAny_execs_cons (thn (h1 pins s σ H { D with nx := u D } I h) fun f s1 q => ?_)
  cases f with
  | next =>
    obtain ⟨σ', H', I', q⟩ := q
    exact h2 pins s1 σ' H' D I' q
  | ret v => exact q
  | brk => exact q
  | cont => exact q
theorem pss_one (h1 : PS X st t) : PSs X [st] t := by
  refine ⟨?_⟩
  intro pins s σ H D I h
  refine wpAny_execs_cons (thn (h1 pins s σ H D I h) fun f s1 q => ?_)
  cases f with
  | next => exact wpAny_execs_nil q
  | ret v => exact q
  | brk => exact q
  | cont => exact q
/-- in a def's body nothing is shown -/
theorem Inv.quiet {pins : List (Addr × Obj)} {σ : St} {H : Hp} {s : Shared} (I : Inv X pins σ H s) : interactive X.env = false := by simp [interactive, I.ok.kind]
/-- an expression whose value is dropped -/
def tDrop (te : TE) : TS := fun D σ H => te σ H fun _ H1 => D.nx σ H1
theorem ps_expr (he : PE X e te) (hs : swapsWith e none pos.line X.env = pure false := by rfl) : PS X (.Expr e pos) (tDrop te) := by
  refine ⟨?_⟩
  intro pins s σ H D I h
  exact wpAny_Expr_any (thn (he pins s σ H _ I h) fun v s1 ⟨x, H1, I1, r1, q1⟩ => ⟨σ, H1, I1, q1⟩) I.quiet hs
def tRet (te : TE) : TS := fun D σ H => te σ H D.rt
theorem ps_ret (he : PE X e te) : PS X (.Return (some e) pos) (tRet te) := by
  refine ⟨?_⟩
  intro pins s σ H D I h
  exact wpAny_Return_some (thn (he pins s σ H _ I h) fun v s1 ⟨x, H1, I1, r1, q1⟩ => ⟨x, σ, H1, I1, r1, q1⟩)
def tIfS (c : TT) (t u : TS) : TS := fun D σ H => c σ H fun b H1 => if b = true then t D σ H1 else u D σ H1
theorem ps_if {c : Expr} {a b : List Stmt} {tc : TT} (hc : PT X c tc) (ha : PSs X a t) (hb : PSs X b u) : PS X (.If c a b pos) (tIfS tc t u) := by
  refine ⟨?_⟩
  intro pins s σ H D I h
  refine wpAny_If (thn (hc pins s σ H _ I h) fun d s1 ⟨H1, I1, q1⟩ => ?_)
  cases d with
  | true => exact ha pins s1 σ H1 D I1 q1
  | false => exact hb pins s1 σ H1 D I1 q1
end

/-! ### targets -/
abbrev TG := V → St → Hp → (St → Hp → Prop) → Prop
abbrev TGs := List V → St → Hp → (St → Hp → Prop) → Prop
def PG (X : Cx) (target : Expr) (t : TG) : Prop :=
  ∀ (pins : List (Addr × Obj)) (s : Shared) (σ : St) (H : Hp) (v : V) (u : Value) (Q : St → Hp → Prop), Inv X pins σ H s → RelV v u → t v σ H Q →
    wpAny (model X.prog X.w) X.A (assign target X.env u) (fun _ s' => ∃ σ' H', Inv X pins σ' H' s' ∧ Q σ' H') X.xe s
/-- several targets, one after another -/
def PGs (X : Cx) (ts : List Expr) (t : TGs) : Prop :=
  ∀ (pins : List (Addr × Obj)) (s : Shared) (σ : St) (H : Hp) (vs : List V) (us : List Value) (Q : St → Hp → Prop), Inv X pins σ H s → Vals vs us → t vs σ H Q →
    wpAny (model X.prog X.w) X.A (assignInOrder ((assignEach ts X.env).map (·.2)) us) (fun _ s' => ∃ σ' H', Inv X pins σ' H' s' ∧ Q σ' H') X.xe s
/-- o[i] = v, by values -/
abbrev TSet := V → V → V → Hp → (Hp → Prop) → Prop
def PSet (X : Cx) (t : TSet) : Prop :=
  ∀ (pins : List (Addr × Obj)) (s : Shared) (σ : St) (H : Hp) (o i v : V) (ov iv u : Value) (Q : Hp → Prop), Inv X pins σ H s → RelV o ov → RelV i iv → RelV v u → t o i v H Q →
    wpAny (model X.prog X.w) X.A (setItem ov iv u) (fun _ s' => ∃ H', Inv X pins σ H' s' ∧ Q H') X.xe s
section
variable {X : Cx} {pos : Pos}
def gName (i : Nat) : TG := fun v σ H Q => Q (σ.set i (some v)) H
theorem pg_name {i : Nat} {x : Str} (hN : X.N.Nodup) (hi : X.N[i]? = some x) (hx : Loc X.env.scope x) (hf : X.fn x = true ∨ X.env.scope.names.lookup x = some .local := by first | exact .inl rfl | exact .inr rfl | assumption) : PG X (.Name x pos) (gName i) := by
  intro pins s σ H v u Q I r h
  exact wpAny_assign_Name (store_ok I hN hi hx r (fun s' I' => ⟨_, H, I', h⟩) hf)
def gNil : TGs := fun vs σ H Q => vs = [] ∧ Q σ H
inductive gCons (t : TG) (u : TGs) (vs : List V) (σ : St) (H : Hp) (Q : St → Hp → Prop) : Prop
  | mk (v : V) (r : List V) (e : vs = v :: r) (q : t v σ H fun σ' H' => u r σ' H' Q) : gCons t u vs σ H Q
theorem pgs_nil : PGs X [] gNil := by
  intro pins s σ H vs us Q I r h
  obtain ⟨e, h⟩ := h
  subst e
  cases r
  exact assignInOrder_nil ⟨σ, H, I, h⟩
theorem pgs_cons {e : Expr} {es : List Expr} {t : TG} {u : TGs} (h1 : PG X e t) (h2 : PGs X es u)
    (hs : (assignEach (e :: es) X.env).map (·.2) = assign e X.env :: (assignEach es X.env).map (·.2) := by rfl) : PGs X (e :: es) (gCons t u) := by
  intro pins s σ H vs us Q I r h
  obtain ⟨v, vr, e1, h⟩ := h
  subst e1
  cases r with
  | cons r rr =>
    rw [hs]
    refine assignInOrder_cons (thn (h1 pins s σ H _ _ _ I r h) fun _ s1 ⟨σ1, H1, I1, q1⟩ => ?_)
    exact h2 pins s1 σ1 H1 _ _ Q I1 rr q1
/-- (a, b, ..) = a tuple of that length -/
inductive gTup (K : PySem.W.Frag) (n : Nat) (t : TGs) (v : V) (σ : St) (H : Hp) (Q : St → Hp → Prop) : Prop
  | mk (a : Addr) (xs : List V) (e : v = .ref a) (h : SqT K H a xs) (l : xs.length = n) (q : t xs σ H Q) : gTup K n t v σ H Q
theorem pg_tup {es : List Expr} {k : Nat} {t : TGs} {n : Nat} (hc : X.calm = true) (h : PGs X es t)
    (hn : (assignEach es X.env).length = n := by rfl) (hst : (assignEach es X.env).findIdx? (·.1) = none := by rfl) : PG X (.Tuple es k pos) (gTup X.K n t) := by
  intro pins s σ H v u Q I r hw
  obtain ⟨a, xs, e1, hq, hl, hw⟩ := hw
  subst e1
  cases r
  obtain ⟨its, rv, ht, hz⟩ := I.tuple hq
  refine assign_Tuple_tuple (I.ok.hd hc) ht (by simp [hn, ← hl, rv.length]) hst fun h' hx => ?_
  have I1 : Inv X pins σ H { s with heap := h' } := I.kept (t' := s.toks) fun b o e => hx b o (Nat.ne_of_lt (Heap.lt_size e)) e
  exact h pins _ σ H xs _ Q I1 (by simpa using rv) hw
/-- o[i] = .. -/
def gSub (to ti : TE) (t : TSet) : TG := fun v σ H Q => to σ H fun o H1 => ti σ H1 fun i H2 => t o i v H2 fun H3 => Q σ H3
theorem pg_sub {o i : Expr} {to ti : TE} {t : TSet} (ho : PE X o to) (hi : PE X i ti) (hs : PSet X t)
    (ha : ∀ v, assign (.Subscript o i pos) X.env v = (do
      let ov ← holding [v] (eval o X.env)
      let iv ← holding [v, ov] (eval i X.env)
      standAt pos
      holding [v, ov, iv] (setItem ov iv v)
      release [v, ov, iv] []) := by intro _; rfl) : PG X (.Subscript o i pos) (gSub to ti t) := by
  intro pins s σ H v u Q I r h
  rw [ha]
  refine wpAny_bind (wpAny_holding (thn (ho pins s σ H _ I h) fun ov s1 ⟨x, H1, I1, r1, q1⟩ => ?_))
  refine wpAny_bind (wpAny_holding (thn (hi pins s1 σ H1 _ I1 q1) fun iv s2 ⟨y, H2, I2, r2, q2⟩ => ?_))
  refine wpAny_bind (wpAny_standAt (wpAny_bind (wpAny_holding (thn (hs pins s2 σ H2 x y v ov iv u _ I2 r1 r2 r q2) fun _ s3 ⟨H3, I3, q3⟩ => ?_))))
  exact wpAny_release ⟨σ, H3, I3, q3⟩
/-- target = value -/
def tAsg (te : TE) (g : TG) : TS := fun D σ H => te σ H fun x H1 => g x σ H1 D.nx
theorem ps_asg {tg e : Expr} {te : TE} {g : TG} (he : PE X e te) (hg : PG X tg g) (hs : swapsWithSole [tg] e pos.line X.env = pure false := by rfl) (hw : swappedStores [tg] e X.env = pure none := by rfl)
    (h1 : (assignEach [tg] X.env).map (·.2) = [assign tg X.env] := by rfl) : PS X (.Assign [tg] e pos) (tAsg te g) := by
  refine ⟨?_⟩
  intro pins s σ H D I h
  refine wpAny_Assign_stores (thn (he pins s σ H _ I h) fun v s1 ⟨x, H1, I1, r1, q1⟩ => ?_) hs hw
  rw [h1]
  exact thn (hg pins s1 σ H1 x v _ I1 r1 q1) fun _ s2 q => q
/-- name = value -/
theorem ps_set {i : Nat} {x : Str} {e : Expr} {te : TE} {pos' : Pos} (hN : X.N.Nodup) (hi : X.N[i]? = some x) (hx : Loc X.env.scope x) (he : PE X e te) (hs : swapsWith e (some (.Name x pos')) pos.line X.env = pure false := by rfl) (hf : X.fn x = true ∨ X.env.scope.names.lookup x = some .local := by first | exact .inl rfl | exact .inr rfl | assumption) :
    PS X (.Assign [.Name x pos'] e pos) (tAsg te (gName i)) := by
  refine ⟨?_⟩
  intro pins s σ H D I h
  refine wpAny_Assign_Name (thn (he pins s σ H _ I h) fun v s1 ⟨y, H1, I1, r1, q1⟩ => ?_) hs
  exact store_ok I1 hN hi hx r1 (fun s2 I2 => ⟨_, H1, I2, q1⟩) hf
end

/-! ### while -/
section
variable {X : Cx} {pos : Pos}
end

/-! ### what a loop or a comprehension walks -/
/-- at turn i: it yields x (the heap may grow), or it stops -/
structure It where
  go : Nat → Hp → Prop
  yld : Nat → Hp → V → Hp → Prop
  stop : Nat → Hp → Prop
/-- the iterator's own objects may turn: they are not the frame's, not pinned, younger than the entry (or a comprehension's own) -/
def FpOk (X : Cx) (pins : List (Addr × Obj)) (H : Hp) (b : Addr) : Prop :=
  H b = none ∧ b ≠ X.env.locals ∧ b ∉ X.fs ∧ (b ∈ X.ex ∨ X.s₀.heap.objs.size ≤ b) ∧ (∀ x c, X.env.cells.lookup x = some c → c ≠ b) ∧ ∀ p ∈ X.pn ++ pins, p.1 ≠ b
theorem Inv.fpOk {X : Cx} {pins : List (Addr × Obj)} {σ : St} {H H' : Hp} {s : Shared} {b : Addr} (I : Inv X pins σ H s) (hb : s.heap.objs.size ≤ b) (hn : H' b = none) : FpOk X pins H' b := by
  refine ⟨hn, Nat.ne_of_gt (Nat.lt_of_lt_of_le I.lt hb), I.nofs hb, .inr (Nat.le_trans I.sz hb), fun x c e z => ?_, fun p hp z => ?_⟩
  · obtain ⟨v, q⟩ := I.cell x c e
    exact absurd (Nat.lt_of_lt_of_le q.lt (by rw [z]; exact hb)) (Nat.lt_irrefl _)
  · exact absurd (Nat.lt_of_lt_of_le (Heap.lt_size (I.pin p hp).1) (by rw [z]; exact hb)) (Nat.lt_irrefl _)
structure Turn (P : Program) (w : World) (K : PySem.W.Frag) (tg : Expr) (J : It) (fp : List Addr) (it : Addr) (tn : Nat → Heap → Prop) : Prop where
  mem : it ∈ fp
  obj : ∀ i h, tn i h → ∀ b ∈ fp, ∃ o, h.get? b = some o ∧ ∀ v, o.data ≠ .cell v
  keep : ∀ i h h', tn i h → (∀ b ∈ fp, ∀ o, h.get? b = some o → h'.get? b = some o) → tn i h'
  item : ∀ (X : Cx), X.prog = P → X.w = w → X.K = K → X.calm = true → ∀ (i : Nat) (pins : List (Addr × Obj)) (s : Shared) (σ : St) (H : Hp) (E : Value → Shared → Prop), Inv X pins σ H s → (∀ b ∈ fp, FpOk X pins H b) → tn i s.heap → J.go i H →
    wpAny (model P w) X.A (pyNext (.ref it)) (fun r s1 => ∃ u, r = some u ∧
      wpAny (model P w) X.A (letOwnedTupleGo tg (.ref it) u) (fun _ s2 => ∃ x H', Inv X pins σ H' s2 ∧ RelV x u ∧ J.yld i H x H' ∧ tn (i + 1) s2.heap ∧ ∀ b ∈ fp, H' b = none) E s1) E s
  done : ∀ (X : Cx), X.prog = P → X.w = w → X.K = K → X.calm = true → ∀ (i : Nat) (pins : List (Addr × Obj)) (s : Shared) (σ : St) (H : Hp) (E : Value → Shared → Prop), Inv X pins σ H s → (∀ b ∈ fp, FpOk X pins H b) → tn i s.heap → J.stop i H →
    wpAny (model P w) X.A (pyNext (.ref it)) (fun r s1 => r = none ∧ Inv X pins σ H s1) E s
  self : ∀ (A : Around) (i : Nat) (s : Shared) (Q : Value → Shared → Prop) (E : Value → Shared → Prop), tn i s.heap → Q (.ref it) s → wpAny (model P w) A (pyIter (.ref it)) Q E s
abbrev TI := St → Hp → (It → Hp → Prop) → Prop
/-- an iterator has come -/
def PIE (X : Cx) (pins : List (Addr × Obj)) (σ : St) (tg : Expr) (R : It → Hp → Prop) (itv : Value) (s2 : Shared) : Prop :=
  ∃ (it : Addr) (fp : List Addr) (tn : Nat → Heap → Prop) (J : It) (H' : Hp), itv = .ref it ∧ Inv X pins σ H' s2 ∧ Turn X.prog X.w X.K tg J fp it tn ∧ tn 0 s2.heap ∧ (∀ b ∈ fp, FpOk X pins H' b) ∧ R J H'
def PI (X : Cx) (tg iter : Expr) (wi : TI) : Prop :=
  ∀ (pins : List (Addr × Obj)) (s : Shared) (σ : St) (H : Hp) (R : It → Hp → Prop), Inv X pins σ H s → wi σ H R →
    wpAny (model X.prog X.w) X.A (eval iter X.env) (fun v s1 => wpAny (model X.prog X.w) X.A (pyIter v) (PIE X pins σ tg R) X.xe s1) X.xe s

/-- the step ahead of the store is nothing for an iterator that keeps no tuple -/
theorem go_of {M : Model} {A : Around} {E : Value → Shared → Prop} {s : Shared} {tg : Expr} {it : Addr} {u : Value} {o : Obj} {n : String} {vs : Array Value} {Q : Unit → Shared → Prop} (ho : s.heap.get? it = some o) (hc : o.cls = .type n) (hd : o.data = .fields vs)
    (hn : ["enumerate", "zip", "dict_itemiterator", "dict_reverseitemiterator", "odict_iterator", "itertools.zip_longest", "itertools.pairwise"].contains n = false) (hQ : Q () s) : wpAny M A (letOwnedTupleGo tg (.ref it) u) Q E s := by
  unfold letOwnedTupleGo
  cases tg <;> first
    | exact wpAny_pure hQ
    | (cases u <;> first
        | exact wpAny_pure hQ
        | (refine wpAny_bind (wpAny_load ho ?_)
           rw [hc, hd]
           show wpAny M A (if (["enumerate", "zip", "dict_itemiterator", "dict_reverseitemiterator", "odict_iterator", "itertools.zip_longest", "itertools.pairwise"].contains n && vs[0]? == some (rawInt _)) = true then _ else _) Q E s
           rw [if_neg (by intro h; rw [hn, Bool.false_and] at h; cases h)]
           exact wpAny_pure hQ))

/-- the list at a, as it stands at each turn (a loop may append to it) -/
def Itl (K : PySem.W.Frag) (a : Addr) : It :=
  ⟨fun i H => ∃ xs x, SqL K H a xs ∧ xs[i]? = some x, fun i H x H' => H' = H ∧ ∀ xs, SqL K H a xs → xs[i]? = some x, fun i H => ∃ xs, SqL K H a xs ∧ xs.length ≤ i⟩
/-- lo, lo + 1, .. (n of them) -/
def Itr (lo : Int) (n : Nat) : It := ⟨fun i _ => i < n, fun i H x H' => H' = H ∧ x = .int (lo + i), fun i _ => n ≤ i⟩
theorem turn_list {P : Program} {w : World} {K : PySem.W.Frag} {tg : Expr} (a it : Addr) : Turn P w K tg (Itl K a) [it] it (fun i h => h.IsListIter it a i) where
  mem := by simp
  obj := fun i h st b hb => by
    have e : b = it := by simpa using hb
    subst e
    obtain ⟨o, e, c, d⟩ := st
    exact ⟨o, e, fun v z => by rw [d] at z; cases z⟩
  keep := fun i h h' st k => st.at fun o e => k it (by simp) o e
  item := by
    intro X hP hw hK hc i pins s σ H E I hf st hg
    subst hP hw hK
    obtain ⟨xs, x, hq, hx⟩ := hg
    obtain ⟨its, rv, p, hz⟩ := I.list hq
    obtain ⟨u, hu, ru⟩ := rv.get hx
    obtain ⟨f0, f1, f2, f3, f4, f5⟩ := hf it (by simp)
    refine wpAny_pyNext_list_item st p.isList (x := u) (by simpa using hu) fun h' st' sb => ?_
    have I1 : Inv X pins σ H { s with heap := h' } := I.turned (t' := s.toks) (fun b o hb e => (sb.2 b hb).trans e) f0 f1 f3 f4 f5
    obtain ⟨o, e, c, d⟩ := id st'
    exact ⟨u, rfl, go_of (s := { s with heap := h' }) e c d (by decide) ⟨x, H, I1, ru, ⟨rfl, fun ys hy => by rw [I.list_inj hy hq]; exact hx⟩, st', fun b hb => (hf b hb).1⟩⟩
  done := by
    intro X hP hw hK hc i pins s σ H E I hf st hg
    subst hP hw hK
    obtain ⟨xs, hq, hx⟩ := hg
    obtain ⟨its, rv, p, hz⟩ := I.list hq
    obtain ⟨f0, f1, f2, f3, f4, f5⟩ := hf it (by simp)
    have hl := rv.length
    exact wpAny_pyNext_list_end (I.ok.hd hc) st p.isList (by simp; omega) fun h' eb => ⟨rfl, I.turned (t' := s.toks) (fun b o hb e => eb b o hb e) f0 f1 f3 f4 f5⟩
  self := fun _ _ _ _ _ st h => wpAny_pyIter_listiter st h
theorem turn_range {P : Program} {w : World} {K : PySem.W.Frag} {tg : Expr} (it : Addr) (lo : Int) (n : Nat) : Turn P w K tg (Itr lo n) [it] it (fun i h => IsRangeIter h it (lo + (i : Nat) * 1) ((n : Int) - (i : Nat)) 1) where
  mem := by simp
  obj := fun i h st b hb => by
    have e : b = it := by simpa using hb
    subst e
    exact ⟨_, st, fun v z => by
      have z' : Data.fields _ = Data.cell v := z
      cases z'⟩
  keep := fun i h h' st k => k it (by simp) _ st
  item := by
    intro X hP hw hK hc i pins s σ H E I hf st hg
    subst hP hw hK
    obtain ⟨f0, f1, f2, f3, f4, f5⟩ := hf it (by simp)
    have W := Walks.range (prog := X.prog) (w := X.w) (I.ok.hd hc) it lo 1 n
    refine W.item i s _ _ hg st fun v h' tk hv st' kk => ?_
    obtain ⟨t, rfl⟩ := hv
    have I1 : Inv X pins σ H { s with heap := h', toks := tk } := I.turned (fun b o hb e => kk b o (by simpa using hb) e) f0 f1 f3 f4 f5
    refine ⟨_, rfl, go_of (s := { s with heap := h', toks := tk }) (n := "range_iterator") st' rfl rfl (by decide) ⟨.int (lo + i), H, I1, ⟨t, ?_⟩, ⟨rfl, rfl⟩, st', fun b hb => (hf b hb).1⟩⟩
    rw [Int.mul_one]
  done := by
    intro X hP hw hK hc i pins s σ H E I hf st hg
    subst hP hw hK
    obtain ⟨f0, f1, f2, f3, f4, f5⟩ := hf it (by simp)
    exact wpAny_pyNext_range_end (I.ok.hd hc) st (by have : n ≤ i := hg; omega) fun h' eb => ⟨rfl, I.turned (t' := s.toks) (fun b o hb e => eb b o hb e) f0 f1 f3 f4 f5⟩
  self := fun _ _ _ _ _ st h => wpAny_pyIter_rangeiter st h
end L2

namespace L2
open PySem PySem.Spec PyProof.Rows
section
variable {X : Cx} {tg : Expr}
inductive iListX (K : PySem.W.Frag) (R : It → Hp → Prop) (x : V) (H1 : Hp) : Prop
  | mk (a : Addr) (e : x = .ref a) (h : ∃ xs, SqL K H1 a xs) (q : R (Itl K a) H1) : iListX K R x H1
def iList (K : PySem.W.Frag) (tl : TE) : TI := fun σ H R => tl σ H fun x H1 => iListX K R x H1
theorem pi_list {l : Expr} {tl : TE} (hl : PE X l tl) : PI X tg l (iList X.K tl) := by
  intro pins s σ H R I h
  refine thn (hl pins s σ H _ I h) fun v s1 ⟨x, H1, I1, r1, q1⟩ => ?_
  obtain ⟨a, e, ⟨xs, hq⟩, q⟩ := q1
  subst e
  cases r1
  obtain ⟨its, rv, p, hz⟩ := I1.list hq
  refine wpAny_pyIter_list p.isList ?_
  refine ⟨s1.heap.objs.size, [s1.heap.objs.size], _, _, H1, rfl, I1.kept (t' := s1.toks) fun b o e => Heap.get?_push_of_some _ e, turn_list a _, ⟨_, Heap.get?_push_size _ rfl, rfl, rfl⟩, fun b hb => ?_, q⟩
  have e : b = s1.heap.objs.size := by simpa using hb
  subst e
  exact I1.fpOk (Nat.le_refl _) (I1.hok.fresh (Nat.le_refl _))
/-- a range object just made, walked -/
theorem range_it {pins : List (Addr × Obj)} {σ : St} {H : Hp} {s : Shared} {R : It → Hp → Prop} {E : Value → Shared → Prop} {lo hi : Int} {t u v : Tok} {tk : Nat} (I : Inv X pins σ H s) (h1 : -(2 ^ 62) ≤ lo) (h2 : lo < 2 ^ 62) (h3 : -(2 ^ 62) ≤ hi) (h4 : hi < 2 ^ 62)
    (q : R (Itr lo (hi - lo).toNat) H) : wpAny (model X.prog X.w) X.A (pyIter (.ref s.heap.objs.size)) (PIE X pins σ tg R) E { s with heap := s.heap.push { cls := .type "range", data := .fields #[.int lo t, .int hi u, .int 1 v] }, toks := tk } := by
  refine wpAny_pyIter_range (IsRange.new ..) (small_one h1 h2 h3 h4) ?_
  have I1 : Inv X pins σ H { s with heap := s.heap.push { cls := .type "range", data := .fields #[.int lo t, .int hi u, .int 1 v] }, toks := tk } := I.kept fun b o e => Heap.get?_push_of_some _ e
  refine ⟨(s.heap.push { cls := .type "range", data := .fields #[.int lo t, .int hi u, .int 1 v] }).objs.size, [(s.heap.push { cls := .type "range", data := .fields #[.int lo t, .int hi u, .int 1 v] }).objs.size], _, _, H, rfl,
    I1.kept (t' := tk) fun b o e => Heap.get?_push_of_some _ e, turn_range _ lo (hi - lo).toNat, ?_, fun b hb => ?_, q⟩
  · have e1 : lo + ((0 : Nat) : Int) * 1 = lo := by simp
    have e2 : (((hi - lo).toNat : Nat) : Int) - ((0 : Nat) : Int) = Builtin.Range.rangeSize lo hi 1 := by rw [rangeSize_one]; split <;> omega
    show IsRangeIter _ _ (lo + ((0 : Nat) : Int) * 1) ((((hi - lo).toNat : Nat) : Int) - ((0 : Nat) : Int)) 1
    rw [e1, e2]
    exact Heap.get?_push_size _ rfl
  · have e : b = (s.heap.push { cls := .type "range", data := .fields #[.int lo t, .int hi u, .int 1 v] }).objs.size := by simpa using hb
    subst e
    exact I1.fpOk (Nat.le_refl _) (I1.hok.fresh (Nat.le_refl _))
inductive iRng1X (R : It → Hp → Prop) (vs : List V) (H1 : Hp) : Prop
  | mk (j : Int) (e : vs = [.int j]) (h1 : -(2 ^ 62) ≤ j) (h2 : j < 2 ^ 62) (q : R (Itr 0 j.toNat) H1) : iRng1X R vs H1
def iRng1 (ta : TA) : TI := fun σ H R => ta σ H fun vs H1 => iRng1X R vs H1
theorem pi_range1 {a : Expr} {ta : TA} {p pos : Pos} (hg : Gl X "range") (hm : X.mg "range" = none) (ha : PA X [a] ta) (hs : starEach [a] X.env = [(false, eval a X.env)] := by rfl) : PI X tg (.Call (.Name "range" p) [a] [] pos) (iRng1 ta) := by
  intro pins s σ H R I h
  refine Call_ (ld_blt I hg hm boot_range (PyProof.Rows.callWith_type1 (thn (ha pos pins s σ H _ I h) fun us s1 ⟨vs, H1, I1, r1, q1⟩ => ?_) hs rfl))
  obtain ⟨j, e, q1, q2, q⟩ := q1
  subst e
  cases r1 with
  | cons r rr =>
    cases rr
    obtain ⟨t, rfl⟩ := r
    exact call_range_1 (range_it I1 (by omega) (by omega) q1 q2 (by simpa using q))

/-! ### for -/
/-- W: the invariant by the turn and a measure; N: what the body is to reach -/
def tFor (wi : TI) (g : TG) (tb : TS) : TS := fun D σ H => wi σ H fun J H1 => ∃ W : Nat → Nat → St → Hp → Prop, (∃ m, W 0 m σ H1) ∧ ∀ i m σ H, W i m σ H →
  (J.stop i H ∧ D.nx σ H) ∨ (J.go i H ∧ ∃ N : St → Hp → Prop, (∀ σ' H', N σ' H' → ∃ m', m' < m ∧ W (i + 1) m' σ' H') ∧ ∀ x H', J.yld i H x H' → g x σ H' fun σ2 H2 => tb { D with nx := N, ct := N, bk := D.nx } σ2 H2)
/-- the records at fp as they stand -/
def pinsAt (fp : List Addr) (h : Heap) : List (Addr × Obj) := fp.filterMap fun b => (h.get? b).map fun o => (b, o)
theorem mem_pinsAt {fp : List Addr} {h : Heap} {b : Addr} {o : Obj} (hb : b ∈ fp) (e : h.get? b = some o) : (b, o) ∈ pinsAt fp h := List.mem_filterMap.mpr ⟨b, hb, by rw [e]; rfl⟩
theorem of_pinsAt {fp : List Addr} {h : Heap} {p : Addr × Obj} (hp : p ∈ pinsAt fp h) : p.1 ∈ fp ∧ h.get? p.1 = some p.2 := by
  obtain ⟨b, hb, e⟩ := List.mem_filterMap.mp hp
  cases q : h.get? b with
  | none => rw [q] at e; cases e
  | some o =>
    rw [q] at e
    have e' : (b, o) = p := Option.some.inj e
    subst e'
    exact ⟨hb, q⟩
theorem Inv.pinned {pins : List (Addr × Obj)} {σ : St} {H : Hp} {s : Shared} {fp : List Addr} (I : Inv X pins σ H s) (hf : ∀ b ∈ fp, FpOk X pins H b) (ho : ∀ b ∈ fp, ∃ o, s.heap.get? b = some o ∧ ∀ v, o.data ≠ .cell v) : Inv X (pins ++ pinsAt fp s.heap) σ H s :=
  I.pins_of fun p hp => (List.mem_append.mp hp).elim (fun z => I.pin p (List.mem_append_right _ z)) fun z => by
    obtain ⟨hb, e⟩ := of_pinsAt z
    obtain ⟨f0, f1, f2, _⟩ := hf p.1 hb
    obtain ⟨o, e', d⟩ := ho p.1 hb
    rw [e] at e'; cases e'
    exact ⟨e, f0, f1, f2, d⟩
theorem Inv.unpinned {pins pl : List (Addr × Obj)} {σ : St} {H : Hp} {s : Shared} (I : Inv X (pins ++ pl) σ H s) : Inv X pins σ H s := I.pins_of fun p hp => I.pin p (List.mem_append_right _ (List.mem_append_left _ hp))
theorem ps_for {iter : Expr} {body : List Stmt} {wi : TI} {g : TG} {tb : TS} {pos : Pos} (hp : PassesOwn (model X.prog X.w) X.A X.env X.xe) (hc : X.calm = true) (hi : PI X tg iter wi) (hg : PG X tg g) (hb : PSs X body tb)
    (hs : ∀ x, foldedSetIterable iter X.env x = pure x := by intro _; rfl) : PS X (.For tg iter body [] pos) (tFor wi g tb) := by
  refine ⟨?_⟩
  intro pins s σ H D I h
  refine wpAny_For (thn (hi pins s σ H _ I h) fun v s1 h1 => thn h1 fun itv s2 h2 => ?_) hs
  obtain ⟨it, fp, tn, J, H2, e, I2, T, st2, f2, W, ⟨m0, w0⟩, turn⟩ := h2
  subst e
  have stat : ∀ {H' : Hp}, (∀ b ∈ fp, H' b = none) → ∀ b ∈ fp, FpOk X pins H' b := fun hn b hb => ⟨hn b hb, (f2 b hb).2⟩
  refine codeAny_forLoop_any (fun n s' => ∃ i σ' H', Inv X pins σ' H' s' ∧ tn i s'.heap ∧ (∀ b ∈ fp, H' b = none) ∧ W i n σ' H') ?_ m0 ⟨0, σ, H2, I2, st2, fun b hb => (f2 b hb).1, w0⟩
  rintro n s3 ⟨i, σ3, H3, I3, st3, fr3, w3⟩
  rcases turn i n σ3 H3 w3 with ⟨stop, qn⟩ | ⟨go, N, hN, step⟩
  · refine wpAny_passesOwn hp (thn (T.done X rfl rfl rfl hc i pins s3 σ3 H3 X.xe I3 (stat fr3) st3 stop) fun r s4 ⟨hr, I4⟩ => ?_)
    subst hr
    exact wpAny_execs_nil ⟨σ3, H3, I4, qn⟩
  · refine wpAny_passesOwn hp (thn (T.item X rfl rfl rfl hc i pins s3 σ3 H3 X.xe I3 (stat fr3) st3 go) fun r s4 ⟨u, hr, h4⟩ => ?_)
    subst hr
    refine wpAny_passesOwn hp (thn h4 fun _ s5 ⟨x, H5, I5, r5, y5, st5, fr5⟩ => ?_)
    have I5' := I5.pinned (stat fr5) (T.obj _ _ st5)
    refine wpAny_passesOwn hp (thn (hg _ s5 σ3 H5 x u _ I5' r5 (step x H5 y5)) fun _ s6 ⟨σ6, H6, I6, q6⟩ => ?_)
    refine wpAny_passesOwn hp (thn (hb _ s6 σ6 H6 _ I6 q6) fun f s7 q7 => ?_)
    have again : ∀ {σ7 : St} {H7 : Hp}, Inv X (pins ++ pinsAt fp s5.heap) σ7 H7 s7 → N σ7 H7 → ∃ m, m < n ∧ ∃ i σ' H', Inv X pins σ' H' s7 ∧ tn i s7.heap ∧ (∀ b ∈ fp, H' b = none) ∧ W i m σ' H' := fun {σ7 H7} I7 n7 => by
      obtain ⟨m', hm, w7⟩ := hN σ7 H7 n7
      refine ⟨m', hm, i + 1, σ7, H7, I7.unpinned, T.keep _ _ _ st5 fun b hb o e => (I7.pin (b, o) (List.mem_append_right _ (List.mem_append_right _ (mem_pinsAt hb e)))).1, fun b hb => ?_, w7⟩
      obtain ⟨o, e, d⟩ := T.obj _ _ st5 b hb
      exact (I7.pin (b, o) (List.mem_append_right _ (List.mem_append_right _ (mem_pinsAt hb e)))).2.1
    cases f with
    | next => obtain ⟨σ7, H7, I7, n7⟩ := q7; exact again I7 n7
    | cont => obtain ⟨σ7, H7, I7, n7⟩ := q7; exact again I7 n7
    | brk => obtain ⟨σ7, H7, I7, q7⟩ := q7; exact ⟨σ7, H7, I7.unpinned, q7⟩
    | ret v => obtain ⟨x7, σ7, H7, I7, r7, q7⟩ := q7; exact ⟨x7, σ7, H7, I7.unpinned, r7, q7⟩
end

/-! ### the forms one uses -/
theorem for_range {lo : Int} {n : Nat} {g : TG} {tb : TS} {D : Ends} {σ : St} {H : Hp} (Pv : Nat → St → Hp → Prop) (h0 : Pv 0 σ H)
    (hs : ∀ i σ H, i < n → Pv i σ H → g (.int (lo + i)) σ H fun σ2 H2 => tb { D with nx := Pv (i + 1), ct := Pv (i + 1), bk := D.nx } σ2 H2) (hd : ∀ σ H, Pv n σ H → D.nx σ H) :
    ∃ W : Nat → Nat → St → Hp → Prop, (∃ m, W 0 m σ H) ∧ ∀ i m σ H, W i m σ H →
      ((Itr lo n).stop i H ∧ D.nx σ H) ∨ ((Itr lo n).go i H ∧ ∃ N : St → Hp → Prop, (∀ σ' H', N σ' H' → ∃ m', m' < m ∧ W (i + 1) m' σ' H') ∧ ∀ x H', (Itr lo n).yld i H x H' → g x σ H' fun σ2 H2 => tb { D with nx := N, ct := N, bk := D.nx } σ2 H2) := by
  refine ⟨fun i m σ H => m = n - i ∧ i ≤ n ∧ Pv i σ H, ⟨n, by simp, Nat.zero_le _, h0⟩, ?_⟩
  rintro i m σ H ⟨rfl, hi, p⟩
  by_cases hlt : i < n
  · refine .inr ⟨hlt, Pv (i + 1), fun σ' H' p' => ⟨n - (i + 1), by omega, rfl, hlt, p'⟩, fun x H' y => ?_⟩
    obtain ⟨e, y⟩ := y
    subst e y
    exact hs i σ _ hlt p
  · have e : i = n := by omega
    subst e
    exact .inl ⟨Nat.le_refl _, hd σ H p⟩
end L2

namespace L2
open PySem PySem.Spec PyProof.Rows

abbrev R2 := V → V → Hp → VK → Prop
/-- a two-place operation on values: f is binaryOp op, inplaceOp op or compareOp op -/
def OpR (X : Cx) (f : Value → Value → Sem Value) (r : R2) : Prop :=
  ∀ (pins : List (Addr × Obj)) (s : Shared) (σ : St) (H : Hp) (x y : V) (v u : Value) (Q : VK), Inv X pins σ H s → RelV x v → RelV y u → r x y H Q →
    wpAny (model X.prog X.w) X.A (f v u) (EP X pins σ Q) X.xe s
/-- a one-place operation -/
def UnR (X : Cx) (f : Value → Sem Value) (r : V → Hp → VK → Prop) : Prop :=
  ∀ (pins : List (Addr × Obj)) (s : Shared) (σ : St) (H : Hp) (x : V) (v : Value) (Q : VK), Inv X pins σ H s → RelV x v → r x H Q →
    wpAny (model X.prog X.w) X.A (f v) (EP X pins σ Q) X.xe s
/-- a call of a value that is known (a builtin, a type) with values -/
def CallR (X : Cx) (f : Value) (r : List V → Hp → VK → Prop) : Prop :=
  ∀ (pins : List (Addr × Obj)) (s : Shared) (σ : St) (H : Hp) (xs : List V) (us : List Value) (Q : VK), Inv X pins σ H s → Vals xs us → r xs H Q →
    wpAny (model X.prog X.w) X.A (call f us) (EP X pins σ Q) X.xe s

def tOp (r : R2) (ta tb : TE) : TE := fun σ H Q => ta σ H fun x H1 => tb σ H1 fun y H2 => r x y H2 Q
def tUn (r : V → Hp → VK → Prop) (ta : TE) : TE := fun σ H Q => ta σ H fun x H1 => r x H1 Q
/-- ints in, under C, and a value out -/
inductive rI (C : Int → Int → Prop) (g : Int → Int → V) (x y : V) (H : Hp) (Q : VK) : Prop
  | mk (i j : Int) (e1 : x = .int i) (e2 : y = .int j) (c : C i j) (q : Q (g i j) H) : rI C g x y H Q
inductive rI0 (g : Int → Int → V) (x y : V) (H : Hp) (Q : VK) : Prop
  | mk (i j : Int) (e1 : x = .int i) (e2 : y = .int j) (q : Q (g i j) H) : rI0 g x y H Q
def rU (g : Int → V) : V → Hp → VK → Prop := fun x H Q => ∃ i, x = .int i ∧ Q (g i) H

section
variable {X : Cx} {a b c : Expr} {ta tb tc : TE} {pos : Pos}

theorem binT (ha : PE X a ta) (hb : PE X b tb) {pins : List (Addr × Obj)} {s : Shared} {σ : St} {H : Hp} {R : V → V → Hp → Prop} (I : Inv X pins σ H s)
    (h : ta σ H fun x H1 => tb σ H1 fun y H2 => R x y H2) {Q : Value → Shared → Prop} {f : Value → Value → Sem Value}
    (hf : ∀ v u s2 x y H2, Inv X pins σ H2 s2 → RelV x v → RelV y u → R x y H2 → wpAny (model X.prog X.w) X.A (f v u) Q X.xe s2) :
    wpAny (model X.prog X.w) X.A (eval a X.env) (fun v s₁ => wpAny (model X.prog X.w) X.A (eval b X.env) (fun u s₂ => wpAny (model X.prog X.w) X.A (f v u) Q X.xe s₂) X.xe s₁) X.xe s := by
  refine thn (ha pins s σ H _ I h) fun v s1 ⟨x, H1, I1, r1, q1⟩ => ?_
  refine thn (hb pins s1 σ H1 _ I1 q1) fun u s2 ⟨y, H2, I2, r2, q2⟩ => ?_
  exact hf v u s2 x y H2 I2 r1 r2 q2

theorem pe_op {op : Operator} {r : R2} (ho : OpR X (binaryOp op) r) (ha : PE X a ta) (hb : PE X b tb) : PE X (.BinOp a op b pos) (tOp r ta tb) := by
  refine ⟨?_⟩
  intro pins s σ H Q I h
  exact wpAny_BinOp (binT ha hb I h fun v u s2 x y H2 I2 rx ry q => ho pins s2 σ H2 x y v u Q I2 rx ry q)
theorem pe_un {op : UnaryOp} {r : V → Hp → VK → Prop} (ho : UnR X (unaryOp op) r) (ha : PE X a ta) : PE X (.UnaryOp op a pos) (tUn r ta) := by
  refine ⟨?_⟩
  intro pins s σ H Q I h
  exact UnaryOp_ (thn (ha pins s σ H _ I h) fun v s1 ⟨x, H1, I1, r1, q1⟩ => ho pins s1 σ H1 x v Q I1 r1 q1)

/-! ### ints -/
theorem opI {f : Value → Value → Sem Value} {C : Int → Int → Prop} {g : Int → Int → Int}
    (rule : ∀ (i j : Int) (t u : Tok) (s : Shared) (Q : Value → Shared → Prop) (E : Value → Shared → Prop), C i j → Q (.int (g i j) s.toks) { s with toks := s.toks + 1 } → wpAny (model X.prog X.w) X.A (f (.int i t) (.int j u)) Q E s) :
    OpR X f (rI C fun i j => .int (g i j)) := by
  intro pins s σ H x y v u Q I rx ry h
  obtain ⟨i, j, rfl, rfl, hc, q⟩ := h
  obtain ⟨t, rfl⟩ := rx
  obtain ⟨t', rfl⟩ := ry
  exact rule i j t t' s _ _ hc ⟨.int (g i j), H, I.tok _, ⟨_, rfl⟩, q⟩
theorem opI0 {f : Value → Value → Sem Value} {g : Int → Int → Int}
    (rule : ∀ (i j : Int) (t u : Tok) (s : Shared) (Q : Value → Shared → Prop) (E : Value → Shared → Prop), Q (.int (g i j) s.toks) { s with toks := s.toks + 1 } → wpAny (model X.prog X.w) X.A (f (.int i t) (.int j u)) Q E s) :
    OpR X f (rI0 fun i j => .int (g i j)) := by
  intro pins s σ H x y v u Q I rx ry h
  obtain ⟨i, j, rfl, rfl, q⟩ := h
  obtain ⟨t, rfl⟩ := rx
  obtain ⟨t', rfl⟩ := ry
  exact rule i j t t' s _ _ ⟨.int (g i j), H, I.tok _, ⟨_, rfl⟩, q⟩
theorem opB0 {f : Value → Value → Sem Value} {g : Int → Int → Bool}
    (rule : ∀ (i j : Int) (t u : Tok) (s : Shared) (Q : Value → Shared → Prop) (E : Value → Shared → Prop), Q (.bool (g i j)) s → wpAny (model X.prog X.w) X.A (f (.int i t) (.int j u)) Q E s) :
    OpR X f (rI0 fun i j => .bl (g i j)) := by
  intro pins s σ H x y v u Q I rx ry h
  obtain ⟨i, j, rfl, rfl, q⟩ := h
  obtain ⟨t, rfl⟩ := rx
  obtain ⟨t', rfl⟩ := ry
  exact rule i j t t' s _ _ ⟨.bl (g i j), H, I, rfl, q⟩

def CPow (i j : Int) : Prop := 0 ≤ j ∧ j ≤ 1000000 ∧ i.natAbs < 2 ^ 64
def CMul (i j : Int) : Prop := (-(2 ^ 64) < i ∧ i < 2 ^ 64) ∨ (-(2 ^ 64) < j ∧ j < 2 ^ 64)
theorem CMul.ok {i j : Int} (h : CMul i j) : IntMulOk i j := by
  rcases h with ⟨h1, h2⟩ | ⟨h1, h2⟩
  · exact .of_left (intBits_le_64 h1 h2)
  · exact .of_right (intBits_le_64 h1 h2)

theorem op_add : OpR X (binaryOp .Add) (rI0 fun i j => .int (i + j)) := opI0 fun _ _ _ _ _ _ _ q => add_int q
theorem op_sub : OpR X (binaryOp .Sub) (rI0 fun i j => .int (i - j)) := opI0 fun _ _ _ _ _ _ _ q => sub_int q
theorem op_mul : OpR X (binaryOp .Mult) (rI CMul fun i j => .int (i * j)) := opI fun _ _ _ _ _ _ _ hc q => mul_int q hc.ok
/-- % by a positive divisor of any size -/
theorem op_mod : OpR X (binaryOp .Mod) (rI (fun _ j => 0 < j) fun i j => .int (i % j)) := opI fun i j _ _ _ _ _ hc q => by
  have h1 : (0 : Int) < j := hc
  exact mod_int' (by omega) (by rw [Int.fmod_eq_emod_of_nonneg i (by omega)]; exact q)
theorem op_pow : OpR X (binaryOp .Pow) (rI CPow fun i j => .int (i ^ j.toNat)) := opI fun _ _ _ _ _ _ _ hc q => pow_int_small hc.1 hc.2.1 hc.2.2 q


theorem unI {f : Value → Sem Value} {g : Int → Int}
    (rule : ∀ (i : Int) (t : Tok) (s : Shared) (Q : Value → Shared → Prop) (E : Value → Shared → Prop), Q (.int (g i) s.toks) { s with toks := s.toks + 1 } → wpAny (model X.prog X.w) X.A (f (.int i t)) Q E s) :
    UnR X f (rU fun i => .int (g i)) := by
  intro pins s σ H x v Q I rx h
  obtain ⟨i, rfl, q⟩ := h
  obtain ⟨t, rfl⟩ := rx
  exact rule i t s _ _ ⟨.int (g i), H, I.tok _, ⟨_, rfl⟩, q⟩
theorem un_neg : UnR X (unaryOp .USub) (rU fun i => .int (-i)) := unI fun _ _ _ _ _ q => neg_int q

/-! ### bools among ints: n += (a < b) -/
end

/-! ### comparisons -/
/-- the scalars that == tells apart as data does -/
def scal : V → V → Bool
  | .non, .non => true | .non, .int _ => true | .int _, .non => true | .non, .bl _ => true | .bl _, .non => true | .non, .str _ => true | .str _, .non => true
  | .int _, .int _ => true | .bl _, .bl _ => true | .str _, .str _ => true | .byt _, .byt _ => true
  | .int _, .str _ => true | .str _, .int _ => true | .bl _, .str _ => true | .str _, .bl _ => true
  | _, _ => false
def rEq : R2 := fun x y H Q => scal x y = true ∧ Q (.bl (decide (x = y))) H
def rNe : R2 := fun x y H Q => scal x y = true ∧ Q (.bl (!decide (x = y))) H

theorem dec_int {i j : Int} : decide (V.int i = V.int j) = (i == j) := by
  rw [Bool.eq_iff_iff]
  simp
theorem dec_bl {i j : Bool} : decide (V.bl i = V.bl j) = (i == j) := by
  rw [Bool.eq_iff_iff]
  simp
theorem dec_str {i j : Str} : decide (V.str i = V.str j) = (i == j) := by
  rw [Bool.eq_iff_iff]
  simp
theorem dec_byt {i j : Array UInt8} : decide (V.byt i = V.byt j) = (i.toList == j.toList) := by
  rw [Bool.eq_iff_iff]
  cases i
  cases j
  simp

section
variable {X : Cx} {a b c : Expr} {ta tb tc : TE} {pos : Pos}
theorem fin_bl {pins : List (Addr × Obj)} {σ : St} {H : Hp} {s : Shared} {Q : VK} {k k' : Bool} (I : Inv X pins σ H s) (q : Q (.bl k) H) (e : k = k') : EP X pins σ Q (.bool k') s := by
  subst e
  exact ⟨.bl k, H, I, rfl, q⟩
theorem op_eq : OpR X (compareOp .Eq) rEq := by
  intro pins s σ H x y v u Q I rx ry h
  obtain ⟨hs, q⟩ := h
  cases x with
  | non =>
    cases rx
    cases y with
    | non => cases ry; exact PySem.EqNone.eq_none_none (fin_bl I q (by simp))
    | bl j => cases ry; exact PySem.EqNone.eq_none_bool (fin_bl I q (by simp))
    | int j => obtain ⟨t', rfl⟩ := ry; exact PySem.EqNone.eq_none_int (fin_bl I q (by simp))
    | str j => obtain ⟨t', rfl⟩ := ry; exact PySem.EqNone.eq_none_str (fin_bl I q (by simp))
    | _ => exact absurd (show false = true from hs) Bool.false_ne_true
  | bl i =>
    cases rx
    cases y with
    | non => cases ry; exact PySem.EqNone.eq_bool_none (fin_bl I q (by simp))
    | bl j => cases ry; exact eq_bool (fin_bl I q dec_bl)
    | str j => obtain ⟨t', rfl⟩ := ry; exact PySem.EqMixed.eq_bool_str (fin_bl I q (by simp))
    | _ => exact absurd (show false = true from hs) Bool.false_ne_true
  | int i =>
    obtain ⟨t, rfl⟩ := rx
    cases y with
    | non => cases ry; exact PySem.EqNone.eq_int_none (fin_bl I q (by simp))
    | int j => obtain ⟨t', rfl⟩ := ry; exact eq_int (fin_bl I q dec_int)
    | str j => obtain ⟨t', rfl⟩ := ry; exact PySem.EqMixed.eq_int_str (fin_bl I q (by simp))
    | _ => exact absurd (show false = true from hs) Bool.false_ne_true
  | str i =>
    obtain ⟨t, rfl⟩ := rx
    cases y with
    | non => cases ry; exact PySem.EqNone.eq_str_none (fin_bl I q (by simp))
    | bl j => cases ry; exact PySem.EqMixed.eq_str_bool (fin_bl I q (by simp))
    | int j => obtain ⟨t', rfl⟩ := ry; exact PySem.EqMixed.eq_str_int (fin_bl I q (by simp))
    | str j => obtain ⟨t', rfl⟩ := ry; exact eq_str (fin_bl I q dec_str)
    | _ => exact absurd (show false = true from hs) Bool.false_ne_true
  | byt i =>
    obtain ⟨t, rfl⟩ := rx
    cases y with
    | byt j => obtain ⟨t', rfl⟩ := ry; exact PySem.W.eq_bytes (fin_bl I q dec_byt)
    | _ => exact absurd (show false = true from hs) Bool.false_ne_true
  | _ => cases y <;> exact absurd (show false = true from hs) Bool.false_ne_true
theorem op_ne : OpR X (compareOp .NotEq) rNe := by
  intro pins s σ H x y v u Q I rx ry h
  obtain ⟨hs, q⟩ := h
  cases x with
  | non =>
    cases rx
    cases y with
    | non => cases ry; exact PySem.EqNone.ne_none_none (fin_bl I q (by simp))
    | bl j => cases ry; exact PySem.EqNone.ne_none_bool (fin_bl I q (by simp))
    | int j => obtain ⟨t', rfl⟩ := ry; exact PySem.EqNone.ne_none_int (fin_bl I q (by simp))
    | str j => obtain ⟨t', rfl⟩ := ry; exact PySem.EqNone.ne_none_str (fin_bl I q (by simp))
    | _ => exact absurd (show false = true from hs) Bool.false_ne_true
  | bl i =>
    cases rx
    cases y with
    | non => cases ry; exact PySem.EqNone.ne_bool_none (fin_bl I q (by simp))
    | bl j => cases ry; exact ne_bool (fin_bl I q (congrArg not dec_bl))
    | str j => obtain ⟨t', rfl⟩ := ry; exact PySem.EqMixed.ne_bool_str (fin_bl I q (by simp))
    | _ => exact absurd (show false = true from hs) Bool.false_ne_true
  | int i =>
    obtain ⟨t, rfl⟩ := rx
    cases y with
    | non => cases ry; exact PySem.EqNone.ne_int_none (fin_bl I q (by simp))
    | int j => obtain ⟨t', rfl⟩ := ry; exact ne_int (fin_bl I q (congrArg not dec_int))
    | str j => obtain ⟨t', rfl⟩ := ry; exact PySem.EqMixed.ne_int_str (fin_bl I q (by simp))
    | _ => exact absurd (show false = true from hs) Bool.false_ne_true
  | str i =>
    obtain ⟨t, rfl⟩ := rx
    cases y with
    | non => cases ry; exact PySem.EqNone.ne_str_none (fin_bl I q (by simp))
    | bl j => cases ry; exact PySem.EqMixed.ne_str_bool (fin_bl I q (by simp))
    | int j => obtain ⟨t', rfl⟩ := ry; exact PySem.EqMixed.ne_str_int (fin_bl I q (by simp))
    | str j => obtain ⟨t', rfl⟩ := ry; exact ne_str (fin_bl I q (congrArg not dec_str))
    | _ => exact absurd (show false = true from hs) Bool.false_ne_true
  | byt i =>
    obtain ⟨t, rfl⟩ := rx
    cases y with
    | byt j => obtain ⟨t', rfl⟩ := ry; exact PySem.W.ne_bytes (fin_bl I q (congrArg not dec_byt))
    | _ => exact absurd (show false = true from hs) Bool.false_ne_true
  | _ => cases y <;> exact absurd (show false = true from hs) Bool.false_ne_true

theorem op_lt : OpR X (compareOp .Lt) (rI0 fun i j => .bl (decide (i < j))) := opB0 fun _ _ _ _ _ _ _ q => lt_int q
theorem op_le : OpR X (compareOp .LtE) (rI0 fun i j => .bl (decide (i ≤ j))) := opB0 fun _ _ _ _ _ _ _ q => le_int q
theorem op_gt : OpR X (compareOp .Gt) (rI0 fun i j => .bl (decide (j < i))) := opB0 fun _ _ _ _ _ _ _ q => gt_int q
/-- the one string within the other -/
theorem op_in_str : OpR X (compareOp .In) (fun x y H Q => ∃ i j, x = .str i ∧ y = .str j ∧ Q (.bl (!(Builtin.Str.occurrences j i 0 j.length 1).isEmpty)) H) := by
  intro pins s σ H x y v u Q I rx ry h
  obtain ⟨i, j, rfl, rfl, q⟩ := h
  obtain ⟨t, rfl⟩ := rx
  obtain ⟨t', rfl⟩ := ry
  exact in_str (fin_bl I q rfl)

/-- is None, is not None: the right side a value none -/
theorem op_isN : OpR X (compareOp .Is) (fun x y H Q => y = .non ∧ Q (.bl (decide (x = .non))) H) := by
  intro pins s σ H x y v u Q I rx ry h
  obtain ⟨rfl, q⟩ := h
  cases ry
  refine is_none_gen (fin_bl I q ?_)
  cases x <;> first
    | (cases rx; rfl)
    | (obtain ⟨t, rfl⟩ := rx; rfl)
theorem op_notN : OpR X (compareOp .IsNot) (fun x y H Q => y = .non ∧ Q (.bl (!decide (x = .non))) H) := by
  intro pins s σ H x y v u Q I rx ry h
  obtain ⟨rfl, q⟩ := h
  cases ry
  refine isnot_none_gen (fin_bl I q ?_)
  cases x <;> first
    | (cases rx; rfl)
    | (obtain ⟨t, rfl⟩ := rx; rfl)



theorem nomark (b : Expr) {op : CmpOp} (h : op ≠ .In := by decide) (h2 : op ≠ .NotIn := by decide) : behindInMarks op b = false := by
  have e1 : (op == CmpOp.In) = false := by cases op <;> first | rfl | exact absurd rfl h
  have e2 : (op == CmpOp.NotIn) = false := by cases op <;> first | rfl | exact absurd rfl h2
  cases b <;> simp [behindInMarks, e1, e2]
/-- a comparison as a value; hm: nomark b, or (for in, not in) by with_unfolding_all rfl -/
theorem pe_cmpR {op : CmpOp} {r : R2} (ho : OpR X (compareOp op) r) (ha : PE X a ta) (hb : PE X b tb) (hm : behindInMarks op b = false) : PE X (.Compare a [op] [b] pos) (tOp r ta tb) := by
  refine ⟨?_⟩
  intro pins s σ H Q I h
  exact wpAny_Compare1 (binT ha hb I h fun v u s2 x y H2 I2 rx ry q => ho pins s2 σ H2 x y v u Q I2 rx ry q) hm
/-- a reading of a value as a test -/
def tTest (t : TE) : TT := fun σ H Q => t σ H fun x H' => ∃ k, x = .bl k ∧ Q k H'
theorem pt_cmpR {op : CmpOp} {r : R2} (ho : OpR X (compareOp op) r) (ha : PE X a ta) (hb : PE X b tb) (hm : behindInMarks op b = false) : PT X (.Compare a [op] [b] pos) (tTest (tOp r ta tb)) := by
  refine ⟨?_⟩
  intro pins s σ H Q I h
  refine wpAny_isTrue_Compare1 (thn (ha pins s σ H _ I h) fun v s1 ⟨x, H1, I1, r1, q1⟩ => thn (hb pins s1 σ H1 _ I1 q1) fun u s2 ⟨y, H2, I2, r2, q2⟩ =>
    thn (ho pins s2 σ H2 x y v u _ I2 r1 r2 q2) fun c s3 ⟨z, H3, I3, r3, k, e, q3⟩ => ?_) hm
  subst e
  cases r3
  exact wpAny_truthy_bool ⟨H3, I3, q3⟩
/-- a op1 b op2 c -/
def tChain (r r' : R2) (ta tb tc : TE) : TE := fun σ H Q => ta σ H fun x H1 => tb σ H1 fun y H2 => r x y H2 fun z H3 => ∃ k, z = .bl k ∧
  (if k = true then tc σ H3 fun w' H4 => r' y w' H4 Q else Q (.bl false) H3)
theorem pe_chain {op op' : CmpOp} {r r' : R2} (ho : OpR X (compareOp op) r) (ho' : OpR X (compareOp op') r') (ha : PE X a ta) (hb : PE X b tb) (hc : PE X c tc)
    (hm : lastMarks [op, op'] [b, c] = false := by with_unfolding_all rfl) : PE X (.Compare a [op, op'] [b, c] pos) (tChain r r' ta tb tc) := by
  refine ⟨?_⟩
  intro pins s σ H Q I h
  refine Compare_chain (thn (ha pins s σ H _ I h) fun v s1 ⟨x, H1, I1, r1, q1⟩ => chain_link (thn (hb pins s1 σ H1 _ I1 q1) fun u s2 ⟨y, H2, I2, r2, q2⟩ =>
    thn (ho pins s2 σ H2 x y v u _ I2 r1 r2 q2) fun d s3 ⟨z, H3, I3, r3, k, e, q3⟩ => ?_)) hm
  subst e
  cases r3
  refine wpAny_truthy_bool ?_
  cases k with
  | false => exact ite_ff ⟨.bl false, H3, I3, rfl, q3⟩
  | true => exact ite_tt (chain_last (thn (hc pins s3 σ H3 _ I3 q3) fun w' s4 ⟨z', H4, I4, r4, q4⟩ => ho' pins s4 σ H4 y z' u w' Q I4 r2 r4 q4))

/-! ### truth -/
theorem line63 : (sizeLine : Nat) < 2 ^ 63 := by rw [sizeLine_eq]; decide

/-! ### strs and bytes -/
theorem op_add_str : OpR X (binaryOp .Add) (fun x y H Q => ∃ i j, x = .str i ∧ y = .str j ∧ i.length + j.length ≤ sizeLine ∧ Q (.str (i ++ j)) H) := by
  intro pins s σ H x y v u Q I rx ry h
  obtain ⟨i, j, rfl, rfl, hz, q⟩ := h
  obtain ⟨t, rfl⟩ := rx
  obtain ⟨t', rfl⟩ := ry
  exact add_str (fun t' tk => ⟨.str (i ++ j), H, I.tok _, ⟨_, rfl⟩, q⟩) hz


/-! ### scalar builtins, by CallR -/
theorem vals1 {x : V} {us : List Value} (r : Vals [x] us) : ∃ u, us = [u] ∧ RelV x u := by
  cases r with
  | cons r1 r2 => cases r2; exact ⟨_, rfl, r1⟩
theorem vals2 {x y : V} {us : List Value} (r : Vals [x, y] us) : ∃ u w', us = [u, w'] ∧ RelV x u ∧ RelV y w' := by
  cases r with
  | cons r1 r2 =>
    cases r2 with
    | cons r3 r4 => cases r4; exact ⟨_, _, rfl, r1, r3⟩
theorem call_abs : CallR X (.builtin "abs") (fun xs H Q => ∃ i, xs = [.int i] ∧ Q (.int (if i < 0 then -i else i)) H) := by
  intro pins s σ H xs us Q I r h
  obtain ⟨i, rfl, q⟩ := h
  obtain ⟨u, rfl, t, rfl⟩ := vals1 r
  exact call_abs_int fun u tk => ⟨.int (if i < 0 then -i else i), H, I.tok _, ⟨_, rfl⟩, q⟩
theorem call_max2 (hc : X.calm = true) : CallR X (.builtin "max") (fun xs H Q => ∃ i j, xs = [.int i, .int j] ∧ Q (.int (if j > i then j else i)) H) := by
  intro pins s σ H xs us Q I r h
  obtain ⟨i, j, rfl, q⟩ := h
  obtain ⟨u, w', rfl, ⟨t, rfl⟩, ⟨t', rfl⟩⟩ := vals2 r
  refine max_two_ints (I.ok.hd hc) fun h' tk k => ⟨_, H, I.kept k, ?_, q⟩
  by_cases hj : j > i
  · rw [if_pos hj, if_pos hj]; exact ⟨_, rfl⟩
  · rw [if_neg hj, if_neg hj]; exact ⟨_, rfl⟩
theorem call_min2 (hc : X.calm = true) : CallR X (.builtin "min") (fun xs H Q => ∃ i j, xs = [.int i, .int j] ∧ Q (.int (if j < i then j else i)) H) := by
  intro pins s σ H xs us Q I r h
  obtain ⟨i, j, rfl, q⟩ := h
  obtain ⟨u, w', rfl, ⟨t, rfl⟩, ⟨t', rfl⟩⟩ := vals2 r
  refine min_two_ints (I.ok.hd hc) fun h' tk k => ⟨_, H, I.kept k, ?_, q⟩
  by_cases hj : j < i
  · rw [if_pos hj, if_pos hj]; exact ⟨_, rfl⟩
  · rw [if_neg hj, if_neg hj]; exact ⟨_, rfl⟩
theorem call_str_int : CallR X (.type "str") (fun xs H Q => ∃ i, xs = [.int i] ∧ i.natAbs.log2 < 1920 ∧ Q (.str (toString i)) H) := by
  intro pins s σ H xs us Q I r h
  obtain ⟨i, rfl, hz, q⟩ := h
  obtain ⟨u, rfl, t, rfl⟩ := vals1 r
  exact PySem.P.str_of_int hz ⟨.str _, H, I.tok _, ⟨_, rfl⟩, q⟩
end
end L2

namespace L2
open PySem PySem.Spec PyProof.Rows

/-! ### an instance, its attributes a map -/



section
variable {prog : Program} {w : World} {A : Around} {E : Value → Shared → Prop} {s : Shared} {K : PySem.W.Frag} {x dx C f : Addr} {mA : Str → Option Value} {name : Str} {v : Value}





end

/-! ### the attributes as a list of pairs -/

theorem RelO.some_of {v : V} {o : Option Value} (r : RelO (some v) o) : ∃ u, o = some u ∧ RelV v u := by
  cases o with
  | none => exact (show False from r).elim
  | some u => exact ⟨u, rfl, r⟩

section
variable {P : Program} {w : World} {H H' : Hp} {h h' : Heap} {a C dx : Addr} {fs fs' : List (Str × V)}
end

/-! ### what of the text a class must have -/

section
variable {X : Cx} {pins : List (Addr × Obj)} {σ : St} {H : Hp} {s : Shared} {a C dx : Addr} {fs : List (Str × V)} {f : Str} {v : V} {A : Around} {E : Value → Shared → Prop}






end

/-! ### readings and rules -/

section
variable {X : Cx} {o e value : Expr} {f : Str} {pos pos' tpos : Pos} {ta tv : TE}

end

/-! ### isinstance -/
section
variable {X : Cx} {pins : List (Addr × Obj)} {σ : St} {H : Hp} {s : Shared} {A : Around} {E : Value → Shared → Prop} {Q : Value → Shared → Prop} {c : Value} {b : Bool}
end
end L2

namespace L2
open PySem PySem.Spec PyProof.Rows

/-! ### room -/
structure Room (k : Nat) (A : Around) : Prop where
  hd : A.handled = none
  dp : A.depth + 3 * k + 5 < recursionLimit
  un : A.units + 16 * k + 200 < cLine
  gd : A.guards = some []
theorem Room.mono {j k : Nat} {A : Around} (r : Room k A) (h : j ≤ k) : Room j A := ⟨r.hd, by have := r.dp; omega, by have := r.un; omega, r.gd⟩
theorem Room.deeper {k : Nat} {A : Around} (r : Room (k + 1) A) (env : Env) : Room k (A.deeper env) :=
  ⟨r.hd, by have := r.dp; show A.depth + 1 + 3 * k + 5 < _; omega, by have := r.un; show A.units + 3 + 16 * k + 200 < _; omega, r.gd⟩
theorem Room.depth {k : Nat} {A : Around} (r : Room k A) : A.depth < recursionLimit := by have := r.dp; omega
theorem Room.units {k : Nat} {A : Around} (r : Room k A) : A.units + 64 < cLine := by have := r.un; omega

/-! ### argument lists and displays -/
abbrev tNil : TA := fun _ H Q => Q [] H
abbrev tCons (ta : TE) (tr : TA) : TA := fun σ H Q => ta σ H fun x H1 => tr σ H1 fun xs H2 => Q (x :: xs) H2
section
variable {X : Cx} {e : Expr} {es : List Expr} {te : TE} {t : TA} {pos : Pos}
theorem pa_nil : PA X [] tNil := .mk fun _ _ _ _ H Q I h => Calls.spliced_nil ⟨[], H, I, .nil, h⟩
theorem pa_cons (ha : PE X e te) (hr : PA X es t) (hs : starEach (e :: es) X.env = (false, eval e X.env) :: starEach es X.env := by rfl) : PA X (e :: es) (tCons te t) := by
  refine ⟨?_⟩
  intro pos pins s σ H Q I h
  rw [hs]
  show wpAny _ _ (spliced ((false, eval e X.env) :: backTo pos (starEach es X.env))) _ _ s
  refine Calls.spliced_cons (thn (ha pins s σ H _ I h) fun u s1 ⟨x, H1, I1, r1, q1⟩ => ?_)
  exact thn (hr pos pins s1 σ H1 _ I1 q1) fun us s2 ⟨xs, H2, I2, r2, q2⟩ => ⟨x :: xs, H2, I2, .cons r1 r2, q2⟩

/-- a tuple, a list of written items -/
def tTup (t : TA) : TE := fun σ H Q => t σ H fun xs H1 => xs.length ≤ sizeLine ∧ ∀ p, H1 p = none → Q (.ref p) (upd H1 p (.tup xs))
def tLst (t : TA) : TE := fun σ H Q => t σ H fun xs H1 => xs.length ≤ sizeLine ∧ ∀ p, H1 p = none → Q (.ref p) (upd H1 p (.lst xs))
theorem pe_tup {x1} (h : PA X es t) : PE X (.Tuple es x1 pos) (tTup t) := by
  refine ⟨?_⟩
  intro pins s σ H Q I hq
  refine wpAny_Tuple_spliced (thn (h pos pins s σ H _ I hq) fun us s1 ⟨xs, H1, I1, r, z, q⟩ => ⟨by rw [← r.length]; exact z, ?_⟩)
  have hf : H1 s1.heap.objs.size = none := I1.hok.fresh (Nat.le_refl _)
  refine ⟨.ref s1.heap.objs.size, upd H1 s1.heap.objs.size (.tup xs), I1.laid (t' := s1.toks) (fun b u e => Heap.get?_push_of_some _ e) (Nat.le_refl _) ?_, rfl, q _ hf⟩
  exact ⟨z, us, r, ⟨_, Heap.get?_push_size _ rfl, rfl, _, rfl⟩⟩
theorem pe_lst (h : PA X es t) : PE X (.List es pos) (tLst t) := by
  refine ⟨?_⟩
  intro pins s σ H Q I hq
  refine wpAny_List_spliced (thn (h pos pins s σ H _ I hq) fun us s1 ⟨xs, H1, I1, r, z, q⟩ => ⟨by rw [← r.length]; exact z, ?_⟩)
  have hf : H1 s1.heap.objs.size = none := I1.hok.fresh (Nat.le_refl _)
  refine ⟨.ref s1.heap.objs.size, upd H1 s1.heap.objs.size (.lst xs), I1.laid (t' := s1.toks) (fun b u e => Heap.get?_push_of_some _ e) (Nat.le_refl _) ?_, rfl, q _ hf⟩
  exact ⟨z, us, 0, r, Heap.get?_push_size _ rfl⟩
end

/-! ### what a def promises -/
/-- a def's promise: the bound arguments in the parameters' order, the heap, the wanted end, the wanted exception -/
abbrev Sp := List V → Hp → VK → XK → Prop
/-- how an exception lies behind a call (file 08 gives it): the callers' frames, abstract heap and state ahead of the call, the wish, the exception, the state -/
abbrev CXT := List Env → Hp → Shared → XK → Value → Shared → Prop

/-- the state at a call -/
structure Env0 (P : Program) (w : World) (K : PySem.W.Frag) (mg : Str → Option Value) (base : Heap) (A : Around) (outer : List Env) (s : Shared) (H : Hp) : Prop where
  frames : A.frames = some outer
  mod : Mod K mg base
  bs : ∀ b o, base.get? b = some o → s.heap.get? b = some o ∧ H b = none
  bsz : base.objs.size ≤ s.heap.objs.size
  funs : s.heap.FunFrames base outer
  frf : ∀ b ∈ frs outer, H b = none
  hok : HOk P w H s.heap
  bare : AllBare s.gens
/-- a call's end -/
def CE (outer : List Env) (P : Program) (w : World) (H : Hp) (s : Shared) (Q : VK) (u : Value) (s' : Shared) : Prop :=
  ∃ v H', s'.os = s.os ∧ AllBare s'.gens ∧ Un (frs outer) [] H H' s.heap s'.heap ∧ HOk P w H' s'.heap ∧ RelV v u ∧ Q v H'
def CR (CX : CXT) (outer : List Env) (P : Program) (w : World) (H : Hp) (s : Shared) (Q : VK) (E : XK) (r : Result) (s' : Shared) : Prop :=
  match r with
  | .ok (.ret u) => CE outer P w H s Q u s'
  | .ok _ => False
  | .error e => CX outer H s E e s'
structure FnOk (P : Program) (w : World) (K : PySem.W.Frag) (mg : Str → Option Value) (base : Heap) (CX : CXT) (k : Nat) (f : Addr) (fd : FuncData) (ps : List Str) (sp : Sp) : Prop where
  len : ∀ vs H Q E, sp vs H Q E → vs.length = ps.length
  run : ∀ (A : Around) (outer : List Env) (s : Shared) (H : Hp) (args : Args) (us : List Value) (vs : List V) (Q : VK) (E : XK), Room k A → Env0 P w K mg base A outer s H → BindsTo s fd args (ps.zip us) → Vals vs us → sp vs H Q E →
    codeAny (model P w) A (.call (.ref f) args) (CR CX outer P w H s Q E) s


section
variable {X : Cx} {pins : List (Addr × Obj)} {σ : St} {H : Hp} {s s' : Shared}
/-- from a body: what a callee wants -/
theorem Inv.env0 (I : Inv X pins σ H s) : Env0 X.prog X.w X.K X.mg X.base X.A X.stack s H :=
  ⟨I.ok.frames, I.ok.mod, I.bs, Nat.le_trans I.ok.bsz I.sz, I.stack, I.stkFree, I.hok, I.bare⟩
/-- behind a call -/
theorem Inv.after {Q : VK} {u : Value} (I : Inv X pins σ H s) (h : CE X.stack X.prog X.w H s Q u s') : EP X pins σ Q u s' := by
  obtain ⟨v, H', os, bare, un, hok, r, q⟩ := h
  obtain ⟨hh, g, d, t, os'⟩ := s'
  obtain rfl : os' = s.os := os
  exact ⟨v, H', I.call (h' := hh) (g' := g) (d' := d) (t' := t) (ch := []) un hok bare (fun b z => absurd z (by simp)), r, q⟩
end

/-! ### calls -/
/-- f(..): the written arguments, then the defaults dvs; E: what is wanted of an exception -/
abbrev tCall (sp : Sp) (dvs : List V) (E : XK) (t : TA) : TE := fun σ H Q => t σ H fun vs H1 => sp (vs ++ dvs) H1 Q E

/-- how the parameters are bound: us the positional arguments, kw the keywords' values by name, ds the defaults that fill up -/
def Binds (K : PySem.W.Frag) (fd : FuncData) (ps : List Str) (ds : List Value) : Prop :=
  ∀ (s : Shared) (us : List Value), K.In s.heap → (us ++ ds).length = ps.length → BindsTo s fd ⟨us, []⟩ (ps.zip (us ++ ds))
/-- every parameter is given -/
theorem Binds.all {K : PySem.W.Frag} {fd : FuncData} {ps : List Str} (h : ∀ us : List Value, us.length = ps.length → bindArgs fd ⟨us, []⟩ = pure (ps.zip us)) : Binds K fd ps [] := fun s us _ hl => by
  rw [List.append_nil] at hl ⊢
  exact .of_eq (h us hl)

/-- an exception of a callee reaches what this body wants of exceptions -/
def Passes (CX : CXT) (X : Cx) (E : XK) : Prop := ∀ (pins : List (Addr × Obj)) (σ : St) (H : Hp) (s : Shared) (e : Value) (s' : Shared), Inv X pins σ H s → CX X.stack H s E e s' → X.xe e s'

section
variable {X : Cx} {CX : CXT} {k : Nat} {f C : Addr} {fd : FuncData} {ps : List Str} {sp : Sp} {dvs : List V} {ds : List Value} {E : XK} {x m : Str} {p pos apos : Pos} {e o : Expr} {es : List Expr} {ta : TE} {t : TA}

/-- the callee runs -/
theorem run_fn {pins : List (Addr × Obj)} {σ : St} {H : Hp} {s : Shared} {Q : VK} {us : List Value} {vs : List V} (F : FnOk X.prog X.w X.K X.mg X.base CX k f fd ps sp) (hr : Room k X.A) (hb : Binds X.K fd ps ds) (hd : Vals dvs ds) (hx : Passes CX X E)
    (I : Inv X pins σ H s) (r : Vals vs us) (h : sp (vs ++ dvs) H Q E) : wpAny (model X.prog X.w) X.A (call (.ref f) us) (EP X pins σ Q) X.xe s := by
  have r2 : Vals (vs ++ dvs) (us ++ ds) := r.append hd
  have hl : (us ++ ds).length = ps.length := by rw [← r2.length]; exact F.len _ _ _ _ h
  refine wpAny_call (codeAny_mono (F.run X.A X.stack s H ⟨us, []⟩ (us ++ ds) (vs ++ dvs) Q E hr I.env0 (hb s us I.kIn hl) r2 h) fun r s' hq => ?_)
  cases r with
  | error e => exact hx pins σ H s e s' I hq
  | ok fl =>
    cases fl with
    | ret u => exact I.after hq
    | next => exact False.elim hq
    | brk => exact False.elim hq
    | cont => exact False.elim hq

theorem pe_call (F : FnOk X.prog X.w X.K X.mg X.base CX k f fd ps sp) (hr : Room k X.A) (hg : Gl X x) (hm : X.mg x = some (.ref f)) (hk : PySem.W.keepIn X.K (.ref f) = true) (hb : Binds X.K fd ps ds) (hd : Vals dvs ds) (hx : Passes CX X E)
    (ha : PA X (e :: es) t) (hdb : (x == ("__debug__" : Str)) = false := by decide) (he : starEach (e :: es) X.env = (false, eval e X.env) :: starEach es X.env := by rfl) (hpl : (backTo pos (starEach es X.env)).any (·.1) = false := by rfl) :
    PE X (.Call (.Name x p) (e :: es) [] pos) (tCall sp dvs E t) := by
  refine ⟨?_⟩
  intro pins s σ H Q I h
  refine wpAny_Call_Name_kw (ld_glob I hg hm ?_ hdb)
  refine PySem.W.callWith_K (h₀ := X.base) I.ok.mod.kin hk (thn (ha pos pins s σ H _ I h) fun us s1 ⟨vs, H1, I1, r, q⟩ => ⟨I1.kIn, ?_⟩) he hpl
  exact run_fn F hr hb hd hx I1 r q



end

/-! ### keywords -/
section
variable {X : Cx} {CX : CXT} {k : Nat} {f C : Addr} {fd : FuncData} {ps ks : List Str} {sp : Sp} {E : XK} {x m : Str} {p pos apos kpos : Pos} {e o : Expr} {es : List Expr} {kws : List Keyword} {te ta : TE} {t tk : TA} {nm : Option Str}

variable {g : List Value → List Value → List Value} {gV : List V → List V → List V}
end

/-! ### a def's body keeps its promise -/
/-- names: the parameters first -/
structure FnScope (N P : List Str) (sc : Scope) : Prop where
  kind : sc.kind = .function
  co : sc.isCoroutine = false
  gen : sc.isGenerator = false
  nd : N.Nodup
  pre : N.take P.length = P
  par : ∀ x ∈ P, sc.names.lookup x = some .local ∨ sc.names.lookup x = some .cell
  nofree : ∀ y ∈ sc.names, y.2 ≠ .free

theorem bindL_out {kindOf : Str → Option NameKind} {x : Str} : ∀ {binds : List (Str × Value)} {m : Str → Option Value}, (∀ v, (x, v) ∉ binds) → bindL kindOf binds m x = m x
  | [], _, _ => rfl
  | (n, v) :: r, m, h => by
    unfold bindL
    rw [bindL_out fun w hw => h w (List.mem_cons_of_mem _ hw)]
    split
    · have : x ≠ n := by rintro rfl; exact h v List.mem_cons_self
      simp [this]
    · rfl
theorem bindC_out {kindOf : Str → Option NameKind} {x : Str} : ∀ {binds : List (Str × Value)} {m : Str → Option Value}, (∀ v, (x, v) ∉ binds) → bindC kindOf binds m x = m x
  | [], _, _ => rfl
  | (n, v) :: r, m, h => by
    unfold bindC
    rw [bindC_out fun w hw => h w (List.mem_cons_of_mem _ hw)]
    split
    · rfl
    · have : x ≠ n := by rintro rfl; exact h v List.mem_cons_self
      simp [this]
theorem bindL_get {kindOf : Str → Option NameKind} {x : Str} {v : Value} : ∀ {P : List Str} {vs : List Value} {i : Nat} {m : Str → Option Value}, P.Nodup → P[i]? = some x → vs[i]? = some v → kindOf x = some .local →
    bindL kindOf (P.zip vs) m x = some v
  | [], _, _, _, _, h, _, _ => by simp at h
  | _ :: _, [], _, _, _, _, h, _ => by simp at h
  | p :: P, w :: vs, 0, m, nd, h1, h2, hk => by
    simp at h1 h2; subst h1; subst h2
    show bindL kindOf ((p, w) :: P.zip vs) m p = _
    unfold bindL
    rw [bindL_out fun v hv => (List.nodup_cons.mp nd).1 (List.of_mem_zip hv).1, if_pos hk]
    simp
  | p :: P, w :: vs, i + 1, m, nd, h1, h2, hk => by
    show bindL kindOf ((p, w) :: P.zip vs) m x = _
    unfold bindL
    exact bindL_get (i := i) (List.nodup_cons.mp nd).2 (by simpa using h1) (by simpa using h2) hk
theorem bindC_get {kindOf : Str → Option NameKind} {x : Str} {v : Value} : ∀ {P : List Str} {vs : List Value} {i : Nat} {m : Str → Option Value}, P.Nodup → P[i]? = some x → vs[i]? = some v → kindOf x ≠ some .local →
    bindC kindOf (P.zip vs) m x = some v
  | [], _, _, _, _, h, _, _ => by simp at h
  | _ :: _, [], _, _, _, _, h, _ => by simp at h
  | p :: P, w :: vs, 0, m, nd, h1, h2, hk => by
    simp at h1 h2; subst h1; subst h2
    show bindC kindOf ((p, w) :: P.zip vs) m p = _
    unfold bindC
    rw [bindC_out fun v hv => (List.nodup_cons.mp nd).1 (List.of_mem_zip hv).1, if_neg hk]
    simp
  | p :: P, w :: vs, i + 1, m, nd, h1, h2, hk => by
    show bindC kindOf ((p, w) :: P.zip vs) m x = _
    unfold bindC
    exact bindC_get (i := i) (List.nodup_cons.mp nd).2 (by simpa using h1) (by simpa using h2) hk

/-- the names' values at the entry -/
def start (N : List Str) (vs : List V) : St := vs.map some ++ List.replicate (N.length - vs.length) none

/-- the context of a def's body, at its entry; an exception leaves the frame, then lies as CX says -/
def cxOf (CX : CXT) (P : Program) (w : World) (K : PySem.W.Frag) (mg : Str → Option Value) (base : Heap) (N : List Str) (qual : Str) (scope : Scope) (f : Addr) (cd : Value) (A : Around) (outer : List Env) (s : Shared) (H : Hp) (E : XK) : Cx where
  prog := P
  w := w
  K := K
  mg := mg
  base := base
  A := A.deeper (envOfC qual scope s.heap.objs.size f cd)
  N := N
  s₀ := s
  H₀ := H
  env := envOfC qual scope s.heap.objs.size f cd
  outer := outer
  stack := envOfC qual scope s.heap.objs.size f cd :: outer
  ex := []
  calm := true
  fn := fun _ => true
  pn := []
  xe := fun e s' => wpAny (model P w) (A.deeper (envOfC qual scope s.heap.objs.size f cd)) (leaving (envOfC qual scope s.heap.objs.size f cd) e) (fun _ s'' => CX outer H s E e s'') (fun e' s'' => CX outer H s E e' s'') s'

theorem cell_has {sc : Scope} {n : Nat} {x : Str} (h : sc.names.lookup x = some .cell) : ∃ c, (cellsFrom n sc.names []).lookup x = some c := by
  have q := PySem.W.cellsFrom_some sc.names n [] (.inl h)
  exact Option.isSome_iff_exists.mp q

theorem inv_start {CX : CXT} {P : Program} {w : World} {K : PySem.W.Frag} {mg : Str → Option Value} {base : Heap} {N ps : List Str} {qual : Str} {scope : Scope} {f : Addr} {cd : Value} {A : Around} {outer : List Env} {s s1 : Shared} {H : Hp} {E : XK} {us : List Value} {vs : List V}
    (S : FnScope N ps scope) (hd : A.handled = none) (e0 : Env0 P w K mg base A outer s H) (hl : vs.length = ps.length) (r : Vals vs us)
    (x : InCallC s s.heap.objs.size (bindL (envOfC qual scope s.heap.objs.size f cd).kindOf (ps.zip us) fun _ => none) (cellsFrom (s.heap.objs.size + 1) scope.names []) (bindC (envOfC qual scope s.heap.objs.size f cd).kindOf (ps.zip us) fun _ => none) s1) :
    Inv (cxOf CX P w K mg base N qual scope f cd A outer s H E) [] (start N vs) H s1 := by
  have hpl : ps.length ≤ N.length := by have := congrArg List.length S.pre; rw [List.length_take] at this; omega
  obtain ⟨h1, tk, rfl, hk⟩ := x.done
  have noA : ∀ b : Addr, b ∉ (cxOf CX P w K mg base N qual scope f cd A outer s H E).ex := fun b z => absurd (show b ∈ ([] : List Addr) from z) (by simp)
  refine ⟨⟨e0.mod, S.kind, rfl, rfl, Nat.le_refl _, fun y z c h1 h2 => ?_, fun y hy => ?_, fun y c _ h => ?_, fun _ => hd, Around.frames_deeper e0.frames, .inr ⟨rfl, rfl⟩, fun b z => absurd z (noA b), e0.bs, e0.bsz, fun b _ _ => noA b, fun b z => absurd z (noA b), e0.funs, e0.frf⟩,
    rfl, e0.bare, Un.kept hk, ⟨_, x.toInCall.ns, fun i y v h1 h2 h3 => ?_⟩, fun y c h => ⟨_, x.cell y c h⟩, e0.hok.fresh (Nat.le_refl _), fun y c h => ?_, fun p hp => absurd (show p ∈ ([] : List (Addr × Obj)) from hp) (by simp), e0.hok.kept hk, ?_⟩
  · exact name_of_addr x.apart (PySem.mem_of_lookup h1) (PySem.mem_of_lookup h2)
  · have hy : scope.names.lookup y = some .cell ∨ scope.names.lookup y = some .free := hy
    rcases hy with hy | hy
    · exact cell_has hy
    · exact absurd rfl (S.nofree _ (PySem.mem_of_lookup hy))
  · exact Nat.le_of_lt (x.above y c (PySem.mem_of_lookup h))
  · have hi : i < vs.length := by
      unfold start at h2
      by_cases hi : i < vs.length
      · exact hi
      · rw [List.getElem?_append_right (by simpa using hi)] at h2
        rw [List.getElem?_replicate] at h2
        split at h2 <;> cases h2
    have ha : vs[i]? = some v := by
      unfold start at h2
      rw [List.getElem?_append_left (by simpa using hi), List.getElem?_map] at h2
      cases e : vs[i]? with
      | none => rw [e] at h2; cases h2
      | some a => rw [e] at h2; cases h2; rfl
    obtain ⟨u, hu, rv⟩ := r.get ha
    have hp : ps[i]? = some y := by
      rw [← S.pre, List.getElem?_take_of_lt (by omega)]; exact h1
    have ndP : ps.Nodup := by rw [← S.pre]; exact S.nd.sublist (List.take_sublist _ _)
    refine ⟨u, rv, ?_⟩
    rcases S.par y (List.mem_of_getElem? hp) with k | k
    · exact .inl ⟨k, bindL_get ndP hp hu k⟩
    · obtain ⟨c, e⟩ := cell_has (n := s.heap.objs.size + 1) k
      refine .inr ⟨.inl k, c, e, ?_⟩
      have q := x.cell y c e
      rw [bindC_get ndP hp hu (by show scope.names.lookup y ≠ _; rw [k]; decide)] at q
      exact q
  · exact e0.hok.fresh (Nat.le_of_lt (x.above y c (PySem.mem_of_lookup h)))
  · unfold start
    show _ = N.length
    rw [List.length_append, List.length_map, List.length_replicate]
    omega

/-- THE RULE: a def (or a method) of the text, by its body. The body's reading t is chosen for each entry; it is run at the parameters' values -/
theorem fn_of {CX : CXT} {P : Program} {w : World} {K : PySem.W.Frag} {mg : Str → Option Value} {base : Heap} {k : Nat} {f : Addr} {name qual : Str} {params : Arguments} {body : List Stmt} {scope : Scope} {dV kV doc pm cdv ct oc : Value} {an od : Option Addr}
    {osl : Array (Option Value)} {N ps : List Str} {sp : Sp} (lk : K.lookup f = some ⟨oc, od, .func (PySem.W.fnOf name qual params body scope dV kV doc pm an cdv ct), osl⟩) (hcd : PySem.W.codeIn K cdv qual = true) (S : FnScope N ps scope)
    (len : ∀ vs H Q E, sp vs H Q E → vs.length = ps.length)
    (hbody : ∀ (A : Around) (outer : List Env) (s : Shared) (H : Hp) (vs : List V) (Q : VK) (E : XK), Room k (A.deeper (envOfC qual scope s.heap.objs.size f cdv)) → sp vs H Q E →
      ∃ t, PSs (cxOf CX P w K mg base N qual scope f cdv A outer s H E) body t ∧ t { nx := fun _ H' => Q .non H', rt := Q } (start N vs) H) :
    FnOk P w K mg base CX (k + 1) f (PySem.W.fnOf name qual params body scope dV kV doc pm an cdv ct) ps sp := by
  refine ⟨len, fun A outer s H args us vs Q E hr e0 hb r hsp => ?_⟩
  have hl := len _ _ _ _ hsp
  have KX : K.In s.heap := e0.mod.kin.keeps fun b o e => (e0.bs b o e).1
  have lim : s.heap.NoLimit := e0.mod.nolimit.keeps fun b o e => (e0.bs b o e).1
  have hkind : ∀ y ∈ ps.zip us, scope.names.lookup y.1 = some .local ∨ (scope.names.lookup y.1 = some .cell ∧ ((cellsFrom (s.heap.objs.size + 1) scope.names []).lookup y.1).isSome = true) := fun ⟨n, v⟩ hy => by
    rcases S.par n (List.of_mem_zip hy).1 with q | q
    · exact .inl q
    · exact .inr ⟨q, PySem.W.cellsFrom_some _ _ _ (.inl q)⟩
  refine codeAny_call_function hr.depth (KX _ _ lk) rfl S.co S.gen rfl (PySem.W.codeRec_of KX hcd) (hb _ _ _ _ ?_)
  refine wpAny_newFunctionEnv_cells S.kind hkind fun env he s1 x => ?_
  subst he
  refine ⟨lim.keeps x.toInCall.keep, codeAny_func ?_⟩
  obtain ⟨t, ht, hq⟩ := hbody A outer s H vs Q E (hr.deeper _) hsp
  have I : Inv (cxOf CX P w K mg base N qual scope f cdv A outer s H E) [] (start N vs) H s1 := inv_start S hr.hd e0 hl r x
  refine wpAny_mono (ht [] s1 (start N vs) H _ I hq) (fun fl s' hs => ?_) fun e s' hs => hs
  have fin : ∀ {σ' : St} {H' : Hp} {v : V} {u : Value}, Inv (cxOf CX P w K mg base N qual scope f cdv A outer s H E) [] σ' H' s' → RelV v u → Q v H' → CE outer P w H s Q u s' :=
    fun {σ' H' v u} J rv q => ⟨v, H', J.os, J.bare, J.base, J.hok, rv, q⟩
  cases fl with
  | ret u =>
    obtain ⟨v, σ', H', J, rv, q⟩ := hs
    exact fin J rv q
  | next =>
    obtain ⟨σ', H', J, q⟩ := hs
    exact fin (v := V.non) (u := Value.none) J rfl q
  | brk =>
    obtain ⟨_, _, _, q⟩ := hs
    exact False.elim q
  | cont =>
    obtain ⟨_, _, _, q⟩ := hs
    exact False.elim q
end L2

namespace L2
open PySem PySem.Spec PyProof.Rows
section
variable {X : Cx} {x : Str} {p pos : Pos} {e : Expr} {es : List Expr} {t : TA} {id T : String} {r : List V → Hp → VK → Prop}

def tCB (r : List V → Hp → VK → Prop) (t : TA) : TE := fun σ H Q => t σ H fun vs H1 => r vs H1 Q
/-- f(e, ..), f a built-in function -/
theorem pe_callB (hc : CallR X (.builtin id) r) (hg : Gl X x) (hm : X.mg x = none) (hv : bootBuiltins x = some (.builtin id)) (ha : PA X (e :: es) t) (hn : x ≠ "__name__" := by decide) (hdb : (x == ("__debug__" : Str)) = false := by decide)
    (he : starEach (e :: es) X.env = (false, eval e X.env) :: starEach es X.env := by rfl) (hpl : (backTo pos (starEach es X.env)).any (·.1) = false := by rfl) : PE X (.Call (.Name x p) (e :: es) [] pos) (tCB r t) := by
  refine ⟨?_⟩
  intro pins s σ H Q I h
  refine wpAny_Call_Name_kw (ld_blt I hg hm hv ?_ hn hdb)
  exact PyProof.Rows.callWith_builtin1 (thn (ha pos pins s σ H _ I h) fun us s1 ⟨vs, H1, I1, r1, q1⟩ => hc pins s1 σ H1 vs us Q I1 r1 q1) he hpl
/-- T(e, ..), T a built-in type -/
theorem pe_callTy (hc : CallR X (.type T) r) (hg : Gl X x) (hm : X.mg x = none) (hv : bootBuiltins x = some (.type T)) (ha : PA X (e :: es) t) (hn : x ≠ "__name__" := by decide) (hdb : (x == ("__debug__" : Str)) = false := by decide)
    (he : starEach (e :: es) X.env = (false, eval e X.env) :: starEach es X.env := by rfl) (hpl : (backTo pos (starEach es X.env)).any (·.1) = false := by rfl) : PE X (.Call (.Name x p) (e :: es) [] pos) (tCB r t) := by
  refine ⟨?_⟩
  intro pins s σ H Q I h
  refine wpAny_Call_Name_kw (ld_blt I hg hm hv ?_ hn hdb)
  exact PyProof.Rows.callWith_type1 (thn (ha pos pins s σ H _ I h) fun us s1 ⟨vs, H1, I1, r1, q1⟩ => hc pins s1 σ H1 vs us Q I1 r1 q1) he hpl
end
end L2

namespace HT
open PySem PyProof.Rows



section
open PySem.SeqAt
open PySem.AutoSeq1 (wpAny_loadPart')
open PySem.MeetsSeq PySem.MeetsSeq2 PySem.MeetsSeq3

end

section
variable {prog : Program} {w : World} {A : Around} {E : Value → Shared → Prop} {s : Shared}



/-! ### t[a:b], not the whole -/
/-- a slice's bound as a place among n (d where it is left out) -/
def sIx (n d : Nat) : Option Int → Nat
  | none => d
  | some v => if v < 0 then (v + (n : Int)).toNat else min v.toNat n
theorem sIx_none (n d : Nat) : sIx n d none = d := rfl
theorem sIx_nat (n d k : Nat) : sIx n d (some (k : Int)) = min k n := by
  show (if (k : Int) < 0 then ((k : Int) + (n : Int)).toNat else min (k : Int).toNat n) = min k n
  rw [if_neg (by omega), Int.toNat_natCast]

end
end HT

namespace L2
open PySem PySem.Spec PyProof.Rows

/-! ### the parts of a slice -/
abbrev TO := St → Hp → (Option Int → Hp → Prop) → Prop
/-- a slice's part (left out, or an int) -/
def PO (X : Cx) (e : Option Expr) (t : TO) : Prop :=
  ∀ (pins : List (Addr × Obj)) (s : Shared) (σ : St) (H : Hp) (Q : Option Int → Hp → Prop), Inv X pins σ H s → t σ H Q →
    wpAny (model X.prog X.w) X.A (evalPart e X.env) (fun u s' => ∃ o H', Inv X pins σ H' s' ∧ IsPart u o ∧ Q o H') X.xe s
def tNoPart : TO := fun _ H Q => Q none H
def tPart (t : TE) : TO := fun σ H Q => t σ H fun x H1 => ∃ i, x = .int i ∧ Q (some i) H1


section
variable {X : Cx} {e : Expr} {te : TE} {lo hi : Option Expr} {tl th : TO} {pos p2 : Pos}

theorem po_none : PO X none tNoPart := by
  intro pins s σ H Q I h
  rw [evalPart_none]
  exact wpAny_pure ⟨none, H, I, .none, h⟩
theorem po_some (h : PE X e te) : PO X (some e) (tPart te) := by
  intro pins s σ H Q I hw
  rw [evalPart_some]
  refine thn (h pins s σ H _ I hw) fun u s1 ⟨x, H1, I1, r1, q1⟩ => ?_
  obtain ⟨i, rfl, q⟩ := q1
  obtain ⟨t, rfl⟩ := r1
  exact ⟨some i, H1, I1, .int i t, q⟩

/-- what a slice of a value is, by values: the slice object stands at sl -/
def SlR (X : Cx) (r : V → Option Int → Option Int → Hp → VK → Prop) : Prop :=
  ∀ (pins : List (Addr × Obj)) (s : Shared) (σ : St) (H : Hp) (x : V) (v vl vu : Value) (lo hi : Option Int) (sl : Addr) (Q : VK), Inv X pins σ H s → RelV x v → s.heap.IsSliceOf sl vl vu .none → IsPart vl lo → IsPart vu hi → r x lo hi H Q →
    ∃ T id, typeLookup (.type T) "__getitem__" = pure (some (.builtin id)) ∧ s.TypeIs v T ∧ wpAny (model X.prog X.w) X.A (getItem v (.ref sl)) (EP X pins σ Q) X.xe s
def tSl (r : V → Option Int → Option Int → Hp → VK → Prop) (te : TE) (tl th : TO) : TE := fun σ H Q => te σ H fun x H1 => tl σ H1 fun l H2 => th σ H2 fun u H3 => r x l u H3 Q
/-- a[lo:hi], any a -/
theorem pe_slice {r : V → Option Int → Option Int → Hp → VK → Prop} (hr : SlR X r) (he : PE X e te) (hl : PO X lo tl) (hu : PO X hi th) : PE X (.Subscript e (.Slice lo hi none p2) pos) (tSl r te tl th) := by
  refine ⟨?_⟩
  intro pins s σ H Q I h
  refine Subscript_ (thn (he pins s σ H _ I h) fun v s1 ⟨x, H1, I1, r1, q1⟩ => ?_)
  refine wpAny_Slice (thn (hl pins s1 σ H1 _ I1 q1) fun vl s2 ⟨l, H2, I2, pl, q2⟩ => thn (hu pins s2 σ H2 _ I2 q2) fun vu s3 ⟨u, H3, I3, pu, q3⟩ => ?_)
  rw [evalPart_none]
  refine wpAny_pure ?_
  have I4 : Inv X pins σ H3 { s3 with heap := s3.heap.push { cls := .type "slice", data := .fields #[vl, vu, .none] } } := I3.kept (t' := s3.toks) fun b ob q => Heap.get?_push_of_some _ q
  obtain ⟨T, id, hT, ht, hg⟩ := hr pins { s3 with heap := s3.heap.push { cls := .type "slice", data := .fields #[vl, vu, .none] } } σ H3 x v vl vu l u s3.heap.objs.size Q I4 r1 (Heap.IsSliceOf.new ..) pl pu q3
  show wpAny (model X.prog X.w) X.A (subscriptTail e (.Slice lo hi none p2) v (.ref s3.heap.objs.size)) (EP X pins σ Q) X.xe { s3 with heap := s3.heap.push { cls := .type "slice", data := .fields #[vl, vu, .none] } }
  exact tail_any (ops := [.ref s3.heap.objs.size, v]) ht hT hg (by with_unfolding_all rfl)

/-- the items of xs[lo:hi] -/
def cutV (xs : List V) (lo hi : Option Int) : List V := (xs.drop (HT.sIx xs.length 0 lo)).take (HT.sIx xs.length xs.length hi - HT.sIx xs.length 0 lo)
theorem cutV_length (xs : List V) (lo hi : Option Int) : (cutV xs lo hi).length ≤ xs.length := by
  unfold cutV
  rw [List.length_take, List.length_drop]
  omega

/-! ### t < u, t + u -/
end
end L2

namespace L2
open PySem PySem.Spec PyProof.Rows

/-! ### places -/
/-- the place that an index of any sign means -/
def ixN (n : Nat) (i : Int) : Option Nat := if 0 ≤ i then (if i < n then some i.toNat else none) else if -(n : Int) ≤ i then some (i + n).toNat else none
def atI {α : Type} (xs : List α) (i : Int) : Option α := (ixN xs.length i).bind fun j => xs[j]?
theorem ixN_seq {n : Nat} {i : Int} {j : Nat} (h : ixN n i = some j) : seqIndex? i n = some j ∧ j < n ∧ -(n : Int) ≤ i ∧ i < n := by
  unfold ixN at h
  by_cases h0 : 0 ≤ i
  · rw [if_pos h0] at h
    by_cases h1 : i < n
    · rw [if_pos h1] at h
      have e : i.toNat = j := Option.some.inj h
      exact ⟨by rw [seqIndex_of h0 h1, e], by omega, by omega, h1⟩
    · rw [if_neg h1] at h; cases h
  · rw [if_neg h0] at h
    by_cases h1 : -(n : Int) ≤ i
    · rw [if_pos h1] at h
      have e : (i + n).toNat = j := Option.some.inj h
      exact ⟨by rw [seqIndex_neg (by omega) h1, e], by omega, h1, by omega⟩
    · rw [if_neg h1] at h; cases h
theorem atI_get {α : Type} {xs : List α} {i : Int} {v : α} (h : atI xs i = some v) : ∃ j, seqIndex? i xs.length = some j ∧ xs[j]? = some v ∧ j < xs.length ∧ -(xs.length : Int) ≤ i ∧ i < xs.length := by
  unfold atI at h
  cases e : ixN xs.length i with
  | none => rw [e] at h; cases h
  | some j =>
    rw [e] at h
    obtain ⟨h1, h2, h3, h4⟩ := ixN_seq e
    exact ⟨j, h1, h, h2, h3, h4⟩
theorem atI_nat {α : Type} {xs : List α} {j : Nat} {v : α} (h : xs[j]? = some v) : atI xs (j : Int) = some v := by
  have hj : j < xs.length := (List.getElem?_eq_some_iff.mp h).1
  have e : ixN xs.length (j : Int) = some j := by
    unfold ixN
    rw [if_pos (by omega), if_pos (by omega)]; simp
  unfold atI; rw [e]; exact h

/-! ### what may be subscripted -/
/-- what stands as an index of a plain subscript -/
def PlainIx (b : Expr) : Prop := ∀ o i, subscripted b false o i = operate [o, i] (getItem o i)
/-- a subscript by values -/
def IxR (X : Cx) (r : R2) : Prop :=
  ∀ (value slice : Expr) (pins : List (Addr × Obj)) (s : Shared) (σ : St) (H : Hp) (x y : V) (v u : Value) (Q : VK), Inv X pins σ H s → RelV x v → RelV y u → r x y H Q →
    subscripted slice false v u = operate [v, u] (getItem v u) → wpAny (model X.prog X.w) X.A (subscriptTail value slice v u) (EP X pins σ Q) X.xe s
/-- a call of a builtin's method by values: the receiver, the arguments -/
def MtR (X : Cx) (id : String) (r : V → List V → Hp → VK → Prop) : Prop :=
  ∀ (pins : List (Addr × Obj)) (s : Shared) (σ : St) (H : Hp) (x : V) (xs : List V) (v : Value) (us : List Value) (Q : VK), Inv X pins σ H s → RelV x v → Vals xs us → r x xs H Q →
    wpAny (model X.prog X.w) X.A (call (.builtin id) (v :: us)) (EP X pins σ Q) X.xe s
section
variable {X : Cx} {a b : Expr} {ta tb : TE} {pos : Pos}
/-- a[b] -/
theorem pe_ix {r : R2} (hr : IxR X r) (ha : PE X a ta) (hb : PE X b tb) (hs : PlainIx b) : PE X (.Subscript a b pos) (tOp r ta tb) := by
  refine ⟨?_⟩
  intro pins s σ H Q I h
  exact Subscript_ (binT ha hb I h fun v u s2 x y H2 I2 rx ry q => hr a b pins s2 σ H2 x y v u Q I2 rx ry q (hs _ _))

inductive rIxL (K : PySem.W.Frag) (x y : V) (H : Hp) (Q : VK) : Prop
  | mk (p : Addr) (xs : List V) (i : Int) (v : V) (e1 : x = .ref p) (e2 : y = .int i) (h : SqL K H p xs) (e : atI xs i = some v) (q : Q v H) : rIxL K x y H Q
def rIxS : R2 := fun x y H Q => ∃ z i c, x = .str z ∧ y = .int i ∧ z.length ≤ sizeLine ∧ atI z.cps.toList i = some c ∧ Q (.str ⟨#[c]⟩) H
theorem ix_list : IxR X (rIxL X.K) := by
  intro value slice pins s σ H x y v u Q I rx ry h hs
  obtain ⟨p, xs, i, z, rfl, rfl, hq, he, q⟩ := h
  cases rx
  obtain ⟨t, rfl⟩ := ry
  obtain ⟨its, r, pl, hz⟩ := I.list hq
  obtain ⟨j, h1, h2, h3, h4, h5⟩ := atI_get he
  obtain ⟨w, ew, rw'⟩ := r.get h2
  have hl := r.length
  have hn := line63
  have fin : EP X pins σ Q w s := ⟨z, H, I, rw', q⟩
  by_cases h0 : 0 ≤ i
  · have hj : i.toNat = j := by
      rw [seqIndex_of h0 h5] at h1
      exact Option.some.inj h1
    exact item_listR pl.isList h0 (by omega) (by rw [hj]; simpa using ew) fin hs
  · have hj : (i + (its.toArray.size : Int)).toNat = j := by
      rw [seqIndex_neg (by omega) h4] at h1
      rw [List.size_toArray, ← hl]
      exact Option.some.inj h1
    exact subscriptTail_builtinR (x := w) pl.isList.typeIs slot_list_getitem.lookup
      (wpAny_getItem_list_neg (Q := fun r s' => r = w ∧ EP X pins σ Q r s') pl.isList (by omega) (by rw [List.size_toArray] <;> omega) (by omega) (by rw [hj]; simpa using ew) ⟨rfl, fin⟩) hs
theorem ix_str : IxR X rIxS := by
  intro value slice pins s σ H x y v u Q I rx ry h hs
  obtain ⟨z, i, c, rfl, rfl, hz, he, q⟩ := h
  obtain ⟨t, rfl⟩ := rx
  obtain ⟨t', rfl⟩ := ry
  obtain ⟨j, h1, h2, h3, h4, h5⟩ := atI_get he
  have hl : z.cps.toList.length = z.length := by simp [Str.length]
  rw [hl] at h1 h4 h5
  have hn := line63
  exact tail_any (typeIs_str s z t) slot_str_getitem.lookup (getItem_str (c := c) (by
    have e1 : decide (i < -(2 ^ 63 : Int)) = false := decide_eq_false (by omega)
    have e2 : decide (i ≥ 2 ^ 63) = false := decide_eq_false (by omega)
    rw [e1, e2, Bool.or_false]) (by rw [h1]; simpa using h2) ⟨.str ⟨#[c]⟩, H, I.tok _, ⟨_, rfl⟩, q⟩) hs

/-! ### xs[i] = v, any sign -/
/-- the list's object behind a store -/
theorem mapSeq_set (its : List Value) (n j : Nat) (u : Value) : Obj.mapSeq (·.setIfInBounds j u) { cls := .type "list", data := .seq its.toArray n } = { cls := .type "list", data := .seq (its.set j u).toArray n } := by
  simp [Obj.mapSeq]
theorem Inv.lst {pins : List (Addr × Obj)} {σ : St} {H : Hp} {s : Shared} {p : Addr} {xs : List V} (I : Inv X pins σ H s) (h : H p = some (.lst xs)) :
    ∃ (its : List Value) (n : Nat), Vals xs its ∧ s.heap.get? p = some { cls := .type "list", data := .seq its.toArray n } ∧ xs.length ≤ sizeLine := by
  obtain ⟨z, its, n, r, e⟩ := I.hok p _ h
  exact ⟨its, n, r, e, z⟩
/-- the list at p is written by an update of its object -/
theorem Inv.lstUpd {pins : List (Addr × Obj)} {σ : St} {H : Hp} {s : Shared} {p : Addr} {xs ys : List V} {its its' : List Value} {n n' : Nat} {f : Obj → Obj} (I : Inv X pins σ H s) (h : H p = some (.lst xs))
    (ho : s.heap.get? p = some { cls := .type "list", data := .seq its.toArray n }) (hf : f { cls := .type "list", data := .seq its.toArray n } = { cls := .type "list", data := .seq its'.toArray n' }) (r : Vals ys its') (hz : ys.length ≤ sizeLine) (t : Nat) :
    Inv X pins σ (upd H p (.lst ys)) { s with heap := s.heap.update p f, toks := t } := by
  have e : (s.heap.update p f).get? p = some { cls := .type "list", data := .seq its'.toArray n' } := by
    rw [Heap.get?_update_self f ho (by rw [hf] <;> rfl), hf]
  refine I.write (x := p) (e := p) (by rw [h]; trivial) (.inl rfl) (fun b u hb q => (Heap.get?_update_other _ _ (Ne.symm hb)).trans q) ⟨_, e⟩ ?_
  exact ⟨hz, its', n', r, e⟩
def rSetL : V → V → V → Hp → (Hp → Prop) → Prop := fun o i v H Q => ∃ p xs k j, o = .ref p ∧ i = .int k ∧ H p = some (.lst xs) ∧ ixN xs.length k = some j ∧ Q (upd H p (.lst (xs.set j v)))
theorem set_list : PSet X rSetL := by
  intro pins s σ H o i v ov iv u Q I ro ri rv h
  obtain ⟨p, xs, k, j, rfl, rfl, hp, hj, q⟩ := h
  cases ro
  obtain ⟨t, rfl⟩ := ri
  obtain ⟨its, n, r, ho, hz⟩ := I.lst hp
  obtain ⟨h1, h2, h3, h4⟩ := ixN_seq hj
  have hl := r.length
  have hn := line63
  have I' : Inv X pins σ (upd H p (.lst (xs.set j v))) { s with heap := s.heap.update p (Obj.mapSeq (·.setIfInBounds j u)) } :=
    I.lstUpd hp ho (mapSeq_set its n j u) (r.set rv j) (by rw [List.length_set]; exact hz) s.toks
  by_cases h0 : 0 ≤ k
  · have hk : k.toNat = j := by
      rw [seqIndex_of h0 h4] at h1
      exact Option.some.inj h1
    exact PySem.W.ki_setAt ho h0 (by omega) (by rw [List.size_toArray, ← hl]; exact h4) (by rw [hk]; exact ⟨_, I', q⟩)
  · have hk : (k + (its.toArray.size : Int)).toNat = j := by
      rw [seqIndex_neg (by omega) h3] at h1
      rw [List.size_toArray, ← hl]
      exact Option.some.inj h1
    exact PySem.W.ki_setBack ho (by omega) (by rw [List.size_toArray, ← hl]; exact h3) (by omega) (by rw [hk]; exact ⟨_, I', q⟩)

/-! ### slices -/
theorem slice_bounds (lo hi : Option Int) (n : Nat) : (sliceBounds lo hi none n).1 = ((HT.sIx n 0 lo : Nat) : Int) ∧ (sliceBounds lo hi none n).2.1 = ((HT.sIx n n hi : Nat) : Int) ∧ (sliceBounds lo hi none n).2.2 = 1 := by
  refine ⟨?_, ?_, rfl⟩
  · cases lo with
    | none => simp [sliceBounds, HT.sIx]
    | some i =>
      simp only [sliceBounds, HT.sIx, Option.getD_none, show (1 : Int) > 0 by decide, if_true]
      by_cases h : i < 0
      · simp only [h, if_true] <;> omega
      · simp only [h, if_false] <;> omega
  · cases hi with
    | none => simp [sliceBounds, HT.sIx]
    | some i =>
      simp only [sliceBounds, HT.sIx, Option.getD_none, show (1 : Int) > 0 by decide, if_true]
      by_cases h : i < 0
      · simp only [h, if_true] <;> omega
      · simp only [h, if_false] <;> omega
theorem slicePick_cut (its : List Value) (lo hi : Option Int) : slicePick its.toArray lo hi none = ((its.drop (HT.sIx its.length 0 lo)).take (HT.sIx its.length its.length hi - HT.sIx its.length 0 lo)).toArray := by
  obtain ⟨h1, h2, h3⟩ := slice_bounds lo hi its.toArray.size
  unfold slicePick
  rw [h1, h2, h3]
  simp only [sliceRange_one, pick_run, List.size_toArray] <;> rfl
/-- xs[lo:hi] of a list: a new list -/
def rSlL (K : PySem.W.Frag) : V → Option Int → Option Int → Hp → VK → Prop := fun x lo hi H Q => ∃ a xs, x = .ref a ∧ SqL K H a xs ∧ ∀ p, H p = none → Q (.ref p) (upd H p (.lst (cutV xs lo hi)))
theorem sl_list : SlR X (rSlL X.K) := by
  intro pins s σ H x v vl vu lo hi sl Q I rx hs pl pu h
  obtain ⟨a, xs, rfl, hx, q⟩ := h
  cases rx
  obtain ⟨its, r, ht, hz⟩ := I.list hx
  have hlen := r.length
  refine ⟨"list", _, slot_list_getitem.lookup, ht.isList.typeIs, ?_⟩
  refine wpAny_getItem_list_slice ht.isList hs pl pu .none (by simp) ?_ (by rw [List.size_toArray] <;> omega)
  rw [slicePick_cut, ← hlen]
  refine ⟨.ref s.heap.objs.size, _, I.laid (t' := s.toks) (o := .lst (cutV xs lo hi)) (fun b ob q => Heap.get?_push_of_some _ q) (Nat.le_refl _) ?_, rfl, q _ (I.hok.fresh (Nat.le_refl _))⟩
  exact ⟨Nat.le_trans (cutV_length xs lo hi) hz, _, 0, (r.drop (HT.sIx xs.length 0 lo)).take (HT.sIx xs.length xs.length hi - HT.sIx xs.length 0 lo), Heap.get?_push_size _ rfl⟩

/-! ### in, not in: flat items -/
def flatV : V → Bool
  | .non => true
  | .bl _ => true
  | .int _ => true
  | .str _ => true
  | _ => false
/-- == of flat values -/
def eqV : V → V → Bool
  | .non, .non => true
  | .bl a, .bl b => a == b
  | .bl a, .int b => (if a then 1 else 0) == b
  | .int a, .bl b => a == (if b then 1 else 0)
  | .int a, .int b => a == b
  | .str a, .str b => a == b
  | _, _ => false
theorem eqAt_V {A : Around} {s : Shared} {y x : V} {u v : Value} (ry : RelV y u) (rx : RelV x v) (fy : flatV y = true) (fx : flatV x = true) : SeqAt.EqAt A s u v (eqV y x) := by
  cases y with
  | non =>
    cases ry
    cases x with
    | non => cases rx; exact SeqAt.EqAt.same _
    | bl b => cases rx; exact SeqAt.EqAt.none_bool b
    | int b => obtain ⟨t, rfl⟩ := rx; exact SeqAt.EqAt.none_int b t
    | str b => obtain ⟨t, rfl⟩ := rx; exact SeqAt.EqAt.none_str b t
    | _ => exact absurd (show false = true from fx) Bool.false_ne_true
  | bl a =>
    cases ry
    cases x with
    | non => cases rx; exact SeqAt.EqAt.bool_none a
    | bl b => cases rx; exact SeqAt.EqAt.bool_bool a b
    | int b => obtain ⟨t, rfl⟩ := rx; exact SeqAt.EqAt.bool_int a b t
    | str b => obtain ⟨t, rfl⟩ := rx; exact SeqAt.EqAt.bool_str a b t
    | _ => exact absurd (show false = true from fx) Bool.false_ne_true
  | int a =>
    obtain ⟨t', rfl⟩ := ry
    cases x with
    | non => cases rx; exact SeqAt.EqAt.int_none a t'
    | bl b => cases rx; exact SeqAt.EqAt.int_bool a t' b
    | int b => obtain ⟨t, rfl⟩ := rx; exact SeqAt.EqAt.int_int a t' b t
    | str b => obtain ⟨t, rfl⟩ := rx; exact SeqAt.EqAt.int_str a t' b t
    | _ => exact absurd (show false = true from fx) Bool.false_ne_true
  | str a =>
    obtain ⟨t', rfl⟩ := ry
    cases x with
    | non => cases rx; exact SeqAt.EqAt.str_none a t'
    | bl b => cases rx; exact SeqAt.EqAt.str_bool a t' b
    | int b => obtain ⟨t, rfl⟩ := rx; exact SeqAt.EqAt.str_int a t' b t
    | str b => obtain ⟨t, rfl⟩ := rx; exact SeqAt.EqAt.str_str a t' b t
    | _ => exact absurd (show false = true from fx) Bool.false_ne_true
  | _ => exact absurd (show false = true from fy) Bool.false_ne_true
/-- the items' answers, read off the values (a value's own answer does not lean on its token) -/
def eqU (x : V) (u : Value) : Bool := match u with
  | .none => eqV .non x
  | .bool b => eqV (.bl b) x
  | .int i _ => eqV (.int i) x
  | .str z _ => eqV (.str z) x
  | _ => false
theorem eqU_of {x y : V} {u : Value} (r : RelV y u) (f : flatV y = true) : eqU x u = eqV y x := by
  cases y with
  | non => cases r; rfl
  | bl b => cases r; rfl
  | int i => obtain ⟨t, rfl⟩ := r; rfl
  | str z => obtain ⟨t, rfl⟩ := r; rfl
  | _ => exact absurd (show false = true from f) Bool.false_ne_true
theorem any_eqU {x : V} : ∀ {xs : List V} {us : List Value}, Vals xs us → xs.all flatV = true → us.any (eqU x) = xs.any fun y => eqV y x
  | _, _, .nil, _ => rfl
  | y :: xs, u :: us, .cons r t, f => by
    rw [List.all_cons, Bool.and_eq_true] at f
    rw [List.any_cons, List.any_cons, eqU_of r f.1, any_eqU t f.2]
theorem mem_eqAt {A : Around} {s : Shared} {x : V} {v : Value} (rx : RelV x v) (fx : flatV x = true) : ∀ {xs : List V} {us : List Value}, Vals xs us → xs.all flatV = true → ∀ u ∈ us, SeqAt.EqAt A s u v (eqU x u)
  | _, _, .nil, _ => fun u hu => by cases hu
  | y :: xs, u :: us, .cons r t, f => fun u' hu => by
    rw [List.all_cons, Bool.and_eq_true] at f
    rcases List.mem_cons.mp hu with rfl | hu
    · rw [eqU_of r f.1]; exact eqAt_V r rx f.1 fx
    · exact mem_eqAt rx fx t f.2 u' hu
def inV (x : V) (xs : List V) : Bool := xs.any fun y => eqV y x
/-- x in a list or tuple of flat items -/
def rIn (K : PySem.W.Frag) (neg : Bool) : R2 := fun x y H Q => ∃ p xs, y = .ref p ∧ (SqL K H p xs ∨ SqT K H p xs) ∧ flatV x = true ∧ xs.all flatV = true ∧ Q (.bl (if neg then !inV x xs else inV x xs)) H
theorem op_in_seq : OpR X (compareOp .In) (rIn X.K false) := by
  intro pins s σ H x y v u Q I rx ry h
  obtain ⟨p, xs, rfl, hq, fx, fs, q⟩ := h
  cases ry
  rcases hq with hq | hq
  · obtain ⟨its, r, pl, hz⟩ := I.list hq
    refine SeqAt.in_listAt (eqU x) pl.isList (fun w hw => mem_eqAt rx fx r fs w (by simpa using hw)) ⟨.bl _, H, I, rfl, ?_⟩
    rw [show its.toArray.any (eqU x) = its.any (eqU x) by simp, any_eqU r fs]
    exact q
  · obtain ⟨its, r, pl, hz⟩ := I.tuple hq
    refine SeqAt.in_tupleAt (eqU x) pl (fun w hw => mem_eqAt rx fx r fs w (by simpa using hw)) ⟨.bl _, H, I, rfl, ?_⟩
    rw [show its.toArray.any (eqU x) = its.any (eqU x) by simp, any_eqU r fs]
    exact q

/-! ### len, list(x), tuple(x) of any list or tuple that is read -/
theorem call_len_seq : CallR X (.builtin "len") (fun xs H Q => ∃ p ys, xs = [.ref p] ∧ (SqL X.K H p ys ∨ SqT X.K H p ys) ∧ Q (.int ys.length) H) := by
  intro pins s σ H xs us Q I r h
  obtain ⟨p, ys, rfl, hq, q⟩ := h
  obtain ⟨u, rfl, rx⟩ := vals1 r
  cases rx
  have hn := line63
  rcases hq with hq | hq
  · obtain ⟨its, r', pl, hz⟩ := I.list hq
    have hlen := r'.length
    exact Calls.call_len_list pl.isList (by simp only [List.size_toArray] <;> omega) ⟨.int ys.length, H, I.tok _, ⟨s.toks + 1, by rw [List.size_toArray, hlen]⟩, q⟩
  · obtain ⟨its, r', pl, hz⟩ := I.tuple hq
    have hlen := r'.length
    exact len_tuple pl (by simp only [List.size_toArray] <;> omega) ⟨.int ys.length, H, I.tok _, ⟨s.toks + 1, by rw [List.size_toArray, hlen]⟩, q⟩
theorem call_len_str : CallR X (.builtin "len") (fun xs H Q => ∃ z, xs = [.str z] ∧ z.length ≤ sizeLine ∧ Q (.int z.length) H) := by
  intro pins s σ H xs us Q I r h
  obtain ⟨z, rfl, hz, q⟩ := h
  obtain ⟨u, rfl, t, rfl⟩ := vals1 r
  have hn := line63
  exact len_str (by omega) ⟨.int z.length, H, I.tok _, ⟨_, rfl⟩, q⟩

/-! ### the call of a builtin's method: o.m(..) -/
/-- the value is of that builtin type -/
def tyV (K : PySem.W.Frag) (T : String) (x : V) (H : Hp) : Prop := match x with
  | .str _ => T = "str"
  | .int _ => T = "int"
  | .ref p => (T = "list" ∧ ∃ xs, SqL K H p xs) ∨ (T = "tuple" ∧ ∃ o, K.lookup p = some o ∧ o.cls = .type "tuple" ∧ o.dict = none) ∨
      (T = "dict" ∧ ((∃ kvs, H p = some (.dK kvs)) ∨ ∃ kvs, H p = some (.dT kvs))) ∨ (T = "set" ∧ ∃ S n, H p = some (.set S n))
  | _ => False
theorem tyV_is {pins : List (Addr × Obj)} {σ : St} {H : Hp} {s : Shared} {T : String} {x : V} {v : Value} (I : Inv X pins σ H s) (r : RelV x v) (ty : tyV X.K T x H) :
    s.TypeIs v T ∧ ∀ a, v = .ref a → ∃ ob, s.heap.get? a = some ob ∧ ob.dict = none := by
  cases x with
  | str z =>
    obtain ⟨t, rfl⟩ := r
    cases (show T = "str" from ty)
    exact ⟨typeIs_str s z t, fun _ e => nomatch e⟩
  | int i =>
    obtain ⟨t, rfl⟩ := r
    cases (show T = "int" from ty)
    exact ⟨typeIs_int s i t, fun _ e => nomatch e⟩
  | ref p =>
    cases r
    rcases ty with ⟨rfl, xs, hq⟩ | ⟨rfl, o, hk, hc, hd⟩ | ⟨rfl, hk⟩ | ⟨rfl, S, n, hk⟩
    · obtain ⟨its, _, pl, _⟩ := I.list hq
      refine ⟨pl.isList.typeIs, fun a e => ?_⟩
      cases e
      obtain ⟨o, n, e, c, hd, _⟩ := pl
      exact ⟨o, e, hd⟩
    · refine ⟨⟨o, I.kIn p o hk, hc⟩, fun a e => ?_⟩
      cases e
      exact ⟨o, I.kIn _ o hk, hd⟩
    · have z : ∃ o, s.heap.get? p = some o ∧ o.ExactDict := by
        rcases hk with ⟨kvs, hk⟩ | ⟨kvs, hk⟩
        · obtain ⟨_, _, _, _, o, _, _, e, ex, _⟩ := I.hok p _ hk
          exact ⟨o, e, ex⟩
        · obtain ⟨_, _, _, _, o, _, _, e, ex, _⟩ := I.hok p _ hk
          exact ⟨o, e, ex⟩
      obtain ⟨o, e, ex⟩ := z
      refine ⟨⟨o, e, ex.1⟩, fun a e2 => ?_⟩
      cases e2
      exact ⟨o, e, ex.2.1⟩
    · obtain ⟨o, _, _, _, e, ex, _⟩ := I.hok p _ hk
      refine ⟨⟨o, e, ex.1⟩, fun a e2 => ?_⟩
      cases e2
      exact ⟨o, e, ex.2.1⟩
  | _ => exact False.elim ty
def tBM0 (K : PySem.W.Frag) (T : String) (r : V → List V → Hp → VK → Prop) (to : TE) : TE := fun σ H Q => to σ H fun x H1 => tyV K T x H1 ∧ r x [] H1 Q
def tBM (K : PySem.W.Frag) (T : String) (r : V → List V → Hp → VK → Prop) (to : TE) (t : TA) : TE := fun σ H Q => to σ H fun x H1 => tyV K T x H1 ∧ t σ H1 fun xs H2 => r x xs H2 Q
variable {o e : Expr} {es : List Expr} {to : TE} {t : TA} {name : Str} {apos cpos : Pos} {T id : String} {r : V → List V → Hp → VK → Prop}
theorem pe_bm0 (pa : PlainAttrs T) (slot : Slot T name id) (hty : typeOf (.builtin id) = pure (.type "method_descriptor")) (hm : MtR X id r) (ho : PE X o to)
    (hbase : attributeBase o name X.env (eval o X.env) = eval o X.env := by rfl) (hline : (apos.endLine == cpos.line) = true := by rfl) : PE X (.Call (.Attribute o name apos) [] [] cpos) (tBM0 X.K T r to) := by
  refine ⟨?_⟩
  intro pins s σ H Q I h
  refine wpAny_Call_method0_late hbase hline (thn (ho pins s σ H _ I h) fun v s1 ⟨x, H1, I1, r1, ty, q1⟩ => ?_)
  obtain ⟨h1, h2⟩ := tyV_is I1 r1 ty
  exact ⟨T, id, pa, slot, hty, h1, h2, Calls.callWith_builtin rfl (PySem.evalArgs_none (hm pins s1 σ H1 x [] v [] Q I1 r1 .nil q1))⟩
theorem pe_bm (pa : PlainAttrs T) (slot : Slot T name id) (hty : typeOf (.builtin id) = pure (.type "method_descriptor")) (hm : MtR X id r) (ho : PE X o to) (ha : PA X (e :: es) t)
    (hbase : attributeBase o name X.env (eval o X.env) = eval o X.env := by rfl)
    (hfew : ((backTo cpos (starEach (e :: es) X.env)).all (fun x => !x.1) && (backToKw cpos (keywordEach [] X.env)).all (fun x => x.1.isSome)
      && decide ((e :: es).length + ([] : List Keyword).length + (if ([] : List Keyword).isEmpty then 0 else 1) < 30)) = true := by rfl)
    (hline : (apos.endLine == cpos.line) = true := by rfl) (hs : starEach (e :: es) X.env = (false, eval e X.env) :: starEach es X.env := by rfl) (hplain : (backTo cpos (starEach es X.env)).any (·.1) = false := by rfl) :
    PE X (.Call (.Attribute o name apos) (e :: es) [] cpos) (tBM X.K T r to t) := by
  refine ⟨?_⟩
  intro pins s σ H Q I h
  refine wpAny_Call_method_late hbase hfew hline rfl (thn (ho pins s σ H _ I h) fun v s1 ⟨x, H1, I1, r1, ty, q1⟩ => ?_)
  obtain ⟨h1, h2⟩ := tyV_is I1 r1 ty
  refine ⟨T, id, pa, slot, hty, h1, h2, ?_⟩
  have hA := ha cpos pins s1 σ H1 _ I1 q1
  rw [hs] at hA ⊢
  refine Calls.callWith_builtin (by show (false || (backTo cpos (starEach es X.env)).any (·.1)) = false; rw [hplain] <;> rfl) (Calls.evalArgs_plain ?_)
  exact thn hA fun us s2 ⟨vs, H2, I2, r2, q2⟩ => hm pins s2 σ H2 x vs v us Q I2 r1 r2 q2
/- xs.append(e), list.index on a module's tuple .. are MtR facts of 06m -/
end
end L2

namespace L2
open PySem PySem.Spec PyProof.Rows

def MtM (X : Cx) (id : String) (r : V → List V → Hp → VK → Prop) : Prop :=
  ∀ (pins : List (Addr × Obj)) (s : Shared) (σ : St) (H : Hp) (x : V) (xs : List V) (v : Value) (us : List Value) (Q : VK), Inv X pins σ H s → RelV x v → Vals xs us → r x xs H Q →
    wpAny (model X.prog X.w) X.A (call (.builtin id) (v :: us)) (EP X pins σ Q) X.xe s

/-! ### lists of values -/
theorem Vals.one : ∀ {x : V} {us : List Value}, Vals [x] us → ∃ u, us = [u] ∧ RelV x u
  | _, _, .cons r .nil => ⟨_, rfl, r⟩
theorem Vals.eraseIdx : ∀ {xs : List V} {us : List Value} (i : Nat), Vals xs us → Vals (xs.eraseIdx i) (us.eraseIdx i)
  | _, _, _, .nil => .nil
  | _, _, 0, .cons _ t => t
  | _, _, i + 1, .cons r t => .cons r (Vals.eraseIdx i t)
theorem len_erase {α : Type} : ∀ (l : List α) (i : Nat), (l.eraseIdx i).length ≤ l.length
  | [], _ => Nat.le_refl _
  | _ :: _, 0 => Nat.le_succ _
  | _ :: r, i + 1 => Nat.succ_le_succ (len_erase r i)

section
variable {X : Cx} {pins : List (Addr × Obj)} {σ : St} {H : Hp} {s : Shared} {l b : Addr} {xs ys zs : List V}

/-! ### the two steps: a tracked list is rewritten, a new list is laid -/
theorem Inv.lset {its its' : List Value} {n : Nat} {f : Array Value → Array Value} {t' : Nat} (I : Inv X pins σ H s) (hH : H l = some (.lst xs))
    (e : s.heap.get? l = some { cls := .type "list", data := .seq its.toArray n }) (hf : f its.toArray = its'.toArray) (hv : Vals ys its') (hz : ys.length ≤ sizeLine) :
    Inv X pins σ (upd H l (.lst ys)) { s with heap := s.heap.update l (Obj.mapSeq f), toks := t' } := by
  have q := PySem.IsL.update e f
  rw [hf] at q
  refine I.write (x := l) (e := l) (by rw [hH]; exact trivial) (.inl rfl) (fun b' u hb hu => (Heap.get?_update_other s.heap (Obj.mapSeq f) (Ne.symm hb)).trans hu) ⟨_, q⟩ ?_
  exact ⟨hz, its', _, hv, q⟩
theorem Inv.lnew {its : List Value} {t' : Nat} (I : Inv X pins σ H s) (hv : Vals ys its) (hz : ys.length ≤ sizeLine) :
    Inv X pins σ (upd H s.heap.objs.size (.lst ys)) { s with heap := s.heap.push { cls := .type "list", data := .seq its.toArray }, toks := t' } :=
  I.laid (fun _ _ q => Heap.get?_push_of_some _ q) (Nat.le_refl _) ⟨hz, its, 0, hv, Heap.get?_push_size _ rfl⟩
theorem Inv.fresh (I : Inv X pins σ H s) : H s.heap.objs.size = none := I.hok.fresh (Nat.le_refl _)
theorem Inv.lstM (I : Inv X pins σ H s) (hH : H l = some (.lst xs)) : xs.length ≤ sizeLine ∧ ∃ (its : List Value) (n : Nat), Vals xs its ∧ xs.length = its.length ∧ s.heap.get? l = some { cls := .type "list", data := .seq its.toArray n } := by
  obtain ⟨z, its, n, r, e⟩ := I.hok l _ hH
  exact ⟨z, its, n, r, r.length, e⟩

end

section
variable {X : Cx}

/-! ### methods -/
def rAppend : V → List V → Hp → VK → Prop := fun x vs H Q => ∃ l xs y, x = .ref l ∧ vs = [y] ∧ H l = some (.lst xs) ∧ xs.length < sizeLine ∧ Q .non (upd H l (.lst (xs ++ [y])))
theorem mt_append : MtM X "list.append" rAppend := by
  intro pins s σ H x vs v us Q I rx rv h
  obtain ⟨l, xs, y, rfl, rfl, hH, hz, q⟩ := h
  cases rx
  obtain ⟨u, rfl, ru⟩ := rv.one
  obtain ⟨z, its, n, r, hl, e⟩ := I.lstM hH
  refine call_meets F.slot_list_append ⟨_, e, rfl⟩ F.entry_list_append (F.args_list_append_2 _ _) (PySem.list_append l its.toArray n u (by rw [List.size_toArray]; omega)) ⟨e, ?_⟩
  refine ⟨.non, _, I.lset (its' := its ++ [u]) hH e (by simp) (r.append (.cons ru .nil)) ?_, rfl, q⟩
  rw [List.length_append, List.length_singleton]
  omega



def rPopAt : V → List V → Hp → VK → Prop := fun x vs H Q => ∃ l xs i k y, x = .ref l ∧ vs = [.int i] ∧ H l = some (.lst xs) ∧ -(2 ^ 63) ≤ i ∧ i < 2 ^ 63 ∧ seqIndex? i xs.length = some k ∧ xs[k]? = some y ∧ Q y (upd H l (.lst (xs.eraseIdx k)))
theorem mt_popAt : MtM X "list.pop" rPopAt := by
  intro pins s σ H x vs v us Q I rx rv h
  obtain ⟨l, xs, i, k, y, rfl, rfl, hH, h1, h2, hk, hy, q⟩ := h
  cases rx
  obtain ⟨u, rfl, ru⟩ := rv.one
  obtain ⟨t, rfl⟩ := ru
  obtain ⟨z, its, n, r, hl, e⟩ := I.lstM hH
  obtain ⟨w, hw, rw'⟩ := r.get hy
  refine call_meets F.slot_list_pop ⟨_, e, rfl⟩ F.entry_list_pop (F.args_list_pop_2 _ _)
    (MeetsSeq.list_pop_at l its.toArray n i t k w (fitsIndex_both h1 h2) (by rw [List.size_toArray, ← hl]; exact hk) (by rw [← Array.getElem?_toList]; exact hw) (by rw [List.size_toArray]; omega)) ⟨e, ?_⟩
  refine ⟨y, _, I.lset (its' := its.eraseIdx k) hH e ?_ (r.eraseIdx k) ?_, rw', q⟩
  · show its.toArray.eraseIdxIfInBounds k = (its.eraseIdx k).toArray
    rw [List.eraseIdxIfInBounds_toArray]
  · have := len_erase xs k
    omega



/-! ### list + list, list += list, list * int -/
def rCat : R2 := fun x y H Q => ∃ l b xs zs, x = .ref l ∧ y = .ref b ∧ H l = some (.lst xs) ∧ H b = some (.lst zs) ∧ xs.length + zs.length ≤ sizeLine ∧ ∀ p, H p = none → Q (.ref p) (upd H p (.lst (xs ++ zs)))
theorem op_cat : OpR X (binaryOp .Add) rCat := by
  intro pins s σ H x y v u Q I rx ry h
  obtain ⟨l, b, xs, zs, rfl, rfl, hH, hB, hz, q⟩ := h
  cases rx
  cases ry
  obtain ⟨z, its, n, r, hl, e⟩ := I.lstM hH
  obtain ⟨z2, its2, n2, r2, hl2, e2⟩ := I.lstM hB
  refine PySem.P.add_list e e2 ?_ (by rw [List.size_toArray, List.size_toArray]; omega)
  have ea : its.toArray ++ its2.toArray = (its ++ its2).toArray := by simp
  rw [ea]
  exact ⟨.ref _, _, I.lnew (t' := s.toks) (r.append r2) (by rw [List.length_append]; omega), rfl, q _ I.fresh⟩

/-! ### del xs[i] -/
end

/-! ### xs[a:b] = ys -/
section
variable {prog : Program} {w : World} {A : Around} {E : Value → Shared → Prop} {s : Shared}
end

section
variable {X : Cx}
end
end L2

namespace Att
open PySem PySem.W PySem.Calls PyProof.Rows

/-! ### the script -/
theorem ints_of_wellAll {P : Params} {h : Heap} : ∀ (ns : List Int) (vs : List Value), WellAll P h vs (ns.map WData.int) → IntsAre vs ns := by
  intro ns
  induction ns with
  | nil =>
    intro vs w
    rw [List.map_nil] at w
    cases w
    exact .nil
  | cons n ns ih =>
    intro vs w
    rw [List.map_cons] at w
    cases w with
    | cons a b =>
      cases a
      exact .cons _ _ (ih _ b)

theorem script_of {l : OpenLaw} {n : Nat} (hn : l.most = some n) {P : Params} {h : Heap} {args : List WData} {vals : List Value}
    (hpre : l.row.toRowW.claim.pre args = true) (hwl : WellAll P h vals args) :
    ∃ a vs ns, vals = [Value.ref a] ∧ args = [WData.list (ns.map WData.int)] ∧ h.get? a = some { cls := .type "list", data := .seq vs.toArray } ∧ IntsAre vs ns ∧ ns.length ≤ n := by
  have hsh : WShape.hasAll [] args [.list .int] = true := (pre_splitW hpre).1
  have hc : l.pre.holds [] { args := args } = true := (pre_splitW hpre).2
  obtain ⟨d, r, rfl, h1, h2⟩ := hasAllW_cons hsh
  obtain rfl := hasAllW_nil h2
  obtain ⟨xs, rfl, h3⟩ := hasW_list h1
  obtain ⟨ns, rfl⟩ := items_int h3
  have hlen : ns.length ≤ n := by
    unfold OpenLaw.pre at hc
    have h4 : (WTm.not (.lt (.lit (.int (n : Int))) (.len (.arg 0)))).holds [] { args := [.list (ns.map .int)] } = true := by
      have h4 := (holds_andW hc).1
      rw [hn] at h4
      exact h4
    have h5 := condW_of h4 (w_not (w_lt w_lit (w_len_list (w_arg rfl))))
    rw [List.length_map] at h5
    refine Nat.le_of_not_lt fun q => ?_
    have q' : (n : Int) < ((ns.length : Nat) : Int) := by omega
    first
      | (rw [decide_eq_true q'] at h5; exact absurd h5 (by decide))
      | (simp at h5; omega)
  cases hwl with
  | cons w1 w2 =>
    cases w2
    cases w1 with
    | list ho hall => exact ⟨_, _, ns, rfl, rfl, ho, ints_of_wellAll ns _ hall, hlen⟩

theorem post_true (l : OpenLaw) (args : List WData) : l.row.toRowW.claim.post args (.bool true) args = true :=
  postW_of (r := l.row.toRowW) (X := (true == true))
    (show WShape.has [] (.bool true) .bool = true by first | rfl | decide | simp [WShape.has, WShape.arms, WShape.armsAll])
    (show (WTm.eq .res (.lit (.bool true))).value [] { args := args, res := some (.bool true), after := args } = some (.bool (true == true)) from w_eq_bool (w_res rfl) w_lit) rfl

/-! ### the attachment: holds_open's last premise (the goal 'hc' behind k_head) from a wpAny of the law's body -/

/-- the same from a codeAny of the CALL (for a layer whose function contracts speak of calls) -/
theorem attach_call {l : OpenLaw} {n : Nat} {q : Program} {loose : List Str} {XP : (Str → Option Value) → Heap → Prop} {YP : World → Heap → Prop} {d : DefRec}
    (hn : l.most = some n) (hdf : d.params.defaults = [])
    (call : ∀ (w : World) (s₀ s₁ : Shared) (mg mb : Str → Option Value) (fa : Addr) (o : Obj) (pm cd doc : Value) (a : Addr) (vs : List Value) (ns : List Int),
      Ground q loose [] XP w s₀ mg mb s₁.heap → YP w s₁.heap →
      s₁.heap.get? fa = some o → o.data = .func (docDef d.name d.params d.body d.scope pm cd doc) → s₁.heap.CodeRec cd d.name → mg d.name = some (.ref fa) →
      s₁.heap.get? a = some { cls := .type "list", data := .seq vs.toArray } → IntsAre vs ns → ns.length ≤ n → s₁.gens = #[] →
      codeAny (model l.prog w) callerA (.call (.ref fa) ⟨[.ref a], []⟩) (fun r s' => r = .ok (.ret (.bool true)) ∧ OldK s₁.heap s'.heap ∧ s'.os = s₁.os ∧ AllBare s'.gens) s₁) :
    WalkO q loose XP YP l.row.toRowW d [] (fun f vs => PySem.call f vs) := by
  intro w s₀ s₁ mg mb G Y fa o pm cd doc dV kV ho hd hcd hD hmg hg args vals as hpre hlay hrd hwl hlo
  obtain rfl : dV = .none := Dflts.none hD hdf
  obtain rfl : kV = .none := Dflts.noKw hD
  obtain ⟨a, vs, ns, rfl, rfl, hobj, hints, hlen⟩ := script_of hn hpre hwl
  refine enter_call (codeAny_mono (call w s₀ s₁ mg mb fa o pm cd doc a vs ns G Y ho (fd_plain hd) hcd hmg hobj hints hlen hg) fun r s' hq => ?_)
  obtain ⟨rfl, h2, h3, h4⟩ := hq
  exact ⟨.inl ⟨.bool true, .bool true, [], rfl, fun _ => rfl, .bool true, post_true l _, fun _ => ⟨List.Pairwise.nil, fun _ hm => (nomatch hm)⟩⟩, h2, h3, h4⟩


/-! ### rules over ANY heap (no ledger) from facts about the written part K: the library's own take a ledger (News) for what they write -/
section
variable {prog : Program} {w : World} {A : Around} {E : Value → Shared → Prop} {s : Shared} {K : Frag}





/-! the whole heap as the ledger: makes every rule that writes through a ledger a rule over any heap -/

end
end Att

namespace L2
open PySem PySem.Spec PyProof.Rows

theorem vals_ints : ∀ {vs : List Value} {ns : List Int}, IntsAre vs ns → Vals (ns.map V.int) vs
  | _, _, .nil => .nil
  | _, _, .cons n t h => .cons ⟨t, rfl⟩ (vals_ints h)

/-- nothing is tracked but the script, known to the object (or it is an object of the module) -/
def Only (H : Hp) : Prop := ∀ b, H b = none ∨ ∃ o xs, H b = some (.frz o (.lst xs))

/-- THE HEAD: the law's promise, at the heap behind the top. F, the promise of the law's def, may use that base is part of the heap (so K.In base, base.Ns mainGlobals mg stand in Mod) -/
theorem law_call {P : Program} {w : World} {K : PySem.W.Frag} {mg mb : Str → Option Value} {CX : CXT} {k : Nat} {fa a : Addr} {fd : FuncData} {x : Str} {sp : Sp} {s₁ : Shared} {vs : List Value} {ns : List Int}
    (KX : K.In s₁.heap) (hns : s₁.heap.Ns mainGlobals mg) (hb : s₁.heap.Ns builtinsNs mb) (hbb : ∀ x : Str, x ≠ "__name__" → mb x = bootBuiltins x) (hlim : s₁.heap.NoLimit) (hg : s₁.gens = #[])
    (ha : s₁.heap.get? a = some { cls := .type "list", data := .seq vs.toArray }) (hi : IntsAre vs ns) (hl : ns.length ≤ sizeLine) (hr : Room k callerA)
    (F : ∀ base : Heap, K.In base → base.Ns mainGlobals mg → FnOk P w K mg base CX k fa fd [x] sp) (hbind : ∀ (s : Shared) (u : Value), BindsTo s fd ⟨[u], []⟩ [(x, u)])
    (hsp : ∀ H : Hp, Only H → SqL K H a (ns.map V.int) → sp [.ref a] H (fun v _ => v = .bl true) fun _ _ _ => False)
    (hCX : ∀ H e s', CX [] H s₁ (fun _ _ _ => False) e s' → False) :
    codeAny (model P w) callerA (.call (.ref fa) ⟨[.ref a], []⟩) (fun r s' => r = .ok (.ret (.bool true)) ∧ OldK s₁.heap s'.heap ∧ s'.os = s₁.os ∧ AllBare s'.gens) s₁ := by
  have rv := vals_ints hi
  have lenV := hi.length
  have core : ∀ H : Hp, Only H → SqL K H a (ns.map V.int) → HOk P w H s₁.heap → (∀ b, H b ≠ none → b = a) → (H a ≠ none → K.lookup a = none) →
      codeAny (model P w) callerA (.call (.ref fa) ⟨[.ref a], []⟩) (fun r s' => r = .ok (.ret (.bool true)) ∧ OldK s₁.heap s'.heap ∧ s'.os = s₁.os ∧ AllBare s'.gens) s₁ := by
    intro H hO hS hok hA hK
    have base_of : ∀ {b : Addr} {o : Obj}, s₁.heap.get? b = some o → H b = none → (hidT s₁.heap H).get? b = some o := fun e n => hidT_get e n
    have noA : ∀ {b : Addr} {o : Obj} {es : Array DictEntry} {ep : Nat}, s₁.heap.get? b = some o → o.data = .dict es ep → H b = none := fun {b o es ep} e d => by
      cases q : H b with
      | none => rfl
      | some u =>
        have e' : b = a := hA b (by rw [q]; simp)
        subst e'
        rw [ha] at e; cases e
        have d' : Data.seq vs.toArray _ = Data.dict es ep := d
        cases d'
    have nsK : ∀ {b : Addr} {m : Str → Option Value}, s₁.heap.Ns b m → (hidT s₁.heap H).Ns b m := fun {b m} ⟨o, es, ep, e, d, r⟩ => ⟨o, es, ep, base_of e (noA e d), d, r⟩
    have hKb : K.In (hidT s₁.heap H) := fun b o e => base_of (KX b o e) (by
      cases q : H b with
      | none => rfl
      | some u =>
        have e' : b = a := hA b (by rw [q]; simp)
        subst e'
        rw [hK (by rw [q]; simp)] at e; cases e)
    have hM : Mod K mg (hidT s₁.heap H) := ⟨hKb, nsK hns, ⟨mb, nsK hb, hbb⟩, let ⟨mc, h1, h2⟩ := hlim; ⟨mc, nsK h1, h2⟩⟩
    have e0 : Env0 P w K mg (hidT s₁.heap H) callerA [] s₁ H := ⟨rfl, hM, fun b o e => of_hidT e, Nat.le_of_eq (hidT_size _ _), trivial, fun b hb => absurd (show b ∈ ([] : List Addr) from hb) (by simp), hok, .of_eq hg⟩
    refine codeAny_mono ((F _ hKb (nsK hns)).run callerA [] s₁ H ⟨[.ref a], []⟩ [.ref a] [.ref a] _ _ hr e0 (hbind s₁ (.ref a)) (.cons rfl .nil) (hsp H hO hS)) fun r s' h => ?_
    cases r with
    | error e => exact (hCX H e s' h).elim
    | ok fl =>
      cases fl with
      | next => exact False.elim h
      | brk => exact False.elim h
      | cont => exact False.elim h
      | ret u =>
        obtain ⟨v, H', os, bare, un, hok', r', q⟩ := h
        have q' : v = .bl true := q
        subst q'
        obtain rfl : u = Value.bool true := r'
        refine ⟨rfl, OldK.of_keep fun b o e => ?_, os, bare⟩
        cases q : H b with
        | none => exact un.keep b o e q (by intro z; exact absurd (show b ∈ ([] : List Addr) from z) (by simp)) (by simp)
        | some u =>
          rcases hO b with z | ⟨ob, xs, z⟩
          · rw [q] at z; cases z
          · have z2 := un.frzs b ob _ z
            obtain ⟨e1, _⟩ := hok b _ z
            obtain ⟨e2, _⟩ := hok' b _ z2
            rw [e] at e1; cases e1
            exact e2
  cases hk : K.lookup a with
  | some o =>
    have e := KX a o hk
    rw [ha] at e
    cases e
    refine core (fun _ => none) (fun _ => .inl rfl) (.inr ⟨_, vs.toArray, _, hk, rfl, rfl, rfl, by rw [List.size_toArray, lenV]; exact hl, by simpa using rv⟩) (fun b u z => by have z' : (none : Option HO) = some u := z; cases z') (fun b z => absurd rfl z) fun z => absurd rfl z
  | none =>
    refine core (fun b => if b = a then some (.frz { cls := .type "list", data := .seq vs.toArray } (.lst (ns.map V.int))) else none) (fun b => ?_) (.inl (.inr ⟨{ cls := .type "list", data := .seq vs.toArray }, if_pos rfl⟩)) (fun b u z => ?_) (fun b z => ?_) fun _ => hk
    · by_cases hb : b = a
      · exact .inr ⟨_, _, if_pos hb⟩
      · exact .inl (if_neg hb)
    · by_cases hb : b = a
      · have z' := (if_pos hb).symm.trans z
        cases z'
        subst hb
        exact ⟨ha, by rw [List.length_map]; exact hl, vs, _, rv, ha⟩
      · have z' := (if_neg hb).symm.trans z
        cases z'
    · by_cases hb : b = a
      · exact hb
      · exact absurd (if_neg hb) z
end L2

namespace L2
open PySem PySem.Spec PyProof.Rows

abbrev KOf {K : PySem.W.Frag} {h : Heap} (_ : K.In h) : PySem.W.Frag := K

/-- the goal that k_head leaves (case hc), from the law's promise. F gives the function object fd (K's own) once, then the promise over every base -/
theorem walk_of {l : PySem.W.OpenLaw} {n k : Nat} {q : Program} {loose : List Str} {XP : (Str → Option Value) → Heap → Prop} {YP : World → Heap → Prop} {d : DefRec} {K : Params → PySem.W.Frag} {CX : World → CXT} {sp : World → Sp} {x : Str}
    (hn : l.most = some n) (hn2 : n ≤ sizeLine) (hdf : d.params.defaults = []) (hr : Room k callerA)
    (hY : ∀ (w : World) (h : Heap), YP w h → (K w.params).In h)
    (F : ∀ (w : World) (mg : Str → Option Value) (fa : Addr) (h : Heap), (K w.params).In h → h.Ns mainGlobals mg → mg d.name = some (.ref fa) →
      ∃ fd : FuncData, (∀ (s : Shared) (u : Value), BindsTo s fd ⟨[u], []⟩ [(x, u)]) ∧
        ∀ base : Heap, (K w.params).In base → base.Ns mainGlobals mg → FnOk l.prog w (K w.params) mg base (CX w) k fa fd [x] (sp w))
    (hsp : ∀ (w : World) (H : Hp) (a : Addr) (ns : List Int), ns.length ≤ n → Only H → SqL (K w.params) H a (ns.map V.int) → sp w [.ref a] H (fun v _ => v = .bl true) fun _ _ _ => False)
    (hCX : ∀ (w : World) (H : Hp) (s : Shared) (e : Value) (s' : Shared), CX w [] H s (fun _ _ _ => False) e s' → False) :
    PySem.W.WalkO q loose XP YP l.row.toRowW d [] (fun f vs => PySem.call f vs) := by
  refine Att.attach_call hn hdf fun w s₀ s₁ mg mb fa o pm cd doc a vs ns G Y ho hd hcd hmg hobj hints hlen hg => ?_
  have KX := hY w _ Y
  obtain ⟨fd, hb, hF⟩ := F w mg fa _ KX G.T.g hmg
  exact law_call KX G.T.g G.T.b G.T.builtins G.T.nolimit hg hobj hints (Nat.le_trans hlen hn2) hr hF hb (fun H hO hS => hsp w H a ns hlen hO hS) fun H e s' => hCX w H s₁ e s'
end L2

/- THE LAST THEOREM (shape; LID, My.* are yours):
   My.Adr: a structure of the addresses that your layer names (classes, functions); My.Txt K t: a structure (Prop) of the equations over K;
   My.txt_mk : {K} {implicit addresses ..} (e1 : nsIn K mainGlobals "law" = some (some (.ref f))) (e2 : K.lookup f = some ⟨oc, od, .func (fnOf "law" "law" params body scope dV kV doc pm an cdv ct), sl⟩) (e3 : codeIn K cdv "law" = true) .. : ∃ t, My.Txt K t

set_option maxRecDepth 100000 in
set_option maxHeartbeats 0 in
theorem PySem.Challenge.cw_LID_holds : PySem.Challenge.rw_LID.Holds := by
  w_on; o_law; k_head; (case hw => w_witness2)
  k_fill
  refine L2.walk_of (l := PySem.Challenge.rw_LID) (n := 63) (k := 40) (x := "script") (CX := fun w => ..) (sp := fun _ => My.sp_law) rfl (by decide) rfl ⟨rfl, by decide, by decide⟩ (fun w h Y => PySem.W.kIn_of Y) ?F ?S ?C
  case F =>
    intro w mg fa h KX G hmg
    have T : ∃ t, My.Txt (L2.KOf KX) t := by
      dsimp only [L2.KOf]                          -- K must stand as «<heap const> w.params» for k_is
      refine' My.txt_mk ?e1 ?e2 ?e3 ..
      (case e1 => PySem.W.k_is)                    -- in the order: a name -> its address -> its object -> its parts
      (case e2 => PySem.W.k_is)
      ..
    obtain ⟨t, T⟩ := T
    have e0 := hmg.symm.trans (PySem.W.mg_of KX G T.law)
    cases e0                                       -- fa is the law's own address
    exact ⟨_, fun s u => .of_eq rfl, fun base kb nb => My.law_fn T kb nb⟩     -- if «.of_eq rfl» comes too early: refine' ⟨_, ?b, fun base kb nb => My.law_fn T kb nb⟩; exact fun s u => .of_eq rfl
  case S => exact fun w H a ns hl hO hS => ..
  case C => exact ..
(the tactic k_is has no namespace: write k_is) -/

/-! SHORT WORDS over the layer: a def of the text, its body, what a loop and a test want. -/
namespace L2
open PySem PySem.Spec PyProof.Rows

/-! ### the text by places -/
def defArgs (s : Stmt) : Arguments := match s with
  | .FunctionDef _ a _ _ _ _ _ _ _ _ => a
  | _ => { posonlyargs := [], args := [], vararg := none, kwonlyargs := [], kw_defaults := [], kwarg := none, defaults := [] }
def defBody (s : Stmt) : List Stmt := match s with
  | .FunctionDef _ _ b _ _ _ _ _ _ _ => b
  | _ => []
def defScope (s : Stmt) : Scope := match s with
  | .FunctionDef _ _ _ _ _ _ sc _ _ _ => sc
  | _ => { kind := .function, names := [], isGenerator := false, isCoroutine := false }

/-! ### no exception leaves a def -/
abbrev CX0 : CXT := fun _ _ _ _ _ _ => False
abbrev E0 : XK := fun _ _ _ => False
theorem pass0 {X : Cx} : Passes CX0 X E0 := fun _ _ _ _ _ _ _ h => h.elim

/-! ### a def (or method) of the text as it stands behind the top -/
structure Fun (K : PySem.W.Frag) (x qual : Str) (st : Stmt) (f : Addr) (fd : FuncData) : Prop where
  ex : ∃ (oc : Value) (od : Option Addr) (kV doc pm : Value) (an : Option Addr) (cdv ct : Value) (osl : Array (Option Value)),
    fd = PySem.W.fnOf x qual (defArgs st) (defBody st) (defScope st) .none kV doc pm an cdv ct ∧ K.lookup f = some ⟨oc, od, .func fd, osl⟩ ∧ PySem.W.codeIn K cdv qual = true
  kp : PySem.W.keepIn K (.ref f) = true
section
variable {P : Program} {w : World} {K : PySem.W.Frag} {mg : Str → Option Value} {base : Heap}
/-- THE RULE for a def: its body as a term of rules, and the reading of that term -/
theorem Fun.ok {x qual : Str} {st : Stmt} {f : Addr} {fd : FuncData} {N ps : List Str} {k : Nat} {sp : Sp} (F : Fun K x qual st f fd) (S : FnScope N ps (defScope st)) (len : ∀ vs H Q E, sp vs H Q E → vs.length = ps.length)
    (hbody : ∀ (cdv : Value) (A : Around) (outer : List Env) (s : Shared) (H : Hp) (vs : List V) (Q : VK) (E : XK), Room k (A.deeper (envOfC qual (defScope st) s.heap.objs.size f cdv)) → sp vs H Q E →
      ∃ t, PSs (cxOf CX0 P w K mg base N qual (defScope st) f cdv A outer s H E).nox (defBody st) t ∧ t { nx := fun _ H' => Q .non H', rt := Q } (start N vs) H) : FnOk P w K mg base CX0 (k + 1) f fd ps sp := by
  obtain ⟨oc, od, kV, doc, pm, an, cdv, ct, osl, rfl, lk, hcd⟩ := F.ex
  refine fn_of lk hcd S len fun A outer s H vs Q E hr hsp => ?_
  obtain ⟨t, h, q⟩ := hbody cdv A outer s H vs Q E hr hsp
  exact ⟨t, h.nox, q⟩
/-- how its arguments bind (no defaults): h is «fun _ _ _ _ _ _ us hl => match us, hl with | [_, _], _ => rfl», one _ a parameter -/
theorem Fun.binds {x qual : Str} {st : Stmt} {f : Addr} {fd : FuncData} {ps : List Str} (F : Fun K x qual st f fd)
    (h : ∀ (kV doc pm : Value) (an : Option Addr) (cdv ct : Value) (us : List Value), us.length = ps.length → bindArgs (PySem.W.fnOf x qual (defArgs st) (defBody st) (defScope st) .none kV doc pm an cdv ct) ⟨us, []⟩ = pure (ps.zip us)) : Binds K fd ps [] := by
  obtain ⟨oc, od, kV, doc, pm, an, cdv, ct, osl, rfl, lk, hcd⟩ := F.ex
  exact .all (h kV doc pm an cdv ct)
theorem fun_mk {x qual : Str} {st : Stmt} {f : Addr} {oc : Value} {od an : Option Addr} {osl : Array (Option Value)} {kV doc pm cdv ct : Value} (l : K.lookup f = some ⟨oc, od, .func (PySem.W.fnOf x qual (defArgs st) (defBody st) (defScope st) .none kV doc pm an cdv ct), osl⟩)
    (c : PySem.W.codeIn K cdv qual = true) (k : PySem.W.keepIn K (.ref f) = true) : Fun K x qual st f (PySem.W.fnOf x qual (defArgs st) (defBody st) (defScope st) .none kV doc pm an cdv ct) := ⟨⟨oc, od, kV, doc, pm, an, cdv, ct, osl, rfl, l, c⟩, k⟩
end
theorem hu_of {A : Around} {k : Nat} (hr : Room k A) : A.units + 1 < cLine := Nat.lt_of_le_of_lt (Nat.add_le_add_left (by decide : 1 ≤ 64) _) hr.units
theorem small1000 {n : Nat} (h : n ≤ 1000) : n < sizeLine := Nat.lt_of_le_of_lt h (by decide)

/-! ### expressions in short: the name that stands in the i-th slot -/
section
variable {X : Cx}
theorem pv (i : Nat) {x : Str} {pos : Pos} (hN : X.N[i]? = some x := by rfl) (hv : Vis X.env.scope x := by first | exact Or.inl rfl | exact Or.inr (Or.inl rfl) | exact Or.inr (Or.inr rfl)) (hd : (x == ("__debug__" : Str)) = false := by decide)
    (hcd : (x == ("__classdict__" : Str)) = false := by decide) : PE X (.Name x pos) (tVar i) := pe_var hN hv hd hcd
end

/-! ### tests -/
theorem iteF {A B : Prop} (h : B) : if false = true then A else B := by
  rw [if_neg Bool.false_ne_true]
  exact h
theorem iteT {A B : Prop} (h : A) : if true = true then A else B := by
  rw [if_pos rfl]
  exact h
theorem ite2 {c A B : Prop} [Decidable c] (h1 : c → A) (h2 : ¬ c → B) : if c then A else B := by
  by_cases h : c
  · rw [if_pos h]
    exact h1 h
  · rw [if_neg h]
    exact h2 h

/-! ### heaps -/
/-- all that was tracked is as it was -/
def Same (H H' : Hp) : Prop := ∀ b o, H b = some o → H' b = some o
theorem Same.refl (H : Hp) : Same H H := fun _ _ h => h
theorem Same.trans {H H1 H2 : Hp} (a : Same H H1) (b : Same H1 H2) : Same H H2 := fun c o h => b c o (a c o h)
theorem Same.free {H H' : Hp} (e : Same H H') {l : Addr} (h : H' l = Option.none) : H l = Option.none := by
  cases q : H l with
  | none => rfl
  | some o =>
    rw [e l o q] at h
    cases h
theorem Same.seq {K : PySem.W.Frag} {H H' : Hp} {a : Addr} {xs : List V} (e : Same H H') (h : SqL K H a xs) : SqL K H' a xs := by
  rcases h with (h | ⟨o, h⟩) | h
  · exact .inl (.inl (e _ _ h))
  · exact .inl (.inr ⟨o, e _ _ h⟩)
  · exact .inr h

end L2
set_option Elab.async false
set_option linter.all false
set_option maxRecDepth 100000
/-! MORE CALLS over the hand layer: sum, all, divmod, isinstance, o[i] op= e. -/
namespace L2
open PySem PySem.Spec PyProof.Rows

theorem noPylong_big {x y : Int} (h : y.natAbs < 2 ^ 300) : Builtin.divisionGoesByPylong x y = false := by
  refine PyProof.noPylong_of_log2 ?_
  by_cases h0 : y.natAbs = 0
  · rw [h0]; decide +kernel
  · have h30 : y.natAbs.log2 < 300 := (Nat.log2_lt h0).mpr h
    omega
/-- a divisor from 1 on, of at most sixty figures -/
def CDivB (_i j : Int) : Prop := 0 < j ∧ j < 2 ^ 300
section
variable {X : Cx} {a b : Expr} {ta tb : TE} {pos : Pos}
theorem op_fdivB : OpR X (binaryOp .FloorDiv) (rI CDivB fun i j => .int (i / j)) := opI fun i j _ _ _ _ _ hc q => by
  obtain ⟨h1, h2⟩ := hc
  refine floordiv_int (by omega) ?_ (.inl (noPylong_big (by omega)))
  rw [Int.fdiv_eq_ediv_of_nonneg i (by omega)]
  exact q
inductive cDm (xs : List V) (H : Hp) (Q : VK) : Prop
  | mk (i j : Int) (e : xs = [.int i, .int j]) (c : CDivB i j) (q : ∀ p, H p = none → Q (.ref p) (upd H p (.tup [.int (i / j), .int (i % j)]))) : cDm xs H Q
theorem call_divmodB : CallR X (.builtin "divmod") cDm := by
  intro pins s σ H xs us Q I r h
  obtain ⟨i, j, rfl, ⟨h1, h2⟩, q⟩ := h
  obtain ⟨u, w', rfl, ⟨t, rfl⟩, ⟨t', rfl⟩⟩ := vals2 r
  refine divmod_int (by omega) ?_ (.inl (noPylong_big (by omega)))
  rw [Int.fdiv_eq_ediv_of_nonneg i (by omega), Int.fmod_eq_emod_of_nonneg i (by omega)]
  have hn : H s.heap.objs.size = none := I.hok.fresh (Nat.le_refl _)
  refine ⟨.ref s.heap.objs.size, _, ?_, rfl, q _ hn⟩
  refine I.laid (fun b o e => Heap.get?_push_of_some _ e) (Nat.le_refl _) ⟨by simp only [List.length_cons, List.length_nil]; rw [sizeLine_eq]; decide, [.int (i / j) s.toks, .int (i % j) (s.toks + 1)], .cons ⟨_, rfl⟩ (.cons ⟨_, rfl⟩ .nil), ?_⟩
  exact ⟨_, Heap.get?_push_size s.heap rfl, rfl, 0, rfl⟩


theorem bools_at {bs : List Bool} {its : List Value} (rv : Vals (bs.map V.bl) its) {i : Nat} {v : Value} (e : its[i]? = some v) : v = .bool (bs.getD i true) := by
  have hl := rv.length
  rw [List.length_map] at hl
  have hi : i < its.length := (List.getElem?_eq_some_iff.mp e).1
  have hn : bs[i]? = some (bs[i]'(by omega)) := List.getElem?_eq_getElem (by omega)
  obtain ⟨u, hu, ru⟩ := rv.get (i := i) (x := V.bl (bs[i]'(by omega))) (by rw [List.getElem?_map, hn]; rfl)
  rw [e] at hu
  cases hu
  rw [List.getD_eq_getElem?_getD, hn]
  exact ru
theorem all_getD (bs : List Bool) : ((List.range bs.length).all fun i => bs.getD i true) = bs.all id := by
  rw [Bool.eq_iff_iff, List.all_eq_true, List.all_eq_true]
  constructor
  · intro h b hb
    obtain ⟨i, hi, e⟩ := List.getElem_of_mem hb
    have := h i (List.mem_range.mpr hi)
    rw [List.getD_eq_getElem?_getD, List.getElem?_eq_getElem hi, e] at this
    exact this
  · intro h i hi
    have hi' := List.mem_range.mp hi
    rw [List.getD_eq_getElem?_getD, List.getElem?_eq_getElem hi']
    exact h _ (List.getElem_mem hi')
theorem call_all_seq (hc : X.calm = true) : CallR X (.builtin "all") (fun xs H Q => ∃ (p : Addr) (bs : List Bool), xs = [.ref p] ∧ SqL X.K H p (bs.map V.bl) ∧ Q (.bl (bs.all id)) H) := by
  intro pins s σ H xs us Q I r h
  obtain ⟨p, bs, rfl, hq, q⟩ := h
  obtain ⟨u, rfl, rx⟩ := vals1 r
  cases rx
  have hh : X.A.in1.handled = none := I.ok.hd hc
  obtain ⟨its, rv, pl, hz⟩ := I.list hq
  have hp : p < s.heap.objs.size := by obtain ⟨o, e, _⟩ := pl.isList; exact Heap.lt_size e
  have hl := rv.length
  rw [List.length_map] at hl
  refine call_all_walk (wpAny_pyIter_list pl.isList ?_)
  refine ⟨s.heap.objs.size, [s.heap.objs.size, p], [s.heap.objs.size], _, _, _, fun i => bs.getD i true, rfl, Walks.list hh _ p (Nat.ne_of_lt hp) its.toArray, ⟨⟨_, Heap.get?_push_size _ rfl, rfl, rfl⟩, pl.isList.at fun o e => Heap.get?_push_of_some _ e⟩, ?_, ?_⟩
  · intro i v s' Q' E' e q'
    have e' : its[i]? = some v := by simpa using e
    rw [bools_at rv e']
    exact wpAny_pure q'
  · intro h' tk k
    have e : ((List.range its.toArray.size).all fun i => bs.getD i true) = bs.all id := by rw [List.size_toArray, ← hl]; exact all_getD bs
    rw [e]
    exact ⟨.bl (bs.all id), H, I.kept fun b ob e => k b ob (by simp; exact Nat.ne_of_lt (Heap.lt_size e)) (Heap.get?_push_of_some _ e), rfl, q⟩

/-! ### isinstance -/
inductive TyS (H : Hp) : V → Value → Prop
  | bl (y : Bool) : TyS H (.bl y) (.type "bool")
  | int (i : Int) : TyS H (.int i) (.type "int")
  | lst {a : Addr} {xs : List V} (ea : H a = some (.lst xs)) : TyS H (.ref a) (.type "list")
  | tup {a : Addr} {xs : List V} (ea : H a = some (.tup xs)) : TyS H (.ref a) (.type "tuple")
theorem ty_kit {pins : List (Addr × Obj)} {σ : St} {H : Hp} {s : Shared} {x : V} {u t : Value} (I : Inv X pins σ H s) (rx : RelV x u) (ty : TyS H x t) : ∃ Hx : Heap → Prop, PySem.W.KitX X.K u t Hx ∧ Hx s.heap ∧ u ≠ .builtin "__main__.__loader__#opaque" := by
  cases ty with
  | bl y => cases (show u = Value.bool y from rx); exact ⟨_, PySem.W.kitx_bool, True.intro, fun z => nomatch z⟩
  | int i => obtain ⟨t, q⟩ := (show ∃ t, u = Value.int i t from rx); cases q; exact ⟨_, PySem.W.kitx_int, True.intro, fun z => nomatch z⟩
  | @lst a xs ea =>
    cases (show u = Value.ref a from rx)
    obtain ⟨_, _, n, _, h1⟩ := (show ObjOk X.prog X.w H s.heap a (.lst xs) from I.hok a _ ea)
    exact ⟨_, PySem.W.kitx_list, ⟨_, h1, rfl⟩, fun z => nomatch z⟩
  | @tup a xs ea =>
    cases (show u = Value.ref a from rx)
    obtain ⟨_, _, _, p⟩ := (show ObjOk X.prog X.w H s.heap a (.tup xs) from I.hok a _ ea)
    obtain ⟨o, h1, h2, _⟩ := p
    exact ⟨_, PySem.W.kitx_tuple, ⟨o, h1, h2⟩, fun z => nomatch z⟩
theorem pe_ty {x : Str} {T : String} (hg : Gl X x) (hm : X.mg x = none) (hv : bootBuiltins x = some (.type T)) (hn : x ≠ "__name__" := by decide) (hd : (x == ("__debug__" : Str)) = false := by decide) : PE X (.Name x pos) (tC (.ty T)) := pe_bltn hg hm hv rfl hn hd

/-! ### o[i] by values -/
end

example (K : PySem.W.Frag) : PySem.W.kitOne K (.type "bool") (.type "int") = some true := by rfl
example (K : PySem.W.Frag) : PySem.W.kitOne K (.type "int") (.type "bool") = some false := by rfl
example (K : PySem.W.Frag) : PySem.W.kitAny K (.type "tuple") [.type "list", .type "tuple"] = some true := by rfl
example (K : PySem.W.Frag) : PySem.W.kitAny K (.type "str") [.type "list", .type "tuple"] = some false := by rfl
end L2
set_option Elab.async false
set_option linter.all false
set_option maxRecDepth 100000
/-! reversed(t) of a tuple, walked by a for. -/
namespace L2
open PySem PySem.Spec PyProof.Rows

namespace RF
end RF



section
variable {prog : Program} {w : World} {A : Around} {E : Value → Shared → Prop} {s : Shared}
end


section
variable {X : Cx} {tg : Expr}
end
end L2
set_option Elab.async false
set_option linter.all false
set_option maxRecDepth 100000
/-! LIST COMPREHENSIONS over the hand layer: one clause, a plain name, none or one test. -/
namespace L2
open PySem PySem.Spec PyProof.Rows

/-! ### the closure -/
def clStep (cells : List (Str × Addr)) (cs : List (Str × Addr)) (p : Str × NameKind) : List (Str × Addr) :=
  if (p.2 == NameKind.free) = true then (match cells.lookup p.1 with | some a => (p.1, a) :: cs | none => cs) else cs
def clOf (sc : Scope) (cells : List (Str × Addr)) : List (Str × Addr) := sc.names.foldl (clStep cells) []

theorem closure_eq {sc : Scope} {env : Env} (h : ∀ p ∈ sc.names, p.2 = .free → ∃ a, env.cells.lookup p.1 = some a) : closureFor sc env = pure (clOf sc env.cells) := by
  have key : ∀ (l : List (Str × NameKind)) (cs : List (Str × Addr)), (∀ p ∈ l, p.2 = .free → ∃ a, env.cells.lookup p.1 = some a) →
      (forIn l cs fun (x : Str × NameKind) (r : List (Str × Addr)) => match x with
        | (name, kind) => if (kind == NameKind.free) = true then (do let a ← cellOf env name; pure (ForInStep.yield ((name, a) :: r))) else (pure (ForInStep.yield r) : Sem (ForInStep (List (Str × Addr))))) = (pure (l.foldl (clStep env.cells) cs) : Sem (List (Str × Addr))) := by
    intro l
    induction l with
    | nil => intro cs _; rfl
    | cons p r ih =>
      intro cs hp
      obtain ⟨n, k⟩ := p
      rw [List.forIn_cons, List.foldl_cons]
      by_cases hk : (k == NameKind.free) = true
      · obtain ⟨a, ea⟩ := hp (n, k) List.mem_cons_self (by simpa using hk)
        have e1 : clStep env.cells cs (n, k) = (n, a) :: cs := by unfold clStep; rw [if_pos hk]; dsimp only; dsimp only at ea; rw [ea]
        rw [e1]
        dsimp only at ea ⊢
        rw [if_pos hk]
        unfold cellOf
        rw [ea]
        simp only [pure_bind]
        exact ih _ fun q hq => hp q (List.mem_cons_of_mem _ hq)
      · have e1 : clStep env.cells cs (n, k) = cs := by unfold clStep; rw [if_neg hk]
        rw [e1]
        dsimp only
        rw [if_neg hk]
        simp only [pure_bind]
        exact ih _ fun q hq => hp q (List.mem_cons_of_mem _ hq)
  unfold closureFor clOf
  rw [← key sc.names [] h]
  simp only [bind_pure]

theorem clOf_sub (sc : Scope) (cells : List (Str × Addr)) {y : Str} {c : Addr} : (clOf sc cells).lookup y = some c → cells.lookup y = some c := by
  have key : ∀ (l : List (Str × NameKind)) (cs : List (Str × Addr)), (∀ y c, cs.lookup y = some c → cells.lookup y = some c) → ∀ y c, (l.foldl (clStep cells) cs).lookup y = some c → cells.lookup y = some c := by
    intro l
    induction l with
    | nil => intro cs h; exact h
    | cons p r ih =>
      intro cs h
      rw [List.foldl_cons]
      refine ih _ ?_
      intro y c e
      unfold clStep at e
      split at e
      · split at e
        · rename_i a ea
          rw [List.lookup_cons] at e
          cases q : y == p.1 with
          | true =>
            rw [q] at e
            cases e
            rw [eq_of_beq q]; exact ea
          | false => rw [q] at e; exact h y c e
        · exact h y c e
      · exact h y c e
  exact key sc.names [] (fun _ _ h => by cases h) y c

theorem clOf_has (sc : Scope) (cells : List (Str × Addr)) (h : ∀ p ∈ sc.names, p.2 = .free → ∃ a, cells.lookup p.1 = some a) {y : Str} (hy : (y, NameKind.free) ∈ sc.names) : ∃ c, (clOf sc cells).lookup y = some c := by
  have mono : ∀ (l : List (Str × NameKind)) (cs : List (Str × Addr)), (∃ c, cs.lookup y = some c) → ∃ c, (l.foldl (clStep cells) cs).lookup y = some c := by
    intro l
    induction l with
    | nil => intro cs h; exact h
    | cons p r ih =>
      intro cs hc
      rw [List.foldl_cons]
      refine ih _ ?_
      unfold clStep
      split
      · split
        · rw [List.lookup_cons]
          cases q : y == p.1 with
          | true => exact ⟨_, rfl⟩
          | false => exact hc
        · exact hc
      · exact hc
  have key : ∀ (l : List (Str × NameKind)) (cs : List (Str × Addr)), (∀ p ∈ l, p.2 = .free → ∃ a, cells.lookup p.1 = some a) → (y, NameKind.free) ∈ l → ∃ c, (l.foldl (clStep cells) cs).lookup y = some c := by
    intro l
    induction l with
    | nil => intro cs _ hm; cases hm
    | cons p r ih =>
      intro cs hp hm
      rw [List.foldl_cons]
      rcases List.mem_cons.mp hm with e | hm
      · subst e
        obtain ⟨a, ea⟩ := hp (y, .free) List.mem_cons_self rfl
        refine mono r _ ⟨a, ?_⟩
        unfold clStep
        rw [if_pos (show (NameKind.free == NameKind.free) = true by decide)]
        dsimp only at ea ⊢
        rw [ea, List.lookup_cons, beq_self_eq_true]
      · exact ih _ (fun q hq => hp q (List.mem_cons_of_mem _ hq)) hm
  exact key sc.names [] h hy

/-! ### the block's context -/
def cxLC (X : Cx) (x : Str) (scope : Scope) (C : Addr) (fp : List Addr) (s : Shared) (H : Hp) : Cx where
  prog := X.prog
  w := X.w
  K := X.K
  mg := X.mg
  base := X.base
  A := X.A
  N := x :: X.N
  s₀ := s
  H₀ := H
  env := compEnvC scope (clOf scope X.env.cells) C X.env
  outer := X.stack
  stack := X.stack
  ex := fp
  fn := fun _ => false
  calm := X.calm
  pn := []
  xe := fun _ _ => False

/-- what a comprehension's scope must be -/
structure LcScope (X : Cx) (x : Str) (sc : Scope) : Prop where
  kind : sc.kind = .function
  nocell : ∀ p ∈ sc.names, p.2 ≠ .cell
  loc : sc.names.lookup x = some .local
  names : ∀ p ∈ sc.names, p.2 = .local → sc.names.lookup p.1 = some .local
  apart : ∀ y ∈ X.N, sc.names.lookup y ≠ some .local
  nd : X.N.Nodup
  free : ∀ p ∈ sc.names, p.2 = .free → X.env.kindOf p.1 = some .cell ∨ X.env.kindOf p.1 = some .free

section
variable {X : Cx} {pins : List (Addr × Obj)} {σ : St} {H : Hp} {s : Shared} {x : Str} {sc : Scope} {C : Addr} {fp : List Addr}

theorem relabel_look {env : Env} : ∀ {names : List (Str × NameKind)} {y : Str} {k : NameKind}, (names.map fun (n, k) => if (k == NameKind.free && env.scope.kind == .function && env.kindOf n == some .cell) then (n, NameKind.cell) else (n, k)).lookup y = some k →
    ∃ k', names.lookup y = some k' ∧ (k = k' ∨ (k' = .free ∧ k = .cell))
  | [], _, _, h => by simp at h
  | (n, k0) :: r, y, k, h => by
    have ih := @relabel_look env r y k
    have h : List.lookup y ((if (k0 == NameKind.free && env.scope.kind == .function && env.kindOf n == some .cell) = true then (n, NameKind.cell) else (n, k0)) :: (r.map _)) = some k := h
    cases hx : y == n with
    | true =>
      refine ⟨k0, by rw [List.lookup_cons, hx], ?_⟩
      by_cases hc : (k0 == NameKind.free && env.scope.kind == .function && env.kindOf n == some .cell) = true
      · rw [if_pos hc, List.lookup_cons, hx] at h
        cases h
        simp only [Bool.and_eq_true, beq_iff_eq] at hc
        exact .inr ⟨hc.1.1, rfl⟩
      · rw [if_neg hc, List.lookup_cons, hx] at h
        cases h
        exact .inl rfl
    | false =>
      by_cases hc : (k0 == NameKind.free && env.scope.kind == .function && env.kindOf n == some .cell) = true
      · rw [if_pos hc, List.lookup_cons, hx] at h
        rw [List.lookup_cons, hx]; exact ih h
      · rw [if_neg hc, List.lookup_cons, hx] at h
        rw [List.lookup_cons, hx]; exact ih h

theorem LcScope.cells (S : LcScope X x sc) (ok : X.Ok) : ∀ p ∈ sc.names, p.2 = .free → ∃ a, X.env.cells.lookup p.1 = some a := fun p hp e => ok.has p.1 (S.free p hp e)

theorem Inv.okLC (I : Inv X pins σ H s) (S : LcScope X x sc) (hC : s.heap.objs.size ≤ C) (hf : ∀ b ∈ fp, FpOk X pins H b) (hlt : ∀ b ∈ fp, b < s.heap.objs.size) : (cxLC X x sc C fp s H).Ok where
  mod := I.ok.mod
  kind := S.kind
  glob := I.ok.glob
  blt := I.ok.blt
  above := hC
  inj := fun y z c e1 e2 => I.ok.inj y z c (clOf_sub sc X.env.cells e1) (clOf_sub sc X.env.cells e2)
  has := fun y hy => by
    have hy' : (relabel sc X.env).names.lookup y = some .cell ∨ (relabel sc X.env).names.lookup y = some .free := hy
    have fr : sc.names.lookup y = some .free := by
      rcases hy' with h | h
      · obtain ⟨k', e, q⟩ := relabel_look h
        rcases q with q | ⟨q, _⟩
        · subst q; exact absurd rfl (S.nocell _ (PySem.mem_of_lookup e))
        · rw [e, q]
      · obtain ⟨k', e, q⟩ := relabel_look h
        rcases q with q | ⟨_, q⟩
        · rw [e, ← q]
        · cases q
    exact clOf_has sc X.env.cells (S.cells I.ok) (PySem.mem_of_lookup fr)
  cab := fun y c e => by cases (show false = true from e)
  hd := I.ok.hd
  frames := I.ok.frames
  stk := .inl rfl
  exf := fun b hb => ⟨Nat.ne_of_lt (Nat.lt_of_lt_of_le (hlt b hb) hC), fun y c e => (hf b hb).2.2.2.2.1 y c (clOf_sub sc X.env.cells e)⟩
  bs := I.bs
  bsz := Nat.le_trans I.ok.bsz I.sz
  noex := fun b o e hb => by
    rcases (hf b hb).2.2.2.1 with q | q
    · exact I.ok.noex b o e q
    · exact absurd (Nat.lt_of_lt_of_le (Heap.lt_size e) (Nat.le_trans I.ok.bsz q)) (Nat.lt_irrefl _)
  exfs := fun b hb z => by
    rcases List.mem_cons.mp (I.stkSub b z) with q | q
    · exact (hf b hb).2.1 q
    · exact (hf b hb).2.2.1 q
  funs := I.stack
  frf := I.stkFree

/-- the block begins: a new list at D, a new frame at C -/
theorem Inv.startLC {D : Addr} {h1 : Heap} {m : Str → Option Value} {tk : Nat} (I : Inv X pins σ H s) (S : LcScope X x sc) (hf : ∀ b ∈ fp, FpOk X pins H b) (hlt : ∀ b ∈ fp, b < s.heap.objs.size)
    (hD : D = s.heap.objs.size) (hC : s.heap.objs.size ≤ C) (hDC : C ≠ D) (hk : ∀ b o, s.heap.get? b = some o → h1.get? b = some o) (hn : h1.Ns C m) (hl : h1.get? D = some { cls := .type "list", data := .seq ([] : List Value).toArray 0 }) :
    Inv (cxLC X x sc C fp s H) [] (none :: σ) (upd H D (.lst [])) { s with heap := h1, toks := tk } := by
  have hDle : s.heap.objs.size ≤ D := by rw [hD]; exact Nat.le_refl _
  have cells : ∀ y c, (clOf sc X.env.cells).lookup y = some c → c < s.heap.objs.size := fun y c e => by
    obtain ⟨v, q⟩ := I.cell y c (clOf_sub sc X.env.cells e)
    exact q.lt
  refine ⟨I.okLC S hC hf hlt, rfl, I.bare, Un.laid hk hDle (I.hok.fresh hDle), ⟨m, hn, fun i y v e1 e2 e3 => ?_⟩, fun y c e => ?_, ?_, fun y c e => ?_, fun p hp => absurd (show p ∈ ([] : List (Addr × Obj)) from hp) (by simp), I.hok.laid hk hDle ⟨Nat.zero_le _, [], 0, .nil, hl⟩, ?_⟩
  · cases i with
    | zero => cases (show some (none : Option V) = some (some v) from e2)
    | succ j =>
      have e1' : X.N[j]? = some y := e1
      have e2' : σ[j]? = some (some v) := e2
      have e3' : Vis (relabel sc X.env) y := e3
      have ny : sc.names.lookup y ≠ some .local := S.apart y (List.mem_of_getElem? e1')
      have fr : sc.names.lookup y = some .free ∧ ((relabel sc X.env).names.lookup y = some .cell ∨ (relabel sc X.env).names.lookup y = some .free) := by
        rcases e3' with h | h | h
        · obtain ⟨k', e, q⟩ := relabel_look h
          rcases q with q | ⟨_, q⟩
          · subst q; exact absurd e ny
          · cases q
        · obtain ⟨k', e, q⟩ := relabel_look h
          rcases q with q | ⟨q, _⟩
          · subst q; exact absurd rfl (S.nocell _ (PySem.mem_of_lookup e))
          · exact ⟨by rw [e, q], .inl h⟩
        · obtain ⟨k', e, q⟩ := relabel_look h
          rcases q with q | ⟨_, q⟩
          · exact ⟨by rw [e, ← q], .inr h⟩
          · cases q
      have ok := S.free (y, .free) (PySem.mem_of_lookup fr.1) rfl
      obtain ⟨m0, hn0, hl0⟩ := I.loc
      obtain ⟨u, r, l⟩ := hl0 j y v e1' e2' (.inr ok)
      refine ⟨u, r, .inr ⟨fr.2, ?_⟩⟩
      rcases l with ⟨k, _⟩ | ⟨_, c, ec, z⟩
      · rcases ok with q | q <;> (rw [show X.env.kindOf y = some .local from k] at q; cases q)
      · obtain ⟨c', ec'⟩ := clOf_has sc X.env.cells (S.cells I.ok) (PySem.mem_of_lookup fr.1)
        have := clOf_sub sc X.env.cells ec'
        rw [ec] at this
        cases this
        obtain ⟨o, ho, hd⟩ := z
        exact ⟨c, ec', o, hk _ _ ho, hd⟩
  · obtain ⟨v, o, ho, hd⟩ := I.cell y c (clOf_sub sc X.env.cells e)
    exact ⟨v, o, hk _ _ ho, hd⟩
  · show upd H D (.lst []) C = none
    rw [upd_ne hDC]
    exact I.hok.fresh hC
  · show upd H D (.lst []) c = none
    rw [upd_ne (Nat.ne_of_lt (Nat.lt_of_lt_of_le (cells y c e) hDle))]
    exact I.freeC y c (clOf_sub sc X.env.cells e)
  · show (none :: σ).length = (x :: X.N).length
    rw [List.length_cons, List.length_cons, I.len]

/-- the frame C of a block let go: nothing of ours stands there -/
theorem Inv.butC {h' : Heap} (I : Inv X pins σ H s) (hs : Heap.SameBut C s.heap h') (hC : X.s₀.heap.objs.size ≤ C) (hn : H C = none) (hL : C ≠ X.env.locals) (hc : ∀ y c, X.env.cells.lookup y = some c → c ≠ C) (hp : ∀ p ∈ X.pn ++ pins, p.1 ≠ C) :
    Inv X pins σ H { s with heap := h' } := I.turned (t' := s.toks) (fun b o hb e => (hs.2 b hb).trans e) hn hL (.inr hC) hc hp

/-- the block is through: back in the context around it -/
theorem Inv.endLC {s2 : Shared} {H2 : Hp} {st : St} {pl : List (Addr × Obj)} (I : Inv X pins σ H s) (J : Inv (cxLC X x sc C fp s H) pl st H2 s2) (hf : ∀ b ∈ fp, FpOk X pins H b) : Inv X pins σ H2 s2 :=
  I.call' (ch := fp) J.os J.base J.hok J.bare fun b hb => ⟨(hf b hb).2.2.2.1, (hf b hb).2.1, (hf b hb).2.2.2.2.1, (hf b hb).2.2.2.2.2⟩
end

/-! ### the tests -/
def PTs (X : Cx) (ifs : List Expr) (t : TT) : Prop :=
  ∀ (pins : List (Addr × Obj)) (s : Shared) (σ : St) (H : Hp) (Q : Bool → Hp → Prop), Inv X pins σ H s → t σ H Q →
    wpAny (model X.prog X.w) X.A (forIn ifs true fun c r => if r = true then do let ok ← isTrue c X.env (eval c X.env); pure (ForInStep.yield ok) else pure (ForInStep.yield r)) (TP X pins σ Q) X.xe s
def tYes : TT := fun _ H Q => Q true H
theorem pts_nil {X : Cx} : PTs X [] tYes := fun _ _ _ H _ I h => wpAny_tests_nil ⟨H, I, h⟩

/-! ### the loop, the step ahead of the store kept -/
theorem compLoop_own {prog : Program} {w : World} {A : Around} {R : Result → Shared → Prop} {s : Shared} {elt target iter : Expr} {ifs : List Expr} {scope : Scope} {pos : Pos} {it acc : Value} {env : Env} (I : Nat → Shared → Prop)
    (turn : ∀ n s, I n s → wpAny (model prog w) A (pyNext it) (fun r s1 => match r with
      | none => R (.ok .next) s1
      | some v => wpAny (model prog w) A (letOwnedTupleGo target it v) (fun _ s1 => wpAny (model prog w) A (assign target env v) (fun _ s2 =>
          wpAny (model prog w) A (forIn ifs true fun c r => if r = true then do let ok ← isTrue c env (eval c env); pure (ForInStep.yield ok) else pure (ForInStep.yield r)) (fun ok s3 =>
            if ok = true then wpAny (model prog w) A (eval elt env) (fun x s4 =>
              wpAny (model prog w) A (call (.builtin "list.append") [acc, x]) (fun _ s5 => ∃ m, m < n ∧ I m s5) (fun _ _ => False) s4) (fun _ _ => False) s3
            else ∃ m, m < n ∧ I m s3) (fun _ _ => False) s2) (fun _ _ => False) s1) (fun _ _ => False) s1) (fun _ _ => False) s)
    (n : Nat) (h : I n s) :
    codeAny (model prog w) A (.compLoop (.ListComp elt [⟨target, iter, ifs, 0⟩] scope pos) 0 it acc env) R s := by
  refine codeAny_loop rfl I (fun n s hI => ?_) n h
  show wpAny _ A ((compTurn (.ListComp elt [⟨target, iter, ifs, 0⟩] scope pos) 0 it acc env).onRaise (fun x => do noteFrame x env; theTreesLotGoes x)) _ _ s
  refine wpAny_noted ?_
  rw [compTurn_list]
  refine wpAny_bind (wpAny_standAt (wpAny_bind (wpAny_mono (turn n s hI) (fun r s1 h1 => ?_) fun _ _ h' => h'.elim)))
  cases r with
  | none => exact wpAny_pure h1
  | some v =>
    refine wpAny_bind (wpAny_mono h1 (fun _ s1 h1 => ?_) fun _ _ h' => h'.elim)
    refine wpAny_bind (wpAny_mono h1 (fun _ s2 h2 => wpAny_bind (wpAny_mono h2 (fun ok s3 h3 => ?_) fun _ _ h' => h'.elim)) fun _ _ h' => h'.elim)
    cases ok with
    | false => exact wpAny_pure ⟨rfl, h3⟩
    | true =>
      exact wpAny_bind (wpAny_bind (wpAny_mono h3 (fun x s4 h4 => wpAny_bind (wpAny_mono h4 (fun _ s5 h5 => wpAny_pure (wpAny_pure ⟨rfl, h5⟩)) fun _ _ h' => h'.elim)) fun _ _ h' => h'.elim))

/-! ### the reading -/
/-- acc = []; for x in ..: if ..: acc.append(..), the list at D -/
def lcGo (tc : TT) (te : TE) (σ : St) (J : It) (D : Addr) (Fin : Hp → Prop) (H : Hp) : Prop :=
  ∃ W : Nat → Nat → List V → Hp → Prop, (∃ m, W 0 m [] (upd H D (.lst []))) ∧ ∀ i m ys H, W i m ys H → H D = some (.lst ys) ∧
    ((J.stop i H ∧ Fin H) ∨ (J.go i H ∧ ∀ x H', J.yld i H x H' → tc (some x :: σ) H' fun b H2 => if b = true then te (some x :: σ) H2 fun y H3 => H3 D = some (.lst ys) ∧ ys.length < sizeLine ∧ ∃ m', m' < m ∧ W (i + 1) m' (ys ++ [y]) (upd H3 D (.lst (ys ++ [y])))
      else ∃ m', m' < m ∧ W (i + 1) m' ys H2))
def tLC (wi : TI) (tc : TT) (te : TE) : TE := fun σ H Q => wi σ H fun J H1 => ∀ D, H1 D = none → lcGo tc te σ J D (fun H2 => Q (.ref D) H2) H1

section
variable {X : Cx} {x : Str} {sc : Scope} {elt iter : Expr} {ifs : List Expr} {px pos : Pos} {wi : TI} {tc : TT} {te : TE}
/-- from the iterator on -/
theorem lc_block {pins : List (Addr × Obj)} {σ : St} {H : Hp} {s : Shared} {it : Addr} {fp : List Addr} {tn : Nat → Heap → Prop} {J : It} {Fin : Addr → Hp → Prop} {RR : Value → Addr → Result → Shared → Prop} {E : Value → Shared → Prop}
    (hc : X.calm = true) (S : LcScope X x sc) (I : Inv X pins σ H s) (T : Turn X.prog X.w X.K (.Name x px) J fp it tn) (st : tn 0 s.heap) (hf : ∀ b ∈ fp, FpOk X pins H b)
    (ht : ∀ C s0 H0, PTs (cxLC X x sc C fp s0 H0) ifs tc) (he : ∀ C s0 H0, PE (cxLC X x sc C fp s0 H0) elt te) (q : ∀ D, H D = none → lcGo tc te σ J D (Fin D) H)
    (hR : ∀ D C H2 s2 m, s.heap.objs.size ≤ C → Inv X pins σ H2 s2 → H2 C = none → s2.heap.Ns C m → Fin D H2 → RR (.ref D) C (.ok .next) s2) :
    wpAny (model X.prog X.w) X.A (newList []) (fun acc s3 => wpAny (model X.prog X.w) X.A (newFunctionEnv sc X.env.globals (clOf sc X.env.cells) [] X.env.qual none .none (some X.env)) (fun cenv s4 =>
      codeAny (model X.prog X.w) X.A (.compStart (.ListComp elt [⟨.Name x px, iter, ifs, 0⟩] sc pos) 0 (.ref it) acc { cenv with scope := relabel sc X.env }) (RR acc cenv.locals) s4) E s3) E s := by
  have hlt : ∀ b ∈ fp, b < s.heap.objs.size := fun b hb => by
    obtain ⟨o, e, _⟩ := T.obj 0 _ st b hb
    exact Heap.lt_size e
  refine wpAny_newObj_type (wpAny_newFunctionEnv S.nocell (by intro y hy; simp at hy) (fun h1 hns1 hsb1 => ?_) S.kind)
  dsimp only at hns1 hsb1 ⊢
  generalize hH2 : s.heap.push { cls := .type "list", dict := none, data := .seq ([] : List Value).toArray } = G at hns1 hsb1 ⊢
  have hC : G.objs.size = s.heap.objs.size + 1 := by rw [← hH2, Heap.size_push]
  have hCle : s.heap.objs.size ≤ G.objs.size := by rw [hC]; exact Nat.le_succ _
  have hDC : G.objs.size ≠ s.heap.objs.size := by rw [hC]; exact Nat.succ_ne_self _
  have old : ∀ b o, s.heap.get? b = some o → h1.get? b = some o := fun b o e => hsb1.extBut b o (Nat.ne_of_lt (Nat.lt_of_lt_of_le (Heap.lt_size e) hCle)) (Heap.get?_push_of_some _ (hH2 ▸ Heap.get?_push_of_some _ e))
  have hacc : h1.get? s.heap.objs.size = some { cls := .type "list", data := .seq ([] : List Value).toArray 0 } := hsb1.extBut _ _ (Ne.symm hDC) (Heap.get?_push_of_some _ (hH2 ▸ Heap.get?_push_size _ rfl))
  have hDn : H s.heap.objs.size = none := I.hok.fresh (Nat.le_refl _)
  obtain ⟨W, ⟨m0, w0⟩, turn⟩ := q s.heap.objs.size hDn
  have st1 : tn 0 h1 := T.keep _ _ _ st fun b _ o e => old b o e
  have I1 := fun tk => I.startLC (tk := tk) S hf hlt rfl hCle hDC old hns1 hacc
  have fr1 : ∀ b ∈ fp, upd H s.heap.objs.size (.lst []) b = none := fun b hb => by rw [upd_ne (Nat.ne_of_lt (hlt b hb))]; exact (hf b hb).1
  have loop : ∀ s3 : Shared, s3 = { s with heap := h1, toks := s.toks + ([] : List (Str × Value)).length } →
      codeAny (model X.prog X.w) X.A (.compLoop (.ListComp elt [⟨.Name x px, iter, ifs, 0⟩] sc pos) 0 (.ref it) (.ref s.heap.objs.size) (compEnvC sc (clOf sc X.env.cells) G.objs.size X.env))
        (RR (.ref s.heap.objs.size) G.objs.size) s3 := by
    rintro s3 rfl
    have fpk : ∀ {H' : Hp}, (∀ b ∈ fp, H' b = none) → ∀ b ∈ fp, FpOk (cxLC X x sc G.objs.size fp s H) [] H' b := fun hn b hb =>
      ⟨hn b hb, Nat.ne_of_lt (Nat.lt_of_lt_of_le (hlt b hb) hCle), (I.okLC (C := G.objs.size) S hCle hf hlt).exfs b hb, .inl hb, fun y c e => (hf b hb).2.2.2.2.1 y c (clOf_sub sc X.env.cells e), fun p hp => absurd (show p ∈ ([] : List (Addr × Obj)) from hp) (by simp)⟩
    refine compLoop_own (fun n s' => ∃ i w ys H', Inv (cxLC X x sc G.objs.size fp s H) [] (w :: σ) H' s' ∧ tn i s'.heap ∧ (∀ b ∈ fp, H' b = none) ∧ W i n ys H') ?_ m0 ⟨0, none, [], _, I1 _, st1, fr1, w0⟩
    rintro n s3 ⟨i, v0, ys, H3, I3, st3, fr3, w3⟩
    obtain ⟨hD3, turn3⟩ := turn i n ys H3 w3
    rcases turn3 with ⟨stop, fin⟩ | ⟨go, step⟩
    · refine thn (T.done (cxLC X x sc G.objs.size fp s H) rfl rfl rfl hc i [] s3 _ H3 _ I3 (fpk fr3) st3 stop) fun r s4 ⟨hr, I4⟩ => ?_
      subst hr
      obtain ⟨m4, hn4, _⟩ := I4.loc
      exact hR _ _ H3 s4 m4 hCle (I.endLC I4 hf) I4.free hn4 fin
    · refine thn (T.item (cxLC X x sc G.objs.size fp s H) rfl rfl rfl hc i [] s3 _ H3 _ I3 (fpk fr3) st3 go) fun r s4 ⟨u, hr, h4⟩ => ?_
      subst hr
      refine thn h4 fun _ s5 ⟨y, H5, I5, r5, y5, st5, fr5⟩ => ?_
      have I5' := I5.pinned (fpk fr5) (T.obj _ _ st5)
      have hN : (x :: X.N).Nodup := List.nodup_cons.mpr ⟨fun hm => S.apart x hm S.loc, S.nd⟩
      have pg : PG (cxLC X x sc G.objs.size fp s H) (.Name x px) (gName 0) := pg_name hN rfl (.inl (lookup_relabel_local S.loc)) (.inr (lookup_relabel_local S.loc))
      refine thn (pg _ s5 _ H5 y u (fun σ6 H6 => σ6 = some y :: σ ∧ H6 = H5) I5' r5 ⟨rfl, rfl⟩) fun _ s6 ⟨σ6, H6, I6, e6, e6'⟩ => ?_
      subst e6; subst e6'
      refine thn (ht G.objs.size s H _ s6 _ H6 _ I6 (step y H6 y5)) fun ok s7 ⟨H7, I7, q7⟩ => ?_
      have again : ∀ {H8 : Hp} {s8 : Shared} {zs : List V}, Inv (cxLC X x sc G.objs.size fp s H) ([] ++ pinsAt fp s5.heap) (some y :: σ) H8 s8 → (∃ m', m' < n ∧ W (i + 1) m' zs H8) → ∃ m, m < n ∧ ∃ i w ys H', Inv (cxLC X x sc G.objs.size fp s H) [] (w :: σ) H' s8 ∧ tn i s8.heap ∧ (∀ b ∈ fp, H' b = none) ∧ W i m ys H' := fun {H8 s8 zs} I8 ⟨m', hm, w8⟩ => by
        refine ⟨m', hm, i + 1, some y, zs, H8, I8.unpinned, T.keep _ _ _ st5 fun b hb o e => (I8.pin (b, o) (List.mem_append_right _ (List.mem_append_right _ (mem_pinsAt hb e)))).1, fun b hb => ?_, w8⟩
        obtain ⟨o, e, d⟩ := T.obj _ _ st5 b hb
        exact (I8.pin (b, o) (List.mem_append_right _ (List.mem_append_right _ (mem_pinsAt hb e)))).2.1
      cases ok with
      | false =>
        rw [if_neg Bool.false_ne_true] at q7 ⊢
        exact again I7 q7
      | true =>
        rw [if_pos rfl] at q7 ⊢
        refine thn (he G.objs.size s H _ s7 _ H7 _ I7 q7) fun z s8 ⟨zv, H8, I8, r8, hD8, hz8, w8⟩ => ?_
        refine thn (mt_append _ s8 _ H8 (.ref s.heap.objs.size) [zv] (.ref s.heap.objs.size) [z] (fun _ H9 => ∃ m', m' < n ∧ W (i + 1) m' (ys ++ [zv]) H9) I8 rfl (.cons r8 .nil) ⟨_, ys, zv, rfl, rfl, hD8, hz8, w8⟩) fun _ s9 ⟨_, H9, I9, _, w9⟩ => ?_
        exact again I9 w9
  exact codeAny_compStart_list (loop _ rfl) (T.self X.A 0 _ _ _ st1 (loop _ rfl))

theorem pe_lc (hc : X.calm = true) (S : LcScope X x sc) (hi : PI X (.Name x px) iter wi) (ht : ∀ C fp s0 H0, PTs (cxLC X x sc C fp s0 H0) ifs tc) (he : ∀ C fp s0 H0, PE (cxLC X x sc C fp s0 H0) elt te)
    (hs : ∀ v, foldedSetIterable iter X.env v = pure v := by intro _; rfl) : PE X (.ListComp elt [⟨.Name x px, iter, ifs, 0⟩] sc pos) (tLC wi tc te) := by
  refine ⟨?_⟩
  intro pins s σ H Q I h
  rw [eval_ListComp]
  refine wpAny_comprehension_free (use := none) rfl hs (closure_eq (S.cells I.ok)) S.kind S.names (thn (hi pins s σ H _ I h) fun v s1 h1 => thn h1 fun itv s2 h2 => ?_)
  obtain ⟨it, fp, tn, J, H2, e, I2, T, st2, f2, q2⟩ := h2
  subst e
  refine lc_block (RR := fun acc C => compPost (model X.prog X.w) X.A X.xe none (EP X pins σ Q) acc C) (Fin := fun D H3 => Q (.ref D) H3) hc S I2 T st2 f2 (fun C s0 H0 => ht C fp s0 H0) (fun C s0 H0 => he C fp s0 H0) q2 ?_
  intro D C H3 s3 m hC I3 hn hN q3
  refine ⟨m, hN, fun h' hs' => ⟨.ref D, H3, I3.butC hs' (Nat.le_trans I2.sz hC) hn (Nat.ne_of_gt (Nat.lt_of_lt_of_le I2.lt hC)) (fun y c e => ?_) (fun p hp => ?_), rfl, q3⟩⟩
  · obtain ⟨v, z⟩ := I2.cell y c e
    exact Nat.ne_of_lt (Nat.lt_of_lt_of_le z.lt hC)
  · exact Nat.ne_of_lt (Nat.lt_of_lt_of_le (Heap.lt_size (I2.pin p hp).1) hC)

end

/-! ### the forms one uses -/
end L2
set_option Elab.async false
set_option linter.all false
set_option maxRecDepth 100000
set_option Elab.async false
set_option linter.all false
set_option maxRecDepth 100000
namespace L2
open PySem PySem.Spec PyProof.Rows
/-! ### defs of the text, and what they promise -/
structure Fn (K : PySem.W.Frag) (mg : Str → Option Value) (x : Str) (st : Stmt) (ps : List Str) (f : Addr) (fd : FuncData) : Prop where
  fn : Fun K x x st f fd
  m : mg x = some (.ref f)
  b : Binds K fd ps []
def Can (P : Program) (w : World) (K : PySem.W.Frag) (mg : Str → Option Value) (base : Heap) (k : Nat) (x : Str) (ps : List Str) (sp : Sp) : Prop :=
  ∃ f fd, FnOk P w K mg base CX0 k f fd ps sp ∧ mg x = some (.ref f) ∧ PySem.W.keepIn K (.ref f) = true ∧ Binds K fd ps []
section
variable {P : Program} {w : World} {K : PySem.W.Frag} {mg : Str → Option Value} {base : Heap}
theorem fn_can {x : Str} {st : Stmt} {N ps : List Str} {k : Nat} {sp : Sp} (h : ∃ f fd, Fn K mg x st ps f fd) (S : FnScope N ps (defScope st)) (len : ∀ vs H Q E, sp vs H Q E → vs.length = ps.length)
    (hbody : ∀ (f : Addr) (cdv : Value) (A : Around) (outer : List Env) (s : Shared) (H : Hp) (vs : List V) (Q : VK) (E : XK), Room k (A.deeper (envOfC x (defScope st) s.heap.objs.size f cdv)) → sp vs H Q E →
      ∃ t, PSs (cxOf CX0 P w K mg base N x (defScope st) f cdv A outer s H E).nox (defBody st) t ∧ t { nx := fun _ H' => Q .non H', rt := Q } (start N vs) H) : Can P w K mg base (k + 1) x ps sp := by
  obtain ⟨f, fd, F⟩ := h
  exact ⟨f, fd, F.fn.ok S len fun cdv A outer s H vs Q E hr h => hbody f cdv A outer s H vs Q E hr h, F.m, F.fn.kp, F.b⟩
end
section
variable {X : Cx} {k k' : Nat} {x m : Str} {ps : List Str} {sp : Sp} {p pos apos : Pos} {e o : Expr} {es : List Expr} {ta : TE} {t : TA} {C : Addr}
theorem pe_can (h : Can X.prog X.w X.K X.mg X.base k x ps sp) (hr : Room k' X.A) (ha : PA X (e :: es) t) (hg : Gl X x := by rfl) (hk : k ≤ k' := by decide) (hdb : (x == ("__debug__" : Str)) = false := by decide)
    (hs : starEach (e :: es) X.env = (false, eval e X.env) :: starEach es X.env := by rfl) (hpl : (backTo pos (starEach es X.env)).any (·.1) = false := by rfl) : PE X (.Call (.Name x p) (e :: es) [] pos) (tCall sp [] E0 t) := by
  obtain ⟨f, fd, F, hm, kp, b⟩ := h
  exact pe_call F (hr.mono hk) hg hm kp b .nil pass0 ha hdb hs hpl
theorem pe_gi {n : Int} (h : ∃ t, X.mg x = some (.int n t)) (hg : Gl X x := by rfl) (hd : (x == ("__debug__" : Str)) = false := by decide) : PE X (.Name x pos) (tC (.int n)) := by
  obtain ⟨t, h⟩ := h
  exact pe_glob hg h ⟨t, rfl⟩ hd
/-- T-names, builtins in short -/
theorem pe_b {id : String} {r : List V → Hp → VK → Prop} (hc : CallR X (.builtin id) r) (hm : X.mg x = none) (hv : bootBuiltins x = some (.builtin id)) (ha : PA X (e :: es) t) (hg : Gl X x := by rfl) (hn : x ≠ "__name__" := by decide) (hdb : (x == ("__debug__" : Str)) = false := by decide)
    (he : starEach (e :: es) X.env = (false, eval e X.env) :: starEach es X.env := by rfl) (hpl : (backTo pos (starEach es X.env)).any (·.1) = false := by rfl) : PE X (.Call (.Name x p) (e :: es) [] pos) (tCB r t) := pe_callB hc hg hm hv ha hn hdb he hpl
theorem pe_t {T : String} {r : List V → Hp → VK → Prop} (hc : CallR X (.type T) r) (hm : X.mg x = none) (hv : bootBuiltins x = some (.type T)) (ha : PA X (e :: es) t) (hg : Gl X x := by rfl) (hn : x ≠ "__name__" := by decide) (hdb : (x == ("__debug__" : Str)) = false := by decide)
    (he : starEach (e :: es) X.env = (false, eval e X.env) :: starEach es X.env := by rfl) (hpl : (backTo pos (starEach es X.env)).any (·.1) = false := by rfl) : PE X (.Call (.Name x p) (e :: es) [] pos) (tCB r t) := pe_callTy hc hg hm hv ha hn hdb he hpl
theorem pa1 {a : Expr} {ta : TE} (ha : PE X a ta) (hs : starEach [a] X.env = (false, eval a X.env) :: starEach [] X.env := by rfl) : PA X [a] (tCons ta tNil) := pa_cons ha pa_nil hs
theorem pa2 {a b : Expr} {ta tb : TE} (ha : PE X a ta) (hb : PE X b tb) (hs : starEach [a, b] X.env = (false, eval a X.env) :: starEach [b] X.env := by rfl) (hs2 : starEach [b] X.env = (false, eval b X.env) :: starEach [] X.env := by rfl) : PA X [a, b] (tCons ta (tCons tb tNil)) := pa_cons ha (pa_cons hb pa_nil hs2) hs
theorem pa3 {a b c : Expr} {ta tb tc : TE} (ha : PE X a ta) (hb : PE X b tb) (hc : PE X c tc) (hs : starEach [a, b, c] X.env = (false, eval a X.env) :: starEach [b, c] X.env := by rfl) (hs1 : starEach [b, c] X.env = (false, eval b X.env) :: starEach [c] X.env := by rfl) (hs2 : starEach [c] X.env = (false, eval c X.env) :: starEach [] X.env := by rfl) : PA X [a, b, c] (tCons ta (tCons tb (tCons tc tNil))) := pa_cons ha (pa_cons hb (pa_cons hc pa_nil hs2) hs1) hs
end
/-- all that was tracked but p is as it was -/
def But (p : Addr) (H H' : Hp) : Prop := ∀ b o, H b = some o → b ≠ p → H' b = some o
theorem But.trans {p : Addr} {H H1 H2 : Hp} (a : But p H H1) (b : But p H1 H2) : But p H H2 := fun c o h n => b c o (a c o h n) n
theorem Same.but {p : Addr} {H H' : Hp} (a : Same H H') : But p H H' := fun b o h _ => a b o h
theorem Same.upd {H : Hp} {p : Addr} {o : HO} (h : H p = none) : Same H (upd H p o) := fun b u e => by rw [upd_ne (ne_of_none e h)]; exact e
end L2
set_option Elab.async false
set_option linter.all false
set_option maxRecDepth 100000
namespace L2
open PySem PySem.Spec PyProof.Rows
theorem ul1 : ∀ {us : List Value}, us.length = 1 → ∃ a, us = [a]
  | [a], _ => ⟨a, rfl⟩
theorem ul2 {us : List Value} (h : us.length = 2) : ∃ a b, us = [a, b] := by
  cases us with
  | nil => cases h
  | cons a r => obtain ⟨b, rfl⟩ := ul1 (Nat.succ.inj h); exact ⟨a, b, rfl⟩
theorem ul3 {us : List Value} (h : us.length = 3) : ∃ a b c, us = [a, b, c] := by
  cases us with
  | nil => cases h
  | cons a r => obtain ⟨b, c, rfl⟩ := ul2 (Nat.succ.inj h); exact ⟨a, b, c, rfl⟩
section
variable {K : PySem.W.Frag} {x qual p q r s t u : Str} {st : Stmt} {g : Addr} {fd : FuncData}
abbrev fnQ (x qual : Str) (st : Stmt) (kV doc pm : Value) (an : Option Addr) (cdv ct : Value) : FuncData := PySem.W.fnOf x qual (defArgs st) (defBody st) (defScope st) .none kV doc pm an cdv ct
theorem Fun.b1 (F : Fun K x qual st g fd) (h : ∀ kV doc pm an cdv ct a, bindArgs (fnQ x qual st kV doc pm an cdv ct) ⟨[a], []⟩ = pure [(p, a)]) : Binds K fd [p] [] := F.binds fun kV doc pm an cdv ct us hl => by
  obtain ⟨a, rfl⟩ := ul1 hl
  exact h kV doc pm an cdv ct a
theorem Fun.b2 (F : Fun K x qual st g fd) (h : ∀ kV doc pm an cdv ct a b, bindArgs (fnQ x qual st kV doc pm an cdv ct) ⟨[a, b], []⟩ = pure [(p, a), (q, b)]) : Binds K fd [p, q] [] := F.binds fun kV doc pm an cdv ct us hl => by
  obtain ⟨a, b, rfl⟩ := ul2 hl
  exact h kV doc pm an cdv ct a b
theorem Fun.b3 (F : Fun K x qual st g fd) (h : ∀ kV doc pm an cdv ct a b c, bindArgs (fnQ x qual st kV doc pm an cdv ct) ⟨[a, b, c], []⟩ = pure [(p, a), (q, b), (r, c)]) : Binds K fd [p, q, r] [] := F.binds fun kV doc pm an cdv ct us hl => by
  obtain ⟨a, b, c, rfl⟩ := ul3 hl
  exact h kV doc pm an cdv ct a b c
end
end L2
set_option Elab.async false
set_option linter.all false
set_option maxRecDepth 100000
/-! errors of own classes: raise, and how they pass through defs -/
namespace L2
open PySem PySem.Spec PyProof.Rows
section
variable {P : Program} {w : World} {H H' : Hp} {h h' : Heap} {a : Addr} {o : HO}
theorem ObjOk.there (x : ObjOk P w H h a o) : ∃ ob, h.get? a = some ob := by
  cases o with
  | lst xs => obtain ⟨_, _, _, _, e⟩ := x; exact ⟨_, e⟩
  | tup xs => obtain ⟨_, _, _, ob, e, _⟩ := x; exact ⟨_, e⟩
  | dK kvs => obtain ⟨_, _, _, _, o, _, _, e, _⟩ := x; exact ⟨_, e⟩
  | dT kvs => obtain ⟨_, _, _, _, o, _, _, e, _⟩ := x; exact ⟨_, e⟩
  | set S n => obtain ⟨o, _, _, _, e, _⟩ := x; exact ⟨_, e⟩
  | ins C dx fs => obtain ⟨_, _, _, e, _⟩ := x; exact ⟨_, e⟩
  | own y => exact x
  | xd fs => obtain ⟨_, ⟨_, _, _, e, _⟩, _⟩ := x; exact ⟨_, e⟩
  | rng lo hi => obtain ⟨_, _, _, e⟩ := x; exact ⟨_, e⟩
  | frz ob u => obtain ⟨e, _⟩ := x; exact ⟨_, e⟩
  | tbl ps => exact ⟨_, x⟩
  | met f y => exact ⟨_, x⟩
  | ext φ => obtain ⟨_, ⟨_, e⟩, _⟩ := x; exact ⟨_, e⟩
theorem HOk.none (x : HOk P w H h) (e : h.get? a = .none) : H a = .none := by
  cases q : H a with
  | none => rfl
  | some u => obtain ⟨_, e'⟩ := (x a u q).there; rw [e] at e'; cases e'
theorem funs_un {base : Heap} {fs : List Addr} (u : Un fs [] H H' h h') : ∀ {l : List Env}, (∀ b ∈ frs l, b ∈ fs ∧ H b = .none) → h.FunFrames base l → h'.FunFrames base l
  | [], _, _ => trivial
  | env :: r, hs, hl => by
    obtain ⟨hk, ⟨L, o, hf, hn, ho, hd⟩, hr⟩ := hl
    have hL := hs L (by unfold frs; rw [List.filterMap_cons, hf]; exact List.mem_cons_self)
    obtain ⟨sl, e⟩ := u.slot L o ho hL.2 hL.1 (by simp)
    exact ⟨hk, ⟨L, _, hf, hn, e, hd⟩, funs_un u (fun b hb => hs b (by unfold frs; rw [List.filterMap_cons, hf]; exact List.mem_cons_of_mem _ hb)) hr⟩
end
/-- an error's class, and whether its context is none -/
abbrev XCk := Value × Option Addr
/-- how an error's record stands: new, or with its traceback; g: the heap ahead of it -/
inductive XRec (g h : Heap) (H' : Hp) (a : Addr) (cls : XCk) : Bool → Prop
  | new (oe : Obj) (vs : Array Value) (he : h.get? a = some oe) (hc : oe.cls = cls.1) (hd : oe.data = .fields vs) (hdi : oe.dict = none ∧ (cls.2 = none → vs[2]? = some .none)) (hn : H' a = none) (hg : g.get? a = none) (h1 : vs[1]? = some .none) : XRec g h H' a cls true
  | old (oe : Obj) (vs : Array Value) (he : h.get? a = some oe) (hc : oe.cls = cls.1) (hd : oe.data = .fields vs) (hdi : oe.dict = none ∧ (cls.2 = none → vs[2]? = some .none)) (hn : H' a = none) (hg : g.get? a = none) (T : Addr) (oT : Obj) (ts : Array Value) (h1 : vs[1]? = some (.ref T)) (ht : T ≠ a) (hT : h.get? T = some oT)
      (hdT : oT.data = .fields ts) (h3 : ts[3]? = some .none) (hnT : H' T = none) (hgT : g.get? T = none) : XRec g h H' a cls false
  | fl (oe : Obj) (vs : Array Value) (he : h.get? a = some oe) (hc : oe.cls = cls.1) (hd : oe.data = .fields vs) (hdi : oe.dict = none ∧ (cls.2 = none → vs[2]? = some .none)) (hn : H' a = none) (hg : g.get? a = none) (T : Addr) (oT : Obj) (ts : Array Value) (h1 : vs[1]? = some (.ref T)) (ht : T ≠ a) (hT : h.get? T = some oT)
      (hdT : oT.data = .fields ts) (f : Addr) (h3 : ts[3]? = some (rawInt f)) (hnT : H' T = none) (hgT : g.get? T = none) : XRec g h H' a cls true
theorem XRec.base {g h : Heap} {H' : Hp} {a : Addr} {cls : XCk} {b : Bool} (x : XRec g h H' a cls b) : H' a = none ∧ g.get? a = none := by
  cases x with
  | new oe vs he hc hd hdi hn hg => exact ⟨hn, hg⟩
  | old oe vs he hc hd hdi hn hg => exact ⟨hn, hg⟩
  | fl oe vs he hc hd hdi hn hg => exact ⟨hn, hg⟩
structure EX (P : Program) (w : World) (st : List Env) (H : Hp) (s : Shared) (new : Bool) (cls : XCk) (a : Addr) (H' : Hp) (s' : Shared) : Prop where
  os : s'.os = s.os
  bare : AllBare s'.gens
  un : Un (frs st) [] H H' s.heap s'.heap
  hok : HOk P w H' s'.heap
  rc : XRec s.heap s'.heap H' a cls new
def CX1 (P : Program) (w : World) : CXT := fun outer H s E e s' => ∃ a cls H', e = .ref a ∧ EX P w outer H s false cls a H' s' ∧ E cls.1 cls.2 H'
section
variable {X : Cx} {pins : List (Addr × Obj)} {σ : St} {H H' : Hp} {s s₁ : Shared} {cls : XCk} {a : Addr} {new : Bool}
/-- behind an error, in the same def -/
theorem EX.inv (I : Inv X pins σ H s) (x : EX X.prog X.w X.stack H s new cls a H' s₁) : Inv X pins σ H' s₁ := I.call' x.os x.un x.hok x.bare fun b hb => by simp at hb
/-- what a frame's note leaves -/
structure Noted (fs : List Addr) (e : Addr) (oe : Obj) (L : Addr) (h h₃ : Heap) : Prop where
  stay : ∀ b o, b ∉ fs → b ≠ e → h.get? b = some o → h₃.get? b = some o
  slot : ∀ b ∈ fs, ∀ o, h.get? b = some o → ∃ sl, h₃.get? b = some { o with slots := sl }
  tr : ∃ T oT ts, h.objs.size ≤ T ∧ h₃.get? e = some (oe.mapFields fun z => z.setIfInBounds 1 (.ref T)) ∧ h₃.get? T = some oT ∧ oT.data = .fields ts ∧ ts[3]? = some (rawInt L)
theorem x_entry {M : Model} {A : Around} {E : Value → Shared → Prop} {s : Shared} {base : Heap} {env : Env} {outer : List Env} {L e : Addr} {oe : Obj} {vs : Array Value} {head : Value} {hadNext : Bool} {Q : Unit → Shared → Prop}
    (hfr : A.frames = some (env :: outer)) (hl : s.heap.FunFrames base (env :: outer)) (hf : env.frame = some L) (he : s.heap.get? e = some oe) (hd : oe.data = .fields vs) (hsz : 1 < vs.size) (h : ∀ h₃, Noted (frs (env :: outer)) e oe L s.heap h₃ → Q () { s with heap := h₃ }) :
    wpAny M A (do let a ← frameOf env; let pl ← entryPlaceOf L hadNext; let b ← EntryCells.newEntry head a .none (rawInt L) .none pl; setField (.ref e) 1 b) Q E s := by
  have hene : e ∉ frs (env :: outer) := fun hm => by
    obtain ⟨_, o, ho, hnf⟩ := hl.mem hm
    rw [he] at ho; cases ho; exact hnf vs hd
  refine wpAny_bind (wpAny_frameOf_fun hfr hl hf fun h₁ hs₁ => wpAny_bind (wpAny_entryPlaceOf fun pl hpl => ?_))
  unfold EntryCells.newEntry newFields
  refine wpAny_bind (wpAny_newObj_type ?_ (hpl.sizeOk5 _ _ _ _ _))
  generalize htb : ({ cls := .type "traceback", dict := none, data := .fields ([head, .ref L, .none, rawInt L, .none] ++ (if pl.isEmpty then List.replicate 6 Value.none else pl)).toArray } : Obj) = tb
  have he₁ : h₁.get? e = some oe := (hs₁.2.1 e hene).trans he
  have he₂ : (h₁.push tb).get? e = some oe := Heap.get?_push_of_some _ he₁
  have nTe : h₁.objs.size ≠ e := Nat.ne_of_gt (Heap.lt_size he₁)
  have dtb : tb.data = .fields ([head, .ref L, .none, rawInt L, .none] ++ (if pl.isEmpty then List.replicate 6 Value.none else pl)).toArray := by rw [← htb]
  have htbf : tb.isFreed = false := Obj.isFreed_of_fields dtb
  have hd₃ := Obj.data_mapFields hd fun z => z.setIfInBounds 1 (Value.ref h₁.objs.size)
  have he₃ := Heap.get?_update_self (Obj.mapFields fun z => z.setIfInBounds 1 (Value.ref h₁.objs.size)) he₂ (Obj.isFreed_of_fields hd₃)
  have hT₃ := (Heap.get?_update_other (h₁.push tb) (Obj.mapFields fun z => z.setIfInBounds 1 (Value.ref h₁.objs.size)) (Ne.symm nTe)).trans (Heap.get?_push_size h₁ htbf)
  refine wpAny_setField he₂ hd hsz (h _ ⟨fun b o hb hbe hbo => ?_, fun b hb o hbo => ?_, ?_⟩)
  · have hb1 : h₁.get? b = some o := (hs₁.2.1 b hb).trans hbo
    rw [Heap.get?_update_other _ _ (Ne.symm hbe)]
    exact Heap.get?_push_of_some _ hb1
  · obtain ⟨sl, hb1⟩ := hs₁.2.2 b o hbo
    refine ⟨sl, ?_⟩
    rw [Heap.get?_update_other _ _ (fun q => hene (by rw [q]; exact hb))]
    exact Heap.get?_push_of_some _ hb1
  · exact ⟨h₁.objs.size, tb, _, Nat.le_of_eq hs₁.1.symm, he₃, hT₃, dtb, by simp⟩
theorem EX.fin (I : Inv X pins σ H s) (x : EX X.prog X.w X.stack H s new cls a H' s₁) {oe : Obj} {vs : Array Value} (he : s₁.heap.get? a = some oe) (hc : oe.cls = cls.1) (hd : oe.data = .fields vs) (hdi : oe.dict = none ∧ (cls.2 = none → vs[2]? = some .none)) (hv : 1 < vs.size) {T0 : Option Addr}
    (hT0 : ∀ T, T0 = some T → H' T = none ∧ s.heap.get? T = none) {g h₃ : Heap} (hg : ∀ b o, (∀ T, T0 = some T → b ≠ T) → s₁.heap.get? b = some o → g.get? b = some o) (hgf : ∀ b ∈ frs X.stack, ∀ o, s₁.heap.get? b = some o → g.get? b = some o) (hgs : s₁.heap.objs.size ≤ g.objs.size)
    (hge : g.get? a = some oe) {L : Addr} (nt : Noted (frs X.stack) a oe L g h₃) : EX X.prog X.w X.stack H s true cls a H' { s₁ with heap := h₃ } := by
  obtain ⟨stay, slot, T, oT, ts, hTs, heT, hT, hdT, h3⟩ := nt
  obtain ⟨b1, b2⟩ := x.rc.base
  have frm : ∀ b ∈ frs X.stack, ∀ o, s.heap.get? b = some o → ∃ sl, h₃.get? b = some { o with slots := sl } := fun b hb o e => by
    obtain ⟨sl, e1⟩ := x.un.slot b o e (I.stkFree b hb) hb (by simp)
    obtain ⟨sl', e2⟩ := slot b hb _ (hgf b hb _ e1)
    exact ⟨sl', e2⟩
  have frn : ∀ b ∈ frs X.stack, H' b = none := fun b hb => by
    obtain ⟨_, o, ho, _⟩ := I.stack.mem hb
    exact x.un.free b o ho (I.stkFree b hb) (by simp)
  refine ⟨x.os, x.bare, ⟨fun b o e n hb _ => ?_, fun b o e n hb _ => frm b hb o e, x.un.free, fun b o e _ => ?_, x.un.tups, x.un.frzs, x.un.tbls⟩, fun b ob e => ?_, ?_⟩
  · refine stay b o hb (fun q => by rw [q, b2] at e; cases e) (hg b o (fun T hT q => by rw [q, (hT0 T hT).2] at e; cases e) (x.un.keep b o e n hb (by simp)))
  · by_cases hm : b ∈ frs X.stack
    · obtain ⟨sl, e2⟩ := frm b hm o e
      exact ⟨_, e2⟩
    · obtain ⟨o', e1⟩ := x.un.there b o e (by simp)
      exact ⟨o', stay b o' hm (fun q => by rw [q, b2] at e; cases e) (hg b o' (fun T hT q => by rw [q, (hT0 T hT).2] at e; cases e) e1)⟩
  · refine (x.hok b ob e).stay (fun c u hc q => ?_) (fun _ q => q) fun _ _ q => q
    have tr : ∃ v, H' c = some v := by
      rcases hc with rfl | hc
      · exact ⟨_, e⟩
      · exact ⟨_, hc⟩
    obtain ⟨v, tr⟩ := tr
    refine stay c u (fun hm => ?_) (fun z => ?_) (hg c u (fun T hT z => ?_) q)
    · rw [frn c hm] at tr; cases tr
    · rw [z, b1] at tr; cases tr
    · rw [z, (hT0 T hT).1] at tr; cases tr
  · have hTn : s₁.heap.get? T = none := Heap.get?_none_of_le (Nat.le_trans hgs hTs)
    have hTa : T ≠ a := fun z => by rw [z, he] at hTn; cases hTn
    refine .fl _ _ heT ((Obj.cls_mapFields ..).trans hc) (Obj.data_mapFields hd _) ?_ b1 b2 T oT ts (by simp [hv]) hTa hT hdT L h3 (x.hok.none hTn) ?_
    · refine ⟨?_, ?_⟩
      · obtain ⟨c0, d0, dt, sl⟩ := oe
        have hdi1 := hdi.1
        dsimp only at hd hdi1
        subst hd hdi1
        rfl
      · intro z
        rw [Array.getElem?_setIfInBounds]
        simp [hdi.2 z]
    · cases q : s.heap.get? T with
      | none => rfl
      | some o => obtain ⟨o', e2⟩ := x.un.there T o q (by simp); rw [hTn] at e2; cases e2
/-- what lies at the traceback alone is changed -/
theorem EX.upT {P : Program} {w : World} {st : List Env} {new' : Bool} (x : EX P w st H s new cls a H' s₁) {T : Addr} {h₃ : Heap} (hk : ∀ b, b ≠ T → h₃.get? b = s₁.heap.get? b) (ho : ∃ o, h₃.get? T = some o) (hnT : H' T = none) (hgT : s.heap.get? T = none) (rc : XRec s.heap h₃ H' a cls new') : EX P w st H s new' cls a H' { s₁ with heap := h₃ } := by
  have nT : ∀ {b o}, s.heap.get? b = some o → b ≠ T := fun {b o} e z => by rw [z, hgT] at e; cases e
  refine ⟨x.os, x.bare, ⟨fun b o e n hb hx => (hk b (nT e)).trans (x.un.keep b o e n hb hx), fun b o e n hb hx => ?_, x.un.free, fun b o e hx => ?_, x.un.tups, x.un.frzs, x.un.tbls⟩, fun b ob e => ?_, rc⟩
  · obtain ⟨sl, e1⟩ := x.un.slot b o e n hb hx
    exact ⟨sl, (hk b (nT e)).trans e1⟩
  · obtain ⟨o', e1⟩ := x.un.there b o e hx
    exact ⟨o', (hk b (nT e)).trans e1⟩
  · refine (x.hok b ob e).stay (fun c u hc q => (hk c fun z => ?_).trans q) (fun _ q => q) fun _ _ q => q
    rcases hc with rfl | hc
    · rw [z, hnT] at e; cases e
    · rw [z, hnT] at hc; cases hc
/-- the frame is noted in the error's traceback -/
theorem note_fl {M : Model} {A : Around} {Q : Unit → Shared → Prop} {E : Value → Shared → Prop} {cenv : Env} (I : Inv X pins σ H s) (hst : X.stack = X.env :: X.outer) (hf : X.env.frame = some X.env.locals) (hA : A.frames = some X.stack) (hcf : cenv.frame = X.env.frame) (x : EX X.prog X.w X.stack H s new cls a H' s₁)
    (h : ∀ h₃, EX X.prog X.w X.stack H s true cls a H' { s₁ with heap := h₃ } → (∃ vs oe T oT ts, ∃ f : Addr, h₃.get? a = some oe ∧ oe.data = .fields vs ∧ vs[1]? = some (.ref T) ∧ T ≠ a ∧ h₃.get? T = some oT ∧ oT.data = .fields ts ∧ ts[3]? = some (rawInt f) ∧ H' T = none ∧ s.heap.get? T = none) → Q () { s₁ with heap := h₃ }) : wpAny M A (noteFrame (.ref a) cenv) Q E s₁ := by
  have hfun : s₁.heap.FunFrames X.base X.stack := funs_un x.un (fun b hb => ⟨hb, I.stkFree b hb⟩) I.stack
  have efr : PySem.frameOf cenv = PySem.frameOf X.env := by unfold PySem.frameOf; rw [hcf]
  have rc := x.rc
  have h' : ∀ h₃, EX X.prog X.w X.stack H s true cls a H' { s₁ with heap := h₃ } → (∀ oe vs, h₃.get? a = some oe → oe.data = .fields vs → vs[1]? ≠ some .none) → Q () { s₁ with heap := h₃ } := fun h₃ x3 hne => by
    refine h h₃ x3 ?_
    cases x3.rc with
    | new oe vs he hc hd hdi hn hg h1 => exact absurd h1 (hne oe vs he hd)
    | fl oe vs he hc hd hdi hn hg T oT ts h1 ht hT hdT f h3 hnT hgT => exact ⟨vs, oe, T, oT, ts, f, he, hd, h1, ht, hT, hdT, h3, hnT, hgT⟩
  have hne : ∀ {h₃ : Heap} {oe : Obj} {T : Addr} {vs : Array Value}, oe.data = .fields vs → h₃.get? a = some (oe.mapFields fun z => z.setIfInBounds 1 (.ref T)) → ∀ oe' vs', h₃.get? a = some oe' → oe'.data = .fields vs' → vs'[1]? ≠ some .none := fun {h₃ oe T vs} hd e oe' vs' e' hd' z => by
    rw [e] at e'; cases e'
    have q := Obj.data_mapFields hd fun z => z.setIfInBounds 1 (Value.ref T)
    rw [hd'] at q
    cases q
    rw [Array.getElem?_setIfInBounds] at z
    split at z
    · split at z <;> cases z
    · rename_i z0; exact z0 rfl
  have over : ∀ {oe : Obj} {vs : Array Value} (_ : s₁.heap.get? a = some oe) (_ : oe.cls = cls.1) (_ : oe.data = .fields vs) (_ : oe.dict = none ∧ (cls.2 = none → vs[2]? = some .none)) {T : Addr} {oT : Obj} {ts : Array Value} {v3 : Value} (_ : vs[1]? = some (.ref T)) (_ : T ≠ a) (_ : s₁.heap.get? T = some oT) (_ : oT.data = .fields ts) (_ : ts[3]? = some v3) (_ : (v3 == rawInt X.env.locals) = false) (_ : H' T = none) (_ : s.heap.get? T = none), wpAny M A (noteFrame (.ref a) cenv) Q E s₁ := by
    intro oe vs he hc hd hdi T oT ts v3 h1 ht hT hdT h3 hv3 hnT hgT
    unfold noteFrame
    simp only [hcf, hf, efr]
    refine wpAny_bind (wpAny_field he hd h1 ?_)
    rw [if_pos (show (Value.ref T != Value.none) = true by simp)]
    refine wpAny_bind (wpAny_field hT hdT h3 ?_)
    rw [if_neg (show ¬ ((v3 == rawInt X.env.locals) = true) by rw [hv3]; exact Bool.false_ne_true)]
    refine wpAny_bind (wpAny_setField hT hdT (Array.getElem?_eq_some_iff.mp h3).1 ?_)
    have oth : ∀ c, c ≠ T → (s₁.heap.update T (Obj.mapFields fun z => z.setIfInBounds 3 Value.none)).get? c = s₁.heap.get? c := fun c hc => Heap.get?_update_other _ _ (Ne.symm hc)
    have nrec : ∀ c o, s₁.heap.get? c = some o → (∀ z, o.data ≠ .fields z) → c ≠ T := fun c o hc hnf q => by rw [q, hT] at hc; cases hc; exact hnf ts hdT
    have nfr : ∀ c ∈ frs X.stack, c ≠ T := fun c hc q => by
      obtain ⟨_, o, ho, hnf⟩ := hfun.mem hc
      exact nrec c o ho hnf q
    have hfun2 : (s₁.heap.update T (Obj.mapFields fun z => z.setIfInBounds 3 Value.none)).FunFrames X.base X.stack := hfun.of_keeps fun c o hc hnf => ⟨o, (oth c (nrec c o hc hnf)).trans hc, rfl⟩
    rw [hst] at hA hfun2
    have hv := (Array.getElem?_eq_some_iff.mp h1).1
    refine x_entry hA hfun2 hf ((oth a (Ne.symm ht)).trans he) hd hv fun h₃ nt => ?_
    have nt' := nt
    obtain ⟨_, _, T', _, _, _, heT, _⟩ := nt'
    refine h' h₃ (x.fin I he hc hd hdi hv (T0 := some T) (fun T' z => by cases z; exact ⟨hnT, hgT⟩) (g := s₁.heap.update T (Obj.mapFields fun z => z.setIfInBounds 3 Value.none)) (fun c o n e => (oth c (n T rfl)).trans e) (fun c hc o e => (oth c (nfr c hc)).trans e) (Nat.le_of_eq (Heap.size_after_update ..).symm) ((oth a (Ne.symm ht)).trans he) (L := X.env.locals) ?_) (hne hd heT)
    rw [hst]
    exact nt
  cases rc with
  | new oe vs he hc hd hdi hn hg h1 =>
    unfold noteFrame
    simp only [hcf, hf, efr]
    refine wpAny_bind (wpAny_field he hd h1 ?_)
    rw [if_neg (by decide)]
    rw [hst] at hA hfun
    refine x_entry hA hfun hf he hd (Array.getElem?_eq_some_iff.mp h1).1 fun h₃ nt => ?_
    have nt' := nt
    obtain ⟨_, _, T', _, _, _, heT, _⟩ := nt'
    refine h' h₃ (x.fin I he hc hd hdi (Array.getElem?_eq_some_iff.mp h1).1 (T0 := none) (fun _ z => nomatch z) (g := s₁.heap) (fun _ _ _ e => e) (fun _ _ _ e => e) (Nat.le_refl _) he (L := X.env.locals) ?_) (hne hd heT)
    rw [hst]
    exact nt
  | old oe vs he hc hd hdi hn hg T oT ts h1 ht hT hdT h3 hnT hgT => exact over he hc hd hdi h1 ht hT hdT h3 (by simp [rawInt]) hnT hgT
  | fl oe vs he hc hd hdi hn hg T oT ts h1 ht hT hdT f h3 hnT hgT =>
    cases q : (rawInt f == rawInt X.env.locals) with
    | false => exact over he hc hd hdi h1 ht hT hdT h3 q hnT hgT
    | true =>
      unfold noteFrame
      simp only [hcf, hf, efr]
      refine wpAny_bind (wpAny_field he hd h1 ?_)
      rw [if_pos (show (Value.ref T != Value.none) = true by simp)]
      refine wpAny_bind (wpAny_field hT hdT h3 ?_)
      rw [if_pos q]
      exact wpAny_pure (h _ x ⟨vs, oe, T, oT, ts, f, he, hd, h1, ht, hT, hdT, h3, hnT, hgT⟩)
/-- the error's record with another word of its flight -/
theorem EX.flight {fl : Option Addr} (x : EX X.prog X.w X.stack H s true cls a H' s₁) {vs ts : Array Value} {oe oT : Obj} {T f : Addr} (he : s₁.heap.get? a = some oe) (hd : oe.data = .fields vs) (h1 : vs[1]? = some (.ref T)) (ht : T ≠ a) (hT : s₁.heap.get? T = some oT) (hdT : oT.data = .fields ts) (h3 : ts[3]? = some (rawInt f)) (hnT : H' T = none) (hgT : s.heap.get? T = none) :
    EX X.prog X.w X.stack H s fl.isSome cls a H' { s₁ with heap := s₁.heap.update T (Obj.mapFields fun z => z.setIfInBounds 3 (fl.elim .none fun f => rawInt f)) } := by
  have dT := Obj.data_mapFields hdT fun z => z.setIfInBounds 3 (fl.elim .none fun f => rawInt f)
  have oT' := Heap.get?_update_self (Obj.mapFields fun z => z.setIfInBounds 3 (fl.elim .none fun f => rawInt f)) hT (Obj.isFreed_of_fields dT)
  have oth : ∀ b, b ≠ T → (s₁.heap.update T (Obj.mapFields fun z => z.setIfInBounds 3 (fl.elim .none fun f => rawInt f))).get? b = s₁.heap.get? b := fun b hb => Heap.get?_update_other _ _ (Ne.symm hb)
  have h3' : (ts.setIfInBounds 3 (fl.elim .none fun f => rawInt f))[3]? = some (fl.elim .none fun f => rawInt f) := Array.getElem?_setIfInBounds_self_of_lt (Array.getElem?_eq_some_iff.mp h3).1
  refine x.upT oth ⟨_, oT'⟩ hnT hgT ?_
  have base : oe.cls = cls.1 ∧ (oe.dict = none ∧ (cls.2 = none → vs[2]? = some .none)) ∧ H' a = none ∧ s.heap.get? a = none := by
    cases x.rc with
    | new oe' vs' he' hc hd' hdi hn hg h1' => rw [he] at he'; cases he'; rw [hd] at hd'; cases hd'; exact ⟨hc, hdi, hn, hg⟩
    | fl oe' vs' he' hc hd' hdi hn hg => rw [he] at he'; cases he'; rw [hd] at hd'; cases hd'; exact ⟨hc, hdi, hn, hg⟩
  obtain ⟨hc, hdi, hn, hg⟩ := base
  cases fl with
  | none => exact .old oe vs ((oth a (Ne.symm ht)).trans he) hc hd hdi hn hg T _ _ h1 ht oT' dT h3' hnT hgT
  | some f' => exact .fl oe vs ((oth a (Ne.symm ht)).trans he) hc hd hdi hn hg T _ _ h1 ht oT' dT f' h3' hnT hgT
theorem note_ex {M : Model} {A : Around} {Q : Unit → Shared → Prop} {E : Value → Shared → Prop} (I : Inv X pins σ H s) (hst : X.stack = X.env :: X.outer) (hf : X.env.frame = some X.env.locals) (hA : A.frames = some X.stack) (x : EX X.prog X.w X.stack H s new cls a H' s₁)
    (h : ∀ h₃, EX X.prog X.w X.stack H s false cls a H' { s₁ with heap := h₃ } → Q () { s₁ with heap := h₃ }) : wpAny M A (noteFrame (.ref a) X.env) (fun _ s₂ => wpAny M A (setFlight (.ref a) none) Q E s₂) E s₁ := by
  refine note_fl I hst hf hA rfl x fun h₃ x3 ⟨vs, oe, T, oT, ts, f, he, hd, h1, ht, hT, hdT, h3, hnT, hgT⟩ => ?_
  unfold setFlight
  refine wpAny_bind (wpAny_field he hd h1 ?_)
  rw [if_pos (show (Value.ref T != Value.none) = true by simp)]
  exact wpAny_setField hT hdT (Array.getElem?_eq_some_iff.mp h3).1 (h _ (x3.flight (fl := none) he hd h1 ht hT hdT h3 hnT hgT))
/-- an error leaves a def -/
theorem leave_ex {M : Model} {A : Around} {Q : Unit → Shared → Prop} {E : Value → Shared → Prop} (I : Inv X pins σ H s) (hst : X.stack = X.env :: X.outer) (hf : X.env.frame = some X.env.locals) (hA : A.frames = some X.stack) (x : EX X.prog X.w X.stack H s new cls a H' s₁)
    (h : ∀ h₃, EX X.prog X.w X.stack H s false cls a H' { s₁ with heap := h₃ } → Q () { s₁ with heap := h₃ }) : wpAny M A (leaving X.env (.ref a)) Q E s₁ := by
  unfold leaving
  exact wpAny_bind (note_ex I hst hf hA x h)
/-- as the callers see it -/
theorem EX.out (I : Inv X pins σ H s) (hex : X.ex = []) (x : EX X.prog X.w X.stack H s false cls a H' s₁) : EX X.prog X.w X.outer X.H₀ X.s₀ false cls a H' s₁ := by
  have base := I.base
  rw [hex] at base
  have gone : ∀ {b : Addr}, s.heap.get? b = none → X.s₀.heap.get? b = none := fun {b} e => by
    cases q : X.s₀.heap.get? b with
    | none => rfl
    | some o => obtain ⟨o', e2⟩ := base.there b o q (by simp); rw [e] at e2; cases e2
  have nst : ∀ {b : Addr} {o : Obj}, X.s₀.heap.get? b = some o → b ∉ X.fs → b ∉ frs X.stack := fun {b o} e n hm => by
    rcases List.mem_cons.mp (I.stkSub b hm) with z | z
    · exact absurd (Nat.lt_of_lt_of_le (Heap.lt_size e) I.ok.above) (by rw [z]; exact Nat.lt_irrefl _)
    · exact n z
  refine ⟨x.os.trans I.os, x.bare, ⟨fun b o e n hb _ => x.un.keep b o (base.keep b o e n hb (by simp)) (base.free b o e n (by simp)) (nst e hb) (by simp), fun b o e n hb _ => ?_, fun b o e n _ => ?_, fun b o e _ => ?_, fun b xs e => x.un.tups b xs (base.tups b xs e), fun b o u e => x.un.frzs b o u (base.frzs b o u e), fun b ps e => ?_⟩, x.hok, ?_⟩
  · obtain ⟨sl, e1⟩ := base.slot b o e n hb (by simp)
    obtain ⟨sl', e2⟩ := x.un.any e1 (base.free b o e n (by simp)) (by simp)
    exact ⟨sl', e2⟩
  · obtain ⟨sl, e1⟩ := base.any e n (by simp)
    exact x.un.free b _ e1 (base.free b o e n (by simp)) (by simp)
  · obtain ⟨o', e1⟩ := base.there b o e (by simp)
    exact x.un.there b o' e1 (by simp)
  · obtain ⟨m1, e1⟩ := base.tbls b ps e
    obtain ⟨m2, e2⟩ := x.un.tbls b _ e1
    exact ⟨m1 ++ m2, by rw [e2, Array.append_assoc]⟩
  · have rc := x.rc
    cases rc with
    | old oe vs he hc hd hdi hn hg T oT ts h1 ht hT hdT h3 hnT hgT => exact .old oe vs he hc hd hdi hn (gone hg) T oT ts h1 ht hT hdT h3 hnT (gone hgT)
end
/-- what a context wishes of errors -/
structure Wish (X : Cx) (E : XK) : Prop where
  go : ∀ (pins : List (Addr × Obj)) (σ : St) (H : Hp) (s : Shared) (new : Bool) (cls : XCk) (a : Addr) (H' : Hp) (s₁ : Shared), Inv X pins σ H s → EX X.prog X.w X.stack H s new cls a H' s₁ → E cls.1 cls.2 H' → X.xe (.ref a) s₁
theorem Wish.pass {X : Cx} {E : XK} (W : Wish X E) : Passes (CX1 X.prog X.w) X E := fun pins σ H s e s' I ⟨a, cls, H', e1, x, q⟩ => by
  subst e1
  exact W.go pins σ H s false cls a H' s' I x q
/-- a def's body -/
theorem wish_def {P : Program} {w : World} {K : PySem.W.Frag} {mg : Str → Option Value} {base : Heap} {N : List Str} {qual : Str} {scope : Scope} {f : Addr} {cd : Value} {A : Around} {outer : List Env} {s : Shared} {H : Hp} {E : XK} : Wish (cxOf (CX1 P w) P w K mg base N qual scope f cd A outer s H E) E where
  go := fun pins σ H1 s1 new cls a H' s₁ I x q => by
    show wpAny (model P w) (A.deeper (envOfC qual scope s.heap.objs.size f cd)) (leaving (envOfC qual scope s.heap.objs.size f cd) (.ref a)) _ _ s₁
    refine leave_ex I rfl rfl I.ok.frames x fun h₃ x' => ⟨a, cls, H', rfl, x'.out I rfl, q⟩
end L2
set_option Elab.async false
set_option linter.all false
set_option maxRecDepth 100000
namespace L2
open PySem PySem.Spec PyProof.Rows
/-- an own class of errors, as it lies -/
theorem own_at {K : PySem.W.Frag} {h : Heap} {C : Addr} {bmB : List Value} {newId : String} (X : K.In h) (q : PySem.W.excIn K C bmB newId = true) :
    ∃ bm N nm q bs hdct sn sub ab col dd k0 k1 k2 k3 k5 mN, h.get? C = some (excClassObj nm q C N bs bm hdct sn sub ab col dd k0 k1 k2 k3 k5 newId) ∧ h.Ns N mN ∧ mN "__init__" = none ∧ OwnTail h bmB bm := by
  unfold PySem.W.excIn at q
  split at q
  · rename_i dd cd sl ho
    split at q
    · rename_i C' bm k0 k1 k2 k3 n k5 hm hs
      simp only [Bool.and_eq_true, beq_iff_eq, Bool.not_eq_true'] at q
      obtain ⟨⟨⟨⟨⟨rfl, rfl⟩, hdel⟩, ht⟩, hok⟩, hni⟩ := q
      obtain ⟨nm, bs, mro, ns, qn, hd, sn, sub, ab, col, del⟩ := cd
      dsimp only at hm hdel hok hni
      subst hm hdel
      have hsl : sl = #[k0, k1, k2, k3, some (.builtin n), k5] := by obtain ⟨l⟩ := sl; simp only at hs; rw [hs]
      subst hsl
      exact ⟨bm, ns, nm, qn, bs, hd, sn, sub, ab, col, dd, k0, k1, k2, k3, k5, _, X _ _ ho, .of_isNs (PySem.W.isNs_of_in X hok), PySem.W.nsMap_none_of_in X hok hni, PySem.W.tail_of_in X ht⟩
    · cases q
  · cases q
abbrev bmV : List Value := [.type "ValueError", .type "Exception", .type "BaseException", .type "object"]
/-- an own class of errors over ValueError, by its name -/
structure XCls (K : PySem.W.Frag) (mg : Str → Option Value) (x : Str) (C : Addr) : Prop where
  m : mg x = some (.ref C)
  ok : PySem.W.excIn K C bmV "ValueError.__new__" = true
/-- raise C(..) -/
inductive tRaise (t : TA) (cls : Value) (E : XK) (D : Ends) (σ : St) (H : Hp) : Prop
  | mk (h : t σ H fun vs H1 => vs.length ≤ sizeLine ∧ E cls none H1) : tRaise t cls E D σ H
section
variable {X : Cx} {E : XK} {x : Str} {C : Addr} {e₀ : Expr} {rest : List Expr} {t : TA} {np cpos pos : Pos}
theorem ps_raise (W : Wish X E) (hc : X.calm = true) (hC : XCls X.K X.mg x C) (ha : PA X (e₀ :: rest) t) (hg : Gl X x := by rfl) (he : starEach (e₀ :: rest) X.env = (false, eval e₀ X.env) :: starEach rest X.env := by rfl)
    (hpl : (backTo cpos (starEach rest X.env)).any (·.1) = false := by rfl) (hdb : (x == ("__debug__" : Str)) = false := by decide) : PS X (.Raise (some (.Call (.Name x np) (e₀ :: rest) [] cpos)) none pos) (tRaise t (.ref C) E) := by
  refine ⟨?_⟩
  intro pins s σ H D I h
  obtain ⟨h⟩ := h
  obtain ⟨bm, N, nm, q, bs, hdct, sn, sub, ab, col, dd, k0, k1, k2, k3, k5, mN, hCo, hN, hni, T⟩ := own_at I.mod.kin hC.ok
  refine wpAny_Raise_call_subT (C := C) (nm := nm) (q := q) (N := N) (bs := bs) (bm := bm) (hdct := hdct) (sn := sn) (sub := sub) (ab := ab) (col := col) (dd := dd) (k0 := k0) (k1 := k1) (k2 := k2) (k3 := k3) (k5 := k5) PySem.F.excBase_ValueError (mN := mN)
    (T.hasType PySem.F.excBase_ValueError.hasBase) (I.ok.hd hc) (by rw [he]; show (false || (backTo cpos (starEach rest X.env)).any (·.1)) = false; rw [hpl]; rfl) hni (ld_glob I hg hC.m ⟨rfl, ?_⟩ hdb)
  have hw := ha cpos pins s σ H _ I h
  rw [he] at hw ⊢
  refine Calls.evalArgs_plain (wpAny_mono hw (fun us s₂ h₂ => ?_) fun _ _ y => y)
  obtain ⟨vs, H1, I1, r, hl, qe⟩ := h₂
  refine ⟨rfl, by rw [← r.length]; exact hl, I1.bk _ _ hCo, hN.keeps I1.bk, T.keeps I1.bk, fun h' e hm => ?_⟩
  obtain ⟨tt, he', _, _⟩ := hm.there
  exact W.go pins σ H1 s₂ true (.ref C, none) e H1 { s₂ with heap := h' } I1 ⟨rfl, I1.bare, Un.kept hm.keeps, I1.hok.kept hm.keeps, .new _ _ he' rfl rfl ⟨rfl, fun _ => rfl⟩ (I1.hok.none hm.new) hm.new rfl⟩ qe
end
/-- a def from which errors may leave -/
def CanX (P : Program) (w : World) (K : PySem.W.Frag) (mg : Str → Option Value) (base : Heap) (k : Nat) (x : Str) (ps : List Str) (sp : Sp) : Prop :=
  ∃ f fd, FnOk P w K mg base (CX1 P w) k f fd ps sp ∧ mg x = some (.ref f) ∧ PySem.W.keepIn K (.ref f) = true ∧ Binds K fd ps []
section
variable {P : Program} {w : World} {K : PySem.W.Frag} {mg : Str → Option Value} {base : Heap}
theorem fn_canX {x : Str} {st : Stmt} {N ps : List Str} {k : Nat} {sp : Sp} (h : ∃ f fd, Fn K mg x st ps f fd) (S : FnScope N ps (defScope st)) (len : ∀ vs H Q E, sp vs H Q E → vs.length = ps.length)
    (hbody : ∀ (f : Addr) (cdv : Value) (A : Around) (outer : List Env) (s : Shared) (H : Hp) (vs : List V) (Q : VK) (E : XK), Room k (A.deeper (envOfC x (defScope st) s.heap.objs.size f cdv)) → Wish (cxOf (CX1 P w) P w K mg base N x (defScope st) f cdv A outer s H E) E → sp vs H Q E →
      ∃ t, PSs (cxOf (CX1 P w) P w K mg base N x (defScope st) f cdv A outer s H E) (defBody st) t ∧ t { nx := fun _ H' => Q .non H', rt := Q } (start N vs) H) : CanX P w K mg base (k + 1) x ps sp := by
  obtain ⟨f, fd, F⟩ := h
  obtain ⟨oc, od, kV, doc, pm, an, cdv, ct, osl, e, lk, hcd⟩ := F.fn.ex
  refine ⟨f, fd, ?_, F.m, F.fn.kp, F.b⟩
  subst e
  exact fn_of lk hcd S len fun A outer s H vs Q E hr hsp => hbody f cdv A outer s H vs Q E hr wish_def hsp
end
section
variable {X : Cx} {k k' : Nat} {x : Str} {ps : List Str} {sp : Sp} {p pos : Pos} {e : Expr} {es : List Expr} {t : TA} {E : XK}
theorem pe_canX (h : CanX X.prog X.w X.K X.mg X.base k x ps sp) (W : Wish X E) (hr : Room k' X.A) (ha : PA X (e :: es) t) (hg : Gl X x := by rfl) (hk : k ≤ k' := by decide) (hdb : (x == ("__debug__" : Str)) = false := by decide)
    (hs : starEach (e :: es) X.env = (false, eval e X.env) :: starEach es X.env := by rfl) (hpl : (backTo pos (starEach es X.env)).any (·.1) = false := by rfl) : PE X (.Call (.Name x p) (e :: es) [] pos) (tCall sp [] E t) := by
  obtain ⟨f, fd, F, hm, kp, b⟩ := h
  exact pe_call F (hr.mono hk) hg hm kp b .nil W.pass ha hdb hs hpl
end
/-! ### try -/
abbrev Cx.tryC (X : Cx) (pn : List (Addr × Obj)) (xe : Value → Shared → Prop) : Cx := { X with pn := pn, xe := xe }
abbrev Cx.mark (X : Cx) (a : Addr) : Cx := { X with A := X.A.mark (some (.ref a)), calm := false, xe := fun _ _ => False }
section
variable {X : Cx} {pins pins2 : List (Addr × Obj)} {σ : St} {H : Hp} {s : Shared} {xe : Value → Shared → Prop} {a : Addr}
theorem Cx.Ok.tryC (ok : X.Ok) (pn : List (Addr × Obj)) (xe : Value → Shared → Prop) : (X.tryC pn xe).Ok :=
  ⟨ok.mod, ok.kind, ok.glob, ok.blt, ok.above, ok.inj, ok.has, ok.cab, ok.hd, ok.frames, ok.stk, ok.exf, ok.bs, ok.bsz, ok.noex, ok.exfs, ok.funs, ok.frf⟩
theorem Cx.Ok.untry {pn : List (Addr × Obj)} (ok : (X.tryC pn xe).Ok) : X.Ok :=
  ⟨ok.mod, ok.kind, ok.glob, ok.blt, ok.above, ok.inj, ok.has, ok.cab, ok.hd, ok.frames, ok.stk, ok.exf, ok.bs, ok.bsz, ok.noex, ok.exfs, ok.funs, ok.frf⟩
theorem Inv.tryC (I : Inv X pins σ H s) (xe : Value → Shared → Prop) : Inv (X.tryC (X.pn ++ pins) xe) [] σ H s :=
  ⟨I.ok.tryC _ _, I.os, I.bare, I.base, I.loc, I.cell, I.free, I.freeC, fun p hp => I.pin p (by simpa using hp), I.hok, I.len⟩
theorem Inv.untry (I : Inv (X.tryC (X.pn ++ pins) xe) pins2 σ H s) : Inv X pins σ H s :=
  ⟨I.ok.untry, I.os, I.bare, I.base, I.loc, I.cell, I.free, I.freeC, fun p hp => I.pin p (List.mem_append_left _ hp), I.hok, I.len⟩
theorem SP.untry {D : Ends} {f : Flow} {s' : Shared} (h : SP (X.tryC (X.pn ++ pins) xe) pins2 D f s') : SP X pins D f s' := by
  cases f with
  | next => obtain ⟨σ', H', I, q⟩ := h; exact ⟨σ', H', I.untry, q⟩
  | brk => obtain ⟨σ', H', I, q⟩ := h; exact ⟨σ', H', I.untry, q⟩
  | cont => obtain ⟨σ', H', I, q⟩ := h; exact ⟨σ', H', I.untry, q⟩
  | ret u => obtain ⟨v, σ', H', I, r, q⟩ := h; exact ⟨v, σ', H', I.untry, r, q⟩
theorem Inv.mark (I : Inv X pins σ H s) (a : Addr) : Inv (X.mark a) pins σ H s :=
  ⟨⟨I.ok.mod, I.ok.kind, I.ok.glob, I.ok.blt, I.ok.above, I.ok.inj, I.ok.has, I.ok.cab, (fun z => nomatch z), I.ok.frames, I.ok.stk, I.ok.exf, I.ok.bs, I.ok.bsz, I.ok.noex, I.ok.exfs, I.ok.funs, I.ok.frf⟩, I.os, I.bare, I.base, I.loc, I.cell, I.free, I.freeC, I.pin, I.hok, I.len⟩
theorem Inv.unmark (ok : X.Ok) (I : Inv (X.mark a) pins σ H s) : Inv X pins σ H s := ⟨ok, I.os, I.bare, I.base, I.loc, I.cell, I.free, I.freeC, I.pin, I.hok, I.len⟩
theorem SP.unmark (ok : X.Ok) {D : Ends} {f : Flow} {s' : Shared} (h : SP (X.mark a) pins D f s') : SP X pins D f s' := by
  cases f with
  | next => obtain ⟨σ', H', I, q⟩ := h; exact ⟨σ', H', I.unmark ok, q⟩
  | brk => obtain ⟨σ', H', I, q⟩ := h; exact ⟨σ', H', I.unmark ok, q⟩
  | cont => obtain ⟨σ', H', I, q⟩ := h; exact ⟨σ', H', I.unmark ok, q⟩
  | ret u => obtain ⟨v, σ', H', I, r, q⟩ := h; exact ⟨v, σ', H', I.unmark ok, r, q⟩
end
/-- the clauses of a try, at an error of that class; k: none where its context is none -/
def PHsK (X : Cx) (k : Option Addr) (hs : List ExceptHandler) (th : Value → TS) : Prop :=
  ∀ (pins : List (Addr × Obj)) (s : Shared) (σ : St) (H : Hp) (D : Ends) (a : Addr) (cls : Value) (g : Heap), Inv X pins σ H s → XRec g s.heap H a (cls, k) false → X.s₀.heap.get? a = none → (∀ p ∈ X.pn ++ pins, p.1 ≠ a) → th cls D σ H → wpAny (model X.prog X.w) X.A (handleBy (.ref a) X.env hs) (SP X pins D) X.xe s
abbrev PHs (X : Cx) (hs : List ExceptHandler) (th : Value → TS) : Prop := PHsK X none hs th
def onNone (k : Option Addr) (p : Prop) : Prop := match k with | none => p | some _ => False
def tTry (n : Nat) (t : XK → TS) (th : Value → TS) : TS := fun D σ H => t (fun cls k H' => onNone k (∀ σ' : St, σ'.length = n → th cls D σ' H')) D σ H
section
variable {X : Cx} {body : List Stmt} {h₀ : ExceptHandler} {hs : List ExceptHandler} {t : XK → TS} {th : Value → TS} {pos : Pos}
theorem ps_tryG {n : Nat} {E0 : Ends → XK} (hb : ∀ (pn : List (Addr × Obj)) (xe : Value → Shared → Prop) (E : XK), Wish (X.tryC pn xe) E → PSs (X.tryC pn xe) body (t E)) (hh : ∀ k, PHsK X k (h₀ :: hs) th ∨ ∀ D cls H', ¬ E0 D cls k H') (hE : ∀ D cls k H', E0 D cls k H' → ∀ σ' : St, σ'.length = n → th cls D σ' H') (hst : X.stack = X.env :: X.outer := by rfl) (hf : X.env.frame = some X.env.locals := by rfl) (hn : X.N.length = n := by rfl) (hex : X.ex = [] := by rfl) :
    PS X (.Try body (h₀ :: hs) [] [] pos) (fun D σ H => t (E0 D) D σ H) := by
  refine ⟨?_⟩
  intro pins s σ H D I h
  refine wpAny_Try_except (wpAny_mono (hb (X.pn ++ pins) (fun e s₁ => wpAny (model X.prog X.w) X.A (noteFrame e X.env) (fun _ s₂ => wpAny (model X.prog X.w) X.A (setFlight e none) (fun _ s₃ => wpAny (model X.prog X.w) X.A (handleBy e X.env (h₀ :: hs)) (SP X pins D) X.xe s₃) X.xe s₂) X.xe s₁) _ ⟨fun pins2 σ2 H2 s2 new cls a H' s₁ I2 x q => ?_⟩ [] s σ H D (I.tryC _) h) (fun f s₁ q => ?_) fun _ _ z => z)
  · have I2' : Inv X pins σ2 H2 s2 := I2.untry
    refine note_ex I2' hst hf I2'.ok.frames x fun h₃ x3 => ?_
    have I3 := x3.inv I2'
    have fr := x3.rc.base.2
    obtain ⟨cls, kk⟩ := cls
    refine ((hh kk).resolve_right fun z => z D cls H' q) pins _ σ2 H' D a cls s2.heap I3 x3.rc ?_ (fun p hp z => ?_) (hE D cls kk H' q σ2 (I3.len.trans hn))
    · cases e : X.s₀.heap.get? a with
      | none => rfl
      | some o => obtain ⟨o', e2⟩ := I2'.base.there a o e (by rw [hex]; simp); rw [fr] at e2; cases e2
    · have e := (I2'.pin p hp).1
      rw [z, fr] at e
      cases e
  · cases f with
    | next =>
      obtain ⟨σ', H', I', q'⟩ := q
      exact pss_nil pins s₁ σ' H' D I'.untry q'
    | ret v => exact q.untry
    | brk => exact q.untry
    | cont => exact q.untry
theorem ps_try {n : Nat} (hb : ∀ (pn : List (Addr × Obj)) (xe : Value → Shared → Prop) (E : XK), Wish (X.tryC pn xe) E → PSs (X.tryC pn xe) body (t E)) (hh : PHs X (h₀ :: hs) th) (hst : X.stack = X.env :: X.outer := by rfl) (hf : X.env.frame = some X.env.locals := by rfl) (hn : X.N.length = n := by rfl) (hex : X.ex = [] := by rfl) :
    PS X (.Try body (h₀ :: hs) [] [] pos) (tTry n t th) :=
  ps_tryG (E0 := fun D cls k H' => onNone k (∀ σ' : St, σ'.length = n → th cls D σ' H')) hb (fun k => by
    cases k with
    | none => exact .inl hh
    | some b => exact .inr fun _ _ _ z => z) (fun D cls k H' z => by
    cases k with
    | none => exact z
    | some b => exact z.elim) hst hf hn hex
end
end L2
set_option Elab.async false
set_option linter.all false
set_option maxRecDepth 100000
/-! the clauses of a try -/
namespace L2
open PySem PySem.Spec PyProof.Rows
theorem set3 {ts : Array Value} (h : ts[3]? = some Value.none) : ts.setIfInBounds 3 Value.none = ts := by
  obtain ⟨hl, e⟩ := Array.getElem?_eq_some_iff.mp h
  refine Array.ext (by simp) fun i h1 h2 => ?_
  rw [Array.getElem_setIfInBounds h2]
  by_cases hi : 3 = i
  · subst hi; simp [e]
  · simp [hi]
theorem map3 {o : Obj} {ts : Array Value} (hd : o.data = .fields ts) (h : ts[3]? = some Value.none) : Obj.mapFields (fun z => z.setIfInBounds 3 Value.none) o = o := by
  obtain ⟨c, d, dt, sl⟩ := o
  dsimp only at hd
  subst hd
  unfold Obj.mapFields
  simp [set3 h]
theorem keep3 {h : Heap} {T : Addr} {oT : Obj} {ts : Array Value} (hT : h.get? T = some oT) (hd : oT.data = .fields ts) (h3 : ts[3]? = some Value.none) : ∀ b u, h.get? b = some u → (h.update T (Obj.mapFields fun z => z.setIfInBounds 3 Value.none)).get? b = some u := fun b u e => by
  by_cases hb : b = T
  · subst hb
    rw [hT] at e
    cases e
    rw [Heap.get?_update_self _ hT (by rw [map3 hd h3]; exact Obj.isFreed_of_fields hd), map3 hd h3]
  · rw [Heap.get?_update_other _ _ (Ne.symm hb)]; exact e
section
variable {X : Cx} {x n : Str} {C : Addr} {b₀ : Stmt} {suite : List Stmt} {rest : List ExceptHandler} {pos np : Pos} {th : Value → TS}
theorem ph_nil {k : Option Addr} : PHsK X k [] (fun _ _ _ _ => False) := fun _ _ _ _ _ _ _ _ _ _ _ _ h => h.elim
/-- the match, and the mark set down -/
theorem h_test {kk : Option Addr} {pins : List (Addr × Obj)} {σ : St} {H : Hp} {s : Shared} {a : Addr} {cls : Value} {g : Heap} {b : Bool} {name : Option Str} {Q : Flow → Shared → Prop} (I : Inv X pins σ H s) (xr : XRec g s.heap H a (cls, kk) false) (hC : X.mg x = some (.ref C)) (hg : Gl X x) (hb : PySem.W.exmOne X.K cls (.ref C) = some b) (hdb : (x == ("__debug__" : Str)) = false)
    (h : if b = true then codeAny (model X.prog X.w) (X.A.mark (some (.ref a))) (.handlers (.ref a) [.ExceptHandler none name (b₀ :: suite) pos] X.env) (fun r s₂ => match r with
          | .ok f => (match name with | none => Q f s₂ | some n => wpAny (model X.prog X.w) X.A (do bindName X.env n .none; unbindBehindTheSuite X.env n pos) (fun _ s₃ => Q f s₃) X.xe s₂)
          | .error e => cameBackBy (model X.prog X.w) X.A X.env X.xe e s₂) s
      else wpAny (model X.prog X.w) X.A (handleBy (.ref a) X.env rest) Q X.xe s) :
    wpAny (model X.prog X.w) X.A (handleBy (.ref a) X.env (.ExceptHandler (some (.Name x np)) name (b₀ :: suite) pos :: rest)) Q X.xe s := by
  refine wpAny_handleBy_cons (codeAny_handlers_test (ld_glob (X := X.mark a) (I.mark a) hg hC ?_ hdb)) (by intro z; cases z)
  have LT : PySem.W.Looks (model X.prog X.w) s.heap (typeOf (.ref a)) cls := by
    cases xr with
    | old oe vs he hc =>
      have hc' : oe.cls = cls := hc
      rw [← hc']; exact (PySem.W.Looks.ld he).andThen .now
  refine (PySem.W.exm_one (M := model X.prog X.w) I.kIn LT hb).here ?_
  cases b with
  | true => exact h
  | false => exact h
inductive tH (K : PySem.W.Frag) (C : Addr) (ts : TS) (th : Value → TS) (cls : Value) (D : Ends) (σ : St) (H : Hp) : Prop
  | mk (b : Bool) (e : PySem.W.exmOne K cls (.ref C) = some b) (q : if b = true then ts D σ H else th cls D σ H) : tH K C ts th cls D σ H
/-- except C: .. -/
theorem ph0 {kk : Option Addr} {ts : TS} (hC : X.mg x = some (.ref C)) (hs : ∀ a, PSs (X.mark a) (b₀ :: suite) ts) (hr : PHsK X kk rest th) (hg : Gl X x := by rfl) (hdb : (x == ("__debug__" : Str)) = false := by decide) : PHsK X kk (.ExceptHandler (some (.Name x np)) none (b₀ :: suite) pos :: rest) (tH X.K C ts th) := by
  intro pins s σ H D a cls g I xr x0 xp h
  obtain ⟨b, e, q⟩ := h
  refine h_test I xr hC hg e hdb ?_
  cases b with
  | false => exact hr pins s σ H D a cls g I xr x0 xp q
  | true =>
    refine codeAny_handlers_suite ?_
    cases xr with
    | old oe vs he hc hd hdi hn hgg T oT ts' h1 ht hT hdT h3 hnT hgT =>
      refine wpAny_setFlight_none he hd h1 hT hdT (Array.getElem?_eq_some_iff.mp h3).1 ?_
      have I' : Inv X pins σ H { s with heap := s.heap.update T (Obj.mapFields fun z => z.setIfInBounds 3 Value.none) } := I.kept (t' := s.toks) (keep3 hT hdT h3)
      exact wpAny_mono (hs a pins _ σ H D (I'.mark a) q) (fun f s₂ z => z.unmark I.ok) fun _ _ z => z.elim
end
end L2
set_option Elab.async false
set_option linter.all false
set_option maxRecDepth 100000
/-! isinstance of an error -/
namespace L2
open PySem PySem.Spec PySem.W PyProof.Rows
structure XAttr (K : Frag) (C : Addr) : Prop where
  ga : findIn K (.ref C) "__getattribute__" = some (some (.builtin "BaseException.__getattribute__"))
  gn : findIn K (.ref C) "__getattr__" = some none
  fo : findObj K C none "__class__" = some (.bind (.builtin "getset_descriptor.__get__") (.builtin "object.__class__"))
  mo : mroIn K C (.type "object") = some true
  sb : subIn K (.ref C) (.type "BaseException") = some true
section
variable {prog : Program} {w : World} {A : Around} {E : Value → Shared → Prop} {s : Shared} {K : Frag} {a C : Addr} {oe : Obj}
end
end L2
namespace L2
open PySem PySem.Spec PyProof.Rows
end L2
set_option Elab.async false
set_option linter.all false
set_option maxRecDepth 100000
namespace L2
open PySem PySem.Spec PyProof.Rows
section
variable {X : Cx} {CX : CXT} {k : Nat} {f C : Addr} {fd : FuncData} {ps : List Str} {sp : Sp} {dvs : List V} {ds : List Value} {E : XK} {x m : Str} {p pos apos : Pos} {e o : Expr} {es : List Expr} {ta : TE} {t : TA}
end
section
variable {P : Program} {w : World} {K : PySem.W.Frag} {mg : Str → Option Value} {base : Heap}
end
section
variable {X : Cx} {k k' : Nat} {x : Str} {ps : List Str} {sp : Sp} {p pos : Pos} {e : Expr} {es : List Expr} {t : TA}
end
end L2
set_option Elab.async false
set_option linter.all false
set_option maxRecDepth 100000
/-! the own classes of errors that a text names -/
namespace L2
open PySem PySem.Spec PyProof.Rows
/-- where the class stands that a name of the module means -/
def cOf (mg : Str → Option Value) (x : Str) : Addr := match mg x with
  | some (.ref C) => C
  | _ => 0
theorem cOf_eq {mg : Str → Option Value} {x : Str} {C : Addr} (h : mg x = some (.ref C)) : cOf mg x = C := by unfold cOf; rw [h]
structure XC (K : PySem.W.Frag) (mg : Str → Option Value) (x : Str) : Prop where
  m : mg x = some (.ref (cOf mg x))
  ok : PySem.W.excIn K (cOf mg x) bmV "ValueError.__new__" = true
  at_ : XAttr K (cOf mg x)
  cl : (PySem.W.clsIn K (cOf mg x)).isSome = true
theorem XC.cls {K : PySem.W.Frag} {mg : Str → Option Value} {x : Str} (h : XC K mg x) : XCls K mg x (cOf mg x) := ⟨h.m, h.ok⟩
theorem xc_mk {K : PySem.W.Frag} {mg : Str → Option Value} {x : Str} {C : Addr} (m : mg x = some (.ref C)) (ok : PySem.W.excIn K C bmV "ValueError.__new__" = true)
    (ga : PySem.W.findIn K (.ref C) "__getattribute__" = some (some (.builtin "BaseException.__getattribute__"))) (gn : PySem.W.findIn K (.ref C) "__getattr__" = some none)
    (fo : PySem.W.findIn K (.ref C) "__class__" = some (some (.builtin "object.__class__"))) (sp : PySem.W.specialIn K (.builtin "object.__class__") "__get__" = some (some (.builtin "getset_descriptor.__get__"))) (tk : PySem.W.takesIn K (.builtin "object.__class__") = some true) (mo : PySem.W.mroIn K C (.type "object") = some true) (sb : PySem.W.subIn K (.ref C) (.type "BaseException") = some true) {cd : ClassData} (cl : PySem.W.clsIn K C = some cd) : XC K mg x := by
  refine ⟨?_, ?_, ?_, ?_⟩ <;> rw [cOf_eq m]
  · exact m
  · exact ok
  · refine ⟨ga, gn, ?_, mo, sb⟩
    unfold PySem.W.findObj
    rw [cl, Option.bind_some, fo, Option.bind_some]
    simp [sp, tk]
  · rw [cl]; rfl
end L2
set_option Elab.async false
set_option linter.all false
set_option maxRecDepth 100000
namespace Pr
open PySem L2
def top (i : Nat) : Stmt := PySem.Challenge.pw_peakroll_k91_rows_of_words.main.body.getD i (.Pass ⟨0, 0, 0, 0⟩)
abbrev s_is_word : Stmt := top 8
abbrev s_is_key : Stmt := top 9
abbrev s_is_source : Stmt := top 10
abbrev s_whole_of : Stmt := top 14
abbrev s_words_of : Stmt := top 17
abbrev s_kinds_behind : Stmt := top 18
abbrev s_read_word : Stmt := top 19
abbrev s_meaning_of : Stmt := top 20
abbrev s_law_cell : Stmt := top 22
abbrev s_law_pot : Stmt := top 23
abbrev s_law_take : Stmt := top 24
abbrev s_law_text : Stmt := top 25
abbrev s_law_number : Stmt := top 26
abbrev s_law_built : Stmt := top 27
abbrev s_law_spoilt : Stmt := top 28
abbrev s_law_words : Stmt := top 29
abbrev s_law_are : Stmt := top 30
abbrev s_law_worth : Stmt := top 31
abbrev s_law_due : Stmt := top 32
abbrev s_law_told : Stmt := top 33
abbrev s_law : Stmt := top 34
structure Txt (K : PySem.W.Frag) (mg : Str → Option Value) (C : Addr) : Prop where
  f_is_word : ∃ f fd, Fn K mg "is_word" s_is_word ["value", "signs", "most"] f fd
  f_is_key : ∃ f fd, Fn K mg "is_key" s_is_key ["value"] f fd
  f_is_source : ∃ f fd, Fn K mg "is_source" s_is_source ["value"] f fd
  f_whole_of : ∃ f fd, Fn K mg "whole_of" s_whole_of ["word", "most"] f fd
  f_words_of : ∃ f fd, Fn K mg "words_of" s_words_of ["row"] f fd
  f_kinds_behind : ∃ f fd, Fn K mg "kinds_behind" s_kinds_behind ["deed", "many"] f fd
  f_read_word : ∃ f fd, Fn K mg "read_word" s_read_word ["kind", "word"] f fd
  f_meaning_of : ∃ f fd, Fn K mg "meaning_of" s_meaning_of ["kind", "word"] f fd
  f_law_cell : ∃ f fd, Fn K mg "_law_cell" s_law_cell ["_law_script", "_law_k"] f fd
  f_law_pot : ∃ f fd, Fn K mg "_law_pot" s_law_pot ["_law_cell_here"] f fd
  f_law_take : ∃ f fd, Fn K mg "_law_take" s_law_take ["_law_pot_here", "_law_many"] f fd
  f_law_text : ∃ f fd, Fn K mg "_law_text" s_law_text ["_law_pot_here", "_law_signs", "_law_most"] f fd
  f_law_number : ∃ f fd, Fn K mg "_law_number" s_law_number ["_law_pot_here"] f fd
  f_law_built : ∃ f fd, Fn K mg "_law_built" s_law_built ["_law_pot_here"] f fd
  f_law_spoilt : ∃ f fd, Fn K mg "_law_spoilt" s_law_spoilt ["_law_pot_here", "_law_row"] f fd
  f_law_words : ∃ f fd, Fn K mg "_law_words" s_law_words ["_law_row"] f fd
  f_law_are : ∃ f fd, Fn K mg "_law_are" s_law_are ["_law_word", "_law_signs", "_law_most"] f fd
  f_law_worth : ∃ f fd, Fn K mg "_law_worth" s_law_worth ["_law_kind", "_law_word"] f fd
  f_law_due : ∃ f fd, Fn K mg "_law_due" s_law_due ["_law_row"] f fd
  f_law_told : ∃ f fd, Fn K mg "_law_told" s_law_told ["_law_row"] f fd
  f_law : ∃ f fd, Fn K mg "law" s_law ["_law_script"] f fd
  c_LETTERS : ∃ t, mg "LETTERS" = some (.str "abcdefghijklmnopqrstuvwxyz" t)
  c_KEY_SIGNS : ∃ t, mg "KEY_SIGNS" = some (.str "abcdefghijklmnopqrstuvwxyz0123456789" t)
  c_MOST_KEY_SIGNS : ∃ t, mg "MOST_KEY_SIGNS" = some (.int 8 t)
  c_MOST_SOURCE_SIGNS : ∃ t, mg "MOST_SOURCE_SIGNS" = some (.int 6 t)
  c_WIDE_FIGURES : ∃ t, mg "WIDE_FIGURES" = some (.int 30 t)
  c_NUMBER_FIGURES : ∃ t, mg "NUMBER_FIGURES" = some (.int 40 t)
  b_ValueError : mg "ValueError" = none
  b_abs : mg "abs" = none
  b_all : mg "all" = none
  b_divmod : mg "divmod" = none
  b_int : mg "int" = none
  b_isinstance : mg "isinstance" = none
  b_len : mg "len" = none
  b_max : mg "max" = none
  b_min : mg "min" = none
  b_range : mg "range" = none
  b_repr : mg "repr" = none
  b_str : mg "str" = none
  b_zip : mg "zip" = none
  x_NoRow : XC K mg "NoRow"
  e_NoRow_NoRow : PySem.W.exmOne K (.ref (cOf mg "NoRow")) (.ref (cOf mg "NoRow")) = some true
end Pr
set_option Elab.async false
set_option linter.all false
set_option maxRecDepth 100000
namespace L2
open PySem PySem.Spec PyProof.Rows
/-! ### the forms of a comprehension that one uses -/
/-- an element has come: y goes onto the list at D -/
def LcNx (n i : Nat) (D : Addr) (ys : List V) (Pv : Nat → List V → Hp → Prop) (y : V) (H3 : Hp) : Prop :=
  H3 D = some (.lst ys) ∧ ys.length < sizeLine ∧ ∃ m', m' < n - i ∧ (m' = n - (i + 1) ∧ i + 1 ≤ n ∧ Pv (i + 1) (ys ++ [y]) (upd H3 D (.lst (ys ++ [y]))))
/-- none has come -/
def LcNo (n i : Nat) (ys : List V) (Pv : Nat → List V → Hp → Prop) (H3 : Hp) : Prop := ∃ m', m' < n - i ∧ (m' = n - (i + 1) ∧ i + 1 ≤ n ∧ Pv (i + 1) ys H3)
theorem lc_go {tc : TT} {te : TE} {σ : St} {J : It} {D : Addr} {Fin : Hp → Prop} {H : Hp} {n : Nat} (Pv : Nat → List V → Hp → Prop) (h0 : Pv 0 [] (upd H D (.lst [])))
    (hD : ∀ i ys H, Pv i ys H → H D = some (.lst ys)) (hend : ∀ ys H, Pv n ys H → J.stop n H ∧ Fin H)
    (hgo : ∀ i ys H, i < n → Pv i ys H → J.go i H ∧ ∀ x H', J.yld i H x H' → tc (some x :: σ) H' fun b H2 => if b = true then te (some x :: σ) H2 (LcNx n i D ys Pv) else LcNo n i ys Pv H2) : lcGo tc te σ J D Fin H := by
  refine ⟨fun i m ys H => m = n - i ∧ i ≤ n ∧ Pv i ys H, ⟨n, rfl, Nat.zero_le _, h0⟩, ?_⟩
  rintro i m ys H ⟨rfl, hi, p⟩
  refine ⟨hD i ys H p, ?_⟩
  by_cases hlt : i < n
  · exact .inr (hgo i ys H hlt p)
  · have e : i = n := by omega
    subst e
    exact .inl (hend ys H p)
theorem lc_list {K : PySem.W.Frag} {a : Addr} {xs : List V} {tc : TT} {te : TE} {σ : St} {D : Addr} {Fin : Hp → Prop} {H : Hp} (Pv : Nat → List V → Hp → Prop) (h0 : Pv 0 [] (upd H D (.lst [])))
    (hD : ∀ i ys H, Pv i ys H → H D = some (.lst ys) ∧ SqL K H a xs) (hend : ∀ ys H, Pv xs.length ys H → Fin H)
    (hgo : ∀ i x ys H, i < xs.length → xs[i]? = some x → Pv i ys H → tc (some x :: σ) H fun b H2 => if b = true then te (some x :: σ) H2 (LcNx xs.length i D ys Pv) else LcNo xs.length i ys Pv H2) : lcGo tc te σ (Itl K a) D Fin H := by
  refine lc_go Pv h0 (fun i ys H p => (hD i ys H p).1) (fun ys H p => ⟨⟨xs, (hD _ _ _ p).2, Nat.le_refl _⟩, hend ys H p⟩) fun i ys H hi p => ?_
  refine ⟨⟨xs, xs[i], (hD _ _ _ p).2, List.getElem?_eq_getElem hi⟩, fun x H' y => ?_⟩
  obtain ⟨e, y⟩ := y
  subst e
  exact hgo i x ys _ hi (y xs (hD _ _ _ p).2) p
theorem lc_range {lo : Int} {n : Nat} {tc : TT} {te : TE} {σ : St} {D : Addr} {Fin : Hp → Prop} {H : Hp} (Pv : Nat → List V → Hp → Prop) (h0 : Pv 0 [] (upd H D (.lst [])))
    (hD : ∀ i ys H, Pv i ys H → H D = some (.lst ys)) (hend : ∀ ys H, Pv n ys H → Fin H)
    (hgo : ∀ i ys H, i < n → Pv i ys H → tc (some (.int (lo + i)) :: σ) H fun b H2 => if b = true then te (some (.int (lo + i)) :: σ) H2 (LcNx n i D ys Pv) else LcNo n i ys Pv H2) : lcGo tc te σ (Itr lo n) D Fin H := by
  refine lc_go Pv h0 hD (fun ys H p => ⟨Nat.le_refl _, hend ys H p⟩) fun i ys H hi p => ?_
  refine ⟨hi, fun x H' y => ?_⟩
  obtain ⟨e, y⟩ := y
  subst e y
  exact hgo i ys _ hi p
/-! within a comprehension's block the readings must not name the block's context -/
section
variable {X : Cx}
theorem ix_listK (K : PySem.W.Frag) (e : X.K = K := by rfl) : IxR X (rIxL K) := by rw [← e]; exact ix_list
end
theorem yesI {σ : St} {H : Hp} {A B : Hp → Prop} (h : A H) : tYes σ H (fun b H2 => if b = true then A H2 else B H2) := by
  show if true = true then A H else B H
  rw [if_pos rfl]
  exact h
theorem lcS {X : Cx} {x : Str} {sc scp : Scope} {N ps : List Str} (S : FnScope N ps scp) (hN : X.N = N := by rfl) (hs : X.env.scope = scp := by rfl) (h1 : sc.kind = .function := by rfl) (h2 : ∀ p ∈ sc.names, p.2 ≠ .cell := by decide +kernel) (h3 : sc.names.lookup x = some .local := by rfl)
    (h4 : ∀ p ∈ sc.names, p.2 = .local → sc.names.lookup p.1 = some .local := by decide +kernel) (h5 : ∀ y ∈ N, sc.names.lookup y ≠ some .local := by decide +kernel)
    (h7 : ∀ p ∈ sc.names, p.2 = .free → scp.names.lookup p.1 = some .cell ∨ scp.names.lookup p.1 = some .free := by decide +kernel) : LcScope X x sc :=
  ⟨h1, h2, h3, h4, by rw [hN]; exact h5, by rw [hN]; exact S.nd, fun p hp e => by
    show X.env.scope.names.lookup p.1 = _ ∨ X.env.scope.names.lookup p.1 = _
    rw [hs]
    exact h7 p hp e⟩
end L2
set_option Elab.async false
set_option linter.all false
set_option maxRecDepth 100000
/-! WHAT A SORT OF FEWER THAN 64 THINGS COMES TO, over the library's tree of asks: a permutation, in order, those alike as they stood. -/
namespace Srt
open PySem PySem.W PyProof.Rows
section
variable {n : Nat} {lt : Nat → Nat → Bool} {α β : Type}
end
section
variable {lt : Nat → Nat → Bool} {N : Nat}
end
end Srt
set_option Elab.async false
set_option linter.all false
set_option maxRecDepth 100000
/-! sorted(list, key = a def of the text) over the hand layer. -/
namespace L2
open PySem PySem.Spec PyProof.Rows
section
variable {X : Cx} {pins : List (Addr × Obj)} {σ : St} {H : Hp} {s : Shared}
end
section
variable {X : Cx} {pins : List (Addr × Obj)} {σ : St} {H : Hp} {s : Shared} {kS D : Addr} {its : List Value} {xs : List V} {f : Value} {Q : VK}
end
end L2
set_option Elab.async false
set_option linter.all false
set_option maxRecDepth 100000
/-! in order: sorted by (moment, key), over the hand layer. -/
namespace Srt
open PySem
end Srt
namespace L2
open PySem PySem.Spec PyProof.Rows
section
variable {X : Cx} {pins : List (Addr × Obj)} {σ : St} {H : Hp} {s : Shared}
end
section
variable {X : Cx} {k : Nat} {kf pn : Str} {e : Expr} {t : TA} {p pos kp kpos : Pos}
end
end L2
set_option Elab.async false
set_option linter.all false
set_option maxRecDepth 100000
/-! repr, ==, != of data (numbers, texts, None, lists and tuples of these), min and max of a list of ints, over the hand layer. -/
namespace L2
open PySem PySem.Spec PyProof.Rows
/-! a thing that is read as that data -/
mutual
def Dat (H : Hp) : PyData → V → Prop
  | .none, v => v = .non
  | .bool b, v => v = .bl b
  | .int i, v => v = .int i
  | .str x, v => v = .str x
  | .list ds, v => ∃ a xs, v = .ref a ∧ H a = some (.lst xs) ∧ DatAll H ds xs
  | .tuple ds, v => ∃ a xs, v = .ref a ∧ H a = some (.tup xs) ∧ DatAll H ds xs
  | .dict _, _ => False
def DatAll (H : Hp) : List PyData → List V → Prop
  | [], xs => xs = []
  | d :: ds, xs => ∃ x r, xs = x :: r ∧ Dat H d x ∧ DatAll H ds r
end
section
variable {X : Cx} {pins : List (Addr × Obj)} {σ : St} {H : Hp} {s : Shared}
mutual
theorem Dat.reads (I : Inv X pins σ H s) : ∀ (d : PyData) (v : V) (u : Value), RelV v u → Dat H d v → ∃ as, Reads s.heap u d as
  | .none, v, u, r, h => by unfold Dat at h; subst h; cases r; exact ⟨_, .none⟩
  | .bool b, v, u, r, h => by unfold Dat at h; subst h; cases r; exact ⟨_, .bool b⟩
  | .int i, v, u, r, h => by unfold Dat at h; subst h; obtain ⟨t, rfl⟩ := r; exact ⟨_, .int i t⟩
  | .str x, v, u, r, h => by unfold Dat at h; subst h; obtain ⟨t, rfl⟩ := r; exact ⟨_, .str x t⟩
  | .list ds, v, u, r, h => by
    unfold Dat at h
    obtain ⟨a, xs, rfl, h1, h2⟩ := h
    cases r
    obtain ⟨_, its, n, rv, e⟩ := I.hok a _ h1
    obtain ⟨as, hr⟩ := DatAll.reads I ds xs its rv h2
    exact ⟨_, .list e rfl rfl (by simpa using hr)⟩
  | .tuple ds, v, u, r, h => by
    unfold Dat at h
    obtain ⟨a, xs, rfl, h1, h2⟩ := h
    cases r
    obtain ⟨_, its, rv, o, ho, hc, n, hd⟩ := I.hok a _ h1
    obtain ⟨as, hr⟩ := DatAll.reads I ds xs its rv h2
    exact ⟨_, .tuple ho hc hd (by simpa using hr)⟩
  | .dict _, v, u, r, h => by unfold Dat at h; exact h.elim
theorem DatAll.reads (I : Inv X pins σ H s) : ∀ (ds : List PyData) (xs : List V) (us : List Value), Vals xs us → DatAll H ds xs → ∃ as, ReadsAll s.heap us ds as
  | [], xs, us, r, h => by unfold DatAll at h; subst h; cases r; exact ⟨_, .nil⟩
  | d :: ds, xs, us, r, h => by
    unfold DatAll at h
    obtain ⟨x, rr, rfl, h1, h2⟩ := h
    cases r with
    | cons rx rt =>
      obtain ⟨as, q1⟩ := Dat.reads I d x _ rx h1
      obtain ⟨bs, q2⟩ := DatAll.reads I ds rr _ rt h2
      exact ⟨_, .cons q1 q2⟩
end
end
/-- data that can be shown and compared here -/
structure Fit (d : PyData) : Prop where
  sh : d.showable = true
  cl : d.canLay0 = true
  sz : d.shown.length ≤ sizeLine
  dp : d.depth ≤ 8
section
variable {X : Cx}
inductive cRepr (vs : List V) (H : Hp) (Q : VK) : Prop
  | mk (a : Addr) (d : PyData) (e : vs = [.ref a]) (h : Dat H d (.ref a)) (f : Fit d) (q : Q (.str d.shown) H) : cRepr vs H Q
theorem call_repr {k : Nat} (hr : Room k X.A) : CallR X (.builtin "repr") cRepr := by
  intro pins s σ H xs us Q I r h
  obtain ⟨a, d, rfl, hd, f, q⟩ := h
  obtain ⟨u, rfl, ru⟩ := vals1 r
  cases ru
  obtain ⟨as, rd⟩ := Dat.reads I d (.ref a) (.ref a) rfl hd
  exact repr_of_reads' rd f.sh (PyData.noDict_hsm (PyData.hasDict_of_canLay d f.cl)) hr.gd (by have := hr.un; have := f.dp; omega) (fun _ _ q => q) (fun h' u tk hk => ⟨.str d.shown, H, I.kept hk, ⟨u, rfl⟩, q⟩) f.sz
end
section
variable {X : Cx}
end
end L2
set_option Elab.async false
set_option linter.all false
set_option maxRecDepth 100000
/-! entries and bars, as data -/
namespace Ent
open PySem
/-! ### the order that a sort tells -/
/-! ### data that can be shown -/
structure Lf (d : PyData) : Prop where
  sh : d.showable = true
  cl : d.canLay0 = true
  ls : d.leavesShort 62 = true
theorem lf_int {i : Int} (h : i.natAbs < 10 ^ 40) : Lf (.int i) where
  sh := by
    unfold PyData.showable
    exact decide_eq_true (PySem.Spec.log2_small (Nat.lt_trans h (by decide +kernel)))
  cl := rfl
  ls := by
    unfold PyData.leavesShort
    refine decide_eq_true ?_
    show (Str.ofString (toString i)).length ≤ 62
    rw [ofString_length]
    exact Nat.le_trans (int_text_length_le10 (k := 40) (by decide) h) (by decide)
def KeyOk (k : Str) : Prop := k.cps.size ≤ 8 ∧ ∀ c ∈ k.cps.toList, c < 128
theorem lf_str {k : Str} (h : KeyOk k) : Lf (.str k) where
  sh := rfl
  cl := by
    unfold PyData.canLay0 PyData.strOk
    rw [Array.all_eq_true_iff_forall_mem]
    intro c hc
    have := h.2 c (Array.mem_toList_iff.mpr hc)
    exact decide_eq_true (by omega)
  ls := by
    unfold PyData.leavesShort
    rw [List.all_eq_true]
    intro c hc
    have := h.2 c hc
    have e : (16 : Nat) ^ 8 = 4294967296 := by decide
    exact decide_eq_true (by omega)
theorem lf_all : ∀ {ds : List PyData}, (∀ d ∈ ds, Lf d) → PyData.showableAll ds = true ∧ PyData.canLayAll0 ds = true ∧ PyData.leavesShortAll 62 ds = true
  | [], _ => ⟨rfl, rfl, rfl⟩
  | d :: ds, h => by
    obtain ⟨a, b, c⟩ := lf_all fun x hx => h x (List.mem_cons_of_mem d hx)
    have hd := h d List.mem_cons_self
    unfold PyData.showableAll PyData.canLayAll0 PyData.leavesShortAll
    rw [a, b, c, hd.sh, hd.cl, hd.ls]
    exact ⟨rfl, rfl, rfl⟩
theorem lf_list {ds : List PyData} (h : ∀ d ∈ ds, Lf d) : Lf (.list ds) where
  sh := by unfold PyData.showable; exact (lf_all h).1
  cl := by unfold PyData.canLay0; exact (lf_all h).2.1
  ls := by unfold PyData.leavesShort; exact (lf_all h).2.2
theorem Lf.fit {d : PyData} (h : Lf d) (hb : d.bulk ≤ 20000) (hd : d.depth ≤ 8) : L2.Fit d where
  sh := h.sh
  cl := h.cl
  sz := by
    have := PyData.shown_le_bulk 62 (by decide) d h.ls
    rw [sizeLine_eq]
    have e : (62 + 2) * d.bulk ≤ 64 * 20000 := Nat.mul_le_mul (by decide) hb
    omega
  dp := hd
end Ent
set_option Elab.async false
set_option linter.all false
set_option maxRecDepth 100000
/-! things put one by one into order; words -/
namespace Srt
end Srt
namespace Ent
open PySem
/-! ### words -/
def ts (i : Int) : Str := Str.ofString (toString i)
theorem ts_len {i : Int} (h : i.natAbs < 10 ^ 40) : (ts i).length ≤ 41 := by
  unfold ts
  rw [ofString_length]
  exact int_text_length_le10 (k := 40) (by decide) h
theorem blank_len : ((" " : String) : Str).length = 1 := by decide
theorem sum_le {α : Type} {f : α → Nat} {n : Nat} : ∀ {l : List α}, (∀ x ∈ l, f x ≤ n) → (l.map f).sum ≤ l.length * n
  | [], _ => by simp
  | a :: l, h => by
    have h1 := sum_le fun x hx => h x (List.mem_cons_of_mem a hx)
    have h2 := h a List.mem_cons_self
    rw [List.map_cons, List.sum_cons, List.length_cons, Nat.add_mul]
    omega
theorem joinOk_le {ws : List Str} {n : Nat} (h : ∀ x ∈ ws, x.length ≤ n) (hn : ws.length * n + ws.length ≤ 100000) : PySem.JoinOk " " ws = true := by
  refine PyProof.Rows.joinOk_of ?_
  have := sum_le (f := fun x : Str => x.length) h
  rw [blank_len, Nat.mul_one]
  omega
theorem join_le {ws : List Str} {n : Nat} (h : ∀ x ∈ ws, x.length ≤ n) : (Txt.join " " ws).length ≤ ws.length * n + ws.length := by
  have e : Txt.join " " ws = Str.join " " ws := StrLaws.glued_eq_join _ _
  rw [e]
  have h1 := StrLaws.join_length_le " " ws
  have h2 := sum_le (f := fun x : Str => x.length) h
  rw [blank_len, Nat.mul_one] at h1
  omega
end Ent
set_option Elab.async false
set_option linter.all false
set_option maxRecDepth 100000
/-! numbers as texts, texts taken apart -/
namespace Ent
open PySem PySem.NumText
def dg (n : Nat) : List Nat := (Nat.toDigits 10 n).map Char.toNat
theorem dg_small {n : Nat} (h : n < 10) : dg n = [48 + n] := by
  unfold dg
  rw [Nat.toDigits_of_lt_base h]
  have : ∀ d : Nat, d < 10 → (Nat.digitChar d).toNat = 48 + d := by decide
  simp [this n h]
theorem dg_step {n : Nat} (h : 10 ≤ n) : dg n = dg (n / 10) ++ [48 + n % 10] := by
  have hm : n % 10 < 10 := Nat.mod_lt n (by decide)
  have t : Nat.toDigits 10 (n / 10) ++ Nat.toDigits 10 (n % 10) = Nat.toDigits 10 (10 * (n / 10) + n % 10) := Nat.toDigits_append_toDigits (by decide) (by omega) hm
  rw [Nat.div_add_mod] at t
  have e := dg_small hm
  unfold dg at e ⊢
  rw [← t, List.map_append, e]
theorem dg_digits : ∀ n : Nat, AllDigits (dg n) ∧ dg n ≠ [] ∧ (n ≠ 0 → ∀ r, dg n ≠ 48 :: r) := by
  intro n
  induction n using Nat.strongRecOn with
  | _ n ih =>
    by_cases h : n < 10
    · rw [dg_small h]
      refine ⟨fun c hc => ?_, by simp, fun hn r e => ?_⟩
      · rw [List.mem_singleton.mp hc]; omega
      · have := (List.cons.inj e).1
        omega
    · obtain ⟨i1, i2, i3⟩ := ih (n / 10) (by omega)
      rw [dg_step (by omega)]
      refine ⟨fun c hc => ?_, by simp, fun _ r e => ?_⟩
      · rcases List.mem_append.mp hc with hc | hc
        · exact i1 c hc
        · rw [List.mem_singleton.mp hc]; omega
      · cases hd : dg (n / 10) with
        | nil => exact i2 hd
        | cons a b =>
          rw [hd] at e
          have := (List.cons.inj e).1
          exact i3 (by omega) b (by rw [hd, this])
theorem ts_nat (m : Nat) : (ts (m : Int)).cps.toList = dg m := PySem.W.KIN.signs_num m
theorem ts_neg (m : Nat) : (ts (Int.negSucc m)).cps.toList = 45 :: dg (m + 1) := by
  unfold ts dg
  rw [PyProof.Rows.signs_ofString]
  show ("-" ++ Nat.repr (m + 1)).toList.map Char.toNat = _
  rw [String.toList_append, List.map_append, Nat.toList_repr]
  rfl
theorem ts_signs (i : Int) : ∀ c ∈ (ts i).cps.toList, c = 45 ∨ (48 ≤ c ∧ c ≤ 57) := fun c hc => by
  cases i with
  | ofNat m =>
    have e : (ts (Int.ofNat m)).cps.toList = dg m := ts_nat m
    rw [e] at hc
    exact .inr ((dg_digits m).1 c hc)
  | negSucc m =>
    rw [ts_neg] at hc
    rcases List.mem_cons.mp hc with h | h
    · exact .inl h
    · exact .inr ((dg_digits _).1 c h)
theorem ts_reads {i : Int} (h : i.natAbs < 10 ^ 40) : intText? (ts i) = some i := by
  have hl := ts_len h
  cases i with
  | ofNat m =>
    have e : (ts (Int.ofNat m)).cps.toList = dg m := ts_nat m
    have z := intText_digits (x := ts (Int.ofNat m)) (by rw [e]; exact (dg_digits m).1) (by rw [e]; exact (dg_digits m).2.1) (by omega)
    rw [e] at z
    unfold dg at z
    rw [PySem.W.KIN.val_back] at z
    exact z
  | negSucc m =>
    have z := intText_neg (ts_neg m) (dg_digits _).1 (dg_digits _).2.1 (by omega)
    unfold dg at z
    rw [PySem.W.KIN.val_back] at z
    exact z
/-! ### taken apart -/
theorem cut_one {c : Nat} : ∀ {a a' r r' : List Nat}, c ∉ a → c ∉ a' → a ++ c :: r = a' ++ c :: r' → a = a' ∧ r = r'
  | [], [], r, r', _, _, e => ⟨rfl, (List.cons.inj e).2⟩
  | [], x :: a', r, r', _, h', e => by
    have := (List.cons.inj e).1
    exact absurd (by rw [this]; exact List.mem_cons_self) h'
  | x :: a, [], r, r', h, _, e => by
    have := (List.cons.inj e).1
    exact absurd (by rw [← this]; exact List.mem_cons_self) h
  | x :: a, y :: a', r, r', h, h', e => by
    obtain ⟨e1, e2⟩ := List.cons.inj e
    obtain ⟨i1, i2⟩ := cut_one (fun z => h (List.mem_cons_of_mem _ z)) (fun z => h' (List.mem_cons_of_mem _ z)) e2
    exact ⟨by rw [e1, i1], i2⟩
theorem join_list2 (c : Nat) (x y : Str) (r : List Str) : (Str.join ⟨#[c]⟩ (x :: y :: r)).cps.toList = x.cps.toList ++ c :: (Str.join ⟨#[c]⟩ (y :: r)).cps.toList := by
  rw [PyProof.Rows.join_cons_cons]
  simp [Str.cps_append]
theorem str_ext {x y : Str} (h : x.cps.toList = y.cps.toList) : x = y := Str.ext' (Array.toList_inj.mp h)
theorem joins_one (c : Nat) : ∀ {ps ws : List Str}, ps ≠ [] → ws ≠ [] → (∀ p ∈ ps, c ∉ p.cps.toList) → (∀ p ∈ ws, c ∉ p.cps.toList) → Str.join ⟨#[c]⟩ ps = Str.join ⟨#[c]⟩ ws → ps = ws
  | [], _, h, _, _, _, _ => absurd rfl h
  | _ :: _, [], _, h, _, _, _ => absurd rfl h
  | [p], [w], _, _, _, _, e => by
    have : p = w := e
    rw [this]
  | [p], w :: w2 :: ws, _, _, hp, _, e => by
    have e' := congrArg (fun x : Str => x.cps.toList) e
    simp only [join_list2] at e'
    have : c ∈ p.cps.toList := by
      have e2 : p.cps.toList = w.cps.toList ++ c :: (Str.join ⟨#[c]⟩ (w2 :: ws)).cps.toList := e'
      rw [e2]
      simp
    exact absurd this (hp p List.mem_cons_self)
  | p :: p2 :: ps, [w], _, _, _, hw, e => by
    have e' := congrArg (fun x : Str => x.cps.toList) e
    simp only [join_list2] at e'
    have : c ∈ w.cps.toList := by
      have e2 : p.cps.toList ++ c :: (Str.join ⟨#[c]⟩ (p2 :: ps)).cps.toList = w.cps.toList := e'
      rw [← e2]
      simp
    exact absurd this (hw w List.mem_cons_self)
  | p :: p2 :: ps, w :: w2 :: ws, _, _, hp, hw, e => by
    have e' := congrArg (fun x : Str => x.cps.toList) e
    simp only [join_list2] at e'
    obtain ⟨e1, e2⟩ := cut_one (hp p List.mem_cons_self) (hw w List.mem_cons_self) e'
    have ih := joins_one c (ps := p2 :: ps) (ws := w2 :: ws) (by simp) (by simp) (fun q hq => hp q (List.mem_cons_of_mem _ hq)) (fun q hq => hw q (List.mem_cons_of_mem _ hq)) (str_ext e2)
    rw [str_ext e1, ih]
theorem split_join {c : Nat} {ws : List Str} (h : ws ≠ []) (hw : ∀ p ∈ ws, c ∉ p.cps.toList) : Txt.split (Txt.join ⟨#[c]⟩ ws) ⟨#[c]⟩ = ws := by
  have e : Txt.join ⟨#[c]⟩ ws = Str.join ⟨#[c]⟩ ws := StrLaws.glued_eq_join _ _
  rw [e]
  refine joins_one c ?_ h (StrLaws.split_free _ c) hw (StrLaws.join_split _ _)
  intro z
  have := PyProof.Rows.split_pos (Str.join ⟨#[c]⟩ ws) ⟨#[c]⟩
  rw [z] at this
  exact absurd this (by decide)
theorem blank_is : ((" " : String) : Str) = ⟨#[32]⟩ := by decide
end Ent
set_option Elab.async false
set_option linter.all false
set_option maxRecDepth 100000
/-! a ladder's text -/
namespace Ent
open PySem Builtin Builtin.Str StrLaws PyProof.Rows
/-! ### a piece: a beginning, a colon, a blank ahead of each number -/
end Ent
set_option Elab.async false
set_option linter.all false
set_option maxRecDepth 100000
/-! texts that write numbers, and those that don't -/
namespace Ent
open PySem Builtin Builtin.Str StrLaws PyProof.Rows
theorem dg_of : ∀ (k : Nat) (l : List Nat), l.length = k → l ≠ [] → (∀ c ∈ l, 48 ≤ c ∧ c ≤ 57) → (l = [48] ∨ l.head? ≠ some 48) → ∃ n : Nat, dg n = l ∧ n < 10 ^ l.length ∧ (l ≠ [48] → n ≠ 0) := by
  intro k
  induction k with
  | zero => intro l hl hne; exact absurd (List.length_eq_zero_iff.mp hl) hne
  | succ k ih =>
    intro l hl hne hd h0
    obtain ⟨r, c, rfl⟩ : ∃ r c, l = r ++ [c] := ⟨l.dropLast, l.getLast hne, (List.dropLast_concat_getLast hne).symm⟩
    have hc := hd c (by simp)
    cases r with
    | nil =>
      refine ⟨c - 48, ?_, ?_, fun z e => z ?_⟩
      · rw [dg_small (by omega)]
        show [48 + (c - 48)] = [c]
        congr 1
        omega
      · show c - 48 < 10 ^ 1
        omega
      · show [c] = [48]
        congr 1
        omega
    | cons a s =>
      have hh : (a :: s).head? ≠ some 48 := by
        rcases h0 with h0 | h0
        · have := congrArg List.length h0
          simp at this
        · exact h0
      have hl' : (a :: s).length = k := by
        rw [List.length_append, List.length_singleton] at hl
        omega
      obtain ⟨n, e1, e2, e3⟩ := ih (a :: s) hl' (by simp) (fun d hd' => hd d (List.mem_append_left _ hd')) (.inr hh)
      have n0 : n ≠ 0 := e3 fun z => hh (by rw [z]; rfl)
      refine ⟨10 * n + (c - 48), ?_, ?_, fun _ z => by omega⟩
      · rw [dg_step (by omega), show (10 * n + (c - 48)) / 10 = n by omega, show (10 * n + (c - 48)) % 10 = c - 48 by omega, e1]
        congr 2
        omega
      · rw [List.length_append, List.length_singleton, Nat.pow_succ]
        omega
/-- the figures of a word -/
def fgs (l : List Nat) : List Nat := match l with | 45 :: r => r | _ => l
/-- a word that writes a number of at most m figures -/
structure Wr (m : Nat) (l : List Nat) : Prop where
  ne : fgs l ≠ []
  d : ∀ c ∈ fgs l, 48 ≤ c ∧ c ≤ 57
  ln : (fgs l).length ≤ m
  z : (fgs l).head? = some 48 → l = [48]
theorem wr_num {m : Nat} {z : Str} (h : Wr m z.cps.toList) : ∃ i : Int, z = ts i ∧ i.natAbs < 10 ^ m := by
  obtain ⟨h1, h2, h3, h4⟩ := h
  have pw : 10 ^ (fgs z.cps.toList).length ≤ 10 ^ m := Nat.pow_le_pow_right (by decide) h3
  cases e : z.cps.toList with
  | nil => rw [e] at h1; exact absurd rfl h1
  | cons a r =>
    by_cases ha : a = 45
    · subst ha
      have ef : fgs z.cps.toList = r := by rw [e]; rfl
      rw [ef] at h1 h2 h3 h4 pw
      have hh : r.head? ≠ some 48 := fun hq => by
        have := h4 hq
        rw [e] at this
        cases this
      obtain ⟨n, e1, e2, e3⟩ := dg_of r.length r rfl h1 h2 (.inr hh)
      have n0 : n ≠ 0 := e3 fun q => hh (by rw [q]; rfl)
      refine ⟨Int.negSucc (n - 1), str_ext ?_, ?_⟩
      · rw [e, ts_neg, show n - 1 + 1 = n by omega, e1]
      · rw [show (Int.negSucc (n - 1)).natAbs = n by omega]
        omega
    · have ef : fgs z.cps.toList = z.cps.toList := by
        rw [e]
        unfold fgs
        split
        · next heq => cases heq; exact absurd rfl ha
        · rfl
      rw [ef] at h1 h2 h3 h4 pw
      obtain ⟨n, e1, e2, e3⟩ := dg_of _ z.cps.toList rfl h1 h2 (by
        by_cases hq : z.cps.toList.head? = some 48
        · exact .inl (h4 hq)
        · exact .inr hq)
      refine ⟨(n : Int), str_ext ?_, ?_⟩
      · rw [ts_nat, e1]
      · rw [Int.natAbs_natCast]
        omega
theorem dg_len {n m : Nat} (h : n < 10 ^ m) (hm : 0 < m) : (dg n).length ≤ m := by
  unfold dg
  rw [List.length_map]
  have := (Nat.length_repr_le_iff (n := n) (k := m) hm).mpr h
  rw [← String.length_toList, Nat.toList_repr] at this
  exact this
theorem fgs_ts (i : Int) : fgs (ts i).cps.toList = dg i.natAbs := by
  cases i with
  | ofNat n =>
    have e : (ts (Int.ofNat n)).cps.toList = dg n := ts_nat n
    rw [e]
    show fgs (dg n) = dg n
    unfold fgs
    split
    · next r heq =>
      have := (dg_digits n).1 45 (by rw [heq]; simp)
      omega
    · rfl
  | negSucc n =>
    rw [ts_neg]
    rfl
theorem num_wr {m : Nat} (hm : 0 < m) {i : Int} (h : i.natAbs < 10 ^ m) : Wr m (ts i).cps.toList := by
  obtain ⟨d1, d2, d3⟩ := dg_digits i.natAbs
  refine ⟨by rw [fgs_ts]; exact d2, by rw [fgs_ts]; exact d1, by rw [fgs_ts]; exact dg_len h hm, fun hq => ?_⟩
  rw [fgs_ts] at hq
  by_cases h0 : i = 0
  · subst h0
    decide
  · obtain ⟨r, hr⟩ : ∃ r, dg i.natAbs = 48 :: r := by
      cases e : dg i.natAbs with
      | nil => exact absurd e d2
      | cons a r => rw [e] at hq; exact ⟨r, by rw [Option.some.inj hq]⟩
    exact absurd hr (d3 (by omega) r)
theorem ts_inj {i j : Int} (hi : i.natAbs < 10 ^ 40) (hj : j.natAbs < 10 ^ 40) (h : ts i = ts j) : i = j := by
  have h1 := ts_reads hi
  rw [h, ts_reads hj] at h1
  exact (Option.some.inj h1).symm
/-- the number that a word writes -/
noncomputable def numM (m : Nat) (z : Str) : Option Int := by
  classical exact if h : ∃ i : Int, z = ts i ∧ i.natAbs < 10 ^ m then some h.choose else none
theorem numM_some {m : Nat} {z : Str} {i : Int} (h : numM m z = some i) : z = ts i ∧ i.natAbs < 10 ^ m := by
  unfold numM at h
  split at h
  · next hx => cases h; exact hx.choose_spec
  · cases h
theorem numM_ts {m : Nat} (hm : m ≤ 40) {i : Int} (h : i.natAbs < 10 ^ m) : numM m (ts i) = some i := by
  have hp : 10 ^ m ≤ 10 ^ 40 := Nat.pow_le_pow_right (by decide) hm
  cases e : numM m (ts i) with
  | some j =>
    obtain ⟨e1, e2⟩ := numM_some e
    rw [ts_inj (by omega) (by omega) e1]
  | none =>
    unfold numM at e
    split at e
    · cases e
    · next hx => exact absurd ⟨i, rfl, h⟩ hx
end Ent
set_option Elab.async false
set_option linter.all false
set_option maxRecDepth 100000
/-! LIST COMPREHENSIONS whose target is several names (a, b = each pair). -/
namespace L2
open PySem PySem.Spec PyProof.Rows
def cxLN (X : Cx) (xs Ns : List Str) (scope : Scope) (C : Addr) (fp : List Addr) (s : Shared) (H : Hp) : Cx where
  prog := X.prog
  w := X.w
  K := X.K
  mg := X.mg
  base := X.base
  A := X.A
  N := xs ++ Ns
  s₀ := s
  H₀ := H
  env := compEnvC scope (clOf scope X.env.cells) C X.env
  outer := X.stack
  stack := X.stack
  ex := fp
  fn := fun _ => false
  calm := X.calm
  pn := []
  xe := fun _ _ => False
/-- xs: the block's names; Ns: the names around it, those that the block's names hide put otherwise -/
structure LnScope (X : Cx) (xs Ns : List Str) (sc : Scope) : Prop where
  kind : sc.kind = .function
  nocell : ∀ p ∈ sc.names, p.2 ≠ .cell
  loc : ∀ x ∈ xs, sc.names.lookup x = some .local
  names : ∀ p ∈ sc.names, p.2 = .local → sc.names.lookup p.1 = some .local
  apart : ∀ y ∈ Ns, sc.names.lookup y ≠ some .local
  sub : ∀ (i : Nat) (y : Str), Ns[i]? = some y → sc.names.lookup y = some .free → X.N[i]? = some y
  len : Ns.length = X.N.length
  all : (xs ++ Ns).Nodup
  free : ∀ p ∈ sc.names, p.2 = .free → X.env.kindOf p.1 = some .cell ∨ X.env.kindOf p.1 = some .free
section
variable {X : Cx} {pins : List (Addr × Obj)} {σ : St} {H : Hp} {s : Shared} {xs Ns : List Str} {sc : Scope} {C : Addr} {fp : List Addr}
theorem LnScope.cells (S : LnScope X xs Ns sc) (ok : X.Ok) : ∀ p ∈ sc.names, p.2 = .free → ∃ a, X.env.cells.lookup p.1 = some a := fun p hp e => ok.has p.1 (S.free p hp e)
theorem Inv.okLN (I : Inv X pins σ H s) (S : LnScope X xs Ns sc) (hC : s.heap.objs.size ≤ C) (hf : ∀ b ∈ fp, FpOk X pins H b) (hlt : ∀ b ∈ fp, b < s.heap.objs.size) : (cxLN X xs Ns sc C fp s H).Ok where
  mod := I.ok.mod
  kind := S.kind
  glob := I.ok.glob
  blt := I.ok.blt
  above := hC
  inj := fun y z c e1 e2 => I.ok.inj y z c (clOf_sub sc X.env.cells e1) (clOf_sub sc X.env.cells e2)
  has := fun y hy => by
    have hy' : (relabel sc X.env).names.lookup y = some .cell ∨ (relabel sc X.env).names.lookup y = some .free := hy
    have fr : sc.names.lookup y = some .free := by
      rcases hy' with h | h
      · obtain ⟨k', e, q⟩ := relabel_look h
        rcases q with q | ⟨q, _⟩
        · subst q; exact absurd rfl (S.nocell _ (PySem.mem_of_lookup e))
        · rw [e, q]
      · obtain ⟨k', e, q⟩ := relabel_look h
        rcases q with q | ⟨_, q⟩
        · rw [e, ← q]
        · cases q
    exact clOf_has sc X.env.cells (S.cells I.ok) (PySem.mem_of_lookup fr)
  cab := fun y c e => by cases (show false = true from e)
  hd := I.ok.hd
  frames := I.ok.frames
  stk := .inl rfl
  exf := fun b hb => ⟨Nat.ne_of_lt (Nat.lt_of_lt_of_le (hlt b hb) hC), fun y c e => (hf b hb).2.2.2.2.1 y c (clOf_sub sc X.env.cells e)⟩
  bs := I.bs
  bsz := Nat.le_trans I.ok.bsz I.sz
  noex := fun b o e hb => by
    rcases (hf b hb).2.2.2.1 with q | q
    · exact I.ok.noex b o e q
    · exact absurd (Nat.lt_of_lt_of_le (Heap.lt_size e) (Nat.le_trans I.ok.bsz q)) (Nat.lt_irrefl _)
  exfs := fun b hb z => by
    rcases List.mem_cons.mp (I.stkSub b z) with q | q
    · exact (hf b hb).2.1 q
    · exact (hf b hb).2.2.1 q
  funs := I.stack
  frf := I.stkFree
theorem Inv.startLN {D : Addr} {h1 : Heap} {m : Str → Option Value} {tk : Nat} {w : St} (I : Inv X pins σ H s) (S : LnScope X xs Ns sc) (hf : ∀ b ∈ fp, FpOk X pins H b) (hlt : ∀ b ∈ fp, b < s.heap.objs.size) (hw : w = xs.map fun _ => none)
    (hD : D = s.heap.objs.size) (hC : s.heap.objs.size ≤ C) (hDC : C ≠ D) (hk : ∀ b o, s.heap.get? b = some o → h1.get? b = some o) (hn : h1.Ns C m) (hl : h1.get? D = some { cls := .type "list", data := .seq ([] : List Value).toArray 0 }) :
    Inv (cxLN X xs Ns sc C fp s H) [] (w ++ σ) (upd H D (.lst [])) { s with heap := h1, toks := tk } := by
  have hwl : w.length = xs.length := by rw [hw, List.length_map]
  have hDle : s.heap.objs.size ≤ D := by rw [hD]; exact Nat.le_refl _
  have cells : ∀ y c, (clOf sc X.env.cells).lookup y = some c → c < s.heap.objs.size := fun y c e => by
    obtain ⟨v, q⟩ := I.cell y c (clOf_sub sc X.env.cells e)
    exact q.lt
  refine ⟨I.okLN S hC hf hlt, rfl, I.bare, Un.laid hk hDle (I.hok.fresh hDle), ⟨m, hn, fun i y v e1 e2 e3 => ?_⟩, fun y c e => ?_, ?_, fun y c e => ?_, fun p hp => absurd (show p ∈ ([] : List (Addr × Obj)) from hp) (by simp), I.hok.laid hk hDle ⟨Nat.zero_le _, [], 0, .nil, hl⟩, ?_⟩
  · have e1 : (xs ++ Ns)[i]? = some y := e1
    have e2 : (w ++ σ)[i]? = some (some v) := e2
    rcases Nat.lt_or_ge i xs.length with hi | hi
    · rw [List.getElem?_append_left (by omega), hw, List.getElem?_map, List.getElem?_eq_getElem hi] at e2
      cases e2
    · have e1' : Ns[i - xs.length]? = some y := by rw [List.getElem?_append_right hi] at e1; exact e1
      have e2' : σ[i - xs.length]? = some (some v) := by rw [List.getElem?_append_right (by omega), hwl] at e2; exact e2
      have e3' : Vis (relabel sc X.env) y := e3
      have ny : sc.names.lookup y ≠ some .local := S.apart y (List.mem_of_getElem? e1')
      have fr : sc.names.lookup y = some .free ∧ ((relabel sc X.env).names.lookup y = some .cell ∨ (relabel sc X.env).names.lookup y = some .free) := by
        rcases e3' with h | h | h
        · obtain ⟨k', e, q⟩ := relabel_look h
          rcases q with q | ⟨_, q⟩
          · subst q; exact absurd e ny
          · cases q
        · obtain ⟨k', e, q⟩ := relabel_look h
          rcases q with q | ⟨q, _⟩
          · subst q; exact absurd rfl (S.nocell _ (PySem.mem_of_lookup e))
          · exact ⟨by rw [e, q], .inl h⟩
        · obtain ⟨k', e, q⟩ := relabel_look h
          rcases q with q | ⟨_, q⟩
          · exact ⟨by rw [e, ← q], .inr h⟩
          · cases q
      have ok := S.free (y, .free) (PySem.mem_of_lookup fr.1) rfl
      obtain ⟨m0, hn0, hl0⟩ := I.loc
      obtain ⟨u, r, l⟩ := hl0 _ y v (S.sub _ y e1' fr.1) e2' (.inr ok)
      refine ⟨u, r, .inr ⟨fr.2, ?_⟩⟩
      rcases l with ⟨k, _⟩ | ⟨_, c, ec, z⟩
      · rcases ok with q | q <;> (rw [show X.env.kindOf y = some .local from k] at q; cases q)
      · obtain ⟨c', ec'⟩ := clOf_has sc X.env.cells (S.cells I.ok) (PySem.mem_of_lookup fr.1)
        have := clOf_sub sc X.env.cells ec'
        rw [ec] at this
        cases this
        obtain ⟨o, ho, hd⟩ := z
        exact ⟨c, ec', o, hk _ _ ho, hd⟩
  · obtain ⟨v, o, ho, hd⟩ := I.cell y c (clOf_sub sc X.env.cells e)
    exact ⟨v, o, hk _ _ ho, hd⟩
  · show upd H D (.lst []) C = none
    rw [upd_ne hDC]
    exact I.hok.fresh hC
  · show upd H D (.lst []) c = none
    rw [upd_ne (Nat.ne_of_lt (Nat.lt_of_lt_of_le (cells y c e) hDle))]
    exact I.freeC y c (clOf_sub sc X.env.cells e)
  · show (w ++ σ).length = (xs ++ Ns).length
    rw [List.length_append, List.length_append, I.len, hwl, S.len]
theorem Inv.endLN {s2 : Shared} {H2 : Hp} {st : St} {pl : List (Addr × Obj)} (I : Inv X pins σ H s) (J : Inv (cxLN X xs Ns sc C fp s H) pl st H2 s2) (hf : ∀ b ∈ fp, FpOk X pins H b) : Inv X pins σ H2 s2 :=
  I.call' (ch := fp) J.os J.base J.hok J.bare fun b hb => ⟨(hf b hb).2.2.2.1, (hf b hb).2.1, (hf b hb).2.2.2.2.1, (hf b hb).2.2.2.2.2⟩
end
/-- acc = []; for target in ..: if ..: acc.append(..), the list at D; n: how many names the target has -/
def lcGoN (n : Nat) (g : TG) (tc : TT) (te : TE) (σ : St) (J : It) (D : Addr) (Fin : Hp → Prop) (H : Hp) : Prop :=
  ∃ W : Nat → Nat → List V → Hp → Prop, (∃ m, W 0 m [] (upd H D (.lst []))) ∧ ∀ i m ys H, W i m ys H → H D = some (.lst ys) ∧
    ((J.stop i H ∧ Fin H) ∨ (J.go i H ∧ ∀ x H' (u : St), u.length = n → J.yld i H x H' → g x (u ++ σ) H' fun σ2 H2 => (∃ u2 : St, u2.length = n ∧ σ2 = u2 ++ σ) ∧ tc σ2 H2 fun b H3 => if b = true then te σ2 H3 fun y H4 => H4 D = some (.lst ys) ∧ ys.length < sizeLine ∧ ∃ m', m' < m ∧ W (i + 1) m' (ys ++ [y]) (upd H4 D (.lst (ys ++ [y])))
      else ∃ m', m' < m ∧ W (i + 1) m' ys H3))
def tLN (n : Nat) (wi : TI) (g : TG) (tc : TT) (te : TE) : TE := fun σ H Q => wi σ H fun J H1 => ∀ D, H1 D = none → lcGoN n g tc te σ J D (fun H2 => Q (.ref D) H2) H1
section
variable {X : Cx} {xs Ns : List Str} {sc : Scope} {elt iter tg : Expr} {ifs : List Expr} {pos : Pos} {wi : TI} {g : TG} {tc : TT} {te : TE}
theorem ln_block {pins : List (Addr × Obj)} {σ : St} {H : Hp} {s : Shared} {it : Addr} {fp : List Addr} {tn : Nat → Heap → Prop} {J : It} {Fin : Addr → Hp → Prop} {RR : Value → Addr → Result → Shared → Prop} {E : Value → Shared → Prop}
    (hc : X.calm = true) (S : LnScope X xs Ns sc) (I : Inv X pins σ H s) (T : Turn X.prog X.w X.K tg J fp it tn) (st : tn 0 s.heap) (hf : ∀ b ∈ fp, FpOk X pins H b) (hg : ∀ C s0 H0, PG (cxLN X xs Ns sc C fp s0 H0) tg g)
    (ht : ∀ C s0 H0, PTs (cxLN X xs Ns sc C fp s0 H0) ifs tc) (he : ∀ C s0 H0, PE (cxLN X xs Ns sc C fp s0 H0) elt te) (q : ∀ D, H D = none → lcGoN xs.length g tc te σ J D (Fin D) H)
    (hR : ∀ D C H2 s2 m, s.heap.objs.size ≤ C → Inv X pins σ H2 s2 → H2 C = none → s2.heap.Ns C m → Fin D H2 → RR (.ref D) C (.ok .next) s2) :
    wpAny (model X.prog X.w) X.A (newList []) (fun acc s3 => wpAny (model X.prog X.w) X.A (newFunctionEnv sc X.env.globals (clOf sc X.env.cells) [] X.env.qual none .none (some X.env)) (fun cenv s4 =>
      codeAny (model X.prog X.w) X.A (.compStart (.ListComp elt [⟨tg, iter, ifs, 0⟩] sc pos) 0 (.ref it) acc { cenv with scope := relabel sc X.env }) (RR acc cenv.locals) s4) E s3) E s := by
  have hlt : ∀ b ∈ fp, b < s.heap.objs.size := fun b hb => by
    obtain ⟨o, e, _⟩ := T.obj 0 _ st b hb
    exact Heap.lt_size e
  refine wpAny_newObj_type (wpAny_newFunctionEnv S.nocell (by intro y hy; simp at hy) (fun h1 hns1 hsb1 => ?_) S.kind)
  dsimp only at hns1 hsb1 ⊢
  generalize hH2 : s.heap.push { cls := .type "list", dict := none, data := .seq ([] : List Value).toArray } = G at hns1 hsb1 ⊢
  have hC : G.objs.size = s.heap.objs.size + 1 := by rw [← hH2, Heap.size_push]
  have hCle : s.heap.objs.size ≤ G.objs.size := by rw [hC]; exact Nat.le_succ _
  have hDC : G.objs.size ≠ s.heap.objs.size := by rw [hC]; exact Nat.succ_ne_self _
  have old : ∀ b o, s.heap.get? b = some o → h1.get? b = some o := fun b o e => hsb1.extBut b o (Nat.ne_of_lt (Nat.lt_of_lt_of_le (Heap.lt_size e) hCle)) (Heap.get?_push_of_some _ (hH2 ▸ Heap.get?_push_of_some _ e))
  have hacc : h1.get? s.heap.objs.size = some { cls := .type "list", data := .seq ([] : List Value).toArray 0 } := hsb1.extBut _ _ (Ne.symm hDC) (Heap.get?_push_of_some _ (hH2 ▸ Heap.get?_push_size _ rfl))
  have hDn : H s.heap.objs.size = none := I.hok.fresh (Nat.le_refl _)
  obtain ⟨W, ⟨m0, w0⟩, turn⟩ := q s.heap.objs.size hDn
  have st1 : tn 0 h1 := T.keep _ _ _ st fun b _ o e => old b o e
  have I1 := fun tk => I.startLN (tk := tk) (w := xs.map fun _ => none) S hf hlt rfl rfl hCle hDC old hns1 hacc
  have fr1 : ∀ b ∈ fp, upd H s.heap.objs.size (.lst []) b = none := fun b hb => by rw [upd_ne (Nat.ne_of_lt (hlt b hb))]; exact (hf b hb).1
  have loop : ∀ s3 : Shared, s3 = { s with heap := h1, toks := s.toks + ([] : List (Str × Value)).length } →
      codeAny (model X.prog X.w) X.A (.compLoop (.ListComp elt [⟨tg, iter, ifs, 0⟩] sc pos) 0 (.ref it) (.ref s.heap.objs.size) (compEnvC sc (clOf sc X.env.cells) G.objs.size X.env))
        (RR (.ref s.heap.objs.size) G.objs.size) s3 := by
    rintro s3 rfl
    have fpk : ∀ {H' : Hp}, (∀ b ∈ fp, H' b = none) → ∀ b ∈ fp, FpOk (cxLN X xs Ns sc G.objs.size fp s H) [] H' b := fun hn b hb =>
      ⟨hn b hb, Nat.ne_of_lt (Nat.lt_of_lt_of_le (hlt b hb) hCle), (I.okLN (C := G.objs.size) S hCle hf hlt).exfs b hb, .inl hb, fun y c e => (hf b hb).2.2.2.2.1 y c (clOf_sub sc X.env.cells e), fun p hp => absurd (show p ∈ ([] : List (Addr × Obj)) from hp) (by simp)⟩
    refine compLoop_own (fun n s' => ∃ i w ys H', w.length = xs.length ∧ Inv (cxLN X xs Ns sc G.objs.size fp s H) [] (w ++ σ) H' s' ∧ tn i s'.heap ∧ (∀ b ∈ fp, H' b = none) ∧ W i n ys H') ?_ m0 ⟨0, _, [], _, List.length_map _, I1 _, st1, fr1, w0⟩
    rintro n s3 ⟨i, v0, ys, H3, hv0, I3, st3, fr3, w3⟩
    obtain ⟨hD3, turn3⟩ := turn i n ys H3 w3
    rcases turn3 with ⟨stop, fin⟩ | ⟨go, step⟩
    · refine thn (T.done (cxLN X xs Ns sc G.objs.size fp s H) rfl rfl rfl hc i [] s3 _ H3 _ I3 (fpk fr3) st3 stop) fun r s4 ⟨hr, I4⟩ => ?_
      subst hr
      obtain ⟨m4, hn4, _⟩ := I4.loc
      exact hR _ _ H3 s4 m4 hCle (I.endLN I4 hf) I4.free hn4 fin
    · refine thn (T.item (cxLN X xs Ns sc G.objs.size fp s H) rfl rfl rfl hc i [] s3 _ H3 _ I3 (fpk fr3) st3 go) fun r s4 ⟨u, hr, h4⟩ => ?_
      subst hr
      refine thn h4 fun _ s5 ⟨y, H5, I5, r5, y5, st5, fr5⟩ => ?_
      have I5' := I5.pinned (fpk fr5) (T.obj _ _ st5)
      refine thn (hg G.objs.size s H _ s5 _ H5 y u _ I5' r5 (step y H5 v0 hv0 y5)) fun _ s6 ⟨σ6, H6, I6, ⟨w6, hw6, e6⟩, q6⟩ => ?_
      subst e6
      refine thn (ht G.objs.size s H _ s6 _ H6 _ I6 q6) fun ok s7 ⟨H7, I7, q7⟩ => ?_
      have again : ∀ {H8 : Hp} {s8 : Shared} {zs : List V}, Inv (cxLN X xs Ns sc G.objs.size fp s H) ([] ++ pinsAt fp s5.heap) (w6 ++ σ) H8 s8 → (∃ m', m' < n ∧ W (i + 1) m' zs H8) → ∃ m, m < n ∧ ∃ i w ys H', w.length = xs.length ∧ Inv (cxLN X xs Ns sc G.objs.size fp s H) [] (w ++ σ) H' s8 ∧ tn i s8.heap ∧ (∀ b ∈ fp, H' b = none) ∧ W i m ys H' := fun {H8 s8 zs} I8 ⟨m', hm, w8⟩ => by
        refine ⟨m', hm, i + 1, w6, zs, H8, hw6, I8.unpinned, T.keep _ _ _ st5 fun b hb o e => (I8.pin (b, o) (List.mem_append_right _ (List.mem_append_right _ (mem_pinsAt hb e)))).1, fun b hb => ?_, w8⟩
        obtain ⟨o, e, d⟩ := T.obj _ _ st5 b hb
        exact (I8.pin (b, o) (List.mem_append_right _ (List.mem_append_right _ (mem_pinsAt hb e)))).2.1
      cases ok with
      | false =>
        rw [if_neg Bool.false_ne_true] at q7 ⊢
        exact again I7 q7
      | true =>
        rw [if_pos rfl] at q7 ⊢
        refine thn (he G.objs.size s H _ s7 _ H7 _ I7 q7) fun z s8 ⟨zv, H8, I8, r8, hD8, hz8, w8⟩ => ?_
        refine thn (mt_append _ s8 _ H8 (.ref s.heap.objs.size) [zv] (.ref s.heap.objs.size) [z] (fun _ H9 => ∃ m', m' < n ∧ W (i + 1) m' (ys ++ [zv]) H9) I8 rfl (.cons r8 .nil) ⟨_, ys, zv, rfl, rfl, hD8, hz8, w8⟩) fun _ s9 ⟨_, H9, I9, _, w9⟩ => ?_
        exact again I9 w9
  exact codeAny_compStart_list (loop _ rfl) (T.self X.A 0 _ _ _ st1 (loop _ rfl))
/-- the target a, b -/
theorem pg_pair {x y : Str} {p1 p2 p3 : Pos} {k : Nat} (hc : X.calm = true) (S : LnScope X [x, y] Ns sc) : ∀ C fp s0 H0, PG (cxLN X [x, y] Ns sc C fp s0 H0) (.Tuple [.Name x p1, .Name y p2] k p3) (gTup X.K 2 (gCons (gName 0) (gCons (gName 1) gNil))) := fun C fp s0 H0 => by
  have lx : (relabel sc X.env).names.lookup x = some .local := lookup_relabel_local (S.loc x (by simp))
  have ly : (relabel sc X.env).names.lookup y = some .local := lookup_relabel_local (S.loc y (by simp))
  exact pg_tup (X := cxLN X [x, y] Ns sc C fp s0 H0) hc (pgs_cons (pg_name (i := 0) S.all rfl (.inl lx) (.inr lx)) (pgs_cons (pg_name (i := 1) S.all rfl (.inl ly) (.inr ly)) pgs_nil))
end
theorem lcN_go {tc : TT} {te : TE} {g : TG} {k : Nat} {σ : St} {J : It} {D : Addr} {Fin : Hp → Prop} {H : Hp} {n : Nat} (Pv : Nat → List V → Hp → Prop) (h0 : Pv 0 [] (upd H D (.lst [])))
    (hD : ∀ i ys H, Pv i ys H → H D = some (.lst ys)) (hend : ∀ ys H, Pv n ys H → J.stop n H ∧ Fin H)
    (hgo : ∀ i ys H, i < n → Pv i ys H → J.go i H ∧ ∀ x H' (u : St), u.length = k → J.yld i H x H' → g x (u ++ σ) H' fun σ2 H2 => (∃ u2 : St, u2.length = k ∧ σ2 = u2 ++ σ) ∧ tc σ2 H2 fun b H3 => if b = true then te σ2 H3 (LcNx n i D ys Pv) else LcNo n i ys Pv H3) : lcGoN k g tc te σ J D Fin H := by
  refine ⟨fun i m ys H => m = n - i ∧ i ≤ n ∧ Pv i ys H, ⟨n, rfl, Nat.zero_le _, h0⟩, ?_⟩
  rintro i m ys H ⟨rfl, hi, p⟩
  refine ⟨hD i ys H p, ?_⟩
  by_cases hlt : i < n
  · exact .inr (hgo i ys H hlt p)
  · have e : i = n := by omega
    subst e
    exact .inl (hend ys H p)
theorem sub_of {N Ns : List Str} {sc : Scope} (h : (Ns.zip N).all (fun p => decide (p.1 = p.2) || !(sc.names.lookup p.1 == some NameKind.free)) = true) (hl : Ns.length = N.length) : ∀ (i : Nat) (y : Str), Ns[i]? = some y → sc.names.lookup y = some .free → N[i]? = some y := fun i y e f => by
  have hi : i < Ns.length := (List.getElem?_eq_some_iff.mp e).1
  have hN : N[i]? = some (N[i]'(by omega)) := List.getElem?_eq_getElem (by omega)
  have hm : (y, N[i]'(by omega)) ∈ Ns.zip N := by
    refine List.mem_of_getElem? (i := i) ?_
    rw [List.getElem?_zip_eq_some]
    exact ⟨e, hN⟩
  have := List.all_eq_true.mp h _ hm
  dsimp only at this
  rw [f] at this
  have z : y = N[i]'(by omega) := by simpa using this
  rw [hN, ← z]
theorem lnS {X : Cx} {xs : List Str} (Ns : List Str) {sc scp : Scope} {N ps : List Str} (S : FnScope N ps scp) (hN : X.N = N := by rfl) (hs : X.env.scope = scp := by rfl) (h1 : sc.kind = .function := by rfl) (h2 : ∀ p ∈ sc.names, p.2 ≠ .cell := by decide +kernel) (h3 : ∀ x ∈ xs, sc.names.lookup x = some .local := by decide +kernel)
    (h4 : ∀ p ∈ sc.names, p.2 = .local → sc.names.lookup p.1 = some .local := by decide +kernel) (h5 : ∀ y ∈ Ns, sc.names.lookup y ≠ some .local := by decide +kernel) (h6 : (Ns.zip N).all (fun p => decide (p.1 = p.2) || !(sc.names.lookup p.1 == some NameKind.free)) = true := by decide +kernel) (hl : Ns.length = N.length := by rfl) (hall : (xs ++ Ns).Nodup := by decide +kernel)
    (h7 : ∀ p ∈ sc.names, p.2 = .free → scp.names.lookup p.1 = some .cell ∨ scp.names.lookup p.1 = some .free := by decide +kernel) : LnScope X xs Ns sc :=
  ⟨h1, h2, h3, h4, h5, by rw [hN]; exact sub_of h6 hl, by rw [hN]; exact hl, hall, fun p hp e => by
    show X.env.scope.names.lookup p.1 = _ ∨ X.env.scope.names.lookup p.1 = _
    rw [hs]
    exact h7 p hp e⟩
end L2
set_option Elab.async false
set_option linter.all false
set_option maxRecDepth 100000
/-! x = [.. for a, b in ..]: a comprehension of several names, or with a name that hides one, stored at once. -/
namespace L2
open PySem PySem.Spec PyProof.Rows
section
variable {X : Cx} {xs Ns : List Str} {sc : Scope} {tg iter elt : Expr} {ifs : List Expr} {pos : Pos} {wi : TI} {g : TG} {tc : TT} {te : TE}
theorem ps_setLN {i : Nat} {y : Str} {py spos : Pos} (hN0 : X.N.Nodup) (hc : X.calm = true) (hi' : X.N[i]? = some y) (hy : X.env.scope.names.lookup y = some .local) (S : LnScope X xs Ns sc) (hi : PI X tg iter wi) (hg : ∀ C fp s0 H0, PG (cxLN X xs Ns sc C fp s0 H0) tg g) (ht : ∀ C fp s0 H0, PTs (cxLN X xs Ns sc C fp s0 H0) ifs tc) (he : ∀ C fp s0 H0, PE (cxLN X xs Ns sc C fp s0 H0) elt te)
    (hsw : swapsWith (.ListComp elt [⟨tg, iter, ifs, 0⟩] sc pos) (some (.Name y py)) spos.line X.env = pure true := by rfl) (hs : ∀ v, foldedSetIterable iter X.env v = pure v := by intro _; rfl) :
    PS X (.Assign [.Name y py] (.ListComp elt [⟨tg, iter, ifs, 0⟩] sc pos) spos) (tAsg (tLN xs.length wi g tc te) (gName i)) := by
  refine ⟨?_⟩
  intro pins s σ H Dn I h
  rw [exec_Assign_Name_used _ _ _ _ hsw]
  refine wpAny_bind (wpAny_standAt (wpAny_bind ?_))
  show wpAny _ X.A (do let _ ← comprehension (.ListComp elt [⟨tg, iter, ifs, 0⟩] sc pos) sc X.env _ (newList []) false (eval iter X.env) (some (assign (.Name y py) X.env))) _ _ s
  refine wpAny_bind (wpAny_mono (wpAny_comprehension_free (use := some (assign (.Name y py) X.env)) (Q := fun _ s' => SP X pins Dn .next s') rfl hs (closure_eq (S.cells I.ok)) S.kind S.names
    (thn (hi pins s σ H _ I h) fun v s1 h1 => thn h1 fun itv s2 h2 => ?_)) (fun _ s' hq => wpAny_pure (wpAny_pure hq)) fun _ _ e => e)
  obtain ⟨it, fp, tn, J, H2, e, I2, T, st2, f2, q2⟩ := h2
  subst e
  refine ln_block (RR := fun acc C => compPost (model X.prog X.w) X.A X.xe (some (assign (.Name y py) X.env)) (fun _ s' => SP X pins Dn .next s') acc C) (Fin := fun D H3 => gName i (.ref D) σ H3 Dn.nx) hc S I2 T st2 f2 (fun C s0 H0 => hg C fp s0 H0) (fun C s0 H0 => ht C fp s0 H0) (fun C s0 H0 => he C fp s0 H0) q2 ?_
  intro D C H3 s3 m hC I3 hn hN q3
  show wpAny _ _ (assign (.Name y py) X.env (.ref D)) _ _ s3
  have cne : ∀ y c, X.env.cells.lookup y = some c → c ≠ C := fun y c e => by
    obtain ⟨v, z⟩ := I2.cell y c e
    exact Nat.ne_of_lt (Nat.lt_of_lt_of_le z.lt hC)
  refine wpAny_assign_Name (store_ok2 I3 hN0 hi' (.inl hy) (show RelV (.ref D) (.ref D) from rfl) (fun s4 I4 ⟨a, hs4, ha⟩ => ?_) (.inr hy))
  have haC : C ≠ a := by
    rcases ha with e | e
    · rw [e]; exact Nat.ne_of_gt (Nat.lt_of_lt_of_le I2.lt hC)
    · exact Ne.symm (cne y a e)
  refine ⟨m, hN.sameBut hs4 haC, fun h' hs' => ⟨_, H3, I4.butC hs' (Nat.le_trans I2.sz hC) hn (Nat.ne_of_gt (Nat.lt_of_lt_of_le I2.lt hC)) cne (fun p hp => ?_), q3⟩⟩
  exact Nat.ne_of_lt (Nat.lt_of_lt_of_le (Heap.lt_size (I2.pin p hp).1) hC)
end
end L2
set_option Elab.async false
set_option linter.all false
set_option maxRecDepth 100000
/-! list comprehensions whose elements may raise -/
namespace L2
open PySem PySem.Spec PyProof.Rows
abbrev Cx.exC (X : Cx) (xe : Value → Shared → Prop) : Cx := { X with xe := xe }
section
variable {X : Cx} {pins : List (Addr × Obj)} {σ : St} {H : Hp} {s : Shared} {xe : Value → Shared → Prop}
theorem Inv.exC (I : Inv X pins σ H s) (xe : Value → Shared → Prop) : Inv (X.exC xe) pins σ H s :=
  ⟨⟨I.ok.mod, I.ok.kind, I.ok.glob, I.ok.blt, I.ok.above, I.ok.inj, I.ok.has, I.ok.cab, I.ok.hd, I.ok.frames, I.ok.stk, I.ok.exf, I.ok.bs, I.ok.bsz, I.ok.noex, I.ok.exfs, I.ok.funs, I.ok.frf⟩, I.os, I.bare, I.base, I.loc, I.cell, I.free, I.freeC, I.pin, I.hok, I.len⟩
theorem Inv.unexC (I : Inv (X.exC xe) pins σ H s) : Inv X pins σ H s :=
  ⟨⟨I.ok.mod, I.ok.kind, I.ok.glob, I.ok.blt, I.ok.above, I.ok.inj, I.ok.has, I.ok.cab, I.ok.hd, I.ok.frames, I.ok.stk, I.ok.exf, I.ok.bs, I.ok.bsz, I.ok.noex, I.ok.exfs, I.ok.funs, I.ok.frf⟩, I.os, I.bare, I.base, I.loc, I.cell, I.free, I.freeC, I.pin, I.hok, I.len⟩
end
theorem but_ex {h h' : Heap} {C : Addr} (ho : ∃ o, h.get? C = some o) : ∃ g, Heap.SameBut C h g ∧ g.get? C = h'.get? C := by
  obtain ⟨o, ho⟩ := ho
  cases q : h'.get? C with
  | some u =>
    exact ⟨h.update C fun _ => u, Heap.SameBut.update .., Heap.get?_update_self (fun _ => u) ho (Heap.get?_some_iff.mp q).2⟩
  | none =>
    refine ⟨h.update C fun o => { o with data := .freed }, Heap.SameBut.update .., ?_⟩
    cases z : (h.update C fun o => { o with data := .freed }).get? C with
    | none => rfl
    | some u =>
      obtain ⟨z1, z2⟩ := Heap.get?_some_iff.mp z
      obtain ⟨e1, _⟩ := Heap.get?_some_iff.mp ho
      have e3 : (h.update C fun o => { o with data := .freed }).objs[C]? = some { o with data := .freed } := by
        cases h; simp only [Heap.update, Array.getElem?_modify, if_true]; simp only at e1; rw [e1]; rfl
      rw [e3] at z1; cases z1; cases z2
section
variable {X : Cx} {pins : List (Addr × Obj)} {σ : St} {H H' : Hp} {s s₁ : Shared} {cls : XCk} {a C : Addr} {new : Bool} {m : Str → Option Value} {cenv : Env} {E : XK} {use : Option (Value → Sem Unit)} {QQ : Value → Shared → Prop} {acc : Value}
/-- an error leaves a comprehension's block: its names go, it is passed on -/
theorem comp_err (W : Wish X E) (I : Inv X pins σ H s) (hst : X.stack = X.env :: X.outer) (hf : X.env.frame = some X.env.locals) (x : EX X.prog X.w X.stack H s new cls a H' s₁) (q : E cls.1 cls.2 H') (hC : X.s₀.heap.objs.size ≤ C) (hn : H C = none) (hL : C ≠ X.env.locals) (hc : ∀ y c, X.env.cells.lookup y = some c → c ≠ C) (hp : ∀ p ∈ X.pn ++ pins, p.1 ≠ C)
    (hCf : C ∉ frs X.stack) (hN : s.heap.Ns C m) (hcf : cenv.frame = X.env.frame) : notedBy (model X.prog X.w) X.A cenv (fun e s' => compPost (model X.prog X.w) X.A X.xe use QQ acc C (.error e) s') (.ref a) s₁ := by
  refine note_fl I hst hf I.ok.frames hcf x fun h₃ x3 ⟨vs, oe, T, oT, ts, f, he, hd, h1, ht, hT, hdT, h3, hnT, hgT⟩ => ?_
  obtain ⟨oC, es, ep, hoC, rN⟩ := id hN
  have hC3 : h₃.get? C = some oC := x3.un.keep C oC hoC hn hCf (by simp)
  have aC : a ≠ C := fun z => by have := x3.rc.base.2; rw [z, hoC] at this; cases this
  have TC : T ≠ C := fun z => by rw [z, hoC] at hgT; cases hgT
  have key : ∃ m, h₃.Ns C m ∧ ∀ h', Heap.SameBut C h₃ h' → ∀ cenv : Env, cenv.locals = C → wpAny (model X.prog X.w) X.A (PySem.passOn "comprehension.variables-let-go" (.ref a) cenv : Sem Value) (fun _ _ => False) X.xe { s₁ with heap := h' } := by
    refine ⟨m, ⟨oC, es, ep, hC3, rN⟩, fun h' hs' cenv' _ => ?_⟩
    obtain ⟨g, hg, hgC⟩ := but_ex (h := s.heap) (h' := h') (C := C) ⟨oC, hoC⟩
    have Ig : Inv X pins σ H { s with heap := g } := I.butC hg hC hn hL hc hp
    have nC : H' C = none := x3.un.free C oC hoC hn (by simp)
    have xg : EX X.prog X.w X.stack H { s with heap := g } true cls a H' { s₁ with heap := h' } := by
      refine ⟨x3.os, x3.bare, ⟨fun b o e n hb hx => ?_, fun b o e n hb hx => ?_, fun b o e n hx => ?_, fun b o e hx => ?_, x3.un.tups, x3.un.frzs, x3.un.tbls⟩, fun b ob e => ?_, ?_⟩
      · by_cases hbC : b = C
        · subst hbC; exact hgC.symm.trans e
        · exact (hs'.2 b hbC).trans (x3.un.keep b o ((hg.2 b hbC).symm.trans e) n hb hx)
      · have hbC : b ≠ C := fun z => hCf (z ▸ hb)
        obtain ⟨sl, e1⟩ := x3.un.slot b o ((hg.2 b hbC).symm.trans e) n hb hx
        exact ⟨sl, (hs'.2 b hbC).trans e1⟩
      · by_cases hbC : b = C
        · subst hbC; exact nC
        · exact x3.un.free b o ((hg.2 b hbC).symm.trans e) n hx
      · by_cases hbC : b = C
        · subst hbC; exact ⟨o, hgC.symm.trans e⟩
        · obtain ⟨o', e1⟩ := x3.un.there b o ((hg.2 b hbC).symm.trans e) hx
          exact ⟨o', (hs'.2 b hbC).trans e1⟩
      · refine (x3.hok b ob e).stay (fun c u hc' z => (hs'.2 c fun zz => ?_).trans z) (fun _ z => z) fun _ _ z => z
        rcases hc' with rfl | hc'
        · rw [zz, nC] at e; cases e
        · rw [zz, nC] at hc'; cases hc'
      · cases x3.rc with
        | new oe' vs' he' hc' hd' hdi hn' hg' h1' => rw [he] at he'; cases he'; rw [hd] at hd'; cases hd'; rw [h1] at h1'; cases h1'
        | fl oe' vs' he' hc' hd' hdi hn' hg' T' oT' ts' h1' ht' hT' hdT' f' h3' hnT' hgT' =>
          have TC' : T' ≠ C := fun z => by rw [z, hoC] at hgT'; cases hgT'
          exact .fl oe' vs' ((hs'.2 a aC).trans he') hc' hd' hdi hn' ((hg.2 a aC).trans hg') T' oT' ts' h1' ht' ((hs'.2 T' TC').trans hT') hdT' f' h3' hnT' ((hg.2 T' TC').trans hgT')
    unfold PySem.passOn
    refine wpAny_bind (wpAny_field ((hs'.2 a aC).trans he) hd h1 ?_)
    rw [if_neg (show ¬ ((Value.ref T == Value.none) = true) by simp)]
    unfold setFlight
    refine wpAny_bind (wpAny_bind (wpAny_field ((hs'.2 a aC).trans he) hd h1 ?_))
    rw [if_pos (show (Value.ref T != Value.none) = true by simp)]
    refine wpAny_setField ((hs'.2 T TC).trans hT) hdT (Array.getElem?_eq_some_iff.mp h3).1 (wpAny_throw ?_)
    exact W.go pins σ H _ _ cls a H' _ Ig (xg.flight (fl := cenv'.frame) ((hs'.2 a aC).trans he) hd h1 ht ((hs'.2 T TC).trans hT) hdT h3 hnT ((hg.2 T TC).trans hgT)) q
  cases use with
  | none => exact key
  | some u => exact key
end
theorem compLoop_ownX {prog : Program} {w : World} {A : Around} {R : Result → Shared → Prop} {s : Shared} {elt target iter : Expr} {ifs : List Expr} {scope : Scope} {pos : Pos} {it acc : Value} {env : Env} (I : Nat → Shared → Prop)
    (turn : ∀ n s, I n s → wpAny (model prog w) A (pyNext it) (fun r s1 => match r with
      | none => R (.ok .next) s1
      | some v => wpAny (model prog w) A (letOwnedTupleGo target it v) (fun _ s1 => wpAny (model prog w) A (assign target env v) (fun _ s2 =>
          wpAny (model prog w) A (forIn ifs true fun c r => if r = true then do let ok ← isTrue c env (eval c env); pure (ForInStep.yield ok) else pure (ForInStep.yield r)) (fun ok s3 =>
            if ok = true then wpAny (model prog w) A (eval elt env) (fun x s4 =>
              wpAny (model prog w) A (call (.builtin "list.append") [acc, x]) (fun _ s5 => ∃ m, m < n ∧ I m s5) (fun _ _ => False) s4) (notedBy (model prog w) A env fun e s' => R (.error e) s') s3
            else ∃ m, m < n ∧ I m s3) (fun _ _ => False) s2) (fun _ _ => False) s1) (fun _ _ => False) s1) (fun _ _ => False) s)
    (n : Nat) (h : I n s) :
    codeAny (model prog w) A (.compLoop (.ListComp elt [⟨target, iter, ifs, 0⟩] scope pos) 0 it acc env) R s := by
  refine codeAny_loop rfl I (fun n s hI => ?_) n h
  show wpAny _ A ((compTurn (.ListComp elt [⟨target, iter, ifs, 0⟩] scope pos) 0 it acc env).onRaise (fun x => do noteFrame x env; theTreesLotGoes x)) _ _ s
  refine wpAny_noted ?_
  rw [compTurn_list]
  refine wpAny_bind (wpAny_standAt (wpAny_bind (wpAny_mono (turn n s hI) (fun r s1 h1 => ?_) fun _ _ h' => h'.elim)))
  cases r with
  | none => exact wpAny_pure h1
  | some v =>
    refine wpAny_bind (wpAny_mono h1 (fun _ s1 h1 => ?_) fun _ _ h' => h'.elim)
    refine wpAny_bind (wpAny_mono h1 (fun _ s2 h2 => wpAny_bind (wpAny_mono h2 (fun ok s3 h3 => ?_) fun _ _ h' => h'.elim)) fun _ _ h' => h'.elim)
    cases ok with
    | false => exact wpAny_pure ⟨rfl, h3⟩
    | true =>
      exact wpAny_bind (wpAny_bind (wpAny_mono h3 (fun x s4 h4 => wpAny_bind (wpAny_mono h4 (fun _ s5 h5 => wpAny_pure (wpAny_pure ⟨rfl, h5⟩)) fun _ _ h' => h'.elim)) fun _ _ h' => h'))
section
variable {X : Cx} {xs Ns : List Str} {sc : Scope} {elt iter tg : Expr} {ifs : List Expr} {pos : Pos} {wi : TI} {g : TG} {tc : TT} {te : TE}
theorem ln_blockX {pins : List (Addr × Obj)} {σ : St} {H : Hp} {s : Shared} {it : Addr} {fp : List Addr} {tn : Nat → Heap → Prop} {J : It} {Fin : Addr → Hp → Prop} {use : Option (Value → Sem Unit)} {QQ : Value → Shared → Prop} {E : XK}
    (W : Wish X E) (hst : X.stack = X.env :: X.outer) (hff : X.env.frame = some X.env.locals) (hc : X.calm = true) (S : LnScope X xs Ns sc) (I : Inv X pins σ H s) (T : Turn X.prog X.w X.K tg J fp it tn) (st : tn 0 s.heap) (hf : ∀ b ∈ fp, FpOk X pins H b) (hg : ∀ C s0 H0, PG (cxLN X xs Ns sc C fp s0 H0) tg g)
    (ht : ∀ C s0 H0, PTs (cxLN X xs Ns sc C fp s0 H0) ifs tc) (he : ∀ C s0 H0 xe, Wish ((cxLN X xs Ns sc C fp s0 H0).exC xe) E → PE ((cxLN X xs Ns sc C fp s0 H0).exC xe) elt te) (q : ∀ D, H D = none → lcGoN xs.length g tc te σ J D (Fin D) H)
    (hR : ∀ D C H2 s2 m, s.heap.objs.size ≤ C → Inv X pins σ H2 s2 → H2 C = none → s2.heap.Ns C m → Fin D H2 → compPost (model X.prog X.w) X.A X.xe use QQ (.ref D) C (.ok .next) s2) :
    wpAny (model X.prog X.w) X.A (newList []) (fun acc s3 => wpAny (model X.prog X.w) X.A (newFunctionEnv sc X.env.globals (clOf sc X.env.cells) [] X.env.qual none .none (some X.env)) (fun cenv s4 =>
      codeAny (model X.prog X.w) X.A (.compStart (.ListComp elt [⟨tg, iter, ifs, 0⟩] sc pos) 0 (.ref it) acc { cenv with scope := relabel sc X.env }) (compPost (model X.prog X.w) X.A X.xe use QQ acc cenv.locals) s4) X.xe s3) X.xe s := by
  have hlt : ∀ b ∈ fp, b < s.heap.objs.size := fun b hb => by
    obtain ⟨o, e, _⟩ := T.obj 0 _ st b hb
    exact Heap.lt_size e
  refine wpAny_newObj_type (wpAny_newFunctionEnv S.nocell (by intro y hy; simp at hy) (fun h1 hns1 hsb1 => ?_) S.kind)
  dsimp only at hns1 hsb1 ⊢
  generalize hH2 : s.heap.push { cls := .type "list", dict := none, data := .seq ([] : List Value).toArray } = G at hns1 hsb1 ⊢
  have hC : G.objs.size = s.heap.objs.size + 1 := by rw [← hH2, Heap.size_push]
  have hCle : s.heap.objs.size ≤ G.objs.size := by rw [hC]; exact Nat.le_succ _
  have hDC : G.objs.size ≠ s.heap.objs.size := by rw [hC]; exact Nat.succ_ne_self _
  have old : ∀ b o, s.heap.get? b = some o → h1.get? b = some o := fun b o e => hsb1.extBut b o (Nat.ne_of_lt (Nat.lt_of_lt_of_le (Heap.lt_size e) hCle)) (Heap.get?_push_of_some _ (hH2 ▸ Heap.get?_push_of_some _ e))
  have hacc : h1.get? s.heap.objs.size = some { cls := .type "list", data := .seq ([] : List Value).toArray 0 } := hsb1.extBut _ _ (Ne.symm hDC) (Heap.get?_push_of_some _ (hH2 ▸ Heap.get?_push_size _ rfl))
  have hDn : H s.heap.objs.size = none := I.hok.fresh (Nat.le_refl _)
  obtain ⟨Wv, ⟨m0, w0⟩, turn⟩ := q s.heap.objs.size hDn
  have st1 : tn 0 h1 := T.keep _ _ _ st fun b _ o e => old b o e
  have I1 := fun tk => I.startLN (tk := tk) (w := xs.map fun _ => none) S hf hlt rfl rfl hCle hDC old hns1 hacc
  have fr1 : ∀ b ∈ fp, upd H s.heap.objs.size (.lst []) b = none := fun b hb => by rw [upd_ne (Nat.ne_of_lt (hlt b hb))]; exact (hf b hb).1
  have loop : ∀ s3 : Shared, s3 = { s with heap := h1, toks := s.toks + ([] : List (Str × Value)).length } →
      codeAny (model X.prog X.w) X.A (.compLoop (.ListComp elt [⟨tg, iter, ifs, 0⟩] sc pos) 0 (.ref it) (.ref s.heap.objs.size) (compEnvC sc (clOf sc X.env.cells) G.objs.size X.env))
        (compPost (model X.prog X.w) X.A X.xe use QQ (.ref s.heap.objs.size) G.objs.size) s3 := by
    rintro s3 rfl
    have fpk : ∀ {H' : Hp}, (∀ b ∈ fp, H' b = none) → ∀ b ∈ fp, FpOk (cxLN X xs Ns sc G.objs.size fp s H) [] H' b := fun hn b hb =>
      ⟨hn b hb, Nat.ne_of_lt (Nat.lt_of_lt_of_le (hlt b hb) hCle), (I.okLN (C := G.objs.size) S hCle hf hlt).exfs b hb, .inl hb, fun y c e => (hf b hb).2.2.2.2.1 y c (clOf_sub sc X.env.cells e), fun p hp => absurd (show p ∈ ([] : List (Addr × Obj)) from hp) (by simp)⟩
    refine compLoop_ownX (fun n s' => ∃ i w ys H', w.length = xs.length ∧ Inv (cxLN X xs Ns sc G.objs.size fp s H) [] (w ++ σ) H' s' ∧ tn i s'.heap ∧ (∀ b ∈ fp, H' b = none) ∧ Wv i n ys H') ?_ m0 ⟨0, _, [], _, List.length_map _, I1 _, st1, fr1, w0⟩
    rintro n s3 ⟨i, v0, ys, H3, hv0, I3, st3, fr3, w3⟩
    obtain ⟨hD3, turn3⟩ := turn i n ys H3 w3
    rcases turn3 with ⟨stop, fin⟩ | ⟨go, step⟩
    · refine thn (T.done (cxLN X xs Ns sc G.objs.size fp s H) rfl rfl rfl hc i [] s3 _ H3 _ I3 (fpk fr3) st3 stop) fun r s4 ⟨hr, I4⟩ => ?_
      subst hr
      obtain ⟨m4, hn4, _⟩ := I4.loc
      exact hR _ _ H3 s4 m4 hCle (I.endLN I4 hf) I4.free hn4 fin
    · refine thn (T.item (cxLN X xs Ns sc G.objs.size fp s H) rfl rfl rfl hc i [] s3 _ H3 _ I3 (fpk fr3) st3 go) fun r s4 ⟨u, hr, h4⟩ => ?_
      subst hr
      refine thn h4 fun _ s5 ⟨y, H5, I5, r5, y5, st5, fr5⟩ => ?_
      have I5' := I5.pinned (fpk fr5) (T.obj _ _ st5)
      refine thn (hg G.objs.size s H _ s5 _ H5 y u _ I5' r5 (step y H5 v0 hv0 y5)) fun _ s6 ⟨σ6, H6, I6, ⟨w6, hw6, e6⟩, q6⟩ => ?_
      subst e6
      refine thn (ht G.objs.size s H _ s6 _ H6 _ I6 q6) fun ok s7 ⟨H7, I7, q7⟩ => ?_
      have again : ∀ {H8 : Hp} {s8 : Shared} {zs : List V}, Inv (cxLN X xs Ns sc G.objs.size fp s H) ([] ++ pinsAt fp s5.heap) (w6 ++ σ) H8 s8 → (∃ m', m' < n ∧ Wv (i + 1) m' zs H8) → ∃ m, m < n ∧ ∃ i w ys H', w.length = xs.length ∧ Inv (cxLN X xs Ns sc G.objs.size fp s H) [] (w ++ σ) H' s8 ∧ tn i s8.heap ∧ (∀ b ∈ fp, H' b = none) ∧ Wv i m ys H' := fun {H8 s8 zs} I8 ⟨m', hm, w8⟩ => by
        refine ⟨m', hm, i + 1, w6, zs, H8, hw6, I8.unpinned, T.keep _ _ _ st5 fun b hb o e => (I8.pin (b, o) (List.mem_append_right _ (List.mem_append_right _ (mem_pinsAt hb e)))).1, fun b hb => ?_, w8⟩
        obtain ⟨o, e, d⟩ := T.obj _ _ st5 b hb
        exact (I8.pin (b, o) (List.mem_append_right _ (List.mem_append_right _ (mem_pinsAt hb e)))).2.1
      cases ok with
      | false =>
        rw [if_neg Bool.false_ne_true] at q7 ⊢
        exact again I7 q7
      | true =>
        rw [if_pos rfl] at q7 ⊢
        refine wpAny_mono (he G.objs.size s H (notedBy (model X.prog X.w) X.A (compEnvC sc (clOf sc X.env.cells) G.objs.size X.env) fun e s' => compPost (model X.prog X.w) X.A X.xe use QQ (.ref s.heap.objs.size) G.objs.size (.error e) s') ⟨fun pl σl Hl sl new cls a H' s₁ Jl x qe => ?_⟩ _ s7 _ H7 _ (I7.exC _) q7) (fun z s8 ⟨zv, H8, I8x, r8, hD8, hz8, w8⟩ => ?_) fun _ _ y => y
        · have J := Jl.unexC
          have I9 := I.endLN J hf
          obtain ⟨m9, hn9, _⟩ := id J.loc
          refine comp_err W I9 hst hff x qe (Nat.le_trans I.sz hCle) J.free (Nat.ne_of_gt (Nat.lt_of_lt_of_le I.lt hCle)) (fun y c e => ?_) (fun p hp => ?_) (fun hm => ?_) hn9 rfl
          · obtain ⟨v, z⟩ := I.cell y c e
            exact Nat.ne_of_lt (Nat.lt_of_lt_of_le z.lt hCle)
          · exact Nat.ne_of_lt (Nat.lt_of_lt_of_le (Heap.lt_size (I.pin p hp).1) hCle)
          · obtain ⟨_, o, ho, _⟩ := I.stack.mem hm
            exact Nat.ne_of_lt (Nat.lt_of_lt_of_le (Heap.lt_size ho) hCle) rfl
        have I8 := I8x.unexC
        refine wpAny_mono (mt_append (X := cxLN X xs Ns sc G.objs.size fp s H) _ s8 _ H8 (.ref s.heap.objs.size) [zv] (.ref s.heap.objs.size) [z] (fun _ H9 => ∃ m', m' < n ∧ Wv (i + 1) m' (ys ++ [zv]) H9) I8 rfl (.cons r8 .nil) ⟨_, ys, zv, rfl, rfl, hD8, hz8, w8⟩) (fun _ s9 ⟨_, H9, I9, _, w9⟩ => ?_) fun _ _ y => y.elim
        exact again I9 w9
  exact codeAny_compStart_list (loop _ rfl) (T.self X.A 0 _ _ _ st1 (loop _ rfl))
theorem pe_lnX {E : XK} (W : Wish X E) (hc : X.calm = true) (S : LnScope X xs Ns sc) (hi : PI X tg iter wi) (hg : ∀ C fp s0 H0, PG (cxLN X xs Ns sc C fp s0 H0) tg g) (ht : ∀ C fp s0 H0, PTs (cxLN X xs Ns sc C fp s0 H0) ifs tc) (he : ∀ C fp s0 H0 xe, Wish ((cxLN X xs Ns sc C fp s0 H0).exC xe) E → PE ((cxLN X xs Ns sc C fp s0 H0).exC xe) elt te)
    (hs : ∀ v, foldedSetIterable iter X.env v = pure v := by intro _; rfl) (hst : X.stack = X.env :: X.outer := by rfl) (hff : X.env.frame = some X.env.locals := by rfl) : PE X (.ListComp elt [⟨tg, iter, ifs, 0⟩] sc pos) (tLN xs.length wi g tc te) := by
  refine ⟨?_⟩
  intro pins s σ H Q I h
  rw [eval_ListComp]
  refine wpAny_comprehension_free (use := none) rfl hs (closure_eq (S.cells I.ok)) S.kind S.names (thn (hi pins s σ H _ I h) fun v s1 h1 => thn h1 fun itv s2 h2 => ?_)
  obtain ⟨it, fp, tn, J, H2, e, I2, T, st2, f2, q2⟩ := h2
  subst e
  refine ln_blockX (use := none) (QQ := EP X pins σ Q) (Fin := fun D H3 => Q (.ref D) H3) W hst hff hc S I2 T st2 f2 (fun C s0 H0 => hg C fp s0 H0) (fun C s0 H0 => ht C fp s0 H0) (fun C s0 H0 => he C fp s0 H0) q2 ?_
  intro D C H3 s3 m hC I3 hn hN q3
  refine ⟨m, hN, fun h' hs' => ⟨.ref D, H3, I3.butC hs' (Nat.le_trans I2.sz hC) hn (Nat.ne_of_gt (Nat.lt_of_lt_of_le I2.lt hC)) (fun y c e => ?_) (fun p hp => ?_), rfl, q3⟩⟩
  · obtain ⟨v, z⟩ := I2.cell y c e
    exact Nat.ne_of_lt (Nat.lt_of_lt_of_le z.lt hC)
  · exact Nat.ne_of_lt (Nat.lt_of_lt_of_le (Heap.lt_size (I2.pin p hp).1) hC)
end
end L2
set_option Elab.async false
set_option linter.all false
set_option maxRecDepth 100000
/-! TEXTS over the hand layer: their methods, join, split, partition, int of a text. -/
namespace L2
open PySem PySem.Spec PyProof.Rows
theorem strs_of : ∀ {ts : List Str} {us : List Value}, Vals (ts.map V.str) us → ∃ l : List (Str × Tok), us = strValues l ∧ l.map (·.1) = ts
  | [], us, h => by
    cases h
    exact ⟨[], rfl, rfl⟩
  | x :: r, us, h => by
    cases h with
    | cons a b =>
      obtain ⟨t, rfl⟩ := a
      obtain ⟨l, rfl, e⟩ := strs_of b
      exact ⟨(x, t) :: l, rfl, by rw [List.map_cons, e]⟩
theorem vals_of : ∀ (l : List (Str × Tok)), Vals ((l.map (·.1)).map V.str) (strValues l)
  | [] => .nil
  | (x, t) :: r => .cons ⟨t, rfl⟩ (vals_of r)
section
variable {X : Cx}
/-- x.isdigit(), x.isascii() and the like, by the call's own rule -/
theorem mt_is {id : String} {f : Str → Bool} (hc : ∀ (x : Str) (t : Tok) (Q : Value → Shared → Prop) (s : Shared), Q (.bool (f x)) s → wpAny (model X.prog X.w) X.A (call (.builtin id) [.str x t]) Q X.xe s) : MtR X id (fun x xs H Q => ∃ z, x = .str z ∧ xs = [] ∧ Q (.bl (f z)) H) := by
  intro pins s σ H x xs v us Q I rx r h
  obtain ⟨z, e1, e2, q⟩ := h
  subst e1 e2
  obtain ⟨t, rfl⟩ := rx
  cases r
  exact hc z t _ s ⟨.bl (f z), H, I, rfl, q⟩
theorem mt_isdigit : MtR X "str.isdigit" (fun x xs H Q => ∃ z, x = .str z ∧ xs = [] ∧ Q (.bl (Txt.isdigit z)) H) := mt_is fun _ _ _ _ h => SC.isdigit h
theorem mt_isascii : MtR X "str.isascii" (fun x xs H Q => ∃ z, x = .str z ∧ xs = [] ∧ Q (.bl (Txt.isascii z)) H) := mt_is fun _ _ _ _ h => SC.isascii h
theorem mt_removeprefix : MtR X "str.removeprefix" (fun x xs H Q => ∃ z y, x = .str z ∧ xs = [.str y] ∧ z.length ≤ sizeLine ∧ Q (.str (Txt.removeprefix z y)) H) := by
  intro pins s σ H x xs v us Q I rx r h
  obtain ⟨z, y, e1, e2, hz, q⟩ := h
  subst e1 e2
  obtain ⟨t, rfl⟩ := rx
  obtain ⟨u, rfl, ry⟩ := vals1 r
  obtain ⟨t', rfl⟩ := ry
  exact SC.removeprefix (fun t1 k => ⟨.str _, H, I.tok k, ⟨t1, rfl⟩, q⟩) hz
theorem mt_join : MtR X "str.join" (fun x xs H Q => ∃ sep D, ∃ ts : List Str, x = .str sep ∧ xs = [.ref D] ∧ SqL X.K H D (ts.map V.str) ∧ JoinOk sep ts = true ∧ Q (.str (Txt.join sep ts)) H) := by
  intro pins s σ H x xs v us Q I rx r h
  obtain ⟨sep, D, ts, e1, e2, hq, hok, q⟩ := h
  subst e1 e2
  obtain ⟨t, rfl⟩ := rx
  obtain ⟨u, rfl, ry⟩ := vals1 r
  cases ry
  obtain ⟨its, rv, p, hz⟩ := I.list hq
  obtain ⟨l, rfl, et⟩ := strs_of rv
  exact SC.join p.isList et hok fun t1 k => ⟨.str _, H, I.tok k, ⟨t1, rfl⟩, q⟩
/-- a new list of texts stands at the heap's end -/
theorem new_strs {pins : List (Addr × Obj)} {σ : St} {H : Hp} {s : Shared} {Q : VK} (l : List (Str × Tok)) {ts : List Str} {k : Nat} (I : Inv X pins σ H s) (e : l.map (·.1) = ts) (hz : ts.length ≤ sizeLine) (q : ∀ D, H D = none → Q (.ref D) (upd H D (.lst (ts.map V.str)))) :
    EP X pins σ Q (.ref s.heap.objs.size) { s with heap := s.heap.push { cls := .type "list", data := .seq (strValues l).toArray }, toks := k } := by
  subst e
  refine ⟨.ref _, _, I.laid (t' := k) (o := .lst ((l.map (·.1)).map V.str)) (fun b ob z => Heap.get?_push_of_some _ z) (Nat.le_refl _) ?_, rfl, q _ (I.hok.fresh (Nat.le_refl _))⟩
  exact ⟨by rw [List.length_map]; exact hz, _, 0, vals_of l, Heap.get?_push_size _ rfl⟩
theorem mt_split : MtR X "str.split" (fun x xs H Q => ∃ z y, x = .str z ∧ xs = [.str y] ∧ (y.length == 0) = false ∧ z.length ≤ sizeLine ∧ (Txt.split z y).length ≤ sizeLine ∧ ∀ D, H D = none → Q (.ref D) (upd H D (.lst ((Txt.split z y).map V.str)))) := by
  intro pins s σ H x xs v us Q I rx r h
  obtain ⟨z, y, e1, e2, hy, hz, hn, q⟩ := h
  subst e1 e2
  obtain ⟨t, rfl⟩ := rx
  obtain ⟨u, rfl, ry⟩ := vals1 r
  obtain ⟨t', rfl⟩ := ry
  cases h1 : (decide (z.length < y.length) || decide (Builtin.Str.strKind z < Builtin.Str.strKind y)) with
  | true =>
    have es : Txt.split z y = [z] := if_pos h1
    rw [es] at hn q
    exact call_meets F.slot_str_split (typeIs_str _ _ _) F.entry_str_split (F.args_str_split_2 _ _) (meets_str_split_cannot_occur z y t t' h1) (new_strs [(z, t)] (k := s.toks) I rfl hn q)
  | false =>
    cases hf : (Builtin.Str.occurrences z y 0 z.length (z.length + 1)).isEmpty with
    | true =>
      have es : Txt.split z y = [z] := (if_neg (ne_true_of_eq_false h1)).trans (if_pos hf)
      rw [es] at hn q
      exact call_meets F.slot_str_split (typeIs_str _ _ _) F.entry_str_split (F.args_str_split_2 _ _) (meets_str_split_not_found z y t t' h1 hy hf) (new_strs [(z, t)] (k := s.toks) I rfl hn q)
    | false =>
      have es : Txt.split z y = Builtin.Str.partsBetween z (Builtin.Str.occurrences z y 0 z.length (z.length + 1)) y.length := (if_neg (ne_true_of_eq_false h1)).trans (if_neg (ne_true_of_eq_false hf))
      rw [es] at hn q
      refine call_meets F.slot_str_split (typeIs_str _ _ _) F.entry_str_split (F.args_str_split_2 _ _) (meets_str_split_sep z y t t' h1 hy hf hz hn) ?_
      show wants _ _ _ { s with toks := _, heap := s.heap.push { cls := .type "list", data := .seq (strsFrom s.toks (Builtin.Str.partsBetween z (Builtin.Str.occurrences z y 0 z.length (z.length + 1)) y.length)).toArray } }
      rw [strsFrom_eq]
      exact new_strs (numbered s.toks _) I (numbered_texts _ _) hn q
/-- int(text) -/
theorem call_int_text : CallR X (.type "int") (fun xs H Q => ∃ z n, xs = [.str z] ∧ PySem.intText? z = some n ∧ z.length ≤ 640 ∧ Q (.int n) H) := by
  intro pins s σ H xs us Q I r h
  obtain ⟨z, n, e1, hn, hl, q⟩ := h
  subst e1
  obtain ⟨u, rfl, ry⟩ := vals1 r
  obtain ⟨t, rfl⟩ := ry
  exact PySem.W.KIN.call_text hn hl ⟨.int n, H, I.tok _, ⟨_, rfl⟩, q⟩
end
end L2
set_option Elab.async false
set_option linter.all false
set_option maxRecDepth 100000
/-! texts: x * n, x[lo:hi] -/
namespace L2
open PySem PySem.Spec PyProof.Rows
section
variable {X : Cx}
/-- x * n -/
inductive rMulS (x y : V) (H : Hp) (Q : VK) : Prop
  | mk (z : Str) (n : Int) (e1 : x = .str z) (e2 : y = .int n) (h1 : -1000000 < n) (h2 : n < 1000000) (h3 : z.length * n.toNat ≤ 100000) (q : Q (.str (Txt.mul z n)) H) : rMulS x y H Q
theorem op_mulS : OpR X (binaryOp .Mult) rMulS := by
  intro pins s σ H x y v u Q I rx ry h
  obtain ⟨z, n, rfl, rfl, h1, h2, h3, q⟩ := h
  obtain ⟨t, rfl⟩ := rx
  obtain ⟨t', rfl⟩ := ry
  refine SB.mul ⟨?_, fun a b => ?_, fun a b => ?_⟩ fun t' k => ⟨.str (Txt.mul z n), H, I.tok _, ⟨_, rfl⟩, q⟩
  · rw [Bool.or_eq_false_iff]
    exact ⟨decide_eq_false (by omega), decide_eq_false (by omega)⟩
  · have hn : 0 < n.toNat := by omega
    have : z.length ≤ 100000 := Nat.le_trans (Nat.le_mul_of_pos_right _ hn) h3
    have h4 : (9223372036854 : Int) ≤ (2 ^ 63 - 1) / n := by
      rw [Int.le_ediv_iff_mul_le (by omega)]
      have : (9223372036854 : Int) * n ≤ 9223372036854 * 1000000 := Int.mul_le_mul_of_nonneg_left (by omega) (by decide)
      omega
    omega
  · show decide _ = false
    refine decide_eq_false ?_
    have := sizeLine_eq
    omega
/-- x[lo:hi] of a text -/
inductive rSlS (x : V) (lo hi : Option Int) (H : Hp) (Q : VK) : Prop
  | mk (z : Str) (e1 : x = .str z) (h : (StrLaws.sliceText z lo hi).length ≤ 100000) (q : Q (.str (StrLaws.sliceText z lo hi)) H) : rSlS x lo hi H Q
theorem part_of {v : Value} {o : Option Int} (h : IsPart v o) : ∃ p : Option (Int × Tok), v = partValue p ∧ o = p.map (·.1) := by
  cases h with
  | none => exact ⟨none, rfl, rfl⟩
  | int i t => exact ⟨some (i, t), rfl, rfl⟩
theorem sl_str : SlR X rSlS := by
  intro pins s σ H x v vl vu lo hi sl Q I rx hs pl pu h
  obtain ⟨z, rfl, hz, q⟩ := h
  obtain ⟨t, rfl⟩ := rx
  obtain ⟨p, rfl, rfl⟩ := part_of pl
  obtain ⟨p', rfl, rfl⟩ := part_of pu
  refine ⟨"str", _, F.slot_str_getitem.lookup, typeIs_str _ _ _, ?_⟩
  refine wpAny_getItem_str_slice (l := p) (u := p') (st := none) hs rfl ?_
  unfold StrLaws.sliceText at q hz
  unfold sliceMade slicePicked
  split
  · rename_i hc
    have hc' : ((1 : Int) == 1 && (Builtin.Str.strSliceIndices (p.map (·.1)) (p'.map (·.1)) 1 z.length).length == z.length) = true := hc
    rw [if_pos hc'] at q
    exact ⟨.str z, H, I, ⟨_, rfl⟩, q⟩
  · rename_i hc
    have hc' : ¬ ((1 : Int) == 1 && (Builtin.Str.strSliceIndices (p.map (·.1)) (p'.map (·.1)) 1 z.length).length == z.length) = true := hc
    rw [if_neg hc'] at q hz
    refine ⟨?_, ⟨.str _, H, I.tok _, ⟨_, rfl⟩, q⟩⟩
    have := sizeLine_eq
    exact Nat.le_trans hz (by omega)
end
theorem slice_to {z : Str} {j : Int} (h0 : 0 ≤ j) (h1 : j ≤ z.length) : StrLaws.sliceText z none (some j) = ⟨(z.cps.toList.take j.toNat).toArray⟩ := by
  rw [StrLaws.sliceText_to ⟨h0, by rw [Array.length_toList]; exact h1⟩]
  simp
theorem slice_from {z : Str} {j : Int} (h0 : 0 ≤ j) (h1 : j ≤ z.length) : StrLaws.sliceText z (some j) none = ⟨(z.cps.toList.drop j.toNat).toArray⟩ := by
  rw [StrLaws.sliceText_from ⟨h0, by rw [Array.length_toList]; exact h1⟩]
  congr 2
  rw [List.take_of_length_le]
  rw [List.length_drop]
  omega
end L2
set_option Elab.async false
set_option linter.all false
set_option maxRecDepth 100000
/-! slices of texts -/
namespace L2
open PySem PySem.Spec PyProof.Rows
theorem str_len (z : Str) : z.length = z.cps.toList.length := by simp [Str.length]
theorem slice_pre (z : Str) (n : Nat) : StrLaws.sliceText z none (some (n : Int)) = ⟨(z.cps.toList.take n).toArray⟩ := by
  by_cases h : n ≤ z.length
  · exact slice_to (by omega) (by omega)
  · have e : StrLaws.sliceText z none (some (n : Int)) = StrLaws.sliceText z none (some (z.length : Int)) := by
      unfold StrLaws.sliceText Builtin.Str.strSliceIndices
      have h1 : min (n : Int) (z.length : Int) = (z.length : Int) := by omega
      have h2 : ¬ (n : Int) < 0 := by omega
      have h3 : ¬ (z.length : Int) < 0 := by omega
      have h4 : min (z.length : Int) (z.length : Int) = (z.length : Int) := by omega
      have h5 : (1 : Int) > 0 := by decide
      simp only [h1, h2, h3, h4, h5, if_false, if_true]
    rw [e, slice_to (by omega) (by omega), Int.toNat_natCast]
    rw [List.take_of_length_le (by rw [str_len]; exact Nat.le_refl _), List.take_of_length_le (by rw [← str_len]; omega)]
theorem slice_suf (z : Str) (n : Nat) : StrLaws.sliceText z (some (n : Int)) none = ⟨(z.cps.toList.drop n).toArray⟩ := by
  by_cases h : n ≤ z.length
  · have := slice_from (z := z) (j := (n : Int)) (by omega) (by omega)
    rw [this, Int.toNat_natCast]
  · have e : StrLaws.sliceText z (some (n : Int)) none = StrLaws.sliceText z (some (z.length : Int)) none := by
      unfold StrLaws.sliceText Builtin.Str.strSliceIndices
      have h1 : min (n : Int) (z.length : Int) = (z.length : Int) := by omega
      have h2 : ¬ (n : Int) < 0 := by omega
      have h3 : ¬ (z.length : Int) < 0 := by omega
      have h4 : min (z.length : Int) (z.length : Int) = (z.length : Int) := by omega
      have h5 : (1 : Int) > 0 := by decide
      simp only [h1, h2, h3, h4, h5, if_false, if_true]
    rw [e, slice_from (by omega) (by omega), Int.toNat_natCast]
    rw [List.drop_of_length_le (by rw [str_len]; exact Nat.le_refl _), List.drop_of_length_le (by rw [← str_len]; omega)]
theorem sl_take (z : Str) (n : Nat) : (StrLaws.sliceText z none (some (n : Int))).cps.toList = z.cps.toList.take n := by rw [slice_pre]
theorem sl_drop (z : Str) (n : Nat) : (StrLaws.sliceText z (some (n : Int)) none).cps.toList = z.cps.toList.drop n := by rw [slice_suf]
theorem slt_len (z : Str) (n : Nat) : (StrLaws.sliceText z none (some (n : Int))).length ≤ z.length := by
  rw [str_len, sl_take, List.length_take, str_len]
  omega
theorem sld_len (z : Str) (n : Nat) : (StrLaws.sliceText z (some (n : Int)) none).length ≤ z.length := by
  rw [str_len, sl_drop, List.length_drop, str_len]
  omega
end L2
set_option Elab.async false
set_option linter.all false
set_option maxRecDepth 100000
/-! A list or a tuple alike: walked, indexed, compared. -/
namespace L2
open PySem PySem.Spec PyProof.Rows
section
variable {X : Cx} {tg : Expr}
end
/-! ### == and != of lists and tuples of whole numbers -/
section
variable {X : Cx}
end
end L2
set_option Elab.async false
set_option linter.all false
set_option maxRecDepth 100000
/-! the signs of a text, one by one; a statement that isn't come to -/
namespace L2
open PySem PySem.Spec PyProof.Rows
def Its (x : Str) : It := ⟨fun i _ => i < x.cps.size, fun i H v H' => H' = H ∧ ∃ c, x.cps.toList[i]? = some c ∧ v = .str ⟨#[c]⟩, fun i _ => x.cps.size ≤ i⟩
theorem turn_str {P : Program} {w : World} {K : PySem.W.Frag} {tg : Expr} (x : Str) (t : Tok) (it : Addr) : Turn P w K tg (Its x) [it] it (fun i h => h.IsStrIter it "str_ascii_iterator" x t i) where
  mem := by simp
  obj := fun i h st b hb => by
    have e : b = it := by simpa using hb
    subst e
    obtain ⟨o, e, c, d⟩ := st
    exact ⟨o, e, fun v z => by rw [d] at z; cases z⟩
  keep := fun i h h' st k => by
    obtain ⟨o, ho, r⟩ := st
    exact ⟨o, k it (by simp) o ho, r⟩
  item := by
    intro X hP hw hK hc i pins s σ H E I hf st hg
    subst hP hw hK
    have hi : i < x.cps.size := hg
    obtain ⟨f0, f1, f2, f3, f4, f5⟩ := hf it (by simp)
    refine wpAny_pyNext_ascii_item st (c := x.cps[i]) (by simp [hi]) fun h' st' sb => ?_
    have I1 : Inv X pins σ H { s with heap := h', toks := s.toks + 1 } := I.turned (t' := s.toks + 1) (fun b o hb e => (sb.2 b hb).trans e) f0 f1 f3 f4 f5
    obtain ⟨o, e, c, d⟩ := id st'
    exact ⟨_, rfl, go_of (s := { s with heap := h', toks := s.toks + 1 }) e c d (by decide) ⟨.str ⟨#[x.cps[i]]⟩, H, I1, ⟨_, rfl⟩, ⟨rfl, _, by simp [hi], rfl⟩, st', fun b hb => (hf b hb).1⟩⟩
  done := by
    intro X hP hw hK hc i pins s σ H E I hf st hg
    subst hP hw hK
    have hi : x.cps.size ≤ i := hg
    obtain ⟨f0, f1, f2, f3, f4, f5⟩ := hf it (by simp)
    exact wpAny_pyNext_ascii_end (I.ok.hd hc) st (by simp [hi]) fun h' eb => ⟨rfl, I.turned (t' := s.toks) (fun b o hb e => eb b o hb e) f0 f1 f3 f4 f5⟩
  self := fun _ _ _ _ _ st h => wpAny_pyIter_striter_ascii st h
section
variable {X : Cx} {tg : Expr}
def iStr (tl : TE) : TI := fun σ H R => tl σ H fun v H1 => ∃ x, v = .str x ∧ x.cps.all (· < 128) = true ∧ R (Its x) H1
theorem pi_str {l : Expr} {tl : TE} (hl : PE X l tl) : PI X tg l (iStr tl) := by
  intro pins s σ H R I h
  refine thn (hl pins s σ H _ I h) fun v s1 ⟨y, H1, I1, r1, q1⟩ => ?_
  obtain ⟨x, e, ha, q⟩ := q1
  subst e
  obtain ⟨t, rfl⟩ := r1
  refine wpAny_pyIter_ascii ha ?_
  refine ⟨s1.heap.objs.size, [s1.heap.objs.size], _, _, H1, rfl, I1.kept (t' := s1.toks) fun b o e => Heap.get?_push_of_some _ e, turn_str x t _, ⟨_, Heap.get?_push_size _ rfl, rfl, rfl⟩, fun b hb => ?_, q⟩
  have e : b = s1.heap.objs.size := by simpa using hb
  subst e
  exact I1.fpOk (Nat.le_refl _) (I1.hok.fresh (Nat.le_refl _))
end
end L2
set_option Elab.async false
set_option linter.all false
set_option maxRecDepth 100000
/-! a, b, c = a list; f-strings -/
namespace L2
open PySem PySem.Spec PyProof.Rows
section
variable {prog : Program} {w : World} {A : Around} {E : Value → Shared → Prop} {s : Shared}
end
section
variable {X : Cx} {pos : Pos}
/-! ### f-strings -/
end
end L2
set_option Elab.async false
set_option linter.all false
set_option maxRecDepth 100000
/-! repr of a list whose things are data or flat dicts, over the hand layer. -/
namespace L2
open PySem PySem.Spec PyProof.Rows
/-- a thing that is no object, as data -/
inductive Flat : Value → PyData → Prop
  | none : Flat .none .none
  | bool (b : Bool) : Flat (.bool b) (.bool b)
  | int (i : Int) (t : Tok) : Flat (.int i t) (.int i)
  | str (x : Str) (t : Tok) : Flat (.str x t) (.str x)
/-- a dict at a whose keys and values are no objects -/
def LitP (a : Addr) (kvs : List (PyData × PyData)) (h : Heap) : Prop :=
  (a == sysModules) = false ∧ ∃ o es n, h.get? a = some o ∧ o.cls = .type "dict" ∧ o.data = .dict es n ∧ Paired Flat (es.toList.map (·.key)) (kvs.map (·.1)) ∧ Paired Flat (es.toList.map (·.val)) (kvs.map (·.2))
def LitO (a : Addr) (kvs : List (PyData × PyData)) : HO := .ext (LitP a kvs)
section
variable {X : Cx} {pins : List (Addr × Obj)} {σ : St} {H : Hp} {s : Shared}
end
section
variable {X : Cx}
end
end L2
set_option Elab.async false
set_option linter.all false
set_option maxRecDepth 100000
namespace HT
open PySem PyProof.Rows
section
variable {prog : Program} {w : World} {A : Around} {E : Value → Shared → Prop} {s : Shared}
end
end HT
namespace L2
open PySem PySem.Spec PyProof.Rows
section
variable {X : Cx} {e : Expr} {te : TE} {pos p2 : Pos}
end
end L2
set_option Elab.async false
set_option linter.all false
set_option maxRecDepth 100000
/-! The rules once more, with K named: a reading then does not bear the whole context. -/
namespace L2
open PySem PySem.Spec PyProof.Rows
section
variable {X : Cx} {tg : Expr}
theorem pi_listK (K : PySem.W.Frag) {l : Expr} {tl : TE} (hl : PE X l tl) (e : X.K = K := by rfl) : PI X tg l (iList K tl) := by subst e; exact pi_list hl
inductive cLen (K : PySem.W.Frag) (xs : List V) (H : Hp) (Q : VK) : Prop
  | mk (p : Addr) (ys : List V) (e : xs = [.ref p]) (h : SqL K H p ys ∨ SqT K H p ys) (q : Q (.int ys.length) H) : cLen K xs H Q
theorem call_lenK (K : PySem.W.Frag) (e : X.K = K := by rfl) : CallR X (.builtin "len") (cLen K) := by
  subst e
  intro pins s σ H xs us Q I r h
  obtain ⟨p, ys, e, h, q⟩ := h
  exact call_len_seq pins s σ H xs us Q I r ⟨p, ys, e, h, q⟩
theorem call_all_seqK (K : PySem.W.Frag) (hc : X.calm = true) (e : X.K = K := by rfl) : CallR X (.builtin "all") (fun xs H Q => ∃ (p : Addr) (bs : List Bool), xs = [.ref p] ∧ SqL K H p (bs.map V.bl) ∧ Q (.bl (bs.all id)) H) := by subst e; exact call_all_seq hc
theorem sl_listK (K : PySem.W.Frag) (e : X.K = K := by rfl) : SlR X (rSlL K) := by subst e; exact sl_list
theorem pg_tupK (K : PySem.W.Frag) {es : List Expr} {k : Nat} {t : TGs} {n : Nat} {pos : Pos} (hc : X.calm = true) (h : PGs X es t) (hn : (assignEach es X.env).length = n := by rfl) (hst : (assignEach es X.env).findIdx? (·.1) = none := by rfl) (ek : X.K = K := by rfl) : PG X (.Tuple es k pos) (gTup K n t) := by subst ek; exact pg_tup hc h hn hst
theorem pe_bmK (K : PySem.W.Frag) {o e : Expr} {es : List Expr} {to : TE} {t : TA} {name : Str} {apos cpos : Pos} {T id : String} {r : V → List V → Hp → VK → Prop} (pa : PlainAttrs T) (slot : Slot T name id) (hty : typeOf (.builtin id) = pure (.type "method_descriptor")) (hm : MtR X id r) (ho : PE X o to) (ha : PA X (e :: es) t)
    (hbase : attributeBase o name X.env (eval o X.env) = eval o X.env := by rfl)
    (hfew : ((backTo cpos (starEach (e :: es) X.env)).all (fun x => !x.1) && (backToKw cpos (keywordEach [] X.env)).all (fun x => x.1.isSome) && decide ((e :: es).length + ([] : List Keyword).length + (if ([] : List Keyword).isEmpty then 0 else 1) < 30)) = true := by rfl)
    (hline : (apos.endLine == cpos.line) = true := by rfl) (hs : starEach (e :: es) X.env = (false, eval e X.env) :: starEach es X.env := by rfl) (hplain : (backTo cpos (starEach es X.env)).any (·.1) = false := by rfl) (ek : X.K = K := by rfl) :
    PE X (.Call (.Attribute o name apos) (e :: es) [] cpos) (tBM K T r to t) := by subst ek; exact pe_bm pa slot hty hm ho ha hbase hfew hline hs hplain
end
end L2
set_option Elab.async false
set_option linter.all false
set_option maxRecDepth 100000
/-! isinstance of None, texts and dicts, too, over the hand layer. -/
namespace L2
open PySem PySem.Spec PyProof.Rows
inductive TyW (H : Hp) : V → Value → Prop
  | s {x : V} {t : Value} (h : TyS H x t) : TyW H x t
  | non : TyW H .non (.type "NoneType")
  | str (x : Str) : TyW H (.str x) (.type "str")
  | dK {a : Addr} {kvs : List (Key × V)} (h : H a = some (.dK kvs)) : TyW H (.ref a) (.type "dict")
  | lit {a : Addr} {kvs : List (PyData × PyData)} (h : H a = some (LitO a kvs)) : TyW H (.ref a) (.type "dict")
section
variable {X : Cx}
theorem tyw_kit {pins : List (Addr × Obj)} {σ : St} {H : Hp} {s : Shared} {x : V} {u t : Value} (I : Inv X pins σ H s) (rx : RelV x u) (ty : TyW H x t) : ∃ Hx : Heap → Prop, PySem.W.KitX X.K u t Hx ∧ Hx s.heap ∧ u ≠ .builtin "__main__.__loader__#opaque" := by
  cases ty with
  | s h => exact ty_kit I rx h
  | non => cases (show u = Value.none from rx); exact ⟨_, PySem.W.kitx_none, True.intro, fun z => nomatch z⟩
  | str y => obtain ⟨t, q⟩ := (show ∃ t, u = Value.str y t from rx); cases q; exact ⟨_, PySem.W.kitx_str, True.intro, fun z => nomatch z⟩
  | @dK a kvs h =>
    cases (show u = Value.ref a from rx)
    obtain ⟨_, _, _, _, o, _, _, e, c, _⟩ := (show ObjOk X.prog X.w H s.heap a (.dK kvs) from I.hok a _ h)
    exact ⟨_, PySem.W.kitx_dict, ⟨o, e, c.1⟩, fun z => nomatch z⟩
  | @lit a kvs h =>
    cases (show u = Value.ref a from rx)
    obtain ⟨⟨_, o, _, _, e, c, _⟩, _⟩ := (show ObjOk X.prog X.w H s.heap a (LitO a kvs) from I.hok a _ h)
    exact ⟨_, PySem.W.kitx_dict, ⟨o, e, c⟩, fun z => nomatch z⟩
inductive cIsW (K : PySem.W.Frag) (xs : List V) (H : Hp) (Q : VK) : Prop
  | mk (x : V) (t : Value) (T : String) (b : Bool) (e : xs = [x, .ty T]) (h : TyW H x t) (k : PySem.W.kitOne K t (.type T) = some b) (q : Q (.bl b) H) : cIsW K xs H Q
theorem call_isiW (K : PySem.W.Frag) (ek : X.K = K := by rfl) : CallR X (.builtin "isinstance") (cIsW K) := by
  subst ek
  intro pins s σ H xs us Q I r h
  obtain ⟨x, t, T, b, rfl, ty, e, q⟩ := h
  obtain ⟨u, w', rfl, rx, rt⟩ := vals2 r
  cases rt
  obtain ⟨Hx, Z, p, hx⟩ := tyw_kit I rx ty
  exact PySem.W.kia_one Z I.kIn p e hx fun tk => ⟨.bl b, H, I.tok tk, rfl, q⟩
end
end L2
set_option Elab.async false
set_option linter.all false
set_option maxRecDepth 100000
namespace L2
open PySem PySem.Spec PyProof.Rows

/-! ### lists of pairs as tables -/
section
variable {κ : Type} [DecidableEq κ]
def valV (kvs : List (κ × V)) (k : κ) : Option V := (kvs.find? fun kv => decide (kv.1 = k)).map (·.2)
/-- in its place, or at the end -/
def putK (kvs : List (κ × V)) (k : κ) (v : V) : List (κ × V) :=
  if (kvs.any fun kv => decide (kv.1 = k)) = true then kvs.map (fun kv => if kv.1 = k then (kv.1, v) else kv) else kvs ++ [(k, v)]

theorem valV_pos {p : κ × V} {r : List (κ × V)} {k : κ} (e : p.1 = k) : valV (p :: r) k = some p.2 := by simp [valV, List.find?_cons, e]
theorem valV_neg {p : κ × V} {r : List (κ × V)} {k : κ} (e : ¬ p.1 = k) : valV (p :: r) k = valV r k := by simp [valV, List.find?_cons, e]
theorem length_putK (kvs : List (κ × V)) (k : κ) (v : V) : (putK kvs k v).length ≤ kvs.length + 1 := by
  unfold putK
  split
  · rw [List.length_map]; omega
  · rw [List.length_append, List.length_cons, List.length_nil]; omega

theorem RelO.isSome_eq {o : Option V} {u : Option Value} (r : RelO o u) : o.isSome = u.isSome := by
  cases o with
  | none => cases u with
    | none => rfl
    | some _ => exact (show False from r).elim
  | some _ => cases u with
    | none => exact (show False from r).elim
    | some _ => rfl
theorem RelO.getD {o : Option V} {u : Option Value} {d : V} {d' : Value} (r : RelO o u) (rd : RelV d d') : RelV (o.getD d) (u.getD d') := by
  cases o with
  | none => cases u with
    | none => exact rd
    | some _ => exact (show False from r).elim
  | some _ => cases u with
    | none => exact (show False from r).elim
    | some _ => exact r

/-- raw tables of the same keys -/
theorem KV.val {kvs : List (κ × V)} {vs : List (κ × Value)} (r : KV kvs vs) (k : κ) : RelO (valV kvs k) (valueAt vs k) := by
  unfold KV at r
  induction r with
  | nil => exact True.intro
  | @cons p q ps qs h t ih =>
    obtain ⟨h1, h2⟩ := h
    by_cases e : p.1 = k
    · have e' : q.1 = k := h1.symm.trans e
      have b : valueAt (q :: qs) k = some q.2 := by simp [valueAt, List.find?_cons, e']
      rw [valV_pos e, b]; exact h2
    · have e' : ¬ q.1 = k := fun z => e (h1.trans z)
      have b : valueAt (q :: qs) k = valueAt qs k := by simp [valueAt, List.find?_cons, e']
      rw [valV_neg e, b]; exact ih
theorem KV.any {kvs : List (κ × V)} {vs : List (κ × Value)} (r : KV kvs vs) (k : κ) : (kvs.any fun kv => decide (kv.1 = k)) = vs.any fun kv => decide (kv.1 = k) := by
  unfold KV at r
  induction r with
  | nil => rfl
  | cons h t ih => rw [List.any_cons, List.any_cons, ih, h.1]
theorem KV.repl {kvs : List (κ × V)} {vs : List (κ × Value)} (r : KV kvs vs) (k : κ) {y : V} {u : Value} (ry : RelV y u) :
    KV (kvs.map fun kv => if kv.1 = k then (kv.1, y) else kv) (vs.map fun kv => if kv.1 = k then (kv.1, u) else kv) := by
  unfold KV at r ⊢
  induction r with
  | nil => exact .nil
  | @cons p q ps qs h t ih =>
    rw [List.map_cons, List.map_cons]
    refine .cons ?_ ih
    obtain ⟨h1, h2⟩ := h
    by_cases e : p.1 = k
    · rw [if_pos e, if_pos (h1.symm.trans e)]; exact ⟨h1, ry⟩
    · rw [if_neg e, if_neg (fun z => e (h1.trans z))]; exact ⟨h1, h2⟩
theorem KV.put {kvs : List (κ × V)} {vs : List (κ × Value)} (r : KV kvs vs) (k : κ) {y : V} {u : Value} (ry : RelV y u) : KV (putK kvs k y) (stored vs k u) := by
  unfold putK stored
  rw [r.any k]
  by_cases e : (vs.any fun kv => decide (kv.1 = k)) = true
  · rw [if_pos e, if_pos e]; exact r.repl k ry
  · rw [if_neg e, if_neg e]; exact PySem.Paired.snoc r ⟨rfl, ry⟩
end


/-! ### a tracked dict, its keys ints and texts or tuples of these -/
theorem kV_is {P : Program} {w : World} {k : Key} {u : Value} (r : RelV (kV k) u) : (mixKind P w).is k u = true := by
  cases k with
  | inl i => obtain ⟨t, e⟩ := (show ∃ t, u = Value.int i t from r); subst e; exact mixKind_int P w i t
  | inr x => obtain ⟨t, e⟩ := (show ∃ t, u = Value.str x t from r); subst e; exact mixKind_str P w x t
theorem items_are {P : Program} {w : World} : ∀ {ks : List Key} {us : List Value}, Vals (ks.map kV) us → ItemsAre (mixKind P w) ks us
  | [], _, r => by rw [List.map_nil] at r; cases r; exact .nil
  | k :: ks, _, r => by
    rw [List.map_cons] at r
    cases r with
    | cons h t => exact .cons (kV_is h) (items_are t)

/-- raw entries of a dict with tuple keys -/
abbrev KT (H : Hp) : List (List Key × V) → List (List Key × Addr × Value) → Prop := Paired fun p q => p.1 = q.1 ∧ H q.2.1 = some (.tup (p.1.map kV)) ∧ RelV p.2 q.2.2
theorem KT.val {H : Hp} {kvs : List (List Key × V)} {xs : List (List Key × Addr × Value)} (r : KT H kvs xs) (k : List Key) : RelO (valV kvs k) ((atKey xs k).map (·.2)) := by
  induction r with
  | nil => exact True.intro
  | @cons p q ps qs h t ih =>
    obtain ⟨h1, _, h2⟩ := h
    by_cases e : p.1 = k
    · have e' : q.1 = k := h1.symm.trans e
      have b : atKey (q :: qs) k = some q.2 := by simp [atKey, List.find?_cons, e']
      rw [valV_pos e, b]; exact h2
    · have e' : ¬ q.1 = k := fun z => e (h1.trans z)
      have b : atKey (q :: qs) k = atKey qs k := by simp [atKey, List.find?_cons, e']
      rw [valV_neg e, b]; exact ih

section
variable {P : Program} {w : World} {H : Hp} {h : Heap} {a : Addr}
theorem rd_of {u : HO} (ok : HOk P w H h) (e : Rd H a u) : ObjOk P w H h a u := e.ok ok
theorem dk_rd {kvs : List (Key × V)} (ok : HOk P w H h) (e : Rd H a (.dK kvs)) : kvs.length ≤ sizeLine ∧ (a == sysModules) = false ∧ ∃ vs, KV kvs vs ∧ h.DictOf (mixKind P w) a vs :=
  show ObjOk P w H h a (.dK kvs) from rd_of ok e
theorem dk_of {kvs : List (Key × V)} (ok : HOk P w H h) (e : H a = some (.dK kvs)) : kvs.length ≤ sizeLine ∧ (a == sysModules) = false ∧ ∃ vs, KV kvs vs ∧ h.DictOf (mixKind P w) a vs := dk_rd ok (.inl e)
/-- a tracked tuple of ints and texts is a key -/
theorem key_of {ks : List Key} (ok : HOk P w H h) (e : H a = some (.tup (ks.map kV))) : (tupleKind (mixKind P w)).is h ks a := by
  obtain ⟨_, its, r, o, h1, h2, n, h3⟩ := (show ObjOk P w H h a (.tup (ks.map kV)) from ok a _ e)
  exact ⟨o, its.toArray, n, h1, h2, h3, by simpa using items_are r⟩
theorem dt_rd {kvs : List (List Key × V)} (ok : HOk P w H h) (e : Rd H a (.dT kvs)) : kvs.length ≤ sizeLine ∧ (a == sysModules) = false ∧
    ∃ xs, KT H kvs xs ∧ h.DictOfH (tupleKind (mixKind P w)) a xs := by
  obtain ⟨z, y, xs, r, o, es, ep, h1, h2, h3, h4, h5⟩ := (show ObjOk P w H h a (.dT kvs) from rd_of ok e)
  refine ⟨z, y, xs, r, o, es, ep, h1, h2, h3, h4, fun x hx => ?_, h5⟩
  have all : ∀ {l : List (List Key × V)} {m : List (List Key × Addr × Value)}, KT H l m → ∀ x ∈ m, (tupleKind (mixKind P w)).is h x.1 x.2.1 := by
    intro l m q
    induction q with
    | nil => intro x hx; exact nomatch hx
    | @cons p q ps qs hq t ih =>
      intro x hx
      rcases List.mem_cons.mp hx with e | hx
      · subst e
        exact key_of ok (by rw [← hq.1]; exact hq.2.1)
      · exact ih x hx
  exact all r x hx
end

/-- what the dict at a holds at the key y -/
def DGet (H : Hp) (a : Addr) (y : V) (r : Option V) : Prop :=
  (∃ kvs k, Rd H a (.dK kvs) ∧ y = kV k ∧ r = valV kvs k) ∨ ∃ kvs k b, Rd H a (.dT kvs) ∧ y = .ref b ∧ H b = some (.tup (k.map kV)) ∧ r = valV kvs k


section
variable {X : Cx} {pins : List (Addr × Obj)} {σ : St} {H : Hp} {s : Shared} {a : Addr} {y v : V} {u r : Value} {o : Option V} {A : Around} {E : Value → Shared → Prop}

theorem Inv.big (I : Inv X pins σ H s) : sysModules < s.heap.objs.size := by
  have h : mainGlobals < s.heap.objs.size := (I.mod.glob.keeps I.bk).lt
  exact Nat.lt_trans (by decide) h

/-- d[y], there -/
theorem d_getItem {Q : Value → Shared → Prop} (hu : A.units + 1 < cLine) (I : Inv X pins σ H s) (g : DGet H a y (some v)) (ry : RelV y u) (h : ∀ w' s', Inv X pins σ H s' → RelV v w' → Q w' s') :
    wpAny (model X.prog X.w) A (getItem (.ref a) u) Q E s := by
  rcases g with ⟨kvs, k, e, ey, l⟩ | ⟨kvs, k, b, e, ey, eb, l⟩
  · subst ey
    obtain ⟨z, hd, vs, rel, dd⟩ := dk_rd I.hok e
    obtain ⟨w', hw, rw'⟩ := RelO.some_of (v := v) (o := valueAt vs k) (by rw [l]; exact rel.val k)
    exact wpAny_getItem_of (kV_is ry) dd.mapOf hw (h w' _ (I.tok _) rw')
  · subst ey
    cases (show u = Value.ref b from ry)
    obtain ⟨z, hd, xs, rel, dd⟩ := dt_rd I.hok e
    obtain ⟨w', hw, rw'⟩ := RelO.some_of (v := v) (o := (atKey xs k).map (·.2)) (by rw [l]; exact rel.val k)
    obtain ⟨p, hp, hp2⟩ := Option.map_eq_some_iff.mp hw
    refine wpAny_getItem_heap (tupleKind_room_in1 hu) (key_of I.hok eb) dd hp ?_
    rw [hp2]
    exact h w' _ (I.tok _) rw'
/-- a dict's object is replaced -/
theorem d_write {h' : Heap} {t' : Nat} {ob : HO} (I : Inv X pins σ H s) (mu : Mut (H a)) (hs : Heap.SameBut a s.heap h') (he : ∃ q, h'.get? a = some q) (new : ObjOk X.prog X.w (upd H a ob) h' a ob) :
    Inv X pins σ (upd H a ob) { s with heap := h', toks := t' } :=
  I.write (x := a) (e := a) mu (.inl rfl) (fun b q hb z => (hs.2 b hb).trans z) he new
theorem dk_new {P : Program} {w : World} {H' : Hp} {h' : Heap} {kvs : List (Key × V)} {vs : List (Key × Value)} (z : kvs.length ≤ sizeLine) (hd : (a == sysModules) = false) (rel : KV kvs vs) (dd : h'.DictOf (mixKind P w) a vs) :
    ObjOk P w H' h' a (.dK kvs) := ⟨z, hd, vs, rel, dd⟩
end

section
variable {X : Cx} {pins : List (Addr × Obj)} {σ : St} {H : Hp} {s : Shared} {a : Addr} {kvs : List (Key × V)} {k : Key} {u : Value} {A : Around} {E : Value → Shared → Prop}
end


/-! ### readings and rules -/
/-- the element of a subscription, not a slice -/
def NoSl (i : Expr) : Prop := ∀ ov iv, subscripted i false ov iv = operate [ov, iv] (getItem ov iv)
theorem subD_of {prog : Program} {w : World} {A : Around} {E : Value → Shared → Prop} {s : Shared} {env : Env} {value slice : Expr} {pos : Pos} {T id : String} {Q : Value → Shared → Prop}
    (hl : typeLookup (.type T) "__getitem__" = pure (some (.builtin id))) (hs : NoSl slice)
    (h : wpAny (model prog w) A (eval value env) (fun o s₁ => wpAny (model prog w) A (eval slice env) (fun i s₂ => s₂.TypeIs o T ∧ wpAny (model prog w) A (getItem o i) Q E s₂) E s₁) E s) :
    wpAny (model prog w) A (eval (.Subscript value slice pos) env) Q E s := by
  refine Subscript_ (wpAny_mono h (fun o s₁ h₁ => wpAny_mono h₁ (fun i s₂ h₂ => ?_) fun _ _ x => x) fun _ _ x => x)
  obtain ⟨hT, h₂⟩ := h₂
  unfold subscriptTail
  refine wpAny_bind ?_
  rw [getitemInPython_of_ne hT.not_modules]
  refine wpAny_bind (wpAny_specialOf hT hl ?_)
  have fin : wpAny (model prog w) A (subscripted slice false o i) (fun r s₃ => wpAny (model prog w) A (letTemporaryGo value o r >>= fun _ => pure r) Q E s₃) E s₂ := by
    rw [hs o i]
    exact wpAny_operating (wpAny_mono h₂ (fun r s₃ h₃ => wpAny_bind (wpAny_letTemporaryGo (wpAny_pure h₃))) fun _ _ x => x)
  first
    | exact wpAny_pure (wpAny_bind fin)
    | exact wpAny_bind (wpAny_pure (wpAny_bind fin))
    | exact wpAny_bind fin

theorem dict_typeIs {X : Cx} {pins : List (Addr × Obj)} {σ : St} {H : Hp} {s : Shared} {a : Addr} {y : V} {o : Option V} (I : Inv X pins σ H s) (g : DGet H a y o) : s.TypeIs (.ref a) "dict" := by
  rcases g with ⟨kvs, k, e, _, _⟩ | ⟨kvs, k, b, e, _, _, _⟩
  · obtain ⟨_, _, vs, _, dd⟩ := dk_rd I.hok e
    exact dd.typeIs
  · obtain ⟨_, _, xs, _, dd⟩ := dt_rd I.hok e
    exact dd.typeIs

/-- d[y] -/
def tDGet (td ty : TE) : TE := fun σ H Q => td σ H fun x H1 => ty σ H1 fun y H2 => ∃ a v, x = .ref a ∧ DGet H2 a y (some v) ∧ Q v H2

section
variable {X : Cx} {o i e value : Expr} {pos pos' tpos : Pos} {td ty tv : TE}
theorem pe_dget (hu : X.A.units + 1 < cLine) (ho : PE X o td) (hi : PE X i ty) (hs : NoSl i) : PE X (.Subscript o i pos) (tDGet td ty) := by
  refine ⟨?_⟩
  intro pins s σ H Q I h
  refine subD_of PySem.F.slot_dict_getitem.lookup hs (thn (ho pins s σ H _ I h) fun u s1 ⟨x, H1, I1, rx, q1⟩ => thn (hi pins s1 σ H1 _ I1 q1) fun iv s2 ⟨y, H2, I2, ry, a, v, ex, g, q2⟩ => ?_)
  subst ex
  obtain rfl : u = Value.ref a := rx
  exact ⟨dict_typeIs I2 g, d_getItem hu I2 g ry fun w' s3 I3 rw' => ⟨v, H2, I3, rw', q2⟩⟩
end


/-! ### displays -/
theorem dk_empty {P : Program} {w : World} {H : Hp} (h : Heap) (hb : sysModules < h.objs.size) : ObjOk P w H (h.push { cls := .type "dict", data := .dict #[] }) h.objs.size (.dK []) :=
  ⟨Nat.zero_le _, beq_eq_false_iff_ne.mpr (Ne.symm (Nat.ne_of_lt hb)), [], .nil, Heap.DictOf.new h⟩
/-- {}, to be a dict of the kind that is wanted -/
def tDNewK : TE := fun _ H Q => ∀ p, H p = none → Q (.ref p) (upd H p (.dK []))
section
variable {X : Cx} {pos : Pos}
theorem pe_dnewK : PE X (.Dict [] [] pos) tDNewK := .mk fun pins s σ H Q I h =>
  wpAny_Dict_empty ⟨.ref s.heap.objs.size, _, I.laid (a := s.heap.objs.size) (o := .dK []) (t' := s.toks) (fun _ _ q => Heap.get?_push_of_some _ q) (Nat.le_refl _) (dk_empty s.heap I.big), rfl, h _ (I.hok.fresh (Nat.le_refl _))⟩
end

/-- the pairs of a display, from the left -/
def tPairs : List (TE × TE) → St → Hp → (List (V × V) → Hp → Prop) → Prop
  | [], _, H, Q => Q [] H
  | (tk, tv) :: r, σ, H, Q => tk σ H fun x H1 => tv σ H1 fun y H2 => tPairs r σ H2 fun ps H3 => Q ((x, y) :: ps) H3
abbrev VV : List (V × V) → List (Value × Value) → Prop := Paired fun p q => RelV p.1 q.1 ∧ RelV p.2 q.2
def PPs (X : Cx) (pos : Pos) (keys : List (Option Expr)) (values : List Expr) (trs : List (TE × TE)) : Prop :=
  ∀ (pins : List (Addr × Obj)) (s : Shared) (σ : St) (H : Hp) (Q : List (V × V) → Hp → Prop), Inv X pins σ H s → tPairs trs σ H Q →
    wpAny (model X.prog X.w) X.A (evalPairs (pairTrees keys values X.env pos)) (fun vs s' => ∃ ps H', Inv X pins σ H' s' ∧ VV ps vs ∧ Q ps H') X.xe s
theorem pps_nil {X : Cx} {pos : Pos} : PPs X pos [] [] [] := fun pins s σ H Q I h => pairTrees_nil_walk ⟨[], H, I, .nil, h⟩
theorem pps_cons {X : Cx} {pos : Pos} {k v : Expr} {ks : List (Option Expr)} {vs : List Expr} {tk tv : TE} {trs : List (TE × TE)} (hk : PE X k tk) (hv : PE X v tv) (hr : PPs X pos ks vs trs) :
    PPs X pos (some k :: ks) (v :: vs) ((tk, tv) :: trs) := fun pins s σ H Q I h =>
  pairTrees_cons_walk (thn (hk pins s σ H _ I h) fun u s1 ⟨x, H1, I1, rx, q1⟩ => thn (hv pins s1 σ H1 _ I1 q1) fun w2 s2 ⟨y, H2, I2, ry, q2⟩ =>
    thn (hr pins s2 σ H2 _ I2 q2) fun ws s3 ⟨ps, H3, I3, rel, q3⟩ => ⟨(x, y) :: ps, H3, I3, .cons ⟨rx, ry⟩ rel, q3⟩)

def mergeK (kvs more : List (Key × V)) : List (Key × V) := more.foldl (fun acc kv => putK acc kv.1 kv.2) kvs
theorem KV.merge : ∀ {more : List (Key × V)} {rs : List (Key × Value)} {kvs : List (Key × V)} {vs : List (Key × Value)}, KV more rs → KV kvs vs → KV (mergeK kvs more) (merged vs rs) := by
  intro more rs kvs vs r
  unfold KV at r
  induction r generalizing kvs vs with
  | nil => intro q; exact q
  | @cons p q ps qs h t ih =>
    intro r0
    have e : KV (putK kvs p.1 p.2) (stored vs q.1 q.2) := by
      have := r0.put p.1 h.2
      rw [← h.1]; exact this
    exact ih e
theorem length_mergeK : ∀ (more kvs : List (Key × V)), (mergeK kvs more).length ≤ kvs.length + more.length
  | [], kvs => by show kvs.length ≤ kvs.length + 0; omega
  | p :: r, kvs => by
    have h1 := length_mergeK r (putK kvs p.1 p.2)
    have h2 := length_putK kvs p.1 p.2
    show (mergeK (putK kvs p.1 p.2) r).length ≤ _
    rw [List.length_cons]; omega
theorem carries_of {P : Program} {w : World} : ∀ {kvs : List (Key × V)} {ws : List (Value × Value)}, VV (kvs.map fun kv => (kV kv.1, kv.2)) ws → ∃ rs, Carries (mixKind P w) ws rs ∧ KV kvs rs
  | [], _, r => by rw [List.map_nil] at r; cases r; exact ⟨[], True.intro, .nil⟩
  | p :: kvs, _, r => by
    rw [List.map_cons] at r
    cases r with
    | @cons a b as bs h t =>
      obtain ⟨rs, c, q⟩ := carries_of (P := P) (w := w) t
      obtain ⟨b1, b2⟩ := b
      exact ⟨(p.1, b2) :: rs, ⟨kV_is h.1, rfl, c⟩, .cons ⟨rfl, h.2⟩ q⟩
/-- {k: v, ..} with keys ints and texts; the new dict stands empty while the pairs are made -/
def tDisp (trs : List (TE × TE)) : TE := fun σ H Q => ∀ p, H p = none → tPairs trs σ (upd H p (.dK [])) fun ps H2 => H2 p = some (.dK []) ∧ ∃ kvs : List (Key × V), ps = kvs.map (fun kv => (kV kv.1, kv.2)) ∧ kvs.length ≤ 15 ∧ Q (.ref p) (upd H2 p (.dK (mergeK [] kvs)))
theorem pe_disp {X : Cx} {pos : Pos} {keys : List (Option Expr)} {values : List Expr} {trs : List (TE × TE)} (h : PPs X pos keys values trs) (hall : keys.all (·.isSome) = true) (hl : keys.length = values.length) (h0 : keys ≠ [])
    (h15 : keys.length ≤ 15) : PE X (.Dict keys values pos) (tDisp trs) := by
  refine ⟨?_⟩
  intro pins s σ H Q I q
  have hn := I.hok.fresh (Nat.le_refl s.heap.objs.size)
  have I1 := I.laid (a := s.heap.objs.size) (o := .dK []) (h' := s.heap.push { cls := .type "dict", data := .dict #[] }) (t' := s.toks) (fun _ _ q => Heap.get?_push_of_some _ q) (Nat.le_refl _) (dk_empty s.heap I.big)
  refine wpAny_Dict_walk (knd := mixKind X.prog X.w) hall hl h0 h15 (thn (h pins _ σ _ _ I1 (q _ hn)) fun ws s2 ⟨ps, H2, I2, rel, e, kvs, ep, lk, q2⟩ => ?_)
  subst ep
  obtain ⟨rs, c, rk⟩ := carries_of (P := X.prog) (w := X.w) rel
  obtain ⟨z, hd, vs0, r0, dd⟩ := dk_of I2.hok e
  cases r0
  refine ⟨rs, c, dd, fun h' dd' hs => ⟨.ref s.heap.objs.size, _, ?_, rfl, q2⟩⟩
  have hz : (mergeK [] kvs).length ≤ sizeLine := by
    have h1 := length_mergeK kvs []
    rw [List.length_nil] at h1
    rw [sizeLine_eq]; omega
  have he : ∃ q, h'.get? s.heap.objs.size = some q := let ⟨q, _, _, hq, _⟩ := dd'; ⟨q, hq⟩
  exact d_write I2 (by rw [e]; exact True.intro) hs he (dk_new hz hd (rk.merge .nil) dd')


/-! ### methods -/
/-- a method call o.m(e) of a built-in, with one argument: what must be seen of the text -/
structure M1 (X : Cx) (o : Expr) (m : Str) (apos : Pos) (e : Expr) (cpos : Pos) : Prop where
  base : attributeBase o m X.env (eval o X.env) = eval o X.env
  few : ((backTo cpos (starEach [e] X.env)).all (fun x => !x.1) && (backToKw cpos (keywordEach [] X.env)).all (fun x => x.1.isSome)
    && decide (([e] : List Expr).length + ([] : List Keyword).length + (if ([] : List Keyword).isEmpty then 0 else 1) < 30)) = true
  line : (apos.endLine == cpos.line) = true
  trees : backTo cpos (starEach [e] X.env) = [(false, eval e X.env)]
structure M2 (X : Cx) (o : Expr) (m : Str) (apos : Pos) (e f : Expr) (cpos : Pos) : Prop where
  base : attributeBase o m X.env (eval o X.env) = eval o X.env
  few : ((backTo cpos (starEach [e, f] X.env)).all (fun x => !x.1) && (backToKw cpos (keywordEach [] X.env)).all (fun x => x.1.isSome)
    && decide (([e, f] : List Expr).length + ([] : List Keyword).length + (if ([] : List Keyword).isEmpty then 0 else 1) < 30)) = true
  line : (apos.endLine == cpos.line) = true
  trees : backTo cpos (starEach [e, f] X.env) = [(false, eval e X.env), (false, eval f X.env)]

/-- a is a dict, whatever its keys -/
def IsD (H : Hp) (a : Addr) : Prop := (∃ kvs, Rd H a (.dK kvs)) ∨ ∃ kvs, Rd H a (.dT kvs)
theorem isD_at {X : Cx} {pins : List (Addr × Obj)} {σ : St} {H : Hp} {s : Shared} {a : Addr} (I : Inv X pins σ H s) (d : IsD H a) :
    s.TypeIs (.ref a) "dict" ∧ (∀ b, Value.ref a = .ref b → ∃ ob, s.heap.get? b = some ob ∧ ob.dict = none) ∧ (a == sysModules) = false := by
  rcases d with ⟨kvs, e⟩ | ⟨kvs, e⟩
  · obtain ⟨_, hd, vs, _, dd⟩ := dk_rd I.hok e
    refine ⟨dd.typeIs, fun b q => ?_, hd⟩
    cases q
    obtain ⟨ob, _, _, h1, h2, _⟩ := dd
    exact ⟨ob, h1, h2.2.1⟩
  · obtain ⟨_, hd, xs, _, dd⟩ := dt_rd I.hok e
    refine ⟨dd.typeIs, fun b q => ?_, hd⟩
    cases q
    obtain ⟨ob, _, _, h1, h2, _⟩ := dd
    exact ⟨ob, h1, h2.2.1⟩

section
variable {X : Cx} {pins : List (Addr × Obj)} {σ : St} {H : Hp} {s : Shared} {a : Addr} {y d : V} {u r : Value} {o : Option V} {A : Around} {E : Value → Shared → Prop}
/-- d.get(y) -/
theorem d_get1 {Q : Value → Shared → Prop} (hu : A.units + 1 < cLine) (I : Inv X pins σ H s) (g : DGet H a y o) (ry : RelV y u) (h : ∀ w' s', Inv X pins σ H s' → RelV (o.getD .non) w' → Q w' s') :
    wpAny (model X.prog X.w) A (call (.builtin "dict.get") [.ref a, u]) Q E s := by
  rcases g with ⟨kvs, k, e, ey, l⟩ | ⟨kvs, k, b, e, ey, eb, l⟩
  · subst ey
    obtain ⟨z, hd, vs, rel, dd⟩ := dk_rd I.hok e
    refine call_meetsIn PySem.F.slot_dict_get dd.typeIs PySem.F.entry_dict_get (PySem.F.args_dict_get_2 _ _) (meets_dict_get (mixKind X.prog X.w) a (kV_is ry) hd) ⟨_, dd.mapOf, h _ _ (I.tok _) ?_⟩
    rw [l]
    exact (rel.val k).getD rfl
  · subst ey
    cases (show u = Value.ref b from ry)
    obtain ⟨z, hd, xs, rel, dd⟩ := dt_rd I.hok e
    refine call_meetsIn PySem.F.slot_dict_get dd.typeIs PySem.F.entry_dict_get (PySem.F.args_dict_get_2 _ _) (meetsH_dict_get (tupleKind (mixKind X.prog X.w)) a b hd) ⟨tupleKind_room_in1 hu, k, xs, key_of I.hok eb, dd, h _ _ (I.tok _) ?_⟩
    rw [l]
    exact (rel.val k).getD rfl
/-- d.get(y, x) -/
theorem d_get2 {Q : Value → Shared → Prop} (hu : A.units + 1 < cLine) (I : Inv X pins σ H s) (g : DGet H a y o) (ry : RelV y u) (rd : RelV d r) (h : ∀ w' s', Inv X pins σ H s' → RelV (o.getD d) w' → Q w' s') :
    wpAny (model X.prog X.w) A (call (.builtin "dict.get") [.ref a, u, r]) Q E s := by
  rcases g with ⟨kvs, k, e, ey, l⟩ | ⟨kvs, k, b, e, ey, eb, l⟩
  · subst ey
    obtain ⟨z, hd, vs, rel, dd⟩ := dk_rd I.hok e
    refine call_meetsIn PySem.F.slot_dict_get dd.typeIs PySem.F.entry_dict_get (PySem.F.args_dict_get_3 _ _ _) (meets_dict_get_default (mixKind X.prog X.w) a (kV_is ry) hd r) ⟨_, dd.mapOf, h _ _ (I.tok _) ?_⟩
    rw [l]
    exact (rel.val k).getD rd
  · subst ey
    cases (show u = Value.ref b from ry)
    obtain ⟨z, hd, xs, rel, dd⟩ := dt_rd I.hok e
    refine call_meetsIn PySem.F.slot_dict_get dd.typeIs PySem.F.entry_dict_get (PySem.F.args_dict_get_3 _ _ _) (meetsH_dict_get_default (tupleKind (mixKind X.prog X.w)) a b hd r) ⟨tupleKind_room_in1 hu, k, xs, key_of I.hok eb, dd, h _ _ (I.tok _) ?_⟩
    rw [l]
    exact (rel.val k).getD rd
end

def tDGet1 (td ty : TE) : TE := fun σ H Q => td σ H fun x H1 => ∃ a, x = .ref a ∧ IsD H1 a ∧ ty σ H1 fun y H2 => ∃ o, DGet H2 a y o ∧ Q (o.getD .non) H2
def tDGet2 (td ty tx : TE) : TE := fun σ H Q => td σ H fun x H1 => ∃ a, x = .ref a ∧ IsD H1 a ∧ ty σ H1 fun y H2 => tx σ H2 fun z H3 => ∃ o, DGet H3 a y o ∧ Q (o.getD z) H3
section
variable {X : Cx} {o e f : Expr} {apos cpos : Pos} {td ty tx : TE}
theorem pe_dget1 (hu : X.A.units + 1 < cLine) (ho : PE X o td) (he : PE X e ty) (m : M1 X o "get" apos e cpos) : PE X (.Call (.Attribute o "get" apos) [e] [] cpos) (tDGet1 td ty) := by
  refine ⟨?_⟩
  intro pins s σ H Q I h
  refine wpAny_Call_method m.base m.few m.line PySem.F.plainAttrs_dict PySem.F.slot_dict_get PySem.F.type_dict_get (thn (ho pins s σ H _ I h) fun u s1 ⟨x, H1, I1, rx, a, ex, d, q1⟩ => ?_)
  subst ex
  obtain rfl : u = Value.ref a := rx
  obtain ⟨t1, t2, _⟩ := isD_at I1 d
  refine ⟨t1, t2, ?_⟩
  rw [m.trees]
  refine Calls.callWith_builtin rfl (Calls.evalArgs_plain (Calls.spliced_cons (thn (he pins s1 σ H1 _ I1 q1) fun iv s2 ⟨y, H2, I2, ry, ov, g, q2⟩ => Calls.spliced_nil ?_)))
  exact d_get1 hu I2 g ry fun w' s3 I3 rw' => ⟨_, H2, I3, rw', q2⟩
theorem pe_dget2 (hu : X.A.units + 1 < cLine) (ho : PE X o td) (he : PE X e ty) (hf : PE X f tx) (m : M2 X o "get" apos e f cpos) : PE X (.Call (.Attribute o "get" apos) [e, f] [] cpos) (tDGet2 td ty tx) := by
  refine ⟨?_⟩
  intro pins s σ H Q I h
  refine wpAny_Call_method m.base m.few m.line PySem.F.plainAttrs_dict PySem.F.slot_dict_get PySem.F.type_dict_get (thn (ho pins s σ H _ I h) fun u s1 ⟨x, H1, I1, rx, a, ex, d, q1⟩ => ?_)
  subst ex
  obtain rfl : u = Value.ref a := rx
  obtain ⟨t1, t2, _⟩ := isD_at I1 d
  refine ⟨t1, t2, ?_⟩
  rw [m.trees]
  refine Calls.callWith_builtin rfl (Calls.evalArgs_plain (Calls.spliced_cons (thn (he pins s1 σ H1 _ I1 q1) fun iv s2 ⟨y, H2, I2, ry, q2⟩ =>
    Calls.spliced_cons (thn (hf pins s2 σ H2 _ I2 q2) fun fv s3 ⟨z, H3, I3, rz, ov, g, q3⟩ => Calls.spliced_nil ?_))))
  exact d_get2 hu I3 g ry rz fun w' s4 I4 rw' => ⟨_, H3, I4, rw', q3⟩
end

/-! ### dict(d): a copy -/
section
variable {X : Cx} {pins : List (Addr × Obj)} {σ : St} {H : Hp} {s : Shared} {a : Addr} {kvs : List (Key × V)} {A : Around} {E : Value → Shared → Prop}
end


section
variable {X : Cx} {pins : List (Addr × Obj)} {σ : St} {H : Hp} {s : Shared} {a : Addr} {y : V} {u : Value} {A : Around} {E : Value → Shared → Prop}
end
end L2
set_option Elab.async false
set_option linter.all false
set_option maxRecDepth 100000
/-! a dict of the module, which is read alone -/
namespace L2
open PySem PySem.Spec PyProof.Rows
/-- the dict at a is the module's own: its entries -/
inductive KDict (K : PySem.W.Frag) (P : Program) (w : World) (a : Addr) (kvs : List (Key × V)) : Prop
  | mk (o : Obj) (es : Array DictEntry) (ep : Nat) (vs : List (Key × Value)) (lk : K.lookup a = some o) (ex : o.ExactDict) (d : o.data = .dict es ep) (ks : KeysOf (mixKind P w) es) (ps : Pairs (mixKind P w) es.toList vs) (nd : (vs.map (·.1)).Nodup) (kv : KV kvs vs) (ns : (a == sysModules) = false) : KDict K P w a kvs
theorem KDict.rd {X : Cx} {pins : List (Addr × Obj)} {σ : St} {H : Hp} {s : Shared} {a : Addr} {kvs : List (Key × V)} (I : Inv X pins σ H s) (h : KDict X.K X.prog X.w a kvs) : (a == sysModules) = false ∧ ∃ vs, KV kvs vs ∧ s.heap.DictOf (mixKind X.prog X.w) a vs := by
  obtain ⟨o, es, ep, vs, lk, ex, d, ks, ps, nd, kv, ns⟩ := h
  exact ⟨ns, vs, kv, o, es, ep, I.kIn a o lk, ex, d, ks, ps, nd⟩
section
variable {X : Cx} {o i : Expr} {pos : Pos} {td ty : TE}
/-- d[y] -/
inductive rKGet (K : PySem.W.Frag) (P : Program) (w : World) (x y : V) (H : Hp) (Q : VK) : Prop
  | mk (a : Addr) (kvs : List (Key × V)) (k : Key) (v : V) (e1 : x = .ref a) (h : KDict K P w a kvs) (e2 : y = kV k) (e : valV kvs k = some v) (q : Q v H) : rKGet K P w x y H Q
/-- y not in d -/
inductive rKNot (K : PySem.W.Frag) (P : Program) (w : World) (x y : V) (H : Hp) (Q : VK) : Prop
  | mk (a : Addr) (kvs : List (Key × V)) (k : Key) (e1 : x = .ref a) (h : KDict K P w a kvs) (e2 : y = kV k) (q : Q (.bl (!(valV kvs k).isSome)) H) : rKNot K P w x y H Q
def tKGet (K : PySem.W.Frag) (P : Program) (w : World) (td ty : TE) : TE := fun σ H Q => td σ H fun x H1 => ty σ H1 fun y H2 => rKGet K P w x y H2 Q
def tKNot (K : PySem.W.Frag) (P : Program) (w : World) (ty td : TE) : TE := fun σ H Q => ty σ H fun y H1 => td σ H1 fun x H2 => rKNot K P w x y H2 Q
theorem pe_kget (K : PySem.W.Frag) (P : Program) (w : World) (ho : PE X o td) (hi : PE X i ty) (hs : NoSl i) (e1 : X.K = K := by rfl) (e2 : X.prog = P := by rfl) (e3 : X.w = w := by rfl) : PE X (.Subscript o i pos) (tKGet K P w td ty) := by
  subst e1 e2 e3
  refine ⟨?_⟩
  intro pins s σ H Q I h
  refine subD_of PySem.F.slot_dict_getitem.lookup hs (thn (ho pins s σ H _ I h) fun u s1 ⟨x, H1, I1, rx, q1⟩ => thn (hi pins s1 σ H1 _ I1 q1) fun iv s2 ⟨y, H2, I2, ry, z⟩ => ?_)
  obtain ⟨a, kvs, k, v, e1, hk, e2, e, q⟩ := z
  subst e1 e2
  obtain rfl : u = Value.ref a := rx
  obtain ⟨hd, vs, rel, dd⟩ := hk.rd I2
  obtain ⟨w', hw, rw'⟩ := RelO.some_of (v := v) (o := valueAt vs k) (by rw [← e]; exact rel.val k)
  exact ⟨dd.typeIs, wpAny_getItem_of (kV_is ry) dd.mapOf hw ⟨v, H2, I2.tok _, rw', q⟩⟩
theorem pc_knot (K : PySem.W.Frag) (P : Program) (w : World) (hi : PE X i ty) (ho : PE X o td) (e1 : X.K = K := by rfl) (e2 : X.prog = P := by rfl) (e3 : X.w = w := by rfl) : PC X .NotIn i o (tKNot K P w ty td) := by
  subst e1 e2 e3
  intro pins s σ H Q I h
  refine thn (hi pins s σ H _ I h) fun iv s1 ⟨y, H1, I1, ry, q1⟩ => thn (ho pins s1 σ H1 _ I1 q1) fun u s2 ⟨x, H2, I2, rx, z⟩ => ?_
  obtain ⟨a, kvs, k, e1, hk, e2, q⟩ := z
  subst e1 e2
  obtain rfl : u = Value.ref a := rx
  obtain ⟨hd, vs, rel, dd⟩ := hk.rd I2
  refine wpAny_notIn_of (kV_is ry) hd dd.mapOf ?_
  rw [← (rel.val k).isSome_eq]
  exact ⟨.bl _, H2, I2.tok _, rfl, q⟩
end
end L2
set_option Elab.async false
set_option linter.all false
set_option maxRecDepth 100000
/-! (x,) * n -/
namespace L2
open PySem PySem.Spec PyProof.Rows
theorem noFill_tup : fillsNumberSlot (.type "tuple") "mul" = pure false := PySem.fillsNumberSlot_seq (id := "tuple.__mul__") (r := some (.builtin "tuple.__rmul__")) F.slot_tuple_mul.lookup (by decide +kernel) F.slot_tuple_rmul.lookup (by decide +kernel)
theorem repeat_tup : seqRepeat? (.type "tuple") = pure (some (.builtin "tuple.__mul__")) := by
  unfold seqRepeat?
  rw [PySem.seqSlot_of (T := "tuple") (name := "__mul__") (id := "tuple.__mul__") F.slot_tuple_mul.lookup (by decide +kernel), PySem.seqSlot_of (T := "tuple") (name := "__rmul__") (id := "tuple.__rmul__") F.slot_tuple_rmul.lookup (by decide +kernel)]
  rfl
theorem rmul_tup (a : Int) (k : Tok) (t : Addr) (us : Array Value) :
    Meets (Builtin.«int.__rmul__» ⟨[.int a k, .ref t], []⟩) (fun _ R s => IsTup s.heap t us ∧ R (.ok (.ret Value.notImplemented)) s) :=
  .of_wp fun prog w A R s h => by
    obtain ⟨hp, g, d, tk, os⟩ := s; obtain ⟨⟨o, ho, hc, n, hd⟩, h⟩ := h
    obtain ⟨c1, c2, c3, c4⟩ := o
    cases hc
    cases hd
    wp_walk
    exact ⟨_, rfl, h⟩
theorem tmul1 (t : Addr) (k : Tok) (u : Value) : Meets (Builtin.«tuple.__mul__» ⟨[.ref t, .int 1 k], []⟩) (fun _ R s => IsTup s.heap t #[u] ∧ R (.ok (.ret (.ref t))) s) :=
  .of_wp fun prog w A R s h => by
    obtain ⟨hp, g, d, tk, os⟩ := s; obtain ⟨⟨o, ho, hc, n, hd⟩, h⟩ := h
    obtain ⟨c1, c2, c3, c4⟩ := o
    cases hc
    cases hd
    wp_walk
    exact ⟨_, rfl, h⟩
theorem rep1 (u : Value) (m : Nat) : List.foldl (fun a b => a ++ b) #[] (List.replicate m (#[u] : Array Value)) = (List.replicate m u).toArray := by
  have key : ∀ (m : Nat) (c : List Value), List.foldl (fun a b => a ++ b) c.toArray (List.replicate m (#[u] : Array Value)) = (c ++ List.replicate m u).toArray := fun m => by
    induction m with
    | zero => intro c; simp
    | succ m ih =>
      intro c
      rw [List.replicate_succ, List.foldl_cons, show (c.toArray ++ #[u] : Array Value) = (c ++ [u]).toArray by simp, ih, List.replicate_succ, List.append_assoc]
      rfl
  have := key m []
  simpa using this
set_option maxHeartbeats 2000000 in
theorem tmulN (t : Addr) (k : Tok) (u : Value) (m : Int) (h2 : 2 ≤ m) (h3 : m ≤ 1000) : Meets (Builtin.«tuple.__mul__» ⟨[.ref t, .int m k], []⟩) (fun _ R s => IsTup s.heap t #[u] ∧ R (.ok (.ret (.ref s.heap.objs.size))) { s with heap := s.heap.push { cls := .type "tuple", data := .seq (List.replicate m.toNat u).toArray } }) :=
  .of_wp fun prog w A R s h => by
    obtain ⟨hp, g, d, tk, os⟩ := s; obtain ⟨⟨o, ho, hc, n, hd⟩, h⟩ := h
    obtain ⟨c1, c2, c3, c4⟩ := o
    cases hc
    cases hd
    rw [← rep1] at h
    have f1 : (decide (m < -(2 ^ 63)) || decide (m ≥ 2 ^ 63)) = false := by rw [decide_eq_false (by omega), decide_eq_false (by omega)]; rfl
    have f2 : ((#[u] : Array Value).isEmpty || m == 1) = false := by
      have : (m == 1) = false := by simp; omega
      rw [this]; rfl
    have f3 : (decide (m ≤ 0) || (#[u] : Array Value).isEmpty) = false := by rw [decide_eq_false (by omega)]; rfl
    have hs : ((#[u] : Array Value).size : Int) * m = m := by show (1 : Int) * m = m; omega
    have f4 : ¬ ((#[u] : Array Value).size : Int) * m > (2 ^ 63 - 1) / 8 := by rw [hs]; omega
    have f5 : Builtin.Tuple.tupleTooMany (((#[u] : Array Value).size : Int) * m) = false := by
      rw [hs]
      unfold Builtin.Tuple.tupleTooMany
      rw [decide_eq_false]
      have := sizeLine_eq
      omega
    wp_walk
    simp only [f1, Bool.false_eq_true, if_false]
    wp_walk
    simp only [f2, Bool.false_eq_true, if_false]
    wp_walk
    simp only [f3, Bool.false_eq_true, if_false]
    wp_walk
    simp only [if_neg f4]
    wp_walk
    simp only [f5, Bool.false_eq_true, if_false]
    wp_walk
    have f6 : ¬ (List.foldl (fun a b => a ++ b) #[] (List.replicate m.toNat (#[u] : Array Value))).size > sizeLine := by
      rw [rep1, List.size_toArray, List.length_replicate]
      have := sizeLine_eq
      omega
    simp only [if_neg f6]
    wp_walk
    exact ⟨_, rfl, h⟩
/-- a tuple of one thing times an int from 1 on -/
inductive rMulT (x y : V) (H : Hp) (Q : VK) : Prop
  | mk (t : Addr) (v : V) (m : Int) (e1 : x = .ref t) (e2 : y = .int m) (h : H t = some (.tup [v])) (h1 : 1 ≤ m) (h2 : m ≤ 1000) (q : ∀ p H', Same H H' → H' p = some (.tup (List.replicate m.toNat v)) → Q (.ref p) H') : rMulT x y H Q
theorem vals_rep {v : V} {u : Value} (r : RelV v u) : ∀ m, Vals (List.replicate m v) (List.replicate m u)
  | 0 => .nil
  | m + 1 => .cons r (vals_rep r m)
section
variable {X : Cx}
theorem op_mulT : OpR X (binaryOp .Mult) rMulT := by
  intro pins s σ H x y v u Q I rx ry h
  obtain ⟨t, v0, m, rfl, rfl, hH, h1, h2, q⟩ := h
  cases rx
  obtain ⟨k, rfl⟩ := ry
  obtain ⟨its, r, p, hz⟩ := I.tuple (SqT.of hH)
  obtain ⟨u0, rfl, r0⟩ := vals1 r
  refine wpAny_binaryOp_repeat_ref (T := "tuple") (U := "int") (by decide) p.typeIs (fun s' => typeIs_int s' m k) noFill_tup F.fills_int_mul F.slot_int_rmul repeat_tup F.slot_int_index.lookup
    (call_meets F.slot_int_rmul (typeIs_int s m k) F.entry_int_rmul (F.args_int_rmul_2 _ _) (rmul_tup m k t _) ⟨p, rfl, p.typeIs, ?_⟩)
  by_cases hm : m = 1
  · subst hm
    exact call_meets F.slot_tuple_mul p.typeIs F.entry_tuple_mul (F.args_tuple_mul_2 _ _) (tmul1 t k u0) ⟨p, ⟨.ref t, H, I, rfl, q t H (Same.refl _) hH⟩⟩
  · refine call_meets F.slot_tuple_mul p.typeIs F.entry_tuple_mul (F.args_tuple_mul_2 _ _) (tmulN t k u0 m (by omega) h2) ⟨p, ?_⟩
    have hf := I.hok.fresh (Nat.le_refl _)
    refine ⟨.ref s.heap.objs.size, _, I.laid (t' := s.toks) (o := .tup (List.replicate m.toNat v0)) (fun b ob q => Heap.get?_push_of_some _ q) (Nat.le_refl _) ?_, rfl, q _ _ (Same.upd hf) upd_same⟩
    refine ⟨by rw [List.length_replicate]; have := sizeLine_eq; omega, _, vals_rep r0 _, IsTup.new _ _⟩
end
end L2
set_option Elab.async false
set_option linter.all false
set_option maxRecDepth 100000
/-! enumerate of a list, walked by a for or a comprehension with a pair of names. -/
namespace L2
open PySem PySem.Spec PyProof.Rows
section
variable {X : Cx} {pins : List (Addr × Obj)} {σ : St} {H : Hp} {s : Shared}
/-- an untracked tuple of ours is tracked from now on -/
theorem Inv.trackT {D : Addr} {ys : List V} {its : List Value} (I : Inv X pins σ H s) (f : FpOk X pins H D) (hg : IsTup s.heap D its.toArray) (hv : Vals ys its) (hz : ys.length ≤ sizeLine) : Inv X pins σ (upd H D (.tup ys)) s := by
  obtain ⟨f1, f2, f3, f4, f5, f6⟩ := f
  have nD : ∀ b u, H b = some u → b ≠ D := fun b u e z => by rw [z, f1] at e; cases e
  have J := I.step (h' := s.heap) (g' := s.gens) (t' := s.toks) (d' := s.drawn) (ch := [D]) (H' := upd H D (.tup ys)) (fun b hb => by
      have e : b = D := by simpa using hb
      subst e
      exact ⟨f4, f2, f5, f6⟩)
    (fun b o _ _ _ e _ => e) (fun b o _ _ _ e _ => ⟨o.slots, e⟩) (fun b o hc e n => by rw [upd_ne (by simpa using hc)]; exact n) (fun b o _ e => ⟨o, e⟩)
    (fun b xs e => by rw [upd_ne (nD _ _ e)]; exact e) (fun b o u e => by rw [upd_ne (nD _ _ e)]; exact e) (fun b ps e => ⟨#[], by rw [upd_ne (nD _ _ e), e]; simp⟩) (fun m hm => hm) (fun b u e => by
      by_cases hb : b = D
      · subst hb
        rw [upd_same] at e
        cases e
        exact ⟨hz, its, hv, hg⟩
      · rw [upd_ne hb] at e
        exact (I.hok b u e).stay (fun _ _ _ q => q) (fun c q => by rw [upd_ne (nD _ _ q)]; exact q) fun c xs q => by rw [upd_ne (nD _ _ q)]; exact q) I.bare
  exact J
end
section
variable {X : Cx}
end
end L2
set_option Elab.async false
set_option linter.all false
set_option maxRecDepth 100000
/-! zip(l1, l2) -/
namespace L2
open PySem PySem.Spec PyProof.Rows
section
variable {X : Cx} {pins : List (Addr × Obj)} {σ : St} {H : Hp} {s : Shared}
/-- some untracked records of ours have turned -/
theorem Inv.turnedL {t' : Nat} {ch : List Addr} {h' : Heap} (I : Inv X pins σ H s) (f : ∀ b ∈ ch, FpOk X pins H b) (k : ∀ b o, b ∉ ch → s.heap.get? b = some o → h'.get? b = some o) : Inv X pins σ H { s with heap := h', toks := t' } := by
  have n1 : ∀ b u, H b = some u → b ∉ ch := fun b u q z => by
    have := (f b z).1
    rw [this] at q
    cases q
  refine I.step (g' := s.gens) (d' := s.drawn) (ch := ch) (fun b hb => ?_) (fun b o _ _ hc q _ => k b o hc q) (fun b o _ _ hc q _ => ⟨o.slots, k b o hc q⟩) (fun _ _ _ _ n => n)
    (fun b o hc q => ⟨o, k b o hc q⟩) (fun _ _ q => q) (fun _ _ _ q => q) (fun b ps q => ⟨#[], by rw [q]; simp⟩) (fun m hm => ?_) (fun b u q => ?_) I.bare
  · have z := f b hb
    exact ⟨z.2.2.2.1, z.2.1, z.2.2.2.2.1, z.2.2.2.2.2⟩
  · obtain ⟨o, es, ep, ho, r⟩ := hm
    exact ⟨o, es, ep, k _ o (fun z => (f _ z).2.1 rfl) ho, r⟩
  · refine (I.hok b u q).stay (fun c v hc z => k c v ?_ z) (fun _ z => z) fun _ _ z => z
    rcases hc with y | y
    · rw [y]; exact n1 b u q
    · exact n1 c _ y
end
theorem boot_zip : bootBuiltins "zip" = some (.type "zip") := by decide +kernel
section
variable {X : Cx}
end
end L2
set_option Elab.async false
set_option linter.all false
set_option maxRecDepth 100000
/-! zip(t, l): the first a tuple or a text, the second a list -/
namespace L2
open PySem PySem.Spec PyProof.Rows
section
variable {prog : Program} {w : World} {A : Around} {E : Value → Shared → Prop} {s : Shared}
/-- a tuple's things, drawn one by one -/
theorem tupD (hA : A.handled = none) (ti t : Addr) (ne : t ≠ ti) (us : Array Value) : Draws prog w A ti [ti, t] us.size (fun i v => us[i]? = some v) (fun i h => IsTupIter h ti t i ∧ IsTup h t us) where
  live := fun _ _ st => by obtain ⟨⟨ob, g, _⟩, _⟩ := st; exact ⟨ob, g⟩
  frame := fun _ _ _ st k => by
    obtain ⟨⟨ob, g, r⟩, ⟨ot, gt, rt⟩⟩ := st
    exact ⟨⟨ob, k ti (by simp) _ g, r⟩, ⟨ot, k t (by simp) _ gt, rt⟩⟩
  item := fun i s Q E hi st hQ => by
    obtain ⟨⟨ob, g, cl, dt⟩, ⟨ot, gt, ct, m, dtt⟩⟩ := id st
    unfold Builtin.SmallTypes.nextOf
    refine wpAny_bind (wpAny_callSpecial?_slot (name := Str.ofString "__next__") st.1.typeIs slot_tupleiter_next (wpAny_call_entry slot_tupleiter_next st.1.typeIs entry_tupleiter_next ?_ (args_tupleiter_next _)))
    show wpAny _ _ (field (.ref ti) 0 >>= _) _ _ s
    refine wpAny_bind (wpAny_field g dt (x := .ref t) rfl ?_)
    show wpAny _ _ (if (Value.ref t == Value.none) = true then _ else _) _ _ s
    rw [if_neg (by exact Bool.false_ne_true)]
    show wpAny _ _ (field (.ref ti) 1 >>= _) _ _ s
    refine wpAny_bind (wpAny_field g dt (x := .int i 0) rfl ?_)
    show wpAny _ _ (seqItems? (.ref t) >>= _) _ _ s
    refine wpAny_bind (wpAny_seqItems gt dtt ?_)
    have hx : us[i]? = some us[i] := by simp [hi]
    simp only [Int.toNat_natCast, hx]
    have sb := fun f => Heap.SameBut.update s.heap ti f
    refine wpAny_bind (wpAny_setField g dt (by simp) (wpAny_pure ⟨us[i], rfl, wpAny_pure (hQ _ _ s.toks hx ⟨?_, ?_⟩ (sb _))⟩))
    · exact ⟨_, Heap.get?_update_self _ g (Obj.isFreed_of_fields (Obj.data_mapFields dt _)), (Obj.cls_mapFields ..).trans cl, by rw [Obj.data_mapFields dt]; simp [rawInt]⟩
    · exact st.2.extBut (sb _).extBut ne
  done := fun s Q E st hE => by
    obtain ⟨⟨ob, g, cl, dt⟩, ⟨ot, gt, ct, m, dtt⟩⟩ := id st
    unfold Builtin.SmallTypes.nextOf
    refine wpAny_bind (wpAny_callSpecial?_slot (name := Str.ofString "__next__") st.1.typeIs slot_tupleiter_next (wpAny_call_entry slot_tupleiter_next st.1.typeIs entry_tupleiter_next ?_ (args_tupleiter_next _)))
    show wpAny _ _ (field (.ref ti) 0 >>= _) _ _ s
    refine wpAny_bind (wpAny_field g dt (x := .ref t) rfl ?_)
    show wpAny _ _ (if (Value.ref t == Value.none) = true then _ else _) _ _ s
    rw [if_neg (by exact Bool.false_ne_true)]
    show wpAny _ _ (field (.ref ti) 1 >>= _) _ _ s
    refine wpAny_bind (wpAny_field g dt (x := .int us.size 0) rfl ?_)
    show wpAny _ _ (seqItems? (.ref t) >>= _) _ _ s
    refine wpAny_bind (wpAny_seqItems gt dtt ?_)
    have hx : us[us.size]? = none := by simp
    simp only [Int.toNat_natCast, hx]
    refine wpAny_bind (wpAny_rule (wpAny_bind (wpAny_setField g dt (by simp) ?_)))
    show wpAny _ _ (newExc (.type "StopIteration") [] >>= _) _ _ _
    refine wpAny_bind ?_
    simp only [newExc, newTuple]
    refine wpAny_bind (wpAny_newObj_type ?_ (by size_fits))
    refine wpAny_bind (m := firstArgMember _ _) (wpAny_of_eq (a := Value.none) (by first | rfl | (simp only [firstArgMember]; rfl)) ?_)
    refine wpAny_newObj_type ?_ (by size_fits)
    simp only [raiseNew]
    refine wpAny_bind (wpAny_handled ?_)
    first | rw [show A.in1.handled = none from hA] | rw [hA]
    refine wpAny_bind (wpAny_pure (wpAny_throw ?_))
    exact hE _ _ (((Heap.SameBut.update ..).extBut.push _).push _) ⟨_, Heap.get?_push_size _ rfl, rfl⟩
structure ZAp (z TI TO i1 i2 l2 : Addr) (fp : List Addr) : Prop where
  TIz : TI ≠ z
  TOz : TO ≠ z
  i1z : i1 ≠ z
  i2z : i2 ≠ z
  TITO : TI ≠ TO
  TIi1 : TI ≠ i1
  TIi2 : TI ≠ i2
  TOi1 : TO ≠ i1
  TOi2 : TO ≠ i2
  i12 : i1 ≠ i2
  l2z : l2 ≠ z
  l2TO : l2 ≠ TO
  l2i1 : l2 ≠ i1
  l2i2 : l2 ≠ i2
  fz : z ∉ fp
  fT : TO ∉ fp
  f2 : i2 ∉ fp
variable {z TI TO i1 i2 l2 : Addr} {fp : List Addr} {n k k2 : Nat} {Pv : Nat → Value → Prop} {S1 : Nat → Heap → Prop} {ys : Array Value} {y a b : Value}
theorem zipA_item {Q : Value → Shared → Prop} (D : ZAp z TI TO i1 i2 l2 fp) (d : ∀ A : Around, A.handled = none → Draws prog w A i1 fp n Pv S1) (hA : A.handled = none) (hk : k < n) (st : S1 k s.heap)
    (hZ : IsZip s.heap z TI TO .none) (hI : IsPair s.heap TI (.ref i1) (.ref i2)) (hO : IsPair s.heap TO a b) (h2 : s.heap.IsListIter i2 l2 k2) (hl : s.heap.IsList l2 ys) (hy : ys[k2]? = some y)
    (hQ : ∀ x h' tk, Pv k x → IsZip h' z TI TO (rawInt s.heap.objs.size) → IsPair h' TO x y → S1 (k + 1) h' → h'.IsListIter i2 l2 (k2 + 1) → IsPair h' s.heap.objs.size x y →
      (∀ c o, c ≠ z → c ≠ TO → c ≠ i1 → c ≠ i2 → s.heap.get? c = some o → h'.get? c = some o) → Q (.ref s.heap.objs.size) { s with heap := h', toks := tk }) :
    wpAny (model prog w) A (Builtin.«zip.__next__» ⟨[.ref z], []⟩) (fun fin s' => ∃ v, fin = .done (.ret v) ∧ Q v s') E s := by
  show wpAny _ _ (field (.ref z) 2 >>= _) _ _ _
  refine wpAny_bind (wpAny_field hZ rfl (x := .bool false) rfl ?_)
  show wpAny _ _ (field (.ref z) 3 >>= _) _ _ _
  refine wpAny_bind (wpAny_field hZ rfl (x := .ref TI) rfl ?_)
  refine wpAny_bind (wpAny_seqItems hI rfl ?_)
  show wpAny _ _ (Builtin.SmallTypes.ownedTupleIsFree (.ref z) >>= _) _ _ _
  refine wpAny_bind ?_
  unfold Builtin.SmallTypes.ownedTupleIsFree
  refine wpAny_bind (wpAny_field hZ rfl (x := .none) rfl (wpAny_pure ?_))
  simp only [if_true]
  refine wpAny_bind (wpAny_rule ?_)
  refine wpAny_bind (wpAny_field hZ rfl (x := .ref TO) rfl ?_)
  refine wpAny_bind (wpAny_setField_rec hZ (by simp) fun g1 z1 e1 => ?_)
  replace z1 : IsZip g1 z TI TO .ellipsis := z1
  refine wpAny_bind ?_
  simp only [List.zipIdx_cons, List.zipIdx_nil, List.forIn_cons, List.forIn_nil]
  refine wpAny_bind (wpAny_bind (wpAny_onRaise ?_))
  show wpAny _ _ (Builtin.SmallTypes.nextOf (.ref i1) >>= _) _ _ _
  have fz : ∀ c ∈ fp, c ≠ z := fun c h e => D.fz (e ▸ h)
  have fT : ∀ c ∈ fp, c ≠ TO := fun c h e => D.fT (e ▸ h)
  have f2 : ∀ c ∈ fp, c ≠ i2 := fun c h e => D.f2 (e ▸ h)
  refine wpAny_bind ((d _ hA).item k _ _ _ hk ((d A hA).frame _ _ _ st fun c hc o q => e1.extBut _ _ (fz c hc) q) fun x g2 tk px s2 e2 => wpAny_pure ?_)
  have o2 : IsPair g2 TO a b := e2.extBut _ _ D.TOi1 (e1.extBut _ _ D.TOz hO)
  refine wpAny_bind (wpAny_seqItems o2 rfl ?_)
  refine wpAny_bind (wpAny_updateSeq_pair o2 fun g3 o3 e3 => ?_)
  replace o3 : IsPair g3 TO x b := o3
  refine wpAny_bind (wpAny_letGo (wpAny_pure ?_))
  refine wpAny_bind (wpAny_bind (wpAny_onRaise ?_))
  show wpAny _ _ (Builtin.SmallTypes.nextOf (.ref i2) >>= _) _ _ _
  refine wpAny_bind (wpAny_nextOf_list_item (((h2.extBut e1.extBut D.i2z).extBut e2.extBut D.i12.symm).extBut e3.extBut D.TOi2.symm) (((hl.extBut e1.extBut D.l2z).extBut e2.extBut D.l2i1).extBut e3.extBut D.l2TO) hy fun g4 h4 e4 => wpAny_pure ?_)
  have o4 : IsPair g4 TO x b := e4.extBut _ _ D.TOi2 o3
  refine wpAny_bind (wpAny_seqItems o4 rfl ?_)
  refine wpAny_bind (wpAny_updateSeq_pair o4 fun g5 o5 e5 => ?_)
  replace o5 : IsPair g5 TO x y := o5
  refine wpAny_bind (wpAny_letGo (wpAny_pure (wpAny_pure ?_)))
  refine wpAny_bind (wpAny_seqItems o5 rfl ?_)
  refine wpAny_bind (wpAny_newTuple ?_)
  have hs : g5.objs.size = s.heap.objs.size := by rw [e5.1, e4.1, e3.1, e2.1, e1.1]
  have z5 : IsZip g5 z TI TO .ellipsis := e5.extBut _ _ D.TOz.symm (e4.extBut _ _ D.i2z.symm (e3.extBut _ _ D.TOz.symm (e2.extBut _ _ D.i1z.symm z1)))
  have kp : ∀ c o, c ≠ z → c ≠ TO → c ≠ i1 → c ≠ i2 → s.heap.get? c = some o → g5.get? c = some o := fun c o c1 c2 c3 c4 e => e5.extBut _ _ c2 (e4.extBut _ _ c4 (e3.extBut _ _ c2 (e2.extBut _ _ c3 (e1.extBut _ _ c1 e))))
  have s5 : S1 (k + 1) g5 := (d A hA).frame _ _ _ s2 fun c hc o q => e5.extBut _ _ (fT c hc) (e4.extBut _ _ (f2 c hc) (e3.extBut _ _ (fT c hc) q))
  have h5 : g5.IsListIter i2 l2 (k2 + 1) := h4.extBut e5.extBut D.TOi2.symm
  have lz : z < g5.objs.size := Heap.lt_size z5
  show wpAny _ _ (Builtin.SmallTypes.ownedTupleHandOut (.ref z) (.ref g5.objs.size) >>= _) _ _ _
  refine wpAny_bind ?_
  unfold Builtin.SmallTypes.ownedTupleHandOut
  have z6 : IsZip (g5.push { cls := .type "tuple", data := .seq #[x, y] }) z TI TO .ellipsis := Heap.get?_push_of_some _ z5
  refine wpAny_bind (wpAny_setField_rec z6 (by simp) fun g7 z7 e7 => ?_)
  replace z7 : IsZip g7 z TI TO (rawInt g5.objs.size) := z7
  refine wpAny_setField_rec z7 (by simp) fun g8 z8 e8 => ?_
  replace z8 : IsZip g8 z TI TO (rawInt g5.objs.size) := z8
  have up : ∀ c o, c ≠ z → g5.get? c = some o → g8.get? c = some o := fun c o c1 e => e8.extBut _ _ c1 (e7.extBut _ _ c1 (Heap.get?_push_of_some _ e))
  have t8 : IsPair g8 g5.objs.size x y := e8.extBut _ _ (Nat.ne_of_gt lz) (e7.extBut _ _ (Nat.ne_of_gt lz) (Heap.get?_push_size _ rfl))
  rw [hs] at z8 t8
  refine wpAny_pure ⟨_, rfl, ?_⟩
  show Q (.ref g5.objs.size) _
  rw [hs]
  exact hQ x g8 tk px z8 (up _ _ D.TOz o5) ((d A hA).frame _ _ _ s5 fun c hc o q => up _ _ (fz c hc) q) (h5.at fun o e => up _ o D.i2z e) t8 fun c o c1 c2 c3 c4 e => up c o c1 (kp c o c1 c2 c3 c4 e)
theorem zipA_end {Q : Fin → Shared → Prop} (D : ZAp z TI TO i1 i2 l2 fp) (d : ∀ A : Around, A.handled = none → Draws prog w A i1 fp n Pv S1) (hA : A.handled = none) (st : S1 n s.heap)
    (hZ : IsZip s.heap z TI TO .none) (hI : IsPair s.heap TI (.ref i1) (.ref i2)) (hO : IsPair s.heap TO a b)
    (hE : ∀ h' e, (∀ c o, c ≠ z → c ≠ i1 → s.heap.get? c = some o → h'.get? c = some o) → (∃ o, h'.get? e = some o ∧ o.cls = .type "StopIteration") → E (.ref e) { s with heap := h' }) :
    wpAny (model prog w) A (Builtin.«zip.__next__» ⟨[.ref z], []⟩) Q E s := by
  show wpAny _ _ (field (.ref z) 2 >>= _) _ _ _
  refine wpAny_bind (wpAny_field hZ rfl (x := .bool false) rfl ?_)
  show wpAny _ _ (field (.ref z) 3 >>= _) _ _ _
  refine wpAny_bind (wpAny_field hZ rfl (x := .ref TI) rfl ?_)
  refine wpAny_bind (wpAny_seqItems hI rfl ?_)
  show wpAny _ _ (Builtin.SmallTypes.ownedTupleIsFree (.ref z) >>= _) _ _ _
  refine wpAny_bind ?_
  unfold Builtin.SmallTypes.ownedTupleIsFree
  refine wpAny_bind (wpAny_field hZ rfl (x := .none) rfl (wpAny_pure ?_))
  simp only [if_true]
  refine wpAny_bind (wpAny_rule ?_)
  refine wpAny_bind (wpAny_field hZ rfl (x := .ref TO) rfl ?_)
  refine wpAny_bind (wpAny_setField_rec hZ (by simp) fun g1 z1 e1 => ?_)
  replace z1 : IsZip g1 z TI TO .ellipsis := z1
  refine wpAny_bind ?_
  simp only [List.zipIdx_cons, List.zipIdx_nil, List.forIn_cons, List.forIn_nil]
  refine wpAny_bind (wpAny_bind (wpAny_onRaise ?_))
  show wpAny _ _ (Builtin.SmallTypes.nextOf (.ref i1) >>= _) _ _ _
  refine wpAny_bind ((d _ hA).done _ _ _ ((d A hA).frame _ _ _ st fun c hc o q => e1.extBut _ _ (fun e => D.fz (e ▸ hc)) q) fun g2 e e2 he => ?_)
  obtain ⟨oe, hoe, hce⟩ := he
  have z2 : IsZip g2 z TI TO .ellipsis := e2 _ _ D.i1z.symm z1
  have ez : e ≠ z := fun x => by subst x; rw [z2] at hoe; cases hoe; simp at hce
  exact wpAny_setField_rec z2 (by simp) fun g3 _ e3 => hE g3 e (fun c o c1 c3 x => e3.extBut _ _ c1 (e2 _ _ c3 (e1.extBut _ _ c1 x))) ⟨oe, e3.extBut _ _ ez hoe, hce⟩
theorem nextA_item {Q : Option Value → Shared → Prop} (D : ZAp z TI TO i1 i2 l2 fp) (d : ∀ A : Around, A.handled = none → Draws prog w A i1 fp n Pv S1) (hA : A.handled = none) (hk : k < n) (st : S1 k s.heap)
    (hZ : IsZip s.heap z TI TO .none) (hI : IsPair s.heap TI (.ref i1) (.ref i2)) (hO : IsPair s.heap TO a b) (h2 : s.heap.IsListIter i2 l2 k2) (hl : s.heap.IsList l2 ys) (hy : ys[k2]? = some y)
    (hQ : ∀ x h' tk, Pv k x → IsZip h' z TI TO (rawInt s.heap.objs.size) → IsPair h' TO x y → S1 (k + 1) h' → h'.IsListIter i2 l2 (k2 + 1) → IsPair h' s.heap.objs.size x y →
      (∀ c o, c ≠ z → c ≠ TO → c ≠ i1 → c ≠ i2 → s.heap.get? c = some o → h'.get? c = some o) → Q (some (.ref s.heap.objs.size)) { s with heap := h', toks := tk }) :
    wpAny (model prog w) A (pyNext (.ref z)) Q E s := by
  have hT : s.TypeIs (.ref z) "zip" := ⟨_, hZ, rfl⟩
  unfold pyNext
  exact wpAny_bind (wpAny_attempt (wpAny_callSpecial?_slot (name := Str.ofString "__next__") hT F.slot_zip_next (wpAny_call_entry F.slot_zip_next hT F.entry_zip_next (zipA_item D d hA hk st hZ hI hO h2 hl hy fun x h' tk a1 a2 a3 a4 a5 a6 a7 => wpAny_pure (hQ x h' tk a1 a2 a3 a4 a5 a6 a7)) (F.args_zip_next_1 _))))
theorem nextA_end {Q : Option Value → Shared → Prop} (D : ZAp z TI TO i1 i2 l2 fp) (d : ∀ A : Around, A.handled = none → Draws prog w A i1 fp n Pv S1) (hA : A.handled = none) (st : S1 n s.heap)
    (hZ : IsZip s.heap z TI TO .none) (hI : IsPair s.heap TI (.ref i1) (.ref i2)) (hO : IsPair s.heap TO a b)
    (hQ : ∀ h', (∀ c o, c ≠ z → c ≠ i1 → s.heap.get? c = some o → h'.get? c = some o) → Q none { s with heap := h' }) : wpAny (model prog w) A (pyNext (.ref z)) Q E s := by
  have hT : s.TypeIs (.ref z) "zip" := ⟨_, hZ, rfl⟩
  unfold pyNext
  refine wpAny_bind (wpAny_attempt (wpAny_callSpecial?_slot (name := Str.ofString "__next__") hT F.slot_zip_next (wpAny_call_entry F.slot_zip_next hT F.entry_zip_next (zipA_end D d hA st hZ hI hO fun h' e hk he => ?_) (F.args_zip_next_1 _))))
  obtain ⟨o, ho, hc⟩ := he
  exact wpAny_bind (wpAny_isInstance (T := "StopIteration") (b := true) ⟨o, ho, hc⟩ isSubtype_stop (wpAny_pure (hQ _ hk)))
end
end L2
set_option Elab.async false
set_option linter.all false
set_option maxRecDepth 100000
/-! [.. for a, b in zip(t, l)]: the first a tuple or a text -/
namespace L2
open PySem PySem.Spec PyProof.Rows
theorem FpOk.neK {X : Cx} {pins : List (Addr × Obj)} {σ : St} {H : Hp} {s : Shared} {a b : Addr} {o : Obj} (I : Inv X pins σ H s) (f : FpOk X pins H b) (h : X.K.lookup a = some o) : a ≠ b := fun e => by
  subst e
  have hb : X.base.get? a = some o := I.mod.kin a o h
  rcases f.2.2.2.1 with z | z
  · exact I.ok.noex a o hb z
  · exact absurd (Nat.lt_of_lt_of_le (Heap.lt_size hb) (Nat.le_trans I.ok.bsz z)) (Nat.lt_irrefl _)
theorem FpOk.neT {X : Cx} {pins : List (Addr × Obj)} {σ : St} {H : Hp} {s : Shared} {a b : Addr} {xs : List V} (I : Inv X pins σ H s) (f : FpOk X pins H b) (h : SqT X.K H a xs) : a ≠ b := by
  rcases h with (h | ⟨o, h⟩) | ⟨o, its, n, hk, _⟩
  · exact ne_of_none h f.1
  · exact ne_of_none h f.1
  · exact FpOk.neK I f hk
theorem FpOk.neL {X : Cx} {pins : List (Addr × Obj)} {σ : St} {H : Hp} {s : Shared} {a b : Addr} {xs : List V} (I : Inv X pins σ H s) (f : FpOk X pins H b) (h : SqL X.K H a xs) : a ≠ b := by
  rcases h with (h | ⟨o, h⟩) | ⟨o, its, n, hk, _⟩
  · exact ne_of_none h f.1
  · exact ne_of_none h f.1
  · exact FpOk.neK I f hk
/-- zip(.., b): pairs, the first ones as F1 tells them -/
def ItzA (K : PySem.W.Frag) (F1 : Hp → List V → Prop) (b : Addr) : It :=
  ⟨fun i H => ∃ xs ys x y, F1 H xs ∧ SqL K H b ys ∧ xs[i]? = some x ∧ ys[i]? = some y,
   fun i H v H' => ∃ t x y, v = .ref t ∧ H t = none ∧ (∀ xs, F1 H xs → xs[i]? = some x) ∧ (∀ ys, SqL K H b ys → ys[i]? = some y) ∧ H' = upd H t (.tup [x, y]),
   fun i H => ∃ xs, F1 H xs ∧ xs.length = i⟩
/-- how the first one is drawn -/
structure Fst (P : Program) (w : World) (K : PySem.W.Frag) (F1 : Hp → List V → Prop) (n : Addr) (t1 : Nat → Heap → Prop) : Prop where
  obj : ∀ i h, t1 i h → ∃ o, h.get? n = some o ∧ ∀ v, o.data ≠ .cell v
  keep : ∀ i h h', t1 i h → (∀ o, h.get? n = some o → h'.get? n = some o) → t1 i h'
  inj : ∀ (X : Cx), X.K = K → ∀ pins σ H s xs ys, Inv X pins σ H s → F1 H xs → F1 H ys → xs = ys
  drw : ∀ (X : Cx), X.K = K → ∀ pins σ H s xs i, Inv X pins σ H s → F1 H xs → t1 i s.heap → FpOk X pins H (n + 4) → FpOk X pins H (n + 3) → FpOk X pins H (n + 1) → FpOk X pins H n →
    ∃ fp S1 Pv, (∀ A : Around, A.handled = none → Draws P w A n fp xs.length Pv S1) ∧ S1 i s.heap ∧ (∀ i h, S1 i h → t1 i h) ∧ (∀ i x v, xs[i]? = some x → Pv i v → RelV x v) ∧ n + 4 ∉ fp ∧ n + 3 ∉ fp ∧ n + 1 ∉ fp
theorem zap_of {b n : Nat} {fp : List Addr} (h4 : n + 4 ∉ fp) (h3 : n + 3 ∉ fp) (h1 : n + 1 ∉ fp) (l4 : b ≠ n + 4) (l3 : b ≠ n + 3) (l0 : b ≠ n) (l1 : b ≠ n + 1) : ZAp (n + 4) (n + 2) (n + 3) n (n + 1) b fp :=
  ⟨(by show (n + 2 : Nat) ≠ (n + 4 : Nat); omega), (by show (n + 3 : Nat) ≠ (n + 4 : Nat); omega), (by show (n : Nat) ≠ (n + 4 : Nat); omega), (by show (n + 1 : Nat) ≠ (n + 4 : Nat); omega), (by show (n + 2 : Nat) ≠ (n + 3 : Nat); omega), (by show (n + 2 : Nat) ≠ (n : Nat); omega), (by show (n + 2 : Nat) ≠ (n + 1 : Nat); omega), (by show (n + 3 : Nat) ≠ (n : Nat); omega), (by show (n + 3 : Nat) ≠ (n + 1 : Nat); omega), (by show (n : Nat) ≠ (n + 1 : Nat); omega), l4, l3, l0, l1, h4, h3, h1⟩
theorem zap_end {n : Nat} {fp : List Addr} (h4 : n + 4 ∉ fp) (h3 : n + 3 ∉ fp) (h1 : n + 1 ∉ fp) : ZAp (n + 4) (n + 2) (n + 3) n (n + 1) (n + 5) fp :=
  zap_of h4 h3 h1 (by omega) (by omega) (by omega) (by omega)
theorem turn_zipA {P : Program} {w : World} {K : PySem.W.Frag} {elts : List Expr} {x1 : Nat} {pos : Pos} {F1 : Hp → List V → Prop} {t1 : Nat → Heap → Prop} (b n : Addr) (f1 : Fst P w K F1 n t1) :
    Turn P w K (.Tuple elts x1 pos) (ItzA K F1 b) [n + 4, n + 2, n + 3, n, n + 1] (n + 4) (fun i h => IsZip h (n + 4) (n + 2) (n + 3) .none ∧ IsPair h (n + 2) (.ref n) (.ref (n + 1)) ∧ (∃ u v, IsPair h (n + 3) u v) ∧ t1 i h ∧ h.IsListIter (n + 1) b i) where
  mem := by simp
  obj := fun i h st c hc => by
    obtain ⟨hz, hTI, ⟨u, v, hTO⟩, h1, ⟨o2, e2, c2, d2⟩⟩ := st
    simp only [List.mem_cons, List.not_mem_nil, or_false] at hc
    rcases hc with rfl | rfl | rfl | rfl | rfl
    · exact ⟨_, hz, fun v z => by cases z⟩
    · exact ⟨_, hTI, fun v z => by cases z⟩
    · exact ⟨_, hTO, fun v z => by cases z⟩
    · exact f1.obj _ _ h1
    · exact ⟨o2, e2, fun v z => by rw [d2] at z; cases z⟩
  keep := fun i h h' st k => by
    obtain ⟨hz, hTI, ⟨u, v, hTO⟩, h1, h2⟩ := st
    exact ⟨k _ (by simp) _ hz, k _ (by simp) _ hTI, ⟨u, v, k _ (by simp) _ hTO⟩, f1.keep _ _ _ h1 fun o q => k _ (by simp) o q, h2.at fun o q => k _ (by simp) o q⟩
  item := by
    intro X hP hw hK hc i pins s σ H E I hf st hg
    subst hP hw hK
    obtain ⟨xs, ys, x, y, hq, hq', hx, hy⟩ := hg
    obtain ⟨its', rv', p', hz0'⟩ := I.list hq'
    obtain ⟨u', hu', ru'⟩ := rv'.get hy
    obtain ⟨hz, hTI, ⟨v1, v2, hTO⟩, h1, h2⟩ := st
    have q4 := hf (n + 4) (by simp)
    have q3 := hf (n + 3) (by simp)
    have q1 := hf (n + 1) (by simp)
    have q0 := hf n (by simp)
    obtain ⟨fp, S1, Pv, dr, s1, st1, rel, a4, a3, a1⟩ := f1.drw X rfl pins σ H s xs i I hq h1 q4 q3 q1 q0
    have D := zap_of a4 a3 a1 (FpOk.neL I q4 hq') (FpOk.neL I q3 hq') (FpOk.neL I q0 hq') (FpOk.neL I q1 hq')
    have nz : n + 4 < s.heap.objs.size := Heap.lt_size hz
    refine nextA_item D dr (I.ok.hd hc) (List.getElem?_eq_some_iff.mp hx).1 s1 hz hTI hTO h2 p'.isList (y := u') (by simpa using hu') fun u h' tk pu z' to' l1' l2' tup keep => ?_
    have ru : RelV x u := rel i x u hx pu
    refine ⟨_, rfl, wpAny_letOwnedTupleGo_zip (s := { s with heap := h', toks := tk }) z' fun h'' zn sb => ?_⟩
    have tup2 : h''.get? s.heap.objs.size = some { cls := .type "tuple", data := .seq #[u, u'] } := (sb.2 _ (Nat.ne_of_gt nz)).trans tup
    have I1 : Inv X pins σ H { s with heap := h'', toks := tk } := I.turnedL hf fun c o nc q => by
      simp only [List.mem_cons, List.not_mem_nil, or_false, not_or] at nc
      exact (sb.2 c nc.1).trans (keep c o nc.1 nc.2.2.1 nc.2.2.2.1 nc.2.2.2.2 q)
    have ft : FpOk X pins H s.heap.objs.size := I.fpOk (Nat.le_refl _) (I.hok.fresh (Nat.le_refl _))
    have I2 := I1.trackT (ys := [x, y]) (its := [u, u']) ft ⟨_, tup2, rfl, _, rfl⟩ (.cons ru (.cons ru' .nil)) (Nat.le_of_lt (small1000 (by show 2 ≤ 1000; decide)))
    refine ⟨.ref s.heap.objs.size, _, I2, rfl, ⟨_, x, y, rfl, ft.1, (fun zs hz => by rw [f1.inj X rfl _ _ _ _ _ _ I hz hq]; exact hx), (fun zs hz => by rw [I.list_inj hz hq']; exact hy), rfl⟩, ⟨zn, ?_, ⟨u, u', ?_⟩, ?_, ?_⟩, fun c hc => ?_⟩
    · exact (sb.2 _ D.TIz).trans (keep _ _ D.TIz D.TITO D.TIi1 D.TIi2 hTI)
    · exact (sb.2 _ D.TOz).trans to'
    · exact f1.keep _ _ _ (st1 _ _ l1') fun o q => (sb.2 _ D.i1z).trans q
    · exact l2'.at fun o q => (sb.2 _ D.i2z).trans q
    · have hcn := (hf c hc).1
      have hle : c ≤ n + 4 := by
        simp only [List.mem_cons, List.not_mem_nil, or_false] at hc
        rcases hc with rfl | rfl | rfl | rfl | rfl
        · exact Nat.le_refl _
        · exact Nat.add_le_add_left (by decide) n
        · exact Nat.add_le_add_left (by decide) n
        · exact Nat.le_add_right _ _
        · exact Nat.add_le_add_left (by decide) n
      rw [upd_ne (Nat.ne_of_lt (Nat.lt_of_le_of_lt hle nz))]
      exact hcn
  done := by
    intro X hP hw hK hc i pins s σ H E I hf st hg
    subst hP hw hK
    obtain ⟨xs, hq, hx⟩ := hg
    obtain ⟨hz, hTI, ⟨v1, v2, hTO⟩, h1, h2⟩ := st
    have q4 := hf (n + 4) (by simp)
    have q3 := hf (n + 3) (by simp)
    have q1 := hf (n + 1) (by simp)
    have q0 := hf n (by simp)
    obtain ⟨fp, S1, Pv, dr, s1, st1, rel, a4, a3, a1⟩ := f1.drw X rfl pins σ H s xs i I hq h1 q4 q3 q1 q0
    have D := zap_end a4 a3 a1
    refine nextA_end D dr (I.ok.hd hc) (by rw [hx]; exact s1) hz hTI hTO fun h' keep => ⟨rfl, I.turnedL (t' := s.toks) hf fun c o nc q => ?_⟩
    simp only [List.mem_cons, List.not_mem_nil, or_false, not_or] at nc
    exact keep c o nc.1 nc.2.2.2.1 q
  self := fun _ _ _ _ _ st h => wpAny_pyIter_zip st.1 h
/-! ### a tuple first -/
theorem n_ne {n : Nat} (k : Nat) : ¬ n + (k + 1) = n := by omega
theorem fst_tup {P : Program} {w : World} {K : PySem.W.Frag} (a n : Addr) : Fst P w K (fun H xs => SqT K H a xs) n (fun i h => IsTupIter h n a i) where
  obj := fun i h st => by
    obtain ⟨o, e, c, d⟩ := st
    exact ⟨o, e, fun v z => by rw [d] at z; cases z⟩
  keep := fun i h h' st k => by
    obtain ⟨o, e, r⟩ := st
    exact ⟨o, k o e, r⟩
  inj := fun X hK pins σ H s xs ys I h h' => by subst hK; exact I.tuple_inj h h'
  drw := fun X hK pins σ H s xs i I h st q4 q3 q1 q0 => by
    subst hK
    obtain ⟨its, r, p, hz⟩ := I.tuple h
    refine ⟨[n, a], fun i h => IsTupIter h n a i ∧ IsTup h a its.toArray, fun i v => its.toArray[i]? = some v, fun A hA => ?_, ⟨st, p⟩, fun i h s => s.1, fun i x v hx hv => ?_, ?_, ?_, ?_⟩
    · have := tupD (prog := P) (w := w) hA n a (FpOk.neT I q0 h) its.toArray
      rw [List.size_toArray, ← r.length] at this
      exact this
    · obtain ⟨u, hu, ru⟩ := r.get hx
      have : its[i]? = some v := by simpa using hv
      rw [hu] at this
      cases this
      exact ru
    · intro hm
      simp only [List.mem_cons, List.not_mem_nil, or_false] at hm
      rcases hm with z | z
      · exact absurd z (n_ne 3)
      · exact FpOk.neT I q4 h z.symm
    · intro hm
      simp only [List.mem_cons, List.not_mem_nil, or_false] at hm
      rcases hm with z | z
      · exact absurd z (n_ne 2)
      · exact FpOk.neT I q3 h z.symm
    · intro hm
      simp only [List.mem_cons, List.not_mem_nil, or_false] at hm
      rcases hm with z | z
      · exact absurd z (n_ne 0)
      · exact FpOk.neT I q1 h z.symm
def sgV (x : Str) : List V := x.cps.toList.map fun c => .str ⟨#[c]⟩
theorem sgV_len (x : Str) : (sgV x).length = x.cps.size := by unfold sgV; rw [List.length_map, Array.length_toList]
theorem fst_str {P : Program} {w : World} {K : PySem.W.Frag} (x : Str) (t : Tok) (n : Addr) : Fst P w K (fun _ xs => xs = sgV x) n (fun i h => h.IsStrIter n "str_ascii_iterator" x t i) where
  obj := fun i h st => by
    obtain ⟨o, e, c, d⟩ := st
    exact ⟨o, e, fun v z => by rw [d] at z; cases z⟩
  keep := fun i h h' st k => by
    obtain ⟨o, e, r⟩ := st
    exact ⟨o, k o e, r⟩
  inj := fun X hK pins σ H s xs ys I h h' => h.trans h'.symm
  drw := fun X hK pins σ H s xs i I h st q4 q3 q1 q0 => by
    subst h
    refine ⟨[n], fun i h => h.IsStrIter n "str_ascii_iterator" x t i, fun i v => ∃ c u, x.cps[i]? = some c ∧ v = .str ⟨#[c]⟩ u, fun A hA => ?_, st, fun i h s => s, fun i y v hx hv => ?_, ?_, ?_, ?_⟩
    · rw [sgV_len]
      exact Draws.strAscii hA n x t
    · obtain ⟨c, u, hc, rfl⟩ := hv
      unfold sgV at hx
      rw [List.getElem?_map, Array.getElem?_toList, hc] at hx
      cases hx
      exact ⟨u, rfl⟩
    · simp only [List.mem_cons, List.not_mem_nil, or_false]
      exact n_ne 3
    · simp only [List.mem_cons, List.not_mem_nil, or_false]
      exact n_ne 2
    · simp only [List.mem_cons, List.not_mem_nil, or_false]
      exact n_ne 0
/-! ### the call -/
abbrev zA1 (h : Heap) (o1 : Obj) : Heap := h.push o1
abbrev zA2 (h : Heap) (o1 : Obj) (l2 : Addr) : Heap := (zA1 h o1).push { cls := .type "list_iterator", data := .fields #[.ref l2, .int 0 0] }
abbrev zA3 (h : Heap) (o1 : Obj) (l2 : Addr) : Heap := (zA2 h o1 l2).push { cls := .type "tuple", data := .seq #[.ref h.objs.size, .ref (zA1 h o1).objs.size] }
abbrev zA4 (h : Heap) (o1 : Obj) (l2 : Addr) : Heap := (zA3 h o1 l2).push { cls := .type "tuple", data := .seq #[.none, .none] }
abbrev zA5 (h : Heap) (o1 : Obj) (l2 : Addr) : Heap := (zA4 h o1 l2).push { cls := .type "zip", data := .fields #[.none, .bool false, .bool false, .ref (zA2 h o1 l2).objs.size, .ref (zA3 h o1 l2).objs.size] }
theorem meets_zT (t l2 : Addr) (xs ys : Array Value) : Meets (Builtin.«zip.__new__» ⟨[.type "zip", .ref t, .ref l2], []⟩) (fun _ R s => IsTup s.heap t xs ∧ s.heap.IsList l2 ys ∧
      R (.ok (.ret (.ref (zA4 s.heap { cls := .type "tuple_iterator", data := .fields #[.ref t, .int 0 0] } l2).objs.size))) { s with heap := zA5 s.heap { cls := .type "tuple_iterator", data := .fields #[.ref t, .int 0 0] } l2 }) :=
  .of_wp fun prog w A R s h => by
    obtain ⟨hp, g, d, tk, os⟩ := s; obtain ⟨b1, b2, h⟩ := h
    have hsub := sub_zip
    have B1 : IsTup (Shared.heap ⟨hp, g, d, tk, os⟩) t xs := b1
    have B2 : Heap.IsList (Shared.heap ⟨hp.push { cls := .type "tuple_iterator", data := .fields #[.ref t, .int 0 0] }, g, d, tk, os⟩) l2 ys := Heap.IsList.push b2 _
    wp_walk using iter_tuple B1, wpAny_pyIter_list B2
    exact ⟨_, rfl, h⟩
set_option maxHeartbeats 4000000 in
theorem meets_zS (x : Str) (t : Tok) (l2 : Addr) (ys : Array Value) (ha : x.cps.all (· < 128) = true) : Meets (Builtin.«zip.__new__» ⟨[.type "zip", .str x t, .ref l2], []⟩) (fun _ R s => s.heap.IsList l2 ys ∧
      R (.ok (.ret (.ref (zA4 s.heap { cls := .type "str_ascii_iterator", data := .fields #[.str x t, .int 0 0] } l2).objs.size))) { s with heap := zA5 s.heap { cls := .type "str_ascii_iterator", data := .fields #[.str x t, .int 0 0] } l2 }) :=
  .of_wp fun prog w A R s h => by
    obtain ⟨hp, g, d, tk, os⟩ := s; obtain ⟨b2, h⟩ := h
    have hsub := sub_zip
    have B2 : Heap.IsList (Shared.heap ⟨hp.push { cls := .type "str_ascii_iterator", data := .fields #[.str x t, .int 0 0] }, g, d, tk, os⟩) l2 ys := Heap.IsList.push b2 _
    wp_walk using wpAny_pyIter_ascii ha, wpAny_pyIter_list B2
    exact ⟨_, rfl, h⟩
theorem zA_laid (h : Heap) (o1 : Obj) (l2 : Addr) (ho : o1.isFreed = false) : (zA4 h o1 l2).objs.size = h.objs.size + 4 ∧ IsZip (zA5 h o1 l2) (h.objs.size + 4) (h.objs.size + 2) (h.objs.size + 3) .none ∧ IsPair (zA5 h o1 l2) (h.objs.size + 2) (.ref h.objs.size) (.ref (h.objs.size + 1)) ∧
    IsPair (zA5 h o1 l2) (h.objs.size + 3) .none .none ∧ (zA5 h o1 l2).get? h.objs.size = some o1 ∧ (zA5 h o1 l2).IsListIter (h.objs.size + 1) l2 0 ∧ ∀ c o, h.get? c = some o → (zA5 h o1 l2).get? c = some o := by
  have z1 : (zA1 h o1).objs.size = h.objs.size + 1 := Heap.size_push ..
  have z2 : (zA2 h o1 l2).objs.size = h.objs.size + 2 := by rw [Heap.size_push, z1]
  have z3 : (zA3 h o1 l2).objs.size = h.objs.size + 3 := by rw [Heap.size_push, z2]
  have z4 : (zA4 h o1 l2).objs.size = h.objs.size + 4 := by rw [Heap.size_push, z3]
  have g5 : (zA5 h o1 l2).get? (zA4 h o1 l2).objs.size = some _ := Heap.get?_push_size _ rfl
  have g4 : (zA5 h o1 l2).get? (zA3 h o1 l2).objs.size = some _ := Heap.get?_push_of_some _ (Heap.get?_push_size _ rfl)
  have g3 : (zA5 h o1 l2).get? (zA2 h o1 l2).objs.size = some _ := Heap.get?_push_of_some _ (Heap.get?_push_of_some _ (Heap.get?_push_size _ rfl))
  have g2 : (zA5 h o1 l2).get? (zA1 h o1).objs.size = some _ := Heap.get?_push_of_some _ (Heap.get?_push_of_some _ (Heap.get?_push_of_some _ (Heap.get?_push_size _ rfl)))
  have g1 : (zA5 h o1 l2).get? h.objs.size = some o1 := Heap.get?_push_of_some _ (Heap.get?_push_of_some _ (Heap.get?_push_of_some _ (Heap.get?_push_of_some _ (Heap.get?_push_size _ ho))))
  rw [z2, z3, z4] at g5
  rw [z1, z2] at g3
  rw [z3] at g4
  rw [z1] at g2
  exact ⟨z4, g5, g3, g4, g1, ⟨_, g2, rfl, rfl⟩, fun c o x => Heap.get?_push_of_some _ (Heap.get?_push_of_some _ (Heap.get?_push_of_some _ (Heap.get?_push_of_some _ (Heap.get?_push_of_some _ x))))⟩
def iZipT (K : PySem.W.Frag) (ta : TA) : TI := fun σ H R => ta σ H fun vs H1 => ∃ a b xs ys, vs = [.ref a, .ref b] ∧ SqT K H1 a xs ∧ SqL K H1 b ys ∧ R (ItzA K (fun H xs => SqT K H a xs) b) H1
def iZipS (K : PySem.W.Frag) (ta : TA) : TI := fun σ H R => ta σ H fun vs H1 => ∃ x b ys, vs = [.str x, .ref b] ∧ x.cps.all (· < 128) = true ∧ SqL K H1 b ys ∧ R (ItzA K (fun _ xs => xs = sgV x) b) H1
theorem fp5 {X : Cx} {pins : List (Addr × Obj)} {σ : St} {H : Hp} {s : Shared} (I : Inv X pins σ H s) : ∀ c ∈ [s.heap.objs.size + 4, s.heap.objs.size + 2, s.heap.objs.size + 3, s.heap.objs.size, s.heap.objs.size + 1], FpOk X pins H c := fun c hc => by
  have hle : s.heap.objs.size ≤ c := by
    simp only [List.mem_cons, List.not_mem_nil, or_false] at hc
    rcases hc with rfl | rfl | rfl | rfl | rfl
    · exact Nat.le_add_right _ _
    · exact Nat.le_add_right _ _
    · exact Nat.le_add_right _ _
    · exact Nat.le_refl _
    · exact Nat.le_add_right _ _
  exact I.fpOk hle (I.hok.fresh hle)
section
variable {X : Cx}
theorem pi_zipT (K : PySem.W.Frag) {elts : List Expr} {x1 : Nat} {tpos : Pos} {a b : Expr} {ta : TA} {p pos : Pos} (hg : Gl X "zip") (hm : X.mg "zip" = none) (ha : PA X [a, b] ta) (hs : starEach [a, b] X.env = (false, eval a X.env) :: starEach [b] X.env := by rfl) (hpl : (backTo pos (starEach [b] X.env)).any (·.1) = false := by rfl) (ek : X.K = K := by rfl) :
    PI X (.Tuple elts x1 tpos) (.Call (.Name "zip" p) [a, b] [] pos) (iZipT K ta) := by
  subst ek
  intro pins s σ H R I h
  refine Call_ (ld_blt I hg hm boot_zip (PyProof.Rows.callWith_type1 (thn (ha pos pins s σ H _ I h) fun us s1 ⟨vs, H1, I1, r1, q1⟩ => ?_) hs hpl))
  obtain ⟨a, b, xs, ys, e, hq, hq', q⟩ := q1
  subst e
  obtain ⟨u, u', rfl, rx, rx'⟩ := vals2 r1
  cases rx
  cases rx'
  obtain ⟨its, rv, pl, hz⟩ := I1.tuple hq
  obtain ⟨its', rv', pl', hz'⟩ := I1.list hq'
  refine callType_new F.called_zip (by decide) (F.typeCall_zip_2 _ _) (F.newCall_zip_2 _ _) (fun obj => F.args_object_init_3 obj _ _) F.entry_zip_new (meets_zT a b _ _) ⟨pl, pl'.isList, ?_⟩
  obtain ⟨z4, zn, ti, to, o1, li', keep⟩ := zA_laid s1.heap { cls := .type "tuple_iterator", data := .fields #[.ref a, .int 0 0] } b rfl
  show _ ∧ _
  rw [z4]
  refine ⟨⟨_, zn, rfl⟩, ?_⟩
  refine wpAny_pyIter_zip (s := { s1 with heap := zA5 s1.heap _ b }) zn ?_
  exact ⟨s1.heap.objs.size + 4, _, _, _, H1, rfl, I1.kept (t' := s1.toks) keep, turn_zipA b s1.heap.objs.size (fst_tup a _), ⟨zn, ti, ⟨_, _, to⟩, ⟨_, o1, rfl, rfl⟩, li'⟩, fp5 I1, q⟩
theorem pi_zipS (K : PySem.W.Frag) {elts : List Expr} {x1 : Nat} {tpos : Pos} {a b : Expr} {ta : TA} {p pos : Pos} (hg : Gl X "zip") (hm : X.mg "zip" = none) (ha : PA X [a, b] ta) (hs : starEach [a, b] X.env = (false, eval a X.env) :: starEach [b] X.env := by rfl) (hpl : (backTo pos (starEach [b] X.env)).any (·.1) = false := by rfl) (ek : X.K = K := by rfl) :
    PI X (.Tuple elts x1 tpos) (.Call (.Name "zip" p) [a, b] [] pos) (iZipS K ta) := by
  subst ek
  intro pins s σ H R I h
  refine Call_ (ld_blt I hg hm boot_zip (PyProof.Rows.callWith_type1 (thn (ha pos pins s σ H _ I h) fun us s1 ⟨vs, H1, I1, r1, q1⟩ => ?_) hs hpl))
  obtain ⟨x, b, ys, e, hx, hq', q⟩ := q1
  subst e
  obtain ⟨u, u', rfl, rx, rx'⟩ := vals2 r1
  obtain ⟨t, rfl⟩ := rx
  cases rx'
  obtain ⟨its', rv', pl', hz'⟩ := I1.list hq'
  refine callType_new F.called_zip (by decide) (F.typeCall_zip_2 _ _) (F.newCall_zip_2 _ _) (fun obj => F.args_object_init_3 obj _ _) F.entry_zip_new (meets_zS x t b _ hx) ⟨pl'.isList, ?_⟩
  obtain ⟨z4, zn, ti, to, o1, li', keep⟩ := zA_laid s1.heap { cls := .type "str_ascii_iterator", data := .fields #[.str x t, .int 0 0] } b rfl
  show _ ∧ _
  rw [z4]
  refine ⟨⟨_, zn, rfl⟩, ?_⟩
  refine wpAny_pyIter_zip (s := { s1 with heap := zA5 s1.heap _ b }) zn ?_
  exact ⟨s1.heap.objs.size + 4, _, _, _, H1, rfl, I1.kept (t' := s1.toks) keep, turn_zipA b s1.heap.objs.size (fst_str x t _), ⟨zn, ti, ⟨_, _, to⟩, ⟨_, o1, rfl, rfl⟩, li'⟩, fp5 I1, q⟩
end
/-- [.. for a, b in zip(.., l)] -/
theorem lcN_zipA {K : PySem.W.Frag} {F1 : Hp → List V → Prop} {b : Addr} {xs ys : List V} {tc : TT} {te : TE} {g : TG} {k : Nat} {σ : St} {D : Addr} {Fin : Hp → Prop} {H : Hp} (hxy : xs.length = ys.length) (Pv : Nat → List V → Hp → Prop) (h0 : Pv 0 [] (upd H D (.lst [])))
    (hD : ∀ i zs H, Pv i zs H → H D = some (.lst zs) ∧ F1 H xs ∧ SqL K H b ys) (hend : ∀ zs H, Pv xs.length zs H → Fin H)
    (hgo : ∀ i x y t zs H (u : St), u.length = k → i < xs.length → xs[i]? = some x → ys[i]? = some y → Pv i zs H → H t = none → g (.ref t) (u ++ σ) (upd H t (.tup [x, y])) fun σ2 H2 => (∃ u2 : St, u2.length = k ∧ σ2 = u2 ++ σ) ∧ tc σ2 H2 fun b H3 => if b = true then te σ2 H3 (LcNx xs.length i D zs Pv) else LcNo xs.length i zs Pv H3) : lcGoN k g tc te σ (ItzA K F1 b) D Fin H := by
  refine lcN_go Pv h0 (fun i zs H p => (hD i zs H p).1) (fun zs H p => ⟨⟨xs, (hD _ _ _ p).2.1, rfl⟩, hend zs H p⟩) fun i zs H hi p => ?_
  have hi' : i < ys.length := by omega
  refine ⟨⟨xs, ys, xs[i], ys[i], (hD _ _ _ p).2.1, (hD _ _ _ p).2.2, List.getElem?_eq_getElem hi, List.getElem?_eq_getElem hi'⟩, fun x H' u hu y => ?_⟩
  obtain ⟨t, v, v', rfl, ht, hv, hv', rfl⟩ := y
  exact hgo i v v' t zs _ u hu hi (hv xs (hD _ _ _ p).2.1) (hv' ys (hD _ _ _ p).2.2) p ht
end L2
set_option Elab.async false
set_option linter.all false
set_option maxRecDepth 100000
/-! repr of None or of data -/
namespace L2
open PySem PySem.Spec PyProof.Rows
inductive cReprA (xs : List V) (H : Hp) (Q : VK) : Prop
  | non (e : xs = [.non]) (q : Q (.str "None") H) : cReprA xs H Q
  | mk (a : Addr) (d : PyData) (e : xs = [.ref a]) (h : Dat H d (.ref a)) (f : Fit d) (q : Q (.str d.shown) H) : cReprA xs H Q
section
variable {X : Cx}
theorem call_reprA {k : Nat} (hr : Room k X.A) : CallR X (.builtin "repr") cReprA := by
  intro pins s σ H xs us Q I r h
  cases h with
  | non e q =>
    subst e
    obtain ⟨u, rfl, ru⟩ := vals1 r
    cases ru
    exact PySem.P.repr_of_none ⟨.str "None", H, I.tok _, ⟨_, rfl⟩, q⟩
  | mk a d e h f q => exact call_repr hr pins s σ H xs us Q I r (.mk a d e h f q)
end
end L2
set_option Elab.async false
set_option linter.all false
set_option maxRecDepth 100000
/-! words and numbers of any text -/
namespace L2
open PySem PySem.Spec PyProof.Rows
section
variable {X : Cx} {x : Str} {pos : Pos}
theorem pe_gs {z : Str} (h : ∃ t, X.mg x = some (.str z t)) (hg : Gl X x := by rfl) (hd : (x == ("__debug__" : Str)) = false := by decide) : PE X (.Name x pos) (tC (.str z)) := by
  obtain ⟨t, h⟩ := h
  exact pe_glob hg h ⟨t, rfl⟩ hd
end
theorem Same.but_ne {H H' : Hp} {D : Addr} {o : HO} (s : Same H H') (h : H D = none) : Same H (L2.upd H' D o) := fun b u e => by
  rw [L2.upd_ne (ne_of_none e h)]
  exact s _ _ e
theorem But.upd {p : Addr} {H : Hp} {o : HO} : But p H (L2.upd H p o) := fun c u h n => by rw [L2.upd_ne n]; exact h
theorem But.same {p : Addr} {H H1 H2 : Hp} (a : But p H H1) (b : Same H1 H2) : But p H H2 := fun c o h n => b c o (a c o h n)
theorem LcNx.mk6 {n i : Nat} {D : Addr} {ys : List V} {Pv : Nat → List V → Hp → Prop} {y : V} {H3 : Hp} (hi : i < n) (hn : n ≤ 100000) (hl : ys.length ≤ i) (h : H3 D = some (.lst ys)) (p : Pv (i + 1) (ys ++ [y]) (upd H3 D (.lst (ys ++ [y])))) : LcNx n i D ys Pv y H3 :=
  ⟨h, by rw [sizeLine_eq]; omega, n - (i + 1), by omega, rfl, hi, p⟩
end L2
namespace Ent
open PySem Builtin Builtin.Str StrLaws PyProof.Rows
theorem line6 {n : Nat} (h : n ≤ 100000) : n ≤ sizeLine := by rw [sizeLine_eq]; omega
theorem rp_fgs (z : Str) : (Txt.removeprefix z "-").cps.toList = fgs z.cps.toList := by
  rw [removeprefix_eq]
  have e1 : (("-" : String) : Str).length = 1 := by decide
  have hsub : Builtin.Str.subAt z "-" 0 = decide (z.cps.toList.head? = some 45) := by
    unfold Builtin.Str.subAt
    rw [Bool.eq_iff_iff, beq_iff_eq, decide_eq_true_iff]
    have e : (("-" : String) : Str).cps = #[45] := by decide
    rw [e, e1]
    constructor
    · intro h
      have h' := congrArg Array.toList h
      rw [Array.toList_extract] at h'
      cases hd : z.cps.toList with
      | nil => rw [hd] at h'; simp at h'
      | cons a r =>
        rw [hd] at h'
        have : a = 45 := by simpa using h'
        rw [this]; rfl
    · intro h0
      obtain ⟨r, h⟩ : ∃ r, z.cps.toList = 45 :: r := by
        cases hd : z.cps.toList with
        | nil => rw [hd] at h0; cases h0
        | cons a r => rw [hd] at h0; exact ⟨r, by rw [Option.some.inj h0]⟩
      apply Array.toList_inj.mp
      rw [Array.toList_extract, h]
      simp
  rw [hsub, e1]
  have hzl : z.length = z.cps.toList.length := by simp [Str.length]
  by_cases h : z.cps.toList.head? = some 45
  · obtain ⟨r, hr⟩ : ∃ r, z.cps.toList = 45 :: r := by
      cases hd : z.cps.toList with
      | nil => rw [hd] at h; cases h
      | cons a r => rw [hd] at h; exact ⟨r, by rw [Option.some.inj h]⟩
    rw [if_pos (by rw [decide_eq_true h, Bool.and_true, hzl, hr]; simp)]
    show (List.take (z.length - 1) (List.drop 1 z.cps.toList)) = _
    rw [hzl, hr]
    show List.take ((45 :: r).length - 1) r = r
    exact List.take_of_length_le (by simp)
  · rw [if_neg (by rw [decide_eq_false h, Bool.and_false]; exact Bool.false_ne_true)]
    unfold fgs
    split
    · next r heq => rw [heq] at h; exact absurd rfl h
    · rfl
/-- figures alone -/
theorem dig_iff (f : Str) : (Txt.isascii f && Txt.isdigit f) = true ↔ (f.cps.toList ≠ [] ∧ ∀ c ∈ f.cps.toList, 48 ≤ c ∧ c ≤ 57) := by
  have z1 : ∀ c, c < 128 → (Unicode.isDigit c = true ↔ (48 ≤ c ∧ c ≤ 57)) := by decide +kernel
  unfold Txt.isascii Txt.isdigit
  rw [Bool.and_eq_true, Bool.and_eq_true, decide_eq_true_eq, ← Array.all_toList, ← Array.all_toList, List.all_eq_true, List.all_eq_true]
  have hl : f.length = f.cps.toList.length := by simp [Str.length]
  rw [hl]
  constructor
  · rintro ⟨h1, h2, h3⟩
    exact ⟨List.length_pos_iff.mp h2, fun c hc => (z1 c (of_decide_eq_true (h1 c hc))).mp (h3 c hc)⟩
  · rintro ⟨h1, h2⟩
    exact ⟨fun c hc => decide_eq_true (by have := h2 c hc; omega), List.length_pos_iff.mpr h1, fun c hc => (z1 c (by have := h2 c hc; omega)).mpr (h2 c hc)⟩
end Ent
namespace Pr
open PySem L2 PyProof.Rows Ent
theorem one_line : 1 ≤ sizeLine := by decide
theorem kit_str1 (K : PySem.W.Frag) : PySem.W.kitOne K (.type "str") (.type "str") = some true := by rfl
theorem iteC {b : Bool} {A B : Prop} (hb : b = true) (h : A) : if b = true then A else B := by rw [if_pos hb]; exact h
theorem iteD {b : Bool} {A B : Prop} (hb : b = false) (h : B) : if b = true then A else B := by rw [if_neg (by rw [hb]; exact Bool.false_ne_true)]; exact h
theorem rp_len (w : Str) : (Txt.removeprefix w "-").length ≤ w.length := by
  have e : (Txt.removeprefix w "-").length = (fgs w.cps.toList).length := by rw [← rp_fgs]; simp [Str.length]
  have e2 : w.length = w.cps.toList.length := by simp [Str.length]
  rw [e, e2]
  unfold fgs
  split
  · next r heq => rw [heq]; simp
  · exact Nat.le_refl _

def Asc (z : Str) : Prop := ∀ c ∈ z.cps.toList, c < 128
theorem Asc.all {z : Str} (h : Asc z) : z.cps.all (· < 128) = true := by
  rw [← Array.all_toList, List.all_eq_true]
  exact fun c hc => decide_eq_true (h c hc)
def okW (S : Str) (m : Nat) (k : Str) : Bool := decide (1 ≤ k.length) && decide (k.length ≤ m) && k.cps.toList.all (fun c => decide (c ∈ S.cps.toList))
abbrev LT : Str := (("abcdefghijklmnopqrstuvwxyz" : String) : Str)
abbrev KS : Str := (("abcdefghijklmnopqrstuvwxyz0123456789" : String) : Str)
def nV : Option Int → V
  | some i => .int i
  | none => .non
section
variable {P : Program} {w : World} {K : PySem.W.Frag} {mg : Str → Option Value} {base : Heap} {C : Addr}
inductive sp_is_word (vs : List V) (H : Hp) (Q : VK) (E : XK) : Prop
  | mk (k S : Str) (m : Nat) (e : vs = [.str k, .str S, .int (m : Int)]) (hl : k.length ≤ 100000) (ha : Asc k) (q : ∀ H', Same H H' → Q (.bl (okW S m k)) H') : sp_is_word vs H Q E
theorem sc_is_word : FnScope ["value", "signs", "most"] ["value", "signs", "most"] (defScope s_is_word) := ⟨rfl, rfl, rfl, by decide +kernel, rfl, by decide +kernel, by decide +kernel⟩
set_option maxHeartbeats 2000000 in
theorem is_word (T : Txt K mg C) : Can P w K mg base 1 "is_word" ["value", "signs", "most"] sp_is_word := by
  refine fn_can T.f_is_word sc_is_word (fun vs H Q E h => ?_) (fun f cdv A outer s H vs Q E hr h => ?_)
  · obtain ⟨k, S, m, rfl, _⟩ := h
    rfl
  · obtain ⟨k, S, m, rfl, hl, ha, q⟩ := h
    refine ⟨_, pss_one (ps_ret (pe_and (pe_b (call_isiW K) T.b_isinstance boot_isinstance (pa2 (pv 0) (pe_ty rfl T.b_str boot_str))) (pe_and (pe_chain op_le op_le pe_int (pe_b call_len_str T.b_len boot_len (pa1 (pv 0))) (pv 2)) (pe_one (pe_b (call_all_seqK K rfl) T.b_all boot_all (pa1 (pe_lc rfl (lcS sc_is_word) (pi_str (pv 0)) (fun _ _ _ _ => pts_nil) (fun _ _ _ _ => pe_cmpR op_in_str (pv 0) (pv 2) rfl)))))))), ?_⟩
    refine ⟨_, rfl, .mk _ _ _ _ rfl (.str k) (kit_str1 _) ⟨_, rfl, iteT ?_⟩⟩
    refine ⟨_, rfl, _, rfl, line6 hl, _, _, rfl, rfl, _, rfl, ?_⟩
    have q' : ∀ H', Same H H' → ∀ b, okW S m k = b → Q (.bl b) H' := fun H' s b e => e ▸ q H' s
    by_cases h1 : (1 : Int) ≤ (k.length : Int)
    · rw [decide_eq_true h1]
      refine iteT ⟨_, rfl, _, _, rfl, rfl, _, rfl, ?_⟩
      by_cases h2 : (k.length : Int) ≤ (m : Int)
      · rw [decide_eq_true h2]
        refine iteT ⟨_, rfl, k, rfl, ha.all, fun D hD => ?_⟩
        refine lc_go (n := k.cps.size) (fun i ys H1 => H1 D = some (.lst ys) ∧ Same H H1 ∧ ys = ((k.cps.toList.take i).map fun c => decide (c ∈ S.cps.toList)).map V.bl) ⟨upd_same, Same.upd hD, rfl⟩ (fun i ys H1 h => h.1) (fun ys H1 h => ⟨Nat.le_refl _, ?_⟩) fun i ys H1 hi h => ⟨hi, fun x H' y => ?_⟩
        · obtain ⟨h1', h2', rfl⟩ := h
          refine ⟨D, _, rfl, .of h1', ?_⟩
          refine q' _ h2' _ ?_
          unfold okW
          rw [decide_eq_true (by omega), decide_eq_true (by omega), Bool.true_and, List.take_of_length_le (by rw [Array.length_toList]; exact Nat.le_refl _), List.all_map]
          rfl
        · obtain ⟨h1', h2', rfl⟩ := h
          obtain ⟨e1, c, hc, e2⟩ := y
          subst e1 e2
          refine yesI ⟨_, rfl, _, rfl, _, _, rfl, rfl, ?_⟩
          have hf : (!(Builtin.Str.occurrences S ⟨#[c]⟩ 0 S.length 1).isEmpty) = decide (c ∈ S.cps.toList) := StrLaws.found_one _ _
          rw [hf]
          have hk8 : k.cps.size ≤ 100000 := hl
          refine LcNx.mk6 hi (by omega) (by rw [List.length_map, List.length_map, List.length_take]; omega) h1' ⟨upd_same, h2'.but_ne hD, ?_⟩
          rw [List.take_add_one, hc]
          simp
      · rw [decide_eq_false h2]
        exact iteF (q' _ (Same.refl _) _ (by unfold okW; rw [decide_eq_false (p := k.length ≤ m) (by omega)]; simp))
    · rw [decide_eq_false h1]
      exact iteF ⟨_, rfl, iteF (q' _ (Same.refl _) _ (by unfold okW; rw [decide_eq_false (p := 1 ≤ k.length) (by omega)]; simp))⟩
inductive sp_is_key (vs : List V) (H : Hp) (Q : VK) (E : XK) : Prop
  | mk (k : Str) (e : vs = [.str k]) (hl : k.length ≤ 100000) (ha : Asc k) (q : ∀ H', Same H H' → Q (.bl (okW KS 8 k)) H') : sp_is_key vs H Q E
theorem sc_is_key : FnScope ["value"] ["value"] (defScope s_is_key) := ⟨rfl, rfl, rfl, by decide +kernel, rfl, by decide +kernel, by decide +kernel⟩
theorem is_key (T : Txt K mg C) : Can P w K mg base 2 "is_key" ["value"] sp_is_key := by
  refine fn_can T.f_is_key sc_is_key (fun vs H Q E h => ?_) (fun f cdv A outer s H vs Q E hr h => ?_)
  · obtain ⟨k, rfl, _⟩ := h
    rfl
  · obtain ⟨k, rfl, hl, ha, q⟩ := h
    refine ⟨_, pss_one (ps_ret (pe_can (is_word T) hr (pa3 (pv 0) (pe_gs T.c_KEY_SIGNS) (pe_gi T.c_MOST_KEY_SIGNS)))), ?_⟩
    exact ⟨_, rfl, k, KS, 8, rfl, hl, ha, q⟩
inductive sp_is_source (vs : List V) (H : Hp) (Q : VK) (E : XK) : Prop
  | mk (k : Str) (e : vs = [.str k]) (hl : k.length ≤ 100000) (ha : Asc k) (q : ∀ H', Same H H' → Q (.bl (okW LT 6 k)) H') : sp_is_source vs H Q E
theorem sc_is_source : FnScope ["value"] ["value"] (defScope s_is_source) := ⟨rfl, rfl, rfl, by decide +kernel, rfl, by decide +kernel, by decide +kernel⟩
theorem is_source (T : Txt K mg C) : Can P w K mg base 2 "is_source" ["value"] sp_is_source := by
  refine fn_can T.f_is_source sc_is_source (fun vs H Q E h => ?_) (fun f cdv A outer s H vs Q E hr h => ?_)
  · obtain ⟨k, rfl, _⟩ := h
    rfl
  · obtain ⟨k, rfl, hl, ha, q⟩ := h
    refine ⟨_, pss_one (ps_ret (pe_can (is_word T) hr (pa3 (pv 0) (pe_gs T.c_LETTERS) (pe_gi T.c_MOST_SOURCE_SIGNS)))), ?_⟩
    exact ⟨_, rfl, k, LT, 6, rfl, hl, ha, q⟩
inductive sp_whole_of (vs : List V) (H : Hp) (Q : VK) (E : XK) : Prop
  | mk (z : Str) (m : Nat) (e : vs = [.str z, .int (m : Int)]) (m0 : 0 < m) (hm : m ≤ 40) (hl : z.length ≤ 100000) (q : Q (nV (numM m z)) H) : sp_whole_of vs H Q E
theorem sc_whole_of : FnScope ["word", "most", "figures"] ["word", "most"] (defScope s_whole_of) := ⟨rfl, rfl, rfl, by decide +kernel, rfl, by decide +kernel, by decide +kernel⟩
set_option maxHeartbeats 2000000 in
theorem whole_of (T : Txt K mg C) : Can P w K mg base 1 "whole_of" ["word", "most"] sp_whole_of := by
  refine fn_can T.f_whole_of sc_whole_of (fun vs H Q E h => ?_) (fun f cdv A outer s H vs Q E hr h => ?_)
  · obtain ⟨z, m, rfl, _⟩ := h
    rfl
  · obtain ⟨z, m, rfl, m0, hm, hl, q⟩ := h
    refine ⟨_, (pss_cons (ps_set (i := 2) sc_whole_of.nd rfl (Or.inl rfl) (pe_bmK K PySem.F.plainAttrs_str PySem.F.slot_str_removeprefix PySem.F.type_str_removeprefix mt_removeprefix (pv 0) (pa1 pe_str)))
        (pss_cons (ps_if (pt_cmpR op_gt (pe_b call_len_str T.b_len boot_len (pa1 (pv 2))) (pv 1) (nomark _)) (pss_one (ps_ret pe_non)) pss_nil)
        (pss_cons (ps_if (pt_not (PW.pt (pw_and (pt_val (pe_bm0 PySem.F.plainAttrs_str PySem.F.slot_str_isascii PySem.F.type_str_isascii mt_isascii (pv 2))) (pw_and1 (pt_val (pe_bm0 PySem.F.plainAttrs_str PySem.F.slot_str_isdigit PySem.F.type_str_isdigit mt_isdigit (pv 2))))))) (pss_one (ps_ret pe_non)) pss_nil)
        (pss_cons (ps_if (PW.pt (pw_and (pt_cmpR op_eq (pe_ix ix_str (pv 2) pe_int (fun _ _ => rfl)) pe_str (nomark _)) (pw_and1 (pt_cmpR op_ne (pv 0) pe_str (nomark _))))) (pss_one (ps_ret pe_non)) pss_nil)
        (pss_one (ps_ret (pe_t call_int_text T.b_int boot_int (pa1 (pv 0))))))))), ?_⟩
    have hfl := rp_len z
    have hff := rp_fgs z
    refine ⟨_, rfl, rfl, _, _, rfl, rfl, line6 (by omega), ?_⟩
    generalize Txt.removeprefix z "-" = fg at hfl hff ⊢
    have hfn : fg.length = (fgs z.cps.toList).length := by rw [← hff]; simp [Str.length]
    refine ⟨_, rfl, _, rfl, line6 (by omega), _, rfl, _, _, rfl, rfl, _, rfl, ?_⟩
    have non : ¬ Wr m z.cps.toList → Q .non H := fun h => by
      cases e : numM m z with
      | none => rw [e] at q; exact q
      | some i =>
        obtain ⟨e1, e2⟩ := numM_some e
        rw [e1] at h
        exact absurd (num_wr m0 e2) h
    by_cases d1 : (m : Int) < (fg.length : Int)
    · exact iteC (decide_eq_true d1) (non fun w => by have := w.ln; omega)
    refine iteD (decide_eq_false d1) ⟨_, rfl, rfl, _, rfl, rfl, _, rfl, ?_⟩
    have dg := dig_iff fg
    rw [hff] at dg
    have nodig : (Txt.isascii fg && Txt.isdigit fg) = false → ¬ Wr m z.cps.toList := fun h w => by
      rw [dg.mpr ⟨w.ne, w.d⟩] at h
      cases h
    cases ha : Txt.isascii fg with
    | false => exact iteF (iteT (non (nodig (by rw [ha]; rfl))))
    | true =>
      refine iteT ⟨_, rfl, rfl, _, rfl, rfl, _, rfl, ?_⟩
      cases hd : Txt.isdigit fg with
      | false => exact iteT (non (nodig (by rw [ha, hd]; rfl)))
      | true =>
        obtain ⟨ne, dd⟩ := dg.mp (by rw [ha, hd]; rfl)
        refine iteF ?_
        obtain ⟨c, r, hcr⟩ : ∃ c r, fgs z.cps.toList = c :: r := by
          cases e : fgs z.cps.toList with
          | nil => exact absurd e ne
          | cons c r => exact ⟨c, r, rfl⟩
        refine ⟨_, rfl, _, _, c, rfl, rfl, line6 (by omega), atI_nat (j := 0) (by rw [hff, hcr]; rfl), rfl, _, rfl, ?_⟩
        have c48 : decide (V.str (⟨#[c]⟩ : Str) = V.str "0") = decide (c = 48) := by
          rw [decide_eq_decide]
          constructor
          · intro h
            have e2 := congrArg (fun x : Str => x.cps.toList) (V.str.inj h)
            have e3 : (("0" : String) : Str).cps.toList = [48] := by decide
            rw [e3] at e2
            exact (List.cons.inj e2).1
          · rintro rfl; decide
        have yes : Wr m z.cps.toList → ∃ i, z = ts i ∧ i.natAbs < 10 ^ m ∧ Q (.int i) H := fun w => by
          obtain ⟨i, e1, e2⟩ := wr_num w
          refine ⟨i, e1, e2, ?_⟩
          rw [e1, numM_ts hm e2] at q
          exact q
        rw [c48]
        by_cases hc : c = 48
        · refine iteC (decide_eq_true hc) ⟨_, rfl, rfl, _, rfl, ?_⟩
          by_cases hz : z = "0"
          · refine iteD (by rw [hz]; simp) ?_
            obtain ⟨i, e1, e2, qi⟩ := yes ⟨ne, dd, by omega, fun _ => by rw [hz]; decide⟩
            subst e1
            have h40 : i.natAbs < 10 ^ 40 := Nat.lt_of_lt_of_le e2 (Nat.pow_le_pow_right (by decide) hm)
            have := ts_len h40
            exact ⟨_, rfl, _, i, rfl, ts_reads h40, by omega, qi⟩
          · exact iteC (by rw [decide_eq_false fun e => hz (V.str.inj e)]; rfl) (non fun w => hz (str_ext (by
              rw [w.z (by rw [hcr, hc]; rfl)]
              decide)))
        · refine iteD (decide_eq_false hc) ?_
          obtain ⟨i, e1, e2, qi⟩ := yes ⟨ne, dd, by omega, fun z0 => by rw [hcr] at z0; exact absurd (Option.some.inj z0) hc⟩
          subst e1
          have h40 : i.natAbs < 10 ^ 40 := Nat.lt_of_lt_of_le e2 (Nat.pow_le_pow_right (by decide) hm)
          have := ts_len h40
          exact ⟨_, rfl, _, i, rfl, ts_reads h40, by omega, qi⟩
/-! ### kinds of words -/
end
inductive Kn where | s | k | m | n
  deriving DecidableEq
def nmK : Kn → Str
  | .s => "name"
  | .k => "key"
  | .m => "wide"
  | .n => "number"
noncomputable def worthM : Kn → Str → Option V
  | .s, z => if okW LT 6 z = true then some (.str z) else none
  | .k, z => if okW KS 8 z = true then some (.str z) else none
  | .m, z => (numM 30 z).map .int
  | .n, z => (numM 40 z).map .int
def oV : Option V → V
  | some v => v
  | none => .non
theorem oV_nV (o : Option Int) : nV o = oV (o.map .int) := by cases o <;> rfl
theorem worth_ne {κ : Kn} {z : Str} {v : V} (h : worthM κ z = some v) : v ≠ .non := fun e => by
  subst e
  cases κ with
  | s =>
    have h' : (if okW LT 6 z = true then some (V.str z) else none) = some V.non := h
    by_cases c : okW LT 6 z = true
    · rw [if_pos c] at h'; cases h'
    · rw [if_neg c] at h'; cases h'
  | k =>
    have h' : (if okW KS 8 z = true then some (V.str z) else none) = some V.non := h
    by_cases c : okW KS 8 z = true
    · rw [if_pos c] at h'; cases h'
    · rw [if_neg c] at h'; cases h'
  | m =>
    have h' : (numM 30 z).map V.int = some V.non := h
    cases c : numM 30 z <;> rw [c] at h' <;> cases h'
  | n =>
    have h' : (numM 40 z).map V.int = some V.non := h
    cases c : numM 40 z <;> rw [c] at h' <;> cases h'
section
variable {P : Program} {w : World} {K : PySem.W.Frag} {mg : Str → Option Value} {base : Heap} {C : Addr}
inductive sp_meaning_of (vs : List V) (H : Hp) (Q : VK) (E : XK) : Prop
  | mk (κ : Kn) (z : Str) (e : vs = [.str (nmK κ), .str z]) (hl : z.length ≤ 100000) (ha : Asc z) (q : ∀ H', Same H H' → Q (oV (worthM κ z)) H') : sp_meaning_of vs H Q E
theorem sc_meaning_of : FnScope ["kind", "word", "is_right"] ["kind", "word"] (defScope s_meaning_of) := ⟨rfl, rfl, rfl, by decide +kernel, rfl, by decide +kernel, by decide +kernel⟩
theorem meaning_of (T : Txt K mg C) : Can P w K mg base 3 "meaning_of" ["kind", "word"] sp_meaning_of := by
  refine fn_can T.f_meaning_of sc_meaning_of (fun vs H Q E h => ?_) (fun f cdv A outer s H vs Q E hr h => ?_)
  · obtain ⟨κ, z, rfl, _⟩ := h
    rfl
  · obtain ⟨κ, z, rfl, hl, ha, q⟩ := h
    refine ⟨_, (pss_cons (ps_if (pt_cmpR op_eq (pv 0) pe_str (nomark _))
        (pss_one (ps_ret (pe_can (whole_of T) hr (pa2 (pv 1) (pe_gi T.c_WIDE_FIGURES)))))
        pss_nil)
      (pss_cons (ps_if (pt_cmpR op_eq (pv 0) pe_str (nomark _))
        (pss_one (ps_ret (pe_can (whole_of T) hr (pa2 (pv 1) (pe_gi T.c_NUMBER_FIGURES)))))
        pss_nil)
      (pss_cons (ps_set (i := 2) sc_meaning_of.nd rfl (Or.inl rfl) (pe_ifExp (pt_cmpR op_eq (pv 0) pe_str (nomark _)) (pe_can (is_key T) hr (pa1 (pv 1))) (pe_can (is_source T) hr (pa1 (pv 1)))))
      (pss_one (ps_ret (pe_ifExp (pt_val (pv 2)) (pv 1) pe_non)))))), ?_⟩
    cases κ with
    | m =>
      refine ⟨_, rfl, rfl, _, rfl, iteC (by decide) ⟨_, rfl, .mk z 30 rfl (by decide) (by decide) hl ?_⟩⟩
      rw [oV_nV]
      exact q H (Same.refl _)
    | n =>
      refine ⟨_, rfl, rfl, _, rfl, iteD (by decide) ⟨_, rfl, rfl, _, rfl, iteC (by decide) ⟨_, rfl, .mk z 40 rfl (by decide) (by decide) hl ?_⟩⟩⟩
      rw [oV_nV]
      exact q H (Same.refl _)
    | k =>
      refine ⟨_, rfl, rfl, _, rfl, iteD (by decide) ⟨_, rfl, rfl, _, rfl, iteD (by decide) ⟨_, rfl, rfl, _, rfl, iteC (by decide) ⟨_, rfl, z, rfl, hl, ha, fun H1 s1 => ?_⟩⟩⟩⟩
      have q1 : Q (oV (if okW KS 8 z = true then some (V.str z) else none)) H1 := q H1 s1
      refine ⟨_, rfl, ?_⟩
      cases e : okW KS 8 z with
      | true => rw [e] at q1; exact ⟨_, rfl, iteT ⟨_, rfl, q1⟩⟩
      | false => rw [e] at q1; exact ⟨_, rfl, iteF q1⟩
    | s =>
      refine ⟨_, rfl, rfl, _, rfl, iteD (by decide) ⟨_, rfl, rfl, _, rfl, iteD (by decide) ⟨_, rfl, rfl, _, rfl, iteD (by decide) ⟨_, rfl, z, rfl, hl, ha, fun H1 s1 => ?_⟩⟩⟩⟩
      have q1 : Q (oV (if okW LT 6 z = true then some (V.str z) else none)) H1 := q H1 s1
      refine ⟨_, rfl, ?_⟩
      cases e : okW LT 6 z with
      | true => rw [e] at q1; exact ⟨_, rfl, iteT ⟨_, rfl, q1⟩⟩
      | false => rw [e] at q1; exact ⟨_, rfl, iteF q1⟩
inductive sp_read_word (mg : Str → Option Value) (vs : List V) (H : Hp) (Q : VK) (E : XK) : Prop
  | mk (κ : Kn) (z : Str) (e : vs = [.str (nmK κ), .str z]) (hl : z.length ≤ 100000) (ha : Asc z) (q : ∀ v H', worthM κ z = some v → Same H H' → Q v H') (x : worthM κ z = none → ∀ H', Same H H' → E (.ref (cOf mg "NoRow")) none H') : sp_read_word mg vs H Q E
theorem sc_read_word : FnScope ["kind", "word", "meant"] ["kind", "word"] (defScope s_read_word) := ⟨rfl, rfl, rfl, by decide +kernel, rfl, by decide +kernel, by decide +kernel⟩
theorem read_word (T : Txt K mg C) : CanX P w K mg base 4 "read_word" ["kind", "word"] (sp_read_word mg) := by
  refine fn_canX T.f_read_word sc_read_word (fun vs H Q E h => ?_) (fun f cdv A outer s H vs Q E hr W h => ?_)
  · obtain ⟨κ, z, rfl, _⟩ := h
    rfl
  · obtain ⟨κ, z, rfl, hl, ha, q, x⟩ := h
    refine ⟨_, (pss_cons (ps_set (i := 2) sc_read_word.nd rfl (Or.inl rfl) (pe_can (meaning_of T) hr (pa2 (pv 0) (pv 1))))
      (pss_cons (ps_if (pt_cmpR op_isN (pv 2) pe_non (nomark _))
        (pss_one (ps_raise W rfl T.x_NoRow.cls (pa1 pe_str)))
        pss_nil)
      (pss_one (ps_ret (pv 2))))), ?_⟩
    refine ⟨_, rfl, _, rfl, .mk κ z rfl hl ha fun H1 s1 => ?_⟩
    cases e : worthM κ z with
    | none => exact ⟨_, rfl, rfl, _, rfl, iteC (by decide) ⟨⟨one_line, x e H1 s1⟩⟩⟩
    | some v => exact ⟨_, rfl, rfl, _, rfl, iteD (decide_eq_false (worth_ne e)) ⟨_, rfl, q v H1 e s1⟩⟩
end
end Pr
set_option Elab.async false
set_option linter.all false
set_option maxRecDepth 100000
/-! rows read: the kinds of their words -/
namespace Pr
open PySem L2 PyProof.Rows Ent
def kindsM (z : Str) (n : Nat) : Option (List Kn) :=
  if z = "rank" then some (List.replicate (max n 1) .s) else if z = "put" then some [.s, .k, .m, .m] else if z = "take" then some [.s, .k] else if z = "shut" then some [.n, .n] else
  if z = "open" then some [.n, .n] else if z = "forget" then some [.n, .m] else if z = "follow" then some [.s, .n, .n, .n] else none
/-- a tuple of the module -/
def TupK (K : PySem.W.Frag) (a : Addr) (xs : List V) : Prop := ∃ (o : Obj) (its : Array Value) (n : Nat), K.lookup a = some o ∧ o.cls = .type "tuple" ∧ o.data = .seq its n ∧ its.size ≤ sizeLine ∧ Vals xs its.toList
def nms (ks : List Kn) : List V := ks.map fun κ => .str (nmK κ)
/-- the module's table of kinds -/
inductive Kinds (K : PySem.W.Frag) (w : World) (mg : Str → Option Value) : Prop
  | mk (a a1 a2 a3 a4 a5 a6 : Addr) (k1 k2 k3 k4 k5 k6 : Tok) (hm : mg "KINDS" = some (.ref a)) (ns : (a == sysModules) = false)
    (d : K.lookup a = some { cls := .type "dict", data := .dict #[⟨PyData.keyHash w.params "put", .str "put" k1, .ref a1⟩, ⟨PyData.keyHash w.params "take", .str "take" k2, .ref a2⟩, ⟨PyData.keyHash w.params "shut", .str "shut" k3, .ref a3⟩, ⟨PyData.keyHash w.params "open", .str "open" k4, .ref a4⟩, ⟨PyData.keyHash w.params "forget", .str "forget" k5, .ref a5⟩, ⟨PyData.keyHash w.params "follow", .str "follow" k6, .ref a6⟩] 6 })
    (t1 : TupK K a1 (nms [.s, .k, .m, .m])) (t2 : TupK K a2 (nms [.s, .k])) (t3 : TupK K a3 (nms [.n, .n])) (t4 : TupK K a4 (nms [.n, .n])) (t5 : TupK K a5 (nms [.n, .m])) (t6 : TupK K a6 (nms [.s, .n, .n, .n])) : Kinds K w mg
/-- what a deed's kinds are, told by the table -/
inductive TabAt (K : PySem.W.Frag) (P : Program) (w : World) (mg : Str → Option Value) : Prop
  | mk (a : Addr) (kvs : List (Key × V)) (hm : mg "KINDS" = some (.ref a)) (d : KDict K P w a kvs)
    (yes : ∀ (z : Str) n ks, z ≠ "rank" → kindsM z n = some ks → ∃ t, valV kvs (.inr z) = some (.ref t) ∧ TupK K t (nms ks)) (no : ∀ (z : Str) n, kindsM z n = none → valV kvs (.inr z) = none) : TabAt K P w mg
theorem inr_ne {x y : Str} (h : ¬ y = x) : ¬ (Sum.inr x : Key) = Sum.inr y := fun e => h (Sum.inr.inj e).symm
theorem Kinds.tab {K : PySem.W.Frag} {w : World} {mg : Str → Option Value} (P : Program) (h : Kinds K w mg) : TabAt K P w mg := by
  obtain ⟨a, a1, a2, a3, a4, a5, a6, k1, k2, k3, k4, k5, k6, hm, ns, d, t1, t2, t3, t4, t5, t6⟩ := h
  refine ⟨a, [(.inr "put", .ref a1), (.inr "take", .ref a2), (.inr "shut", .ref a3), (.inr "open", .ref a4), (.inr "forget", .ref a5), (.inr "follow", .ref a6)], hm,
    .mk _ _ _ [(.inr "put", .ref a1), (.inr "take", .ref a2), (.inr "shut", .ref a3), (.inr "open", .ref a4), (.inr "forget", .ref a5), (.inr "follow", .ref a6)] d ⟨rfl, rfl, rfl⟩ rfl (fun e he => ?_) ?_ (by show ([.inr "put", .inr "take", .inr "shut", .inr "open", .inr "forget", .inr "follow"] : List Key).Nodup; decide +kernel) ?_ ns, fun z n ks hr hk => ?_, fun z n hk => ?_⟩
  · have he' := Array.mem_toList_iff.mpr he
    simp only [List.mem_cons, List.not_mem_nil, or_false] at he'
    rcases he' with rfl | rfl | rfl | rfl | rfl | rfl
    · exact ⟨.inr "put", mixKind_str P w _ _, rfl⟩
    · exact ⟨.inr "take", mixKind_str P w _ _, rfl⟩
    · exact ⟨.inr "shut", mixKind_str P w _ _, rfl⟩
    · exact ⟨.inr "open", mixKind_str P w _ _, rfl⟩
    · exact ⟨.inr "forget", mixKind_str P w _ _, rfl⟩
    · exact ⟨.inr "follow", mixKind_str P w _ _, rfl⟩
  · exact .cons (mixKind_str P w _ _) rfl (.cons (mixKind_str P w _ _) rfl (.cons (mixKind_str P w _ _) rfl (.cons (mixKind_str P w _ _) rfl (.cons (mixKind_str P w _ _) rfl (.cons (mixKind_str P w _ _) rfl .nil)))))
  · exact .cons ⟨rfl, rfl⟩ (.cons ⟨rfl, rfl⟩ (.cons ⟨rfl, rfl⟩ (.cons ⟨rfl, rfl⟩ (.cons ⟨rfl, rfl⟩ (.cons ⟨rfl, rfl⟩ .nil)))))
  · unfold kindsM at hk
    rw [if_neg hr] at hk
    by_cases h1 : z = "put"
    · rw [if_pos h1] at hk; cases hk; subst h1; exact ⟨a1, valV_pos rfl, t1⟩
    rw [if_neg h1] at hk
    by_cases h2 : z = "take"
    · rw [if_pos h2] at hk; cases hk; subst h2; exact ⟨a2, by rw [valV_neg (inr_ne h1)]; exact valV_pos rfl, t2⟩
    rw [if_neg h2] at hk
    by_cases h3 : z = "shut"
    · rw [if_pos h3] at hk; cases hk; subst h3; exact ⟨a3, by rw [valV_neg (inr_ne h1), valV_neg (inr_ne h2)]; exact valV_pos rfl, t3⟩
    rw [if_neg h3] at hk
    by_cases h4 : z = "open"
    · rw [if_pos h4] at hk; cases hk; subst h4; exact ⟨a4, by rw [valV_neg (inr_ne h1), valV_neg (inr_ne h2), valV_neg (inr_ne h3)]; exact valV_pos rfl, t4⟩
    rw [if_neg h4] at hk
    by_cases h5 : z = "forget"
    · rw [if_pos h5] at hk; cases hk; subst h5; exact ⟨a5, by rw [valV_neg (inr_ne h1), valV_neg (inr_ne h2), valV_neg (inr_ne h3), valV_neg (inr_ne h4)]; exact valV_pos rfl, t5⟩
    rw [if_neg h5] at hk
    by_cases h6 : z = "follow"
    · rw [if_pos h6] at hk; cases hk; subst h6; exact ⟨a6, by rw [valV_neg (inr_ne h1), valV_neg (inr_ne h2), valV_neg (inr_ne h3), valV_neg (inr_ne h4), valV_neg (inr_ne h5)]; exact valV_pos rfl, t6⟩
    rw [if_neg h6] at hk
    cases hk
  · unfold kindsM at hk
    by_cases h0 : z = "rank"
    · rw [if_pos h0] at hk; cases hk
    rw [if_neg h0] at hk
    by_cases h1 : z = "put"
    · rw [if_pos h1] at hk; cases hk
    rw [if_neg h1] at hk
    by_cases h2 : z = "take"
    · rw [if_pos h2] at hk; cases hk
    rw [if_neg h2] at hk
    by_cases h3 : z = "shut"
    · rw [if_pos h3] at hk; cases hk
    rw [if_neg h3] at hk
    by_cases h4 : z = "open"
    · rw [if_pos h4] at hk; cases hk
    rw [if_neg h4] at hk
    by_cases h5 : z = "forget"
    · rw [if_pos h5] at hk; cases hk
    rw [if_neg h5] at hk
    by_cases h6 : z = "follow"
    · rw [if_pos h6] at hk; cases hk
    rw [valV_neg (inr_ne h1), valV_neg (inr_ne h2), valV_neg (inr_ne h3), valV_neg (inr_ne h4), valV_neg (inr_ne h5), valV_neg (inr_ne h6)]
    rfl
theorem rank_kinds (n : Nat) : kindsM "rank" n = some (List.replicate (max n 1) .s) := by unfold kindsM; rw [if_pos rfl]
section
variable {P : Program} {w : World} {K : PySem.W.Frag} {mg : Str → Option Value} {base : Heap} {C : Addr}
inductive sp_kinds_behind (K : PySem.W.Frag) (mg : Str → Option Value) (vs : List V) (H : Hp) (Q : VK) (E : XK) : Prop
  | mk (z : Str) (n : Nat) (e : vs = [.str z, .int (n : Int)]) (hn : n ≤ 900) (q : ∀ ks a H', kindsM z n = some ks → Same H H' → SqT K H' a (nms ks) → Q (.ref a) H') (x : kindsM z n = none → ∀ H', Same H H' → E (.ref (cOf mg "NoRow")) none H') : sp_kinds_behind K mg vs H Q E
theorem sc_kinds_behind : FnScope ["deed", "many"] ["deed", "many"] (defScope s_kinds_behind) := ⟨rfl, rfl, rfl, by decide +kernel, rfl, by decide +kernel, by decide +kernel⟩
theorem kinds_behind (T : Txt K mg C) (Z : TabAt K P w mg) : CanX P w K mg base 1 "kinds_behind" ["deed", "many"] (sp_kinds_behind K mg) := by
  refine fn_canX T.f_kinds_behind sc_kinds_behind (fun vs H Q E h => ?_) (fun f cdv A outer s H vs Q E hr W h => ?_)
  · obtain ⟨z, n, rfl, _⟩ := h
    rfl
  · obtain ⟨z, n, rfl, hn, q, x⟩ := h
    obtain ⟨a, kvs, hm, d, yes, no⟩ := Z
    refine ⟨_, (pss_cons (ps_if (pt_cmpR op_eq (pv 0) pe_str (nomark _))
        (pss_one (ps_ret (pe_op op_mulT (pe_tup (pa1 pe_str)) (pe_b (call_max2 rfl) T.b_max boot_max (pa2 (pv 1) pe_int)))))
        pss_nil)
      (pss_cons (ps_if (pt_cmp (pc_knot K P w (pv 0) (pe_glob (v := .ref _) rfl hm rfl)))
        (pss_one (ps_raise W rfl T.x_NoRow.cls (pa1 pe_str)))
        pss_nil)
      (pss_one (ps_ret (pe_kget K P w (pe_glob (v := .ref _) rfl hm rfl) (pv 0) (fun _ _ => rfl)))))), ?_⟩
    refine ⟨_, rfl, rfl, _, rfl, ?_⟩
    by_cases h0 : z = "rank"
    · subst h0
      refine iteC (decide_eq_true rfl) ⟨one_line, fun t ht => ⟨_, rfl, _, _, rfl, ?_⟩⟩
      refine .mk t _ _ rfl rfl upd_same (by omega) (by omega) fun p H' s' hp => ?_
      refine q _ p H' (rank_kinds n) ((Same.upd ht).trans s') (.of ?_)
      rw [hp]
      unfold nms
      rw [List.map_replicate]
      congr 3
      omega
    · refine iteD (decide_eq_false fun e => h0 (V.str.inj e)) ?_
      refine ⟨_, rfl, .mk a kvs (.inr z) rfl d rfl ⟨_, rfl, ?_⟩⟩
      cases e : kindsM z n with
      | none =>
        rw [no z n e]
        exact iteT ⟨⟨one_line, x e H (Same.refl _)⟩⟩
      | some ks =>
        obtain ⟨t, ht, hk⟩ := yes z n ks h0 e
        rw [ht]
        exact iteF ⟨_, rfl, .mk a kvs (.inr z) (.ref t) rfl d rfl ht (q ks t H e (Same.refl _) (.inr hk))⟩
end
end Pr
set_option Elab.async false
set_option linter.all false
set_option maxRecDepth 100000
/-! rows read -/
namespace Ent
open PySem Builtin Builtin.Str StrLaws PyProof.Rows
theorem join_cnt (c : Str) (hc : 1 ≤ c.length) : ∀ (ps : List Str), ps.length ≤ (Str.join c ps).length + 1
  | [] => by simp
  | [p] => by simp
  | p :: q :: r => by
    have ih := join_cnt c hc (q :: r)
    rw [PyProof.Rows.join_cons_cons]
    simp only [Str.length_append, List.length_cons] at ih ⊢
    omega
theorem split_cnt (z c : Str) (hc : 1 ≤ c.length) : (Txt.split z c).length ≤ z.length + 1 := by
  have h := join_cnt c hc (Txt.split z c)
  rw [join_split] at h
  exact h
theorem split_ne {c : Str} (z : Str) (h0 : Txt.split "" c ≠ []) : Txt.split z c ≠ [] := fun e => by
  have h := join_split z c
  rw [e] at h
  have h' : z = "" := h.symm
  rw [h'] at e
  exact h0 e
theorem mem_join_len (c : Str) : ∀ {ps : List Str} {p : Str}, p ∈ ps → p.length ≤ (Str.join c ps).length
  | [q], p, h => by rw [List.mem_singleton.mp h]; exact Nat.le_refl _
  | q :: r :: s, p, h => by
    rw [PyProof.Rows.join_cons_cons]
    simp only [Str.length_append]
    rcases List.mem_cons.mp h with e | e
    · rw [e]; omega
    · have := mem_join_len c e
      omega
theorem split_mem {z c p : Str} (h : p ∈ Txt.split z c) : p.length ≤ z.length := by
  have := mem_join_len c h
  rw [join_split] at this
  exact this
theorem join_memb {c : Str} : ∀ {ps : List Str} {x : Nat}, x ∈ (Str.join c ps).cps.toList → x ∈ c.cps.toList ∨ ∃ p ∈ ps, x ∈ p.cps.toList
  | [], x, h => by
    have : x ∈ ([] : List Nat) := h
    exact nomatch this
  | [q], x, h => .inr ⟨q, by simp, h⟩
  | q :: r :: s, x, h => by
    rw [PyProof.Rows.join_cons_cons, Str.cps_append, Str.cps_append, Array.toList_append, Array.toList_append] at h
    rcases List.mem_append.mp h with h | h
    · rcases List.mem_append.mp h with h | h
      · exact .inr ⟨q, by simp, h⟩
      · exact .inl h
    · rcases join_memb h with h | ⟨p, hp, h⟩
      · exact .inl h
      · exact .inr ⟨p, List.mem_cons_of_mem _ hp, h⟩
theorem tj (c : Str) (l : List Str) : Txt.join c l = Str.join c l := StrLaws.glued_eq_join _ _
theorem split_sign {z c p : Str} (h : p ∈ Txt.split z c) : ∀ x ∈ p.cps.toList, x ∈ z.cps.toList := fun x hx => by
  have e := join_split z c
  have key : ∀ {ps : List Str}, p ∈ ps → x ∈ (Str.join c ps).cps.toList := fun {ps} => by
    induction ps with
    | nil => intro h; cases h
    | cons q r ih =>
      intro h
      cases r with
      | nil => rw [List.mem_singleton.mp h] at hx; exact hx
      | cons y s =>
        rw [PyProof.Rows.join_cons_cons, Str.cps_append, Str.cps_append, Array.toList_append, Array.toList_append]
        rcases List.mem_cons.mp h with e | e
        · rw [e] at hx; exact List.mem_append_left _ (List.mem_append_left _ hx)
        · exact List.mem_append_right _ (ih e)
  have := key h
  rw [e] at this
  exact this
end Ent
namespace Pr
open PySem L2 PyProof.Rows Ent
noncomputable def allW : List Kn → List Str → Option (List V)
  | κ :: ks, z :: zs => (worthM κ z).bind fun v => (allW ks zs).map (v :: ·)
  | _, _ => some []
noncomputable def rowM (z : Str) : Option (List V) :=
  match Txt.split z " " with
  | [] => none
  | w0 :: ws => (kindsM w0 ws.length).bind fun ks => if ks.length = ws.length then (allW ks ws).map (V.str w0 :: ·) else none
theorem rowM_of {z w0 : Str} {ws : List Str} (h : Txt.split z " " = w0 :: ws) : rowM z = (kindsM w0 ws.length).bind fun ks => if ks.length = ws.length then (allW ks ws).map (V.str w0 :: ·) else none := by
  unfold rowM
  rw [h]
theorem allW_take : ∀ {ks : List Kn} {zs : List Str} {i : Nat} {ys : List V} {κ : Kn} {z : Str} {v : V}, allW (ks.take i) (zs.take i) = some ys → ks[i]? = some κ → zs[i]? = some z → worthM κ z = some v → allW (ks.take (i + 1)) (zs.take (i + 1)) = some (ys ++ [v])
  | k :: ks, y :: zs, 0, ys, κ, z, v, h, hk, hz, hv => by
    cases hk; cases hz
    have : ys = [] := by
      have : some ([] : List V) = some ys := h
      exact (Option.some.inj this).symm
    subst this
    show ((worthM _ _).bind fun v => (allW (ks.take 0) (zs.take 0)).map (v :: ·)) = _
    rw [hv]
    rfl
  | k :: ks, y :: zs, i + 1, ys, κ, z, v, h, hk, hz, hv => by
    have h' : ((worthM k y).bind fun v => (allW (ks.take i) (zs.take i)).map (v :: ·)) = some ys := h
    show ((worthM k y).bind fun v => (allW (ks.take (i + 1)) (zs.take (i + 1))).map (v :: ·)) = _
    cases e : worthM k y with
    | none => rw [e] at h'; cases h'
    | some u =>
      rw [e] at h'
      have h2 : (allW (ks.take i) (zs.take i)).map (u :: ·) = some ys := h'
      cases e2 : allW (ks.take i) (zs.take i) with
      | none => rw [e2] at h2; cases h2
      | some us =>
        rw [e2] at h2
        have e3 : ys = u :: us := (Option.some.inj h2).symm
        subst e3
        show (allW (ks.take (i + 1)) (zs.take (i + 1))).map (u :: ·) = _
        rw [allW_take e2 hk hz hv]
        rfl
theorem allW_none : ∀ {ks : List Kn} {zs : List Str} {i : Nat} {κ : Kn} {z : Str}, ks[i]? = some κ → zs[i]? = some z → worthM κ z = none → allW ks zs = none
  | k :: ks, y :: zs, 0, κ, z, hk, hz, hv => by
    cases hk; cases hz
    show ((worthM _ _).bind fun v => (allW ks zs).map (v :: ·)) = none
    rw [hv]
    rfl
  | k :: ks, y :: zs, i + 1, κ, z, hk, hz, hv => by
    show ((worthM k y).bind fun v => (allW ks zs).map (v :: ·)) = none
    rw [allW_none (ks := ks) (zs := zs) hk hz hv]
    cases worthM k y <;> rfl
theorem kinds_row {z : Str} {n : Nat} {ks : List Kn} (h : kindsM z n = some ks) (hn : n ≤ 900) : ks.length ≤ 900 := by
  unfold kindsM at h
  repeat' split at h
  all_goals first | (cases h; first | (rw [List.length_replicate]; omega) | decide) | cases h
section
variable {P : Program} {w : World} {K : PySem.W.Frag} {mg : Str → Option Value} {base : Heap} {C : Addr}
theorem _root_.L2.Same.tupK {H H' : Hp} {a : Addr} {xs : List V} (s : Same H H') (h : SqT K H a xs) : SqT K H' a xs := by
  rcases h with (h | ⟨o, h⟩) | h
  · exact .inl (.inl (s _ _ h))
  · exact .inl (.inr ⟨o, s _ _ h⟩)
  · exact .inr h
theorem len2 {α : Type} {l : List α} (h : l.length = 2) : ∃ a b, l = [a, b] := by
  match l, h with
  | [a, b], _ => exact ⟨a, b, rfl⟩
theorem cut_to1 {v : V} {xs : List V} : cutV (v :: xs) none (some 1) = [v] := by
  have : cutV (v :: xs) none (some ((1 : Nat) : Int)) = (v :: xs).take 1 := by
    unfold cutV
    rw [HT.sIx_nat, HT.sIx_none, Nat.sub_zero, List.drop_zero, Nat.min_eq_left (by simp)]
  exact this
theorem cut_from1 {v : V} {xs : List V} : cutV (v :: xs) (some 1) none = xs := by
  have : cutV (v :: xs) (some ((1 : Nat) : Int)) none = (v :: xs).drop 1 := by
    unfold cutV
    rw [HT.sIx_nat, HT.sIx_none, Nat.min_eq_left (by simp)]
    exact List.take_of_length_le (by rw [List.length_drop]; omega)
  exact this
inductive sp_words_of (K : PySem.W.Frag) (mg : Str → Option Value) (vs : List V) (H : Hp) (Q : VK) (E : XK) : Prop
  | no (v : V) (t : Value) (e : vs = [v]) (h : TyW H v t) (k : PySem.W.kitOne K t (.type "str") = some false) (x : E (.ref (cOf mg "NoRow")) none H) : sp_words_of K mg vs H Q E
  | mk (z : Str) (e : vs = [.str z]) (hl : z.length ≤ 800) (ha : Asc z) (q : ∀ us D H', rowM z = some us → Same H H' → H D = none → H' D = some (.lst us) → Q (.ref D) H') (x : rowM z = none → ∀ H', Same H H' → E (.ref (cOf mg "NoRow")) none H') : sp_words_of K mg vs H Q E
theorem sc_words_of : FnScope ["row", "words", "kinds"] ["row"] (defScope s_words_of) := ⟨rfl, rfl, rfl, by decide +kernel, rfl, by decide +kernel, by decide +kernel⟩
set_option maxHeartbeats 4000000 in
theorem words_of (T : Txt K mg C) (Z : TabAt K P w mg) : CanX P w K mg base 5 "words_of" ["row"] (sp_words_of K mg) := by
  refine fn_canX T.f_words_of sc_words_of (fun vs H Q E h => ?_) (fun f cdv A outer s H vs Q E hr W h => ?_)
  · cases h with
    | no v t e => subst e; rfl
    | mk z e => subst e; rfl
  · refine ⟨_, (pss_cons (ps_if (pt_not (pt_val (pe_b (call_isiW K) T.b_isinstance boot_isinstance (pa2 (pv 0) (pe_ty rfl T.b_str boot_str)))))
        (pss_one (ps_raise W rfl T.x_NoRow.cls (pa1 pe_str)))
        pss_nil)
      (pss_cons (ps_set (i := 1) sc_words_of.nd rfl (Or.inl rfl) (pe_bmK K PySem.F.plainAttrs_str PySem.F.slot_str_split PySem.F.type_str_split mt_split (pv 0) (pa1 pe_str)))
      (pss_cons (ps_set (i := 2) sc_words_of.nd rfl (Or.inl rfl) (pe_canX (kinds_behind T Z) W hr (pa2 (pe_ix (ix_listK K) (pv 1) pe_int (fun _ _ => rfl)) (pe_op op_sub (pe_b (call_lenK K) T.b_len boot_len (pa1 (pv 1))) pe_int))))
      (pss_cons (ps_if (pt_cmpR op_ne (pe_b (call_lenK K) T.b_len boot_len (pa1 (pv 2))) (pe_op op_sub (pe_b (call_lenK K) T.b_len boot_len (pa1 (pv 1))) pe_int) (nomark _))
        (pss_one (ps_raise W rfl T.x_NoRow.cls (pa1 pe_str)))
        pss_nil)
      (pss_one (ps_ret (pe_op op_cat (pe_slice (sl_listK K) (pv 1) po_none (po_some pe_int)) (pe_lnX (xs := ["kind", "word"]) (Ns := ["row", "words", "kinds"]) W rfl (lnS _ sc_words_of) (pi_zipT K rfl T.b_zip (pa2 (pv 2) (pe_slice (sl_listK K) (pv 1) (po_some pe_int) po_none))) (pg_pair rfl (lnS _ sc_words_of)) (fun _ _ _ _ => pts_nil) (fun _ _ _ _ _ W' => (pe_canX (read_word T) W' hr (pa2 (pv 0) (pv 1)))))))))))), ?_⟩
    cases h with
    | no v t e h k x => subst e; exact ⟨_, rfl, .mk _ _ _ _ rfl h k ⟨_, rfl, iteT ⟨⟨one_line, x⟩⟩⟩⟩
    | mk z e hl ha q x =>
      subst e
      refine ⟨_, rfl, .mk _ _ _ _ rfl (.str z) (kit_str1 _) ⟨_, rfl, iteF ?_⟩⟩
      have scn := split_cnt z " " (by decide)
      refine ⟨_, rfl, rfl, _, _, rfl, rfl, by decide, line6 (by omega), line6 (by omega), fun D hD => ?_⟩
      have snn : Txt.split z " " ≠ [] := split_ne z (by decide +kernel)
      obtain ⟨w0, ws, hws⟩ : ∃ w0 ws, Txt.split z " " = w0 :: ws := by
        cases e : Txt.split z " " with
        | nil => exact absurd e snn
        | cons a b => exact ⟨a, b, rfl⟩
      have wl : ∀ y ∈ ws, y.length ≤ z.length := fun y hy => split_mem (c := " ") (by rw [hws]; exact List.mem_cons_of_mem _ hy)
      have wa : ∀ y ∈ ws, Asc y := fun y hy c hc => ha c (split_sign (c := " ") (by rw [hws]; exact List.mem_cons_of_mem _ hy) c hc)
      have hrow := rowM_of hws
      rw [hws] at scn ⊢
      rw [List.length_cons] at scn
      have s1 := Same.upd (H := H) (o := .lst ((w0 :: ws).map V.str)) hD
      have k1 : (upd H D (.lst ((w0 :: ws).map V.str))) D = some (.lst ((w0 :: ws).map V.str)) := upd_same
      generalize (upd H D (.lst ((w0 :: ws).map V.str))) = H1 at s1 k1
      refine ⟨_, rfl, D, _, _, _, rfl, rfl, .of k1, atI_nat (j := 0) rfl, _, rfl, D, _, rfl, .inl (.of k1), _, _, rfl, rfl, ?_⟩
      refine .mk w0 ws.length (by simp) (by omega) (fun ks a H2 hk s2 ht => ?_) (fun hk H2 s2 => ?_)
      · have k2 := s2 _ _ k1
        have s12 := s1.trans s2
        refine ⟨_, rfl, a, _, rfl, .inr ht, _, rfl, D, _, rfl, .inl (.of k2), _, _, rfl, rfl, rfl, _, rfl, ?_⟩
        by_cases hlen : ks.length = ws.length
        · refine iteD ?_ ?_
          · have : V.int ((nms ks).length : Int) = V.int ((((w0 :: ws).map V.str).length : Int) - 1) := by
              unfold nms
              rw [List.length_map, List.length_map, List.length_cons, hlen]
              congr 1
              omega
            rw [decide_eq_true this]
            rfl
          refine ⟨_, rfl, _, rfl, D, _, rfl, .of k2, fun p3 hp3 => ?_⟩
          rw [List.map_cons, cut_to1]
          have s3 := Same.upd (H := H2) (o := .lst [V.str w0]) hp3
          have k3 : (upd H2 p3 (.lst [V.str w0])) p3 = some (.lst [V.str w0]) := upd_same
          generalize (upd H2 p3 (.lst [V.str w0])) = H3 at s3 k3
          refine ⟨_, rfl, _, rfl, _, rfl, D, _, rfl, .of (s3 _ _ k2), fun p4 hp4 => ?_⟩
          rw [List.map_cons, cut_from1]
          have s4 := Same.upd (H := H3) (o := .lst (ws.map V.str)) hp4
          have k4 : (upd H3 p4 (.lst (ws.map V.str))) p4 = some (.lst (ws.map V.str)) := upd_same
          generalize (upd H3 p4 (.lst (ws.map V.str))) = H4 at s4 k4
          have s24 := s3.trans s4
          refine ⟨a, p4, _, _, rfl, s24.tupK ht, .of k4, fun L hL => ?_⟩
          have hL0 : H L = none := (s12.trans s24).free hL
          have hnl : (nms ks).length = ks.length := by unfold nms; rw [List.length_map]
          have hwl : (ws.map V.str).length = ws.length := List.length_map _
          refine lcN_zipA (xs := nms ks) (ys := ws.map V.str) (by omega) (fun i ys H5 => H5 L = some (.lst ys) ∧ Same H4 H5 ∧ ys.length = i ∧ allW (ks.take i) (ws.take i) = some ys) ⟨upd_same, Same.upd hL, rfl, rfl⟩ (fun i ys H5 h => ⟨h.1, (s24.trans h.2.1).tupK ht, .of (h.2.1 _ _ k4)⟩) (fun ys H5 h => ?_) fun i y1 y2 t ys H5 u hu hi hy1 hy2 h htn => ?_
          · obtain ⟨h1, h2, h3, h4⟩ := h
            rw [hnl] at h4
            rw [List.take_of_length_le (Nat.le_refl _), List.take_of_length_le (by omega)] at h4
            refine ⟨p3, L, _, _, rfl, rfl, h2 _ _ (s4 _ _ k3), h1, ?_, fun D6 hD6 => ?_⟩
            · rw [h3, hnl]; exact line6 (by show 1 + ks.length ≤ 100000; omega)
            · refine q (V.str w0 :: ys) D6 _ ?_ ((s12.trans (s24.trans h2)).trans (Same.upd hD6)) ((s12.trans (s24.trans h2)).free hD6) upd_same
              rw [hrow, hk]
              show (if ks.length = ws.length then (allW ks ws).map (V.str w0 :: ·) else none) = _
              rw [if_pos hlen, h4]
              rfl
          · obtain ⟨h1, h2, h3, h4⟩ := h
            obtain ⟨u1, u2, rfl⟩ := len2 hu
            rw [hnl] at hi
            have hki : ks[i]? = some ks[i] := List.getElem?_eq_getElem hi
            have hwi : ws[i]? = some ws[i] := List.getElem?_eq_getElem (by omega)
            have e1 : y1 = .str (nmK ks[i]) := by
              unfold nms at hy1
              rw [List.getElem?_map, hki] at hy1
              exact (Option.some.inj hy1).symm
            have e2 : y2 = .str ws[i] := by
              rw [List.getElem?_map, hwi] at hy2
              exact (Option.some.inj hy2).symm
            subst e1 e2
            have st := Same.upd (H := H5) (o := .tup [.str (nmK ks[i]), .str ws[i]]) htn
            have kt : (upd H5 t (.tup [.str (nmK ks[i]), .str ws[i]])) t = some (.tup [.str (nmK ks[i]), .str ws[i]]) := upd_same
            generalize (upd H5 t (.tup [.str (nmK ks[i]), .str ws[i]])) = H6 at st kt
            have hm := List.mem_of_getElem? hwi
            have hwl2 := wl _ hm
            refine ⟨t, _, rfl, .of kt, rfl, _, _, rfl, _, _, rfl, rfl, ⟨[some (.str (nmK ks[i])), some (.str ws[i])], rfl, rfl⟩, yesI ⟨_, rfl, _, rfl, .mk ks[i] ws[i] rfl (by omega) (wa _ hm) (fun v H7 hv s7 => ?_) (fun hv H7 s7 => ?_)⟩⟩
            · refine LcNx.mk6 (by omega) (by omega) (by omega) (s7 _ _ (st _ _ h1)) ⟨upd_same, ((h2.trans st).trans s7).but_ne hL, by rw [List.length_append, h3]; rfl, allW_take h4 hki hwi hv⟩
            · refine x ?_ H7 ((s12.trans (s24.trans h2)).trans (st.trans s7))
              rw [hrow, hk]
              show (if ks.length = ws.length then (allW ks ws).map (V.str w0 :: ·) else none) = none
              rw [if_pos hlen, allW_none hki hwi hv]
              rfl
        · refine iteC ?_ ⟨⟨one_line, x ?_ H2 s12⟩⟩
          · have : ¬ V.int ((nms ks).length : Int) = V.int ((((w0 :: ws).map V.str).length : Int) - 1) := fun e => by
              have := V.int.inj e
              unfold nms at this
              rw [List.length_map, List.length_map, List.length_cons] at this
              omega
            rw [decide_eq_false this]
            rfl
          · rw [hrow, hk]
            show (if ks.length = ws.length then (allW ks ws).map (V.str w0 :: ·) else none) = none
            rw [if_neg hlen]
      · refine x ?_ H2 (s1.trans s2)
        rw [hrow, hk]
        rfl
end
end Pr
set_option Elab.async false
set_option linter.all false
set_option maxRecDepth 100000
/-! the law's own reading: what is told, words, what a word is worth -/
namespace Ent
open PySem Builtin Builtin.Str StrLaws PyProof.Rows
theorem join_app (c : Str) : ∀ {xs ys : List Str}, xs ≠ [] → ys ≠ [] → Str.join c (xs ++ ys) = Str.join c xs ++ c ++ Str.join c ys
  | [], _, h, _ => absurd rfl h
  | _, [], _, h => absurd rfl h
  | [x], y :: ys, _, _ => by rw [List.singleton_append, PyProof.Rows.join_cons_cons]; rfl
  | x :: x2 :: xs, y :: ys, _, _ => by
    rw [List.cons_append, List.cons_append, PyProof.Rows.join_cons_cons, ← List.cons_append, join_app c (xs := x2 :: xs) (ys := y :: ys) (by simp) (by simp), PyProof.Rows.join_cons_cons]
    simp only [Str.append_assoc]
theorem join_tail (c m a : Str) : ∀ (xs : List Str), Str.join c (xs ++ [a]) ++ m = Str.join c (xs ++ [a ++ m])
  | [] => rfl
  | x :: xs => by rw [join_app c (by simp) (by simp), join_app c (by simp) (by simp), PyProof.Rows.join_one, PyProof.Rows.join_one, Str.append_assoc]
end Ent
namespace L2
open PySem PyProof.Rows
/-- for c in a text -/
theorem for_str {x : Str} {g : TG} {tb : TS} {D : Ends} {σ : St} {H : Hp} (Pv : Nat → St → Hp → Prop) (h0 : Pv 0 σ H)
    (hs : ∀ i c σ H, x.cps.toList[i]? = some c → Pv i σ H → g (.str ⟨#[c]⟩) σ H fun σ2 H2 => tb { D with nx := Pv (i + 1), ct := Pv (i + 1), bk := D.nx } σ2 H2) (hd : ∀ σ H, Pv x.cps.toList.length σ H → D.nx σ H) :
    ∃ W : Nat → Nat → St → Hp → Prop, (∃ m, W 0 m σ H) ∧ ∀ i m σ H, W i m σ H →
      ((Its x).stop i H ∧ D.nx σ H) ∨ ((Its x).go i H ∧ ∃ N : St → Hp → Prop, (∀ σ' H', N σ' H' → ∃ m', m' < m ∧ W (i + 1) m' σ' H') ∧ ∀ y H', (Its x).yld i H y H' → g y σ H' fun σ2 H2 => tb { D with nx := N, ct := N, bk := D.nx } σ2 H2) := by
  have hl : x.cps.toList.length = x.cps.size := Array.length_toList
  rw [hl] at hd
  refine ⟨fun i m σ H => m = x.cps.size - i ∧ i ≤ x.cps.size ∧ Pv i σ H, ⟨x.cps.size, by simp, Nat.zero_le _, h0⟩, ?_⟩
  rintro i m σ H ⟨rfl, hi, p⟩
  by_cases hlt : i < x.cps.size
  · refine .inr ⟨hlt, Pv (i + 1), fun σ' H' p' => ⟨x.cps.size - (i + 1), by omega, rfl, hlt, p'⟩, fun y H' z => ?_⟩
    obtain ⟨e, c, hc, rfl⟩ := z
    subst e
    exact hs i c σ _ hc p
  · have e : i = x.cps.size := by omega
    subst e
    exact .inl ⟨Nat.le_refl _, hd σ H p⟩
end L2
namespace Pr
open PySem L2 PyProof.Rows Ent
section
variable {P : Program} {w : World} {K : PySem.W.Frag} {mg : Str → Option Value} {base : Heap} {C : Addr}
/-- what a row is told as -/
inductive RowV (H : Hp) (z : Str) (v : V) : Prop
  | no (h : rowM z = none) (e : v = .non) : RowV H z v
  | yes (us : List V) (D : Addr) (h : rowM z = some us) (e : v = .ref D) (k : H D = some (.lst us)) : RowV H z v
inductive sp_told (K : PySem.W.Frag) (vs : List V) (H : Hp) (Q : VK) (E : XK) : Prop
  | no (v : V) (t : Value) (e : vs = [v]) (h : TyW H v t) (k : PySem.W.kitOne K t (.type "str") = some false) (q : ∀ H', Same H H' → Q .non H') : sp_told K vs H Q E
  | mk (z : Str) (e : vs = [.str z]) (hl : z.length ≤ 800) (ha : Asc z) (q : ∀ v H', Same H H' → RowV H' z v → (∀ D, v = .ref D → H D = none) → Q v H') : sp_told K vs H Q E
theorem sc_told : FnScope ["_law_row"] ["_law_row"] (defScope s_law_told) := ⟨rfl, rfl, rfl, by decide +kernel, rfl, by decide +kernel, by decide +kernel⟩
theorem told (T : Txt K mg C) (Z : TabAt K P w mg) : Can P w K mg base 6 "_law_told" ["_law_row"] (sp_told K) := by
  refine fn_can T.f_law_told sc_told (fun vs H Q E h => ?_) (fun f cdv A outer s H vs Q E hr h => ?_)
  · cases h with
    | no v t e => subst e; rfl
    | mk z e => subst e; rfl
  · refine ⟨_, (pss_one (ps_try (n := 1) (fun pn xe E W => (pss_one (ps_ret (pe_canX (words_of T Z) W hr (pa1 (pv 0))))))
        (ph0 T.x_NoRow.m (fun a => pss_one (ps_ret pe_non)) ph_nil))), ?_⟩
    cases h with
    | no v t e h k q =>
      subst e
      refine ⟨_, rfl, .no v t rfl h k ?_⟩
      intro σ' hσ
      match σ', hσ with
      | [a0], _ => exact .mk true T.e_NoRow_NoRow (iteT (q _ (Same.refl _)))
    | mk z e hl ha q =>
      subst e
      refine ⟨_, rfl, .mk z rfl hl ha (fun us D H' h s hn k => q _ H' s (.yes us D h rfl k) fun D' e => by cases e; exact hn) (fun h H' s => ?_)⟩
      intro σ' hσ
      match σ', hσ with
      | [a0], _ => exact .mk true T.e_NoRow_NoRow (iteT (q _ H' s (.no h rfl) fun D e => by cases e))
theorem sc_are : FnScope ["_law_word", "_law_signs", "_law_most"] ["_law_word", "_law_signs", "_law_most"] (defScope s_law_are) := ⟨rfl, rfl, rfl, by decide +kernel, rfl, by decide +kernel, by decide +kernel⟩
set_option maxHeartbeats 2000000 in
theorem are (T : Txt K mg C) : Can P w K mg base 1 "_law_are" ["_law_word", "_law_signs", "_law_most"] sp_is_word := by
  refine fn_can T.f_law_are sc_are (fun vs H Q E h => ?_) (fun f cdv A outer s H vs Q E hr h => ?_)
  · obtain ⟨k, S, m, rfl, _⟩ := h
    rfl
  · obtain ⟨k, S, m, rfl, hl, ha, q⟩ := h
    refine ⟨_, pss_one (ps_ret (pe_and (pe_chain op_le op_le pe_int (pe_b call_len_str T.b_len boot_len (pa1 (pv 0))) (pv 2)) (pe_one (pe_b (call_all_seqK K rfl) T.b_all boot_all (pa1 (pe_lc rfl (lcS sc_are) (pi_str (pv 0)) (fun _ _ _ _ => pts_nil) (fun _ _ _ _ => pe_cmpR op_in_str (pv 0) (pv 2) rfl))))))), ?_⟩
    refine ⟨_, rfl, _, rfl, line6 hl, _, _, rfl, rfl, _, rfl, ?_⟩
    have q' : ∀ H', Same H H' → ∀ b, okW S m k = b → Q (.bl b) H' := fun H' s b e => e ▸ q H' s
    by_cases h1 : (1 : Int) ≤ (k.length : Int)
    · rw [decide_eq_true h1]
      refine iteT ⟨_, rfl, _, _, rfl, rfl, _, rfl, ?_⟩
      by_cases h2 : (k.length : Int) ≤ (m : Int)
      · rw [decide_eq_true h2]
        refine iteT ⟨_, rfl, k, rfl, ha.all, fun D hD => ?_⟩
        refine lc_go (n := k.cps.size) (fun i ys H1 => H1 D = some (.lst ys) ∧ Same H H1 ∧ ys = ((k.cps.toList.take i).map fun c => decide (c ∈ S.cps.toList)).map V.bl) ⟨upd_same, Same.upd hD, rfl⟩ (fun i ys H1 h => h.1) (fun ys H1 h => ⟨Nat.le_refl _, ?_⟩) fun i ys H1 hi h => ⟨hi, fun x H' y => ?_⟩
        · obtain ⟨h1', h2', rfl⟩ := h
          refine ⟨D, _, rfl, .of h1', ?_⟩
          refine q' _ h2' _ ?_
          unfold okW
          rw [decide_eq_true (by omega), decide_eq_true (by omega), Bool.true_and, List.take_of_length_le (by rw [Array.length_toList]; exact Nat.le_refl _), List.all_map]
          rfl
        · obtain ⟨h1', h2', rfl⟩ := h
          obtain ⟨e1, c, hc, e2⟩ := y
          subst e1 e2
          refine yesI ⟨_, rfl, _, rfl, _, _, rfl, rfl, ?_⟩
          have hf : (!(Builtin.Str.occurrences S ⟨#[c]⟩ 0 S.length 1).isEmpty) = decide (c ∈ S.cps.toList) := StrLaws.found_one _ _
          rw [hf]
          have hk8 : k.cps.size ≤ 100000 := hl
          refine LcNx.mk6 hi (by omega) (by rw [List.length_map, List.length_map, List.length_take]; omega) h1' ⟨upd_same, h2'.but_ne hD, ?_⟩
          rw [List.take_add_one, hc]
          simp
      · rw [decide_eq_false h2]
        exact iteF (q' _ (Same.refl _) _ (by unfold okW; rw [decide_eq_false (p := k.length ≤ m) (by omega)]; simp))
    · rw [decide_eq_false h1]
      exact ⟨_, rfl, iteF (q' _ (Same.refl _) _ (by unfold okW; rw [decide_eq_false (p := 1 ≤ k.length) (by omega)]; simp))⟩
inductive sp_words (vs : List V) (H : Hp) (Q : VK) (E : XK) : Prop
  | mk (z : Str) (e : vs = [.str z]) (hl : z.length ≤ 800) (ha : Asc z) (q : ∀ D H', Same H H' → H D = none → H' D = some (.lst ((Txt.split z " ").map V.str)) → Q (.ref D) H') : sp_words vs H Q E
theorem sc_words : FnScope ["_law_row", "_law_found", "_law_sign"] ["_law_row"] (defScope s_law_words) := ⟨rfl, rfl, rfl, by decide +kernel, rfl, by decide +kernel, by decide +kernel⟩
/-- the words of the signs so far -/
structure WdsOf (l : List Nat) (ws : List Str) (a : Str) : Prop where
  j : (Str.join " " (ws ++ [a])).cps.toList = l
  f : ∀ p ∈ ws ++ [a], 32 ∉ p.cps.toList
  n : ws.length ≤ l.length
theorem WdsOf.blank {l : List Nat} {ws : List Str} {a : Str} (h : WdsOf l ws a) : WdsOf (l ++ [32]) (ws ++ [a]) "" := by
  obtain ⟨h1, h2, h3⟩ := h
  refine ⟨?_, fun p hp => ?_, by rw [List.length_append, List.length_append]; simpa using h3⟩
  · rw [join_app " " (xs := ws ++ [a]) (ys := [""]) (by simp) (by simp), PyProof.Rows.join_one, Str.cps_append, Str.cps_append, Array.toList_append, Array.toList_append, h1]
    have e1 : ((" " : String) : Str).cps.toList = [32] := by decide
    have e2 : (("" : String) : Str).cps.toList = [] := by decide
    rw [e1, e2, List.append_nil]
  · rcases List.mem_append.mp hp with z | z
    · exact h2 p z
    · rw [List.mem_singleton.mp z]; decide
theorem WdsOf.sign {l : List Nat} {ws : List Str} {a : Str} {c : Nat} (h : WdsOf l ws a) (hc : c ≠ 32) : WdsOf (l ++ [c]) ws (a ++ ⟨#[c]⟩) := by
  obtain ⟨h1, h2, h3⟩ := h
  refine ⟨?_, fun p hp => ?_, by rw [List.length_append]; omega⟩
  · rw [← join_tail, Str.cps_append, Array.toList_append, h1]
  · rcases List.mem_append.mp hp with z | z
    · exact h2 p (List.mem_append_left _ z)
    · rw [List.mem_singleton.mp z, Str.cps_append, Array.toList_append]
      intro hm
      rcases List.mem_append.mp hm with y | y
      · exact h2 a (by simp) y
      · exact hc (List.mem_singleton.mp y).symm
theorem WdsOf.split {z : Str} {ws : List Str} {a : Str} (h : WdsOf z.cps.toList ws a) : Txt.split z " " = ws ++ [a] := by
  have e : z = Txt.join " " (ws ++ [a]) := by
    rw [tj]
    exact str_ext h.j.symm
  rw [e, blank_is]
  exact split_join (by simp) h.f
theorem ix_last {α : Type} {xs : List α} {v : α} : ixN (xs ++ [v]).length (-1) = some xs.length := by
  unfold ixN
  rw [if_neg (by omega), List.length_append, List.length_singleton, if_pos (by omega)]
  congr 1
  omega
theorem atI_last {xs : List V} {v : V} : atI (xs ++ [v]) (-1) = some v := by
  unfold atI
  rw [ix_last]
  simp
set_option maxHeartbeats 2000000 in
theorem words (T : Txt K mg C) : Can P w K mg base 1 "_law_words" ["_law_row"] sp_words := by
  refine fn_can T.f_law_words sc_words (fun vs H Q E h => ?_) (fun f cdv A outer s H vs Q E hr h => ?_)
  · obtain ⟨z, rfl, _⟩ := h
    rfl
  · obtain ⟨z, rfl, hl, ha, q⟩ := h
    refine ⟨_, (pss_cons (ps_set (i := 1) sc_words.nd rfl (Or.inl rfl) (pe_lst (pa1 pe_str)))
      (pss_cons (ps_for PassesOwn.never rfl (pi_str (pv 0)) (pg_name (i := 2) sc_words.nd rfl (Or.inl rfl))
        (pss_one (ps_if (pt_cmpR op_eq (pv 2) pe_str (nomark _))
          (pss_one (ps_expr (pe_bmK K PySem.F.plainAttrs_list PySem.F.slot_list_append PySem.F.type_list_append mt_append (pv 1) (pa1 pe_str))))
          (pss_one (ps_asg (pe_op op_add_str (pe_ix (ix_listK K) (pv 1) (pe_un un_neg pe_int) (fun _ _ => rfl)) (pv 2)) (pg_sub (pv 1) (pe_un un_neg pe_int) set_list))))))
      (pss_one (ps_ret (pv 1))))), ?_⟩
    refine ⟨one_line, fun D hD => ?_⟩
    refine ⟨_, rfl, z, rfl, ha.all, ?_⟩
    have kD : (upd H D (.lst [V.str ""])) D = some (.lst [V.str ""]) := upd_same
    have sD := Same.upd (H := H) (o := .lst [V.str ""]) hD
    generalize (upd H D (.lst [V.str ""])) = H0 at kD sD
    have w0 : WdsOf [] [] "" := ⟨by decide, fun p hp => by rw [List.mem_singleton.mp hp]; decide, Nat.le_refl _⟩
    refine for_str (fun i σ H1 => ∃ v2 ws a, σ = [some (.str z), some (.ref D), v2] ∧ Same H H1 ∧ H1 D = some (.lst ((ws ++ [a]).map V.str)) ∧ WdsOf (z.cps.toList.take i) ws a) ⟨_, [], "", rfl, sD, kD, w0⟩ (fun i c σ H1 hc h => ?_) (fun σ H1 h => ?_)
    · obtain ⟨v2, ws, a, rfl, s1, k1, wd⟩ := h
      have hzn : z.cps.toList.length = z.length := Array.length_toList
      have hi := (List.getElem?_eq_some_iff.mp hc).1
      have hn := wd.n
      rw [List.length_take] at hn
      refine ⟨_, rfl, rfl, _, rfl, ?_⟩
      have c32 : decide (V.str (⟨#[c]⟩ : Str) = V.str " ") = decide (c = 32) := by
        rw [decide_eq_decide]
        constructor
        · intro h
          have e2 := congrArg (fun x : Str => x.cps.toList) (V.str.inj h)
          have e3 : ((" " : String) : Str).cps.toList = [32] := by decide
          rw [e3] at e2
          exact (List.cons.inj e2).1
        · rintro rfl; decide
      rw [c32]
      by_cases hc32 : c = 32
      · subst hc32
        refine iteC (decide_eq_true rfl) ⟨_, rfl, .inl ⟨rfl, _, .of k1⟩, D, _, _, rfl, rfl, k1, line6 (by rw [List.length_map, List.length_append]; show ws.length + 1 < 100000; omega), ?_⟩
        refine ⟨_, ws ++ [a], "", rfl, s1.but_ne hD, ?_, ?_⟩
        · rw [upd_same, ← List.map_singleton, ← List.map_append]
        · rw [List.take_add_one, hc]
          exact wd.blank
      · refine iteD (decide_eq_false hc32) ?_
        have kz : ((ws ++ [a]).map V.str) = ws.map V.str ++ [V.str a] := by rw [List.map_append, List.map_singleton]
        rw [kz] at k1
        have hal : a.length ≤ z.length := by
          have h1 := mem_join_len " " (ps := ws ++ [a]) (p := a) (by simp)
          have h2 : (Str.join " " (ws ++ [a])).length = (Str.join " " (ws ++ [a])).cps.toList.length := by simp [Str.length]
          rw [h2, wd.j, List.length_take] at h1
          omega
        have hl1 : (⟨#[c]⟩ : Str).length = 1 := rfl
        refine ⟨_, rfl, _, rfl, D, _, _, _, rfl, rfl, .of k1, atI_last, _, rfl, _, _, rfl, rfl, line6 (by omega), _, rfl, _, rfl, D, _, _, _, rfl, rfl, k1, ix_last, ?_⟩
        refine ⟨_, ws, a ++ ⟨#[c]⟩, rfl, s1.but_ne hD, ?_, ?_⟩
        · rw [upd_same, List.map_append, List.map_singleton]
          congr 2
          simp
        · rw [List.take_add_one, hc]
          exact wd.sign hc32
    · obtain ⟨v2, ws, a, rfl, s1, k1, wd⟩ := h
      rw [List.take_of_length_le (Nat.le_refl _)] at wd
      rw [← wd.split] at k1
      exact ⟨_, rfl, q D H1 s1 hD k1⟩
end
end Pr
set_option Elab.async false
set_option linter.all false
set_option maxRecDepth 100000
namespace L2
open PySem PySem.Spec PyProof.Rows
section
variable {X : Cx} {st : Stmt} {rest : List Stmt} {t u : TS} {e : Expr} {te : TE}
def tCut (t u : TS) : TS := fun D σ H => ∃ M : St → Hp → Prop, t { D with nx := M } σ H ∧ ∀ σ' H', M σ' H' → u D σ' H'
theorem pss_cut (h1 : PS X st t) (h2 : PSs X rest u) : PSs X (st :: rest) (tCut t u) := by
  refine ⟨?_⟩
  intro pins s σ H D I h
  obtain ⟨M, a, b⟩ := h
  refine wpAny_execs_cons (thn (h1 pins s σ H { D with nx := M } I a) fun f s1 q => ?_)
  cases f with
  | next =>
    obtain ⟨σ', H', I', q⟩ := q
    exact h2 pins s1 σ' H' D I' (b _ _ q)
  | ret v => exact q
  | brk => exact q
  | cont => exact q
end
end L2
set_option Elab.async false
set_option linter.all false
set_option maxRecDepth 100000
/-! what a word is worth, by the law -/
namespace Pr
open PySem L2 PyProof.Rows Ent
def sgK : Kn → Str
  | .s => "s"
  | .k => "k"
  | .m => "m"
  | .n => "n"
abbrev DG : Str := (("0123456789" : String) : Str)
theorem LT_DG : LT ++ DG = KS := by decide +kernel
theorem DG_mem (c : Nat) : c ∈ DG.cps.toList ↔ (48 ≤ c ∧ c ≤ 57) := by
  constructor
  · have : ∀ c ∈ DG.cps.toList, 48 ≤ c ∧ c ≤ 57 := by decide +kernel
    exact this c
  · rintro ⟨h1, h2⟩
    have : ∀ k, k < 10 → 48 + k ∈ DG.cps.toList := by decide +kernel
    have := this (c - 48) (by omega)
    rw [show 48 + (c - 48) = c by omega] at this
    exact this
theorem okW_DG {m : Nat} {f : Str} : okW DG m f = true ↔ (f.cps.toList ≠ [] ∧ f.cps.toList.length ≤ m ∧ ∀ c ∈ f.cps.toList, 48 ≤ c ∧ c ≤ 57) := by
  have hl : f.length = f.cps.toList.length := by simp [Str.length]
  unfold okW
  rw [hl, Bool.and_eq_true, Bool.and_eq_true, decide_eq_true_eq, decide_eq_true_eq, List.all_eq_true]
  constructor
  · rintro ⟨⟨h1, h2⟩, h3⟩
    exact ⟨List.length_pos_iff.mp h1, h2, fun c hc => (DG_mem c).mp (of_decide_eq_true (h3 c hc))⟩
  · rintro ⟨h1, h2, h3⟩
    exact ⟨⟨List.length_pos_iff.mpr h1, h2⟩, fun c hc => decide_eq_true ((DG_mem c).mpr (h3 c hc))⟩
theorem str1 (c : Nat) (x : Str) (y : Nat) (hx : x.cps.toList = [y]) : decide (V.str (⟨#[c]⟩ : Str) = V.str x) = decide (c = y) := by
  rw [decide_eq_decide]
  constructor
  · intro h
    have e2 := congrArg (fun x : Str => x.cps.toList) (V.str.inj h)
    rw [hx] at e2
    exact (List.cons.inj e2).1
  · rintro rfl
    congr 1
    exact str_ext hx.symm
theorem minus_head (z : Str) : decide (V.str (StrLaws.sliceText z none (some 1)) = V.str "-") = decide (z.cps.toList.head? = some 45) := by
  rw [decide_eq_decide]
  have e := sl_take z 1
  have e' : (StrLaws.sliceText z none (some 1)).cps.toList = z.cps.toList.take 1 := e
  have e3 : (("-" : String) : Str).cps.toList = [45] := by decide
  constructor
  · intro h
    have e2 := congrArg (fun x : Str => x.cps.toList) (V.str.inj h)
    have e4 : z.cps.toList.take 1 = [45] := e'.symm.trans (e2.trans e3)
    cases hd : z.cps.toList with
    | nil => rw [hd] at e4; cases e4
    | cons a r =>
      rw [hd] at e4
      have : a = 45 := (List.cons.inj e4).1
      rw [this]; rfl
  · intro h
    congr 1
    refine str_ext ?_
    rw [e', e3]
    cases hd : z.cps.toList with
    | nil => rw [hd] at h; cases h
    | cons a r => rw [hd] at h; rw [Option.some.inj h]; rfl
section
variable {P : Program} {w : World} {K : PySem.W.Frag} {mg : Str → Option Value} {base : Heap} {C : Addr}
inductive sp_worth (vs : List V) (H : Hp) (Q : VK) (E : XK) : Prop
  | mk (κ : Kn) (z : Str) (e : vs = [.str (sgK κ), .str z]) (hl : z.length ≤ 800) (ha : Asc z) (q : ∀ H', Same H H' → Q (oV (worthM κ z)) H') : sp_worth vs H Q E
theorem sc_worth : FnScope ["_law_kind", "_law_word", "_law_letters", "_law_figures"] ["_law_kind", "_law_word"] (defScope s_law_worth) := ⟨rfl, rfl, rfl, by decide +kernel, rfl, by decide +kernel, by decide +kernel⟩
set_option maxHeartbeats 4000000 in
theorem worth (T : Txt K mg C) : Can P w K mg base 2 "_law_worth" ["_law_kind", "_law_word"] sp_worth := by
  refine fn_can T.f_law_worth sc_worth (fun vs H Q E h => ?_) (fun f cdv A outer s H vs Q E hr h => ?_)
  · obtain ⟨κ, z, rfl, _⟩ := h
    rfl
  · obtain ⟨κ, z, rfl, hl, ha, q⟩ := h
    refine ⟨_, (pss_cons (ps_set (i := 2) sc_worth.nd rfl (Or.inl rfl) pe_str)
      (pss_cons (ps_if (pt_cmpR op_eq (pv 0) pe_str (nomark _))
        (pss_one (ps_ret (pe_ifExp (pt_val (pe_can (are T) hr (pa3 (pv 1) (pv 2) pe_int))) (pv 1) pe_non)))
        pss_nil)
      (pss_cons (ps_if (pt_cmpR op_eq (pv 0) pe_str (nomark _))
        (pss_one (ps_ret (pe_ifExp (pt_val (pe_can (are T) hr (pa3 (pv 1) (pe_op op_add_str (pv 2) pe_str) pe_int))) (pv 1) pe_non)))
        pss_nil)
      (pss_cut (ps_set (i := 3) sc_worth.nd rfl (Or.inl rfl) (pe_ifExp (pt_cmpR op_eq (pe_slice sl_str (pv 1) po_none (po_some pe_int)) pe_str (nomark _)) (pe_slice sl_str (pv 1) (po_some pe_int) po_none) (pv 1)))
      (pss_cons (ps_if (PW.pt (pw_or (pt_not (pt_val (pe_can (are T) hr (pa3 (pv 3) pe_str (pe_dget (hu_of hr) (pe_disp (pps_cons pe_str pe_int (pps_cons pe_str pe_int pps_nil)) rfl rfl (by simp) (by decide)) (pv 0) (fun _ _ => rfl)))))) (pw_or1 (pt_cmpR op_eq (pv 1) pe_str (nomark _)))))
        (pss_one (ps_ret pe_non))
        pss_nil)
      (pss_cons (ps_if (PW.pt (pw_and (pt_cmpR op_gt (pe_b call_len_str T.b_len boot_len (pa1 (pv 3))) pe_int (nomark _)) (pw_and1 (pt_cmpR op_eq (pe_ix ix_str (pv 3) pe_int (fun _ _ => rfl)) pe_str (nomark _)))))
        (pss_one (ps_ret pe_non))
        pss_nil)
      (pss_one (ps_ret (pe_t call_int_text T.b_int boot_int (pa1 (pv 1))))))))))), ?_⟩
    cases κ with
    | s =>
      refine ⟨_, rfl, rfl, _, rfl, iteC (by decide) ⟨_, rfl, _, rfl, .mk z LT 6 rfl (by omega) ha fun H1 s1 => ⟨_, rfl, ?_⟩⟩⟩
      have q1 : Q (oV (if okW LT 6 z = true then some (V.str z) else none)) H1 := q H1 s1
      cases e : okW LT 6 z with
      | true => rw [e] at q1; exact iteT ⟨_, rfl, q1⟩
      | false => rw [e] at q1; exact iteF q1
    | k =>
      refine ⟨_, rfl, rfl, _, rfl, iteD (by decide) ⟨_, rfl, rfl, _, rfl, iteC (by decide) ⟨_, rfl, _, rfl, _, _, rfl, rfl, by decide +kernel, .mk z (LT ++ DG) 8 rfl (by omega) ha fun H1 s1 => ⟨_, rfl, ?_⟩⟩⟩⟩
      have q1 : Q (oV (if okW KS 8 z = true then some (V.str z) else none)) H1 := q H1 s1
      rw [LT_DG]
      cases e : okW KS 8 z with
      | true => rw [e] at q1; exact iteT ⟨_, rfl, q1⟩
      | false => rw [e] at q1; exact iteF q1
    | m =>
      have q' : ∀ H', Same H H' → Q (oV ((numM 30 z).map V.int)) H' := q
      refine ⟨_, rfl, rfl, _, rfl, iteD (by decide) ⟨_, rfl, rfl, _, rfl, iteD (by decide) ?_⟩⟩
      have hz1 : z.length = z.cps.toList.length := str_len z
      refine ⟨fun σ H1 => ∃ fg : Str, σ = [some (.str "m"), some (.str z), some (.str LT), some (.str fg)] ∧ H1 = H ∧ fg.cps.toList = fgs z.cps.toList ∧ fg.length ≤ z.length, ?_, ?_⟩
      · refine ⟨_, rfl, _, rfl, .mk z rfl (by have := slt_len z 1; exact Nat.le_trans this (by omega)) ⟨rfl, _, rfl, ?_⟩⟩
        rw [minus_head]
        by_cases h45 : z.cps.toList.head? = some 45
        · obtain ⟨r, hr45⟩ : ∃ r, z.cps.toList = 45 :: r := by
            cases hd : z.cps.toList with
            | nil => rw [hd] at h45; cases h45
            | cons a r => rw [hd] at h45; exact ⟨r, by rw [Option.some.inj h45]⟩
          have hs := sl_drop z 1
          have hsl := sld_len z 1
          refine iteC (decide_eq_true h45) ⟨_, rfl, _, rfl, .mk z rfl (Nat.le_trans hsl (by omega)) ⟨_, rfl, rfl, ?_, hsl⟩⟩
          have hs' : (StrLaws.sliceText z (some 1) none).cps.toList = z.cps.toList.drop 1 := hs
          rw [hs', hr45]
          rfl
        · refine iteD (decide_eq_false h45) ⟨_, rfl, _, rfl, rfl, ?_, Nat.le_refl _⟩
          unfold fgs
          split
          · next r heq => rw [heq] at h45; exact absurd rfl h45
          · rfl
      rintro σ H1 ⟨fg, rfl, rfl, hff, hfl⟩
      have hfn : fg.length = fg.cps.toList.length := str_len fg
      have non : ¬ Wr 30 z.cps.toList → ∀ H', Same H1 H' → Q .non H' := fun h H' s' => by
        cases e : numM 30 z with
        | none => have := q' H' s'; rw [e] at this; exact this
        | some i =>
          obtain ⟨e1, e2⟩ := numM_some e
          rw [e1] at h
          exact absurd (num_wr (by decide) e2) h
      refine ⟨_, rfl, fun pd hpd => ⟨upd_same, [(.inr "m", .int 30), (.inr "n", .int 40)], rfl, by decide, ?_⟩⟩
      have s1 : Same H1 (upd (upd H1 pd (.dK [])) pd (.dK (mergeK [] [(.inr "m", .int 30), (.inr "n", .int 40)]))) := fun bb oo e => by rw [upd_ne (ne_of_none e hpd), upd_ne (ne_of_none e hpd)]; exact e
      have kd : (upd (upd H1 pd (.dK [])) pd (.dK (mergeK [] [(.inr "m", .int 30), (.inr "n", .int 40)]))) pd = some (.dK (mergeK [] [(.inr "m", .int 30), (.inr "n", .int 40)])) := upd_same
      generalize (upd (upd H1 pd (.dK [])) pd (.dK (mergeK [] [(.inr "m", .int 30), (.inr "n", .int 40)]))) = H2 at s1 kd
      have hv : some (V.int 30) = valV (mergeK [] [(.inr "m", .int 30), (.inr "n", .int 40)]) (.inr "m" : Key) := by decide +kernel
      refine ⟨_, rfl, pd, .int 30, rfl, .inl ⟨_, .inr "m", .inl kd, rfl, hv⟩, .mk fg DG 30 rfl (by omega) (fun c hc => ?_) fun H3 s3 => ⟨_, rfl, ?_⟩⟩
      · rw [hff] at hc
        refine ha c ?_
        unfold fgs at hc
        split at hc
        · next r heq => rw [heq]; exact List.mem_cons_of_mem _ hc
        · exact hc
      have s13 := s1.trans s3
      cases ok : okW DG 30 fg with
      | false =>
        refine iteT (iteT (non (fun w => ?_) H3 s13))
        have : okW DG 30 fg = true := okW_DG.mpr (by rw [hff]; exact ⟨w.ne, w.ln, w.d⟩)
        rw [ok] at this
        cases this
      | true =>
        obtain ⟨o1, o2, o3⟩ := okW_DG.mp ok
        rw [hff] at o1 o2 o3
        refine iteF ⟨_, rfl, rfl, _, rfl, ?_⟩
        by_cases h0 : z = "-0"
        · refine iteC (decide_eq_true (by rw [h0])) (non (fun w => ?_) H3 s13)
          have := w.z (by rw [h0]; decide)
          rw [h0] at this
          exact absurd this (by decide)
        · refine iteD (decide_eq_false fun e => h0 (V.str.inj e)) ?_
          have yes : Wr 30 z.cps.toList → ∃ i, z = ts i ∧ i.natAbs < 10 ^ 30 ∧ Q (.int i) H3 := fun w => by
            obtain ⟨i, e1, e2⟩ := wr_num w
            refine ⟨i, e1, e2, ?_⟩
            have := q' H3 s13
            rw [e1, numM_ts (by decide) e2] at this
            exact this
          have fin : Wr 30 z.cps.toList → ∃ i : Int, Q (.int i) H3 ∧ z = ts i ∧ i.natAbs < 10 ^ 40 ∧ z.length ≤ 41 := fun w => by
            obtain ⟨i, e1, e2, e3⟩ := yes w
            have h40 : i.natAbs < 10 ^ 40 := Nat.lt_of_lt_of_le e2 (Nat.pow_le_pow_right (by decide) (by decide))
            exact ⟨i, e3, e1, h40, by rw [e1]; exact ts_len h40⟩
          obtain ⟨c, r, hcr⟩ : ∃ c r, fgs z.cps.toList = c :: r := by
            cases e : fgs z.cps.toList with
            | nil => exact absurd e o1
            | cons c r => exact ⟨c, r, rfl⟩
          refine ⟨_, rfl, _, rfl, line6 (by omega), _, _, rfl, rfl, _, rfl, ?_⟩
          by_cases h2 : (1 : Int) < (fg.length : Int)
          · refine iteC (decide_eq_true h2) ⟨_, rfl, _, _, c, rfl, rfl, line6 (by omega), atI_nat (j := 0) (by rw [hff, hcr]; rfl), rfl, _, rfl, ?_⟩
            rw [str1 c "0" 48 (by decide)]
            by_cases hc : c = 48
            · refine iteC (decide_eq_true hc) (non (fun w => ?_) H3 s13)
              have hw := w.z (by rw [hcr, hc]; rfl)
              have e1 : fgs z.cps.toList = [48] := by rw [hw]; rfl
              rw [hfn, hff, e1] at h2
              exact absurd h2 (by decide)
            · refine iteD (decide_eq_false hc) ?_
              obtain ⟨i, e3, e1, h40, hl41⟩ := fin ⟨o1, o3, o2, fun z0 => by rw [hcr] at z0; exact absurd (Option.some.inj z0) hc⟩
              subst e1
              exact ⟨_, rfl, _, i, rfl, ts_reads h40, by omega, e3⟩
          · refine iteD (decide_eq_false h2) ?_
            have hr : r = [] := by
              have : (c :: r).length ≤ 1 := by rw [← hcr, ← hff, ← hfn]; omega
              exact List.length_eq_zero_iff.mp (by rw [List.length_cons] at this; omega)
            obtain ⟨i, e3, e1, h40, hl41⟩ := fin ⟨o1, o3, o2, fun z0 => by
              rw [hcr] at z0
              have hc := Option.some.inj z0
              rw [hc, hr] at hcr
              unfold fgs at hcr
              split at hcr
              · next r' heq =>
                exfalso
                apply h0
                refine str_ext ?_
                rw [heq, hcr]
                decide
              · exact hcr⟩
            subst e1
            exact ⟨_, rfl, _, i, rfl, ts_reads h40, by omega, e3⟩
    | n =>
      have q' : ∀ H', Same H H' → Q (oV ((numM 40 z).map V.int)) H' := q
      refine ⟨_, rfl, rfl, _, rfl, iteD (by decide) ⟨_, rfl, rfl, _, rfl, iteD (by decide) ?_⟩⟩
      have hz1 : z.length = z.cps.toList.length := str_len z
      refine ⟨fun σ H1 => ∃ fg : Str, σ = [some (.str "n"), some (.str z), some (.str LT), some (.str fg)] ∧ H1 = H ∧ fg.cps.toList = fgs z.cps.toList ∧ fg.length ≤ z.length, ?_, ?_⟩
      · refine ⟨_, rfl, _, rfl, .mk z rfl (by have := slt_len z 1; exact Nat.le_trans this (by omega)) ⟨rfl, _, rfl, ?_⟩⟩
        rw [minus_head]
        by_cases h45 : z.cps.toList.head? = some 45
        · obtain ⟨r, hr45⟩ : ∃ r, z.cps.toList = 45 :: r := by
            cases hd : z.cps.toList with
            | nil => rw [hd] at h45; cases h45
            | cons a r => rw [hd] at h45; exact ⟨r, by rw [Option.some.inj h45]⟩
          have hs := sl_drop z 1
          have hsl := sld_len z 1
          refine iteC (decide_eq_true h45) ⟨_, rfl, _, rfl, .mk z rfl (Nat.le_trans hsl (by omega)) ⟨_, rfl, rfl, ?_, hsl⟩⟩
          have hs' : (StrLaws.sliceText z (some 1) none).cps.toList = z.cps.toList.drop 1 := hs
          rw [hs', hr45]
          rfl
        · refine iteD (decide_eq_false h45) ⟨_, rfl, _, rfl, rfl, ?_, Nat.le_refl _⟩
          unfold fgs
          split
          · next r heq => rw [heq] at h45; exact absurd rfl h45
          · rfl
      rintro σ H1 ⟨fg, rfl, rfl, hff, hfl⟩
      have hfn : fg.length = fg.cps.toList.length := str_len fg
      have non : ¬ Wr 40 z.cps.toList → ∀ H', Same H1 H' → Q .non H' := fun h H' s' => by
        cases e : numM 40 z with
        | none => have := q' H' s'; rw [e] at this; exact this
        | some i =>
          obtain ⟨e1, e2⟩ := numM_some e
          rw [e1] at h
          exact absurd (num_wr (by decide) e2) h
      refine ⟨_, rfl, fun pd hpd => ⟨upd_same, [(.inr "m", .int 30), (.inr "n", .int 40)], rfl, by decide, ?_⟩⟩
      have s1 : Same H1 (upd (upd H1 pd (.dK [])) pd (.dK (mergeK [] [(.inr "m", .int 30), (.inr "n", .int 40)]))) := fun bb oo e => by rw [upd_ne (ne_of_none e hpd), upd_ne (ne_of_none e hpd)]; exact e
      have kd : (upd (upd H1 pd (.dK [])) pd (.dK (mergeK [] [(.inr "m", .int 30), (.inr "n", .int 40)]))) pd = some (.dK (mergeK [] [(.inr "m", .int 30), (.inr "n", .int 40)])) := upd_same
      generalize (upd (upd H1 pd (.dK [])) pd (.dK (mergeK [] [(.inr "m", .int 30), (.inr "n", .int 40)]))) = H2 at s1 kd
      have hv : some (V.int 40) = valV (mergeK [] [(.inr "m", .int 30), (.inr "n", .int 40)]) (.inr "n" : Key) := by decide +kernel
      refine ⟨_, rfl, pd, .int 40, rfl, .inl ⟨_, .inr "n", .inl kd, rfl, hv⟩, .mk fg DG 40 rfl (by omega) (fun c hc => ?_) fun H3 s3 => ⟨_, rfl, ?_⟩⟩
      · rw [hff] at hc
        refine ha c ?_
        unfold fgs at hc
        split at hc
        · next r heq => rw [heq]; exact List.mem_cons_of_mem _ hc
        · exact hc
      have s13 := s1.trans s3
      cases ok : okW DG 40 fg with
      | false =>
        refine iteT (iteT (non (fun w => ?_) H3 s13))
        have : okW DG 40 fg = true := okW_DG.mpr (by rw [hff]; exact ⟨w.ne, w.ln, w.d⟩)
        rw [ok] at this
        cases this
      | true =>
        obtain ⟨o1, o2, o3⟩ := okW_DG.mp ok
        rw [hff] at o1 o2 o3
        refine iteF ⟨_, rfl, rfl, _, rfl, ?_⟩
        by_cases h0 : z = "-0"
        · refine iteC (decide_eq_true (by rw [h0])) (non (fun w => ?_) H3 s13)
          have := w.z (by rw [h0]; decide)
          rw [h0] at this
          exact absurd this (by decide)
        · refine iteD (decide_eq_false fun e => h0 (V.str.inj e)) ?_
          have yes : Wr 40 z.cps.toList → ∃ i, z = ts i ∧ i.natAbs < 10 ^ 40 ∧ Q (.int i) H3 := fun w => by
            obtain ⟨i, e1, e2⟩ := wr_num w
            refine ⟨i, e1, e2, ?_⟩
            have := q' H3 s13
            rw [e1, numM_ts (by decide) e2] at this
            exact this
          have fin : Wr 40 z.cps.toList → ∃ i : Int, Q (.int i) H3 ∧ z = ts i ∧ i.natAbs < 10 ^ 40 ∧ z.length ≤ 41 := fun w => by
            obtain ⟨i, e1, e2, e3⟩ := yes w
            have h40 : i.natAbs < 10 ^ 40 := Nat.lt_of_lt_of_le e2 (Nat.pow_le_pow_right (by decide) (by decide))
            exact ⟨i, e3, e1, h40, by rw [e1]; exact ts_len h40⟩
          obtain ⟨c, r, hcr⟩ : ∃ c r, fgs z.cps.toList = c :: r := by
            cases e : fgs z.cps.toList with
            | nil => exact absurd e o1
            | cons c r => exact ⟨c, r, rfl⟩
          refine ⟨_, rfl, _, rfl, line6 (by omega), _, _, rfl, rfl, _, rfl, ?_⟩
          by_cases h2 : (1 : Int) < (fg.length : Int)
          · refine iteC (decide_eq_true h2) ⟨_, rfl, _, _, c, rfl, rfl, line6 (by omega), atI_nat (j := 0) (by rw [hff, hcr]; rfl), rfl, _, rfl, ?_⟩
            rw [str1 c "0" 48 (by decide)]
            by_cases hc : c = 48
            · refine iteC (decide_eq_true hc) (non (fun w => ?_) H3 s13)
              have hw := w.z (by rw [hcr, hc]; rfl)
              have e1 : fgs z.cps.toList = [48] := by rw [hw]; rfl
              rw [hfn, hff, e1] at h2
              exact absurd h2 (by decide)
            · refine iteD (decide_eq_false hc) ?_
              obtain ⟨i, e3, e1, h40, hl41⟩ := fin ⟨o1, o3, o2, fun z0 => by rw [hcr] at z0; exact absurd (Option.some.inj z0) hc⟩
              subst e1
              exact ⟨_, rfl, _, i, rfl, ts_reads h40, by omega, e3⟩
          · refine iteD (decide_eq_false h2) ?_
            have hr : r = [] := by
              have : (c :: r).length ≤ 1 := by rw [← hcr, ← hff, ← hfn]; omega
              exact List.length_eq_zero_iff.mp (by rw [List.length_cons] at this; omega)
            obtain ⟨i, e3, e1, h40, hl41⟩ := fin ⟨o1, o3, o2, fun z0 => by
              rw [hcr] at z0
              have hc := Option.some.inj z0
              rw [hc, hr] at hcr
              unfold fgs at hcr
              split at hcr
              · next r' heq =>
                exfalso
                apply h0
                refine str_ext ?_
                rw [heq, hcr]
                decide
              · exact hcr⟩
            subst e1
            exact ⟨_, rfl, _, i, rfl, ts_reads h40, by omega, e3⟩
end
end Pr
set_option Elab.async false
set_option linter.all false
set_option maxRecDepth 100000
/-! what is due of a row -/
namespace L2
open PySem PyProof.Rows
theorem op_in_seqK {X : Cx} (K : PySem.W.Frag) (ek : X.K = K := by rfl) : OpR X (compareOp .In) (rIn K false) := by subst ek; exact op_in_seq
end L2
namespace Pr
open PySem L2 PyProof.Rows Ent
def sgc : Kn → Nat
  | .s => 115
  | .k => 107
  | .m => 109
  | .n => 110
def sgs (ks : List Kn) : Str := ⟨(ks.map sgc).toArray⟩
theorem sgK_is (κ : Kn) : (⟨#[sgc κ]⟩ : Str) = sgK κ := by cases κ <;> decide
theorem sgV_sgs (ks : List Kn) : sgV (sgs ks) = ks.map fun κ => V.str (sgK κ) := by
  unfold sgV sgs
  rw [List.map_map]
  exact List.map_congr_left fun κ _ => by show V.str ⟨#[sgc κ]⟩ = _; rw [sgK_is]
theorem sgs_asc (ks : List Kn) : Asc (sgs ks) := fun c hc => by
  obtain ⟨κ, _, rfl⟩ := List.mem_map.mp (show c ∈ ks.map sgc from hc)
  cases κ <;> decide
theorem sgs_len (ks : List Kn) : (sgs ks).length = ks.length := by show ((ks.map sgc).toArray).size = _; rw [List.size_toArray, List.length_map]
abbrev kds : List (Key × V) := [(.inr "put", .str "skmm"), (.inr "take", .str "sk"), (.inr "shut", .str "nn"), (.inr "open", .str "nn"), (.inr "forget", .str "nm"), (.inr "follow", .str "snnn")]
theorem kds_merge : mergeK [] kds = kds := by decide +kernel
theorem kds_yes {z : Str} {n : Nat} {ks : List Kn} (hr : z ≠ "rank") (hk : kindsM z n = some ks) : valV kds (.inr z) = some (.str (sgs ks)) := by
  unfold kindsM at hk
  rw [if_neg hr] at hk
  by_cases h1 : z = "put"
  · rw [if_pos h1] at hk; cases hk; subst h1; decide +kernel
  rw [if_neg h1] at hk
  by_cases h2 : z = "take"
  · rw [if_pos h2] at hk; cases hk; subst h2; decide +kernel
  rw [if_neg h2] at hk
  by_cases h3 : z = "shut"
  · rw [if_pos h3] at hk; cases hk; subst h3; decide +kernel
  rw [if_neg h3] at hk
  by_cases h4 : z = "open"
  · rw [if_pos h4] at hk; cases hk; subst h4; decide +kernel
  rw [if_neg h4] at hk
  by_cases h5 : z = "forget"
  · rw [if_pos h5] at hk; cases hk; subst h5; decide +kernel
  rw [if_neg h5] at hk
  by_cases h6 : z = "follow"
  · rw [if_pos h6] at hk; cases hk; subst h6; decide +kernel
  rw [if_neg h6] at hk
  cases hk
theorem kds_no {z : Str} {n : Nat} (hr : z ≠ "rank") (hk : kindsM z n = none) : valV kds (.inr z) = none := by
  unfold kindsM at hk
  rw [if_neg hr] at hk
  by_cases h1 : z = "put"
  · rw [if_pos h1] at hk; cases hk
  rw [if_neg h1] at hk
  by_cases h2 : z = "take"
  · rw [if_pos h2] at hk; cases hk
  rw [if_neg h2] at hk
  by_cases h3 : z = "shut"
  · rw [if_pos h3] at hk; cases hk
  rw [if_neg h3] at hk
  by_cases h4 : z = "open"
  · rw [if_pos h4] at hk; cases hk
  rw [if_neg h4] at hk
  by_cases h5 : z = "forget"
  · rw [if_pos h5] at hk; cases hk
  rw [if_neg h5] at hk
  by_cases h6 : z = "follow"
  · rw [if_pos h6] at hk; cases hk
  rw [valV_neg (inr_ne h1), valV_neg (inr_ne h2), valV_neg (inr_ne h3), valV_neg (inr_ne h4), valV_neg (inr_ne h5), valV_neg (inr_ne h6)]
  rfl
theorem kds_rank : valV kds (.inr "rank") = none := by decide +kernel
/-- a deed's kinds, as the law has them -/
inductive KdV (w0 : Str) (n : Nat) (v : V) : Prop
  | yes (ks : List Kn) (h : kindsM w0 n = some ks) (e : v = .str (sgs ks)) : KdV w0 n v
  | no (h : kindsM w0 n = none ∨ (w0 = "rank" ∧ n = 0)) (e : v = .non) : KdV w0 n v
noncomputable def foundL (ks : List Kn) (ws : List Str) : List V := List.zipWith (fun κ z => oV (worthM κ z)) ks ws
theorem worth_flat {κ : Kn} {z : Str} : flatV (oV (worthM κ z)) = true := by
  cases κ with
  | s =>
    show flatV (oV (if okW LT 6 z = true then some (V.str z) else none)) = true
    split <;> rfl
  | k =>
    show flatV (oV (if okW KS 8 z = true then some (V.str z) else none)) = true
    split <;> rfl
  | m =>
    show flatV (oV ((numM 30 z).map V.int)) = true
    cases numM 30 z <;> rfl
  | n =>
    show flatV (oV ((numM 40 z).map V.int)) = true
    cases numM 40 z <;> rfl
theorem found_flat : ∀ (ks : List Kn) (ws : List Str), (foundL ks ws).all flatV = true
  | [], _ => rfl
  | _ :: _, [] => rfl
  | κ :: ks, z :: ws => by
    show (flatV (oV (worthM κ z)) && (foundL ks ws).all flatV) = true
    rw [worth_flat, found_flat ks ws]
    rfl
theorem eq_non {v : V} (h : v ≠ .non) : eqV v .non = false := by
  cases v <;> first | rfl | exact absurd rfl h
theorem found_in : ∀ (ks : List Kn) (ws : List Str), ks.length = ws.length → (inV .non (foundL ks ws) = true → allW ks ws = none) ∧ (inV .non (foundL ks ws) = false → allW ks ws = some (foundL ks ws))
  | [], [], _ => ⟨(fun h => by cases h), fun _ => rfl⟩
  | κ :: ks, z :: ws, hl => by
    have ih := found_in ks ws (by simpa using hl)
    have e : inV .non (foundL (κ :: ks) (z :: ws)) = (eqV (oV (worthM κ z)) .non || inV .non (foundL ks ws)) := rfl
    have ea : allW (κ :: ks) (z :: ws) = (worthM κ z).bind fun v => (allW ks ws).map (v :: ·) := rfl
    have ef : foundL (κ :: ks) (z :: ws) = oV (worthM κ z) :: foundL ks ws := rfl
    rw [e, ea, ef]
    cases hw : worthM κ z with
    | none => exact ⟨fun _ => rfl, fun h => by cases h⟩
    | some v =>
      have hv : eqV (oV (some v)) .non = false := eq_non (worth_ne hw)
      rw [hv, Bool.false_or]
      refine ⟨fun h => ?_, fun h => ?_⟩
      · show (allW ks ws).map (v :: ·) = none
        rw [ih.1 h]; rfl
      · show (allW ks ws).map (v :: ·) = some (v :: foundL ks ws)
        rw [ih.2 h]; rfl
theorem found_len {ks : List Kn} {ws : List Str} (h : ks.length = ws.length) : (foundL ks ws).length = ks.length := by
  unfold foundL
  rw [List.length_zipWith, h, Nat.min_self]
theorem found_take {ks : List Kn} {ws : List Str} {i : Nat} {κ : Kn} {z : Str} (hk : ks[i]? = some κ) (hz : ws[i]? = some z) : foundL (ks.take (i + 1)) (ws.take (i + 1)) = foundL (ks.take i) (ws.take i) ++ [oV (worthM κ z)] := by
  unfold foundL
  have hi := (List.getElem?_eq_some_iff.mp hk).1
  have hi' := (List.getElem?_eq_some_iff.mp hz).1
  rw [List.take_add_one, List.take_add_one, hk, hz]
  rw [List.zipWith_append (by rw [List.length_take, List.length_take]; omega)]
  rfl
theorem mul_s (n : Nat) : Txt.mul "s" (n : Int) = sgs (List.replicate n .s) := by
  refine str_ext ?_
  have e : (("s" : String) : Str) = ⟨#[115]⟩ := by decide
  rw [e, mul_one_list, Int.toNat_natCast]
  show _ = (List.replicate n Kn.s).map sgc
  rw [List.map_replicate]
  rfl
section
variable {P : Program} {w : World} {K : PySem.W.Frag} {mg : Str → Option Value} {base : Heap} {C : Addr}
inductive sp_due (vs : List V) (H : Hp) (Q : VK) (E : XK) : Prop
  | mk (z : Str) (e : vs = [.str z]) (hl : z.length ≤ 800) (ha : Asc z) (q : ∀ v H', Same H H' → RowV H' z v → Q v H') : sp_due vs H Q E
theorem sc_due : FnScope ["_law_row", "_law_words_here", "_law_kinds", "_law_found"] ["_law_row"] (defScope s_law_due) := ⟨rfl, rfl, rfl, by decide +kernel, rfl, by decide +kernel, by decide +kernel⟩
set_option maxHeartbeats 4000000 in
theorem due (T : Txt K mg C) : Can P w K mg base 3 "_law_due" ["_law_row"] sp_due := by
  refine fn_can T.f_law_due sc_due (fun vs H Q E h => ?_) (fun f cdv A outer s H vs Q E hr h => ?_)
  · obtain ⟨z, rfl, _⟩ := h
    rfl
  · obtain ⟨z, rfl, hl, ha, q⟩ := h
    refine ⟨_, (pss_cons (ps_set (i := 1) sc_due.nd rfl (Or.inl rfl) (pe_can (words T) hr (pa1 (pv 0))))
      (pss_cons (ps_set (i := 2) sc_due.nd rfl (Or.inl rfl) (pe_dget1 (hu_of hr) (pe_disp (pps_cons pe_str pe_str (pps_cons pe_str pe_str (pps_cons pe_str pe_str (pps_cons pe_str pe_str (pps_cons pe_str pe_str (pps_cons pe_str pe_str pps_nil)))))) rfl rfl (by simp) (by decide)) (pe_ix (ix_listK K) (pv 1) pe_int (fun _ _ => rfl)) ⟨rfl, rfl, rfl, rfl⟩))
      (pss_cut (ps_if (PW.pt (pw_and (pt_cmpR op_eq (pe_ix (ix_listK K) (pv 1) pe_int (fun _ _ => rfl)) pe_str (nomark _)) (pw_and1 (pt_cmpR op_gt (pe_b (call_lenK K) T.b_len boot_len (pa1 (pv 1))) pe_int (nomark _)))))
        (pss_one (ps_set (i := 2) sc_due.nd rfl (Or.inl rfl) (pe_op op_mulS pe_str (pe_op op_sub (pe_b (call_lenK K) T.b_len boot_len (pa1 (pv 1))) pe_int))))
        pss_nil)
      (pss_cons (ps_if (PW.pt (pw_or (pt_cmpR op_isN (pv 2) pe_non (nomark _)) (pw_or1 (pt_cmpR op_ne (pe_b call_len_str T.b_len boot_len (pa1 (pv 2))) (pe_op op_sub (pe_b (call_lenK K) T.b_len boot_len (pa1 (pv 1))) pe_int) (nomark _)))))
        (pss_one (ps_ret pe_non))
        pss_nil)
      (pss_cons (ps_setLN (i := 3) (xs := ["_law_kind", "_law_word"]) (Ns := ["_law_row", "_law_words_here", "_law_kinds", "_law_found"]) sc_due.nd rfl rfl rfl (lnS _ sc_due) (pi_zipS K rfl T.b_zip (pa2 (pv 2) (pe_slice (sl_listK K) (pv 1) (po_some pe_int) po_none))) (pg_pair rfl (lnS _ sc_due)) (fun _ _ _ _ => pts_nil) (fun _ _ _ _ => (pe_can (worth T) hr (pa2 (pv 0) (pv 1)))))
      (pss_one (ps_ret (pe_ifExp (pt_cmpR (op_in_seqK K) pe_non (pv 3) rfl) pe_non (pe_op op_cat (pe_slice (sl_listK K) (pv 1) po_none (po_some pe_int)) (pv 3)))))))))), ?_⟩
    refine ⟨_, rfl, .mk z rfl hl ha fun D H1 s1 hD k1 => ?_⟩
    have scn := split_cnt z " " (by decide)
    have snn : Txt.split z " " ≠ [] := split_ne z (by decide +kernel)
    obtain ⟨w0, ws, hws⟩ : ∃ w0 ws, Txt.split z " " = w0 :: ws := by
      cases e : Txt.split z " " with
      | nil => exact absurd e snn
      | cons a b => exact ⟨a, b, rfl⟩
    have wl : ∀ y ∈ ws, y.length ≤ z.length := fun y hy => split_mem (c := " ") (by rw [hws]; exact List.mem_cons_of_mem _ hy)
    have wa : ∀ y ∈ ws, Asc y := fun y hy c hc => ha c (split_sign (c := " ") (by rw [hws]; exact List.mem_cons_of_mem _ hy) c hc)
    have hrow := rowM_of hws
    rw [hws] at scn k1
    rw [List.length_cons] at scn
    intro pd hpd
    refine ⟨upd_same, kds, rfl, by decide, ?_⟩
    rw [kds_merge]
    have s2 : Same H1 (upd (upd H1 pd (.dK [])) pd (.dK kds)) := fun bb oo e => by rw [upd_ne (ne_of_none e hpd), upd_ne (ne_of_none e hpd)]; exact e
    have kd : (upd (upd H1 pd (.dK [])) pd (.dK kds)) pd = some (.dK kds) := upd_same
    generalize (upd (upd H1 pd (.dK [])) pd (.dK kds)) = H2 at s2 kd
    have k2 := s2 _ _ k1
    have s12 := s1.trans s2
    refine ⟨pd, rfl, .inl ⟨_, .inl kd⟩, _, rfl, D, _, _, _, rfl, rfl, .of k2, atI_nat (j := 0) rfl, _, .inl ⟨kds, .inr w0, .inl kd, rfl, rfl⟩, ?_⟩
    have hwn : ((w0 :: ws).map V.str).length = ws.length + 1 := by rw [List.length_map, List.length_cons]
    refine ⟨fun σ H3 => ∃ kv, σ = [some (.str z), some (.ref D), some kv, none] ∧ H3 = H2 ∧ KdV w0 ws.length kv, ?_, ?_⟩
    · refine ⟨_, rfl, D, _, _, _, rfl, rfl, .of k2, atI_nat (j := 0) rfl, rfl, _, rfl, ?_⟩
      by_cases h0 : w0 = "rank"
      · subst h0
        refine iteC (decide_eq_true rfl) ⟨_, rfl, D, _, rfl, .inl (.of k2), _, _, rfl, rfl, _, rfl, ?_⟩
        by_cases hn : ws.length = 0
        · refine iteD (decide_eq_false (by rw [hwn, hn]; decide)) ⟨_, rfl, rfl, .no (.inr ⟨rfl, hn⟩) ?_⟩
          rw [kds_rank]
          rfl
        · refine iteC (decide_eq_true (by rw [hwn]; omega)) ⟨_, rfl, D, _, rfl, .inl (.of k2), _, _, rfl, rfl, ?_⟩
          have hs1 : (("s" : String) : Str).length = 1 := by decide
          have hv : V.int ((((("rank" : String) : Str) :: ws).map V.str).length - 1 : Int) = V.int (ws.length : Int) := by
            rw [hwn]
            congr 1
            omega
          rw [hv]
          refine .mk "s" (ws.length : Int) rfl rfl (by omega) (by omega) (by rw [Int.toNat_natCast, hs1]; omega) ⟨_, rfl, rfl, .yes _ (rank_kinds _) ?_⟩
          rw [mul_s, Nat.max_eq_left (by omega)]
      · refine iteD (decide_eq_false fun e => h0 (V.str.inj e)) ⟨_, rfl, rfl, ?_⟩
        cases e : kindsM w0 ws.length with
        | none => exact .no (.inl e) (by rw [kds_no h0 e]; rfl)
        | some ks => exact .yes ks e (by rw [kds_yes h0 e]; rfl)
    rintro σ H3 ⟨kv, rfl, rfl, hkv⟩
    cases hkv with
    | no h e =>
      subst e
      refine ⟨_, rfl, rfl, _, rfl, iteC (by decide) (iteT (q _ _ s12 (.no ?_ rfl)))⟩
      rw [hrow]
      rcases h with h | ⟨h, hn⟩
      · rw [h]; rfl
      · subst h
        rw [rank_kinds, hn]
        rfl
    | yes ks hk e =>
      subst e
      have hkl := kinds_row hk (by omega)
      have hsl := sgs_len ks
      refine ⟨_, rfl, rfl, _, rfl, iteD (decide_eq_false (by intro e; cases e)) ⟨_, rfl, _, rfl, line6 (by omega), _, rfl, D, _, rfl, .inl (.of k2), _, _, rfl, rfl, rfl, _, rfl, ?_⟩⟩
      rw [hwn, hsl]
      by_cases hlen : ks.length = ws.length
      · refine iteD ?_ ?_
        · have : V.int (ks.length : Int) = V.int (((ws.length + 1 : Nat) : Int) - 1) := by congr 1; omega
          rw [decide_eq_true this]
          rfl
        refine ⟨_, rfl, _, rfl, _, rfl, D, _, rfl, .of k2, fun p4 hp4 => ?_⟩
        rw [List.map_cons, cut_from1]
        have s4 := Same.upd (H := H3) (o := .lst (ws.map V.str)) hp4
        have k4 : (upd H3 p4 (.lst (ws.map V.str))) p4 = some (.lst (ws.map V.str)) := upd_same
        generalize (upd H3 p4 (.lst (ws.map V.str))) = H4 at s4 k4
        refine ⟨sgs ks, p4, _, rfl, (sgs_asc ks).all, .of k4, fun L hL => ?_⟩
        have hvl : (sgV (sgs ks)).length = ks.length := by rw [sgV_sgs, List.length_map]
        have hwl : (ws.map V.str).length = ws.length := List.length_map _
        refine lcN_zipA (xs := sgV (sgs ks)) (ys := ws.map V.str) (by omega) (fun i ys H5 => H5 L = some (.lst ys) ∧ Same H4 H5 ∧ ys = foundL (ks.take i) (ws.take i)) ⟨upd_same, Same.upd hL, rfl⟩ (fun i ys H5 h => ⟨h.1, rfl, .of (h.2.1 _ _ k4)⟩) (fun ys H5 h => ?_) fun i y1 y2 t ys H5 u hu hi hy1 hy2 h htn => ?_
        · obtain ⟨h1, h2, h3⟩ := h
          rw [hvl, List.take_of_length_le (Nat.le_refl _), List.take_of_length_le (by omega)] at h3
          subst h3
          obtain ⟨fin1, fin2⟩ := found_in ks ws hlen
          have s15 := s12.trans (s4.trans h2)
          refine ⟨_, rfl, L, _, rfl, .inl (.of h1), rfl, found_flat ks ws, ?_⟩
          have hro : rowM z = (allW ks ws).map (V.str w0 :: ·) := by
            rw [hrow, hk]
            show (if ks.length = ws.length then (allW ks ws).map (V.str w0 :: ·) else none) = _
            rw [if_pos hlen]
          cases e : inV .non (foundL ks ws) with
          | true =>
            refine ⟨_, rfl, iteT (q _ _ s15 (.no ?_ rfl))⟩
            rw [hro, fin1 e]; rfl
          | false =>
            refine ⟨_, rfl, iteF ⟨_, rfl, _, rfl, D, _, rfl, .of (h2 _ _ (s4 _ _ k2)), fun p6 hp6 => ?_⟩⟩
            rw [List.map_cons, cut_to1]
            have s6 := Same.upd (H := H5) (o := .lst [V.str w0]) hp6
            have k6 : (upd H5 p6 (.lst [V.str w0])) p6 = some (.lst [V.str w0]) := upd_same
            generalize (upd H5 p6 (.lst [V.str w0])) = H6 at s6 k6
            refine ⟨_, rfl, p6, L, _, _, rfl, rfl, k6, s6 _ _ h1, line6 (by show 1 + (foundL ks ws).length ≤ 100000; rw [found_len hlen]; omega), fun p7 hp7 => ?_⟩
            refine q _ _ (s15.trans (s6.trans (Same.upd hp7))) (.yes (V.str w0 :: foundL ks ws) p7 ?_ rfl upd_same)
            rw [hro, fin2 e]; rfl
        · obtain ⟨h1, h2, h3⟩ := h
          obtain ⟨u1, u2, rfl⟩ := len2 hu
          rw [hvl] at hi
          have hki : ks[i]? = some ks[i] := List.getElem?_eq_getElem hi
          have hwi : ws[i]? = some ws[i] := List.getElem?_eq_getElem (by omega)
          have e1 : y1 = .str (sgK ks[i]) := by
            rw [sgV_sgs, List.getElem?_map, hki] at hy1
            exact (Option.some.inj hy1).symm
          have e2 : y2 = .str ws[i] := by
            rw [List.getElem?_map, hwi] at hy2
            exact (Option.some.inj hy2).symm
          subst e1 e2
          have st := Same.upd (H := H5) (o := .tup [.str (sgK ks[i]), .str ws[i]]) htn
          have kt : (upd H5 t (.tup [.str (sgK ks[i]), .str ws[i]])) t = some (.tup [.str (sgK ks[i]), .str ws[i]]) := upd_same
          generalize (upd H5 t (.tup [.str (sgK ks[i]), .str ws[i]])) = H6 at st kt
          have hm := List.mem_of_getElem? hwi
          have hwl2 := wl _ hm
          refine ⟨t, _, rfl, .of kt, rfl, _, _, rfl, _, _, rfl, rfl, ⟨[some (.str (sgK ks[i])), some (.str ws[i])], rfl, rfl⟩, yesI ⟨_, rfl, _, rfl, .mk ks[i] ws[i] rfl (by omega) (wa _ hm) fun H7 s7 => ?_⟩⟩
          have hyl : ys.length ≤ i := by
            rw [h3]
            unfold foundL
            rw [List.length_zipWith, List.length_take]
            omega
          exact LcNx.mk6 (by omega) (by omega) hyl (s7 _ _ (st _ _ h1)) ⟨upd_same, ((h2.trans st).trans s7).but_ne hL, by rw [h3]; exact (found_take hki hwi).symm⟩
      · refine iteC ?_ (q _ _ s12 (.no ?_ rfl))
        · have : ¬ V.int (ks.length : Int) = V.int (((ws.length + 1 : Nat) : Int) - 1) := fun e => by
            have := V.int.inj e
            omega
          rw [decide_eq_false this]
          rfl
        · rw [hrow, hk]
          show (if ks.length = ws.length then (allW ks ws).map (V.str w0 :: ·) else none) = none
          rw [if_neg hlen]
end
end Pr
set_option Elab.async false
set_option linter.all false
set_option maxRecDepth 100000
/-! the law's draws: texts, numbers -/
namespace L2
open PySem PyProof.Rows
theorem mt_joinK {X : Cx} (K : PySem.W.Frag) (e : X.K = K := by rfl) : MtR X "str.join" (fun x xs H Q => ∃ sep D, ∃ ts : List Str, x = .str sep ∧ xs = [.ref D] ∧ SqL K H D (ts.map V.str) ∧ JoinOk sep ts = true ∧ Q (.str (Txt.join sep ts)) H) := by subst e; exact mt_join
end L2
namespace Pr
open PySem L2 PyProof.Rows Ent
theorem atI_ints {S : List Int} {i : Int} (h0 : 0 ≤ i) (h1 : i < (S.length : Int)) : atI (S.map V.int) i = some (.int (S.getD i.toNat 0)) := by
  obtain ⟨n, rfl⟩ : ∃ n : Nat, i = n := ⟨i.toNat, by omega⟩
  refine atI_nat ?_
  rw [Int.toNat_natCast, List.getElem?_map, List.getElem?_eq_getElem (by omega), List.getD_eq_getElem?_getD, List.getElem?_eq_getElem (by omega)]
  rfl
theorem two_line : 2 ≤ sizeLine := by decide
/-- the law's pot of draws: a list of two ints -/
inductive PotAt (H : Hp) (p : Addr) : Prop
  | mk (x : Int) (y : Int) (h : H p = some (.lst [.int x, .int y])) : PotAt H p
theorem PotAt.ne {H : Hp} {p l : Addr} (h : PotAt H p) (hl : H l = none) : l ≠ p := by
  obtain ⟨x, y, h⟩ := h
  exact Ne.symm (ne_of_none h hl)
theorem PotAt.same {H H' : Hp} {p : Addr} (h : PotAt H p) (s : Same H H') : PotAt H' p := by
  obtain ⟨x, y, h⟩ := h
  exact ⟨x, y, s _ _ h⟩
section
variable {P : Program} {w : World} {K : PySem.W.Frag} {mg : Str → Option Value} {base : Heap} {C : Addr}
inductive sp_cell (K : PySem.W.Frag) (vs : List V) (H : Hp) (Q : VK) (E : XK) : Prop
  | mk (a : Addr) (ns : List Int) (k : Int) (e : vs = [.ref a, .int k]) (h : SqL K H a (ns.map V.int)) (hk : 0 ≤ k) (q : ∀ n, Q (.int n) H) : sp_cell K vs H Q E
theorem sc_cell : FnScope ["_law_script", "_law_k"] ["_law_script", "_law_k"] (defScope s_law_cell) := ⟨rfl, rfl, rfl, by decide +kernel, rfl, by decide +kernel, by decide +kernel⟩
theorem cell (T : Txt K mg C) : Can P w K mg base 1 "_law_cell" ["_law_script", "_law_k"] (sp_cell K) := by
  refine fn_can T.f_law_cell sc_cell (fun vs H Q E h => ?_) (fun f cdv A outer s H vs Q E hr h => ?_)
  · obtain ⟨a, ns, k, rfl, _⟩ := h
    rfl
  · obtain ⟨a, ns, k, rfl, ha, hk, q⟩ := h
    refine ⟨_, pss_cons (ps_if (pt_cmpR op_lt (pv 1) (pe_b (call_lenK K) T.b_len boot_len (pa1 (pv 0))) (nomark _)) (pss_one (ps_ret (pe_ix (ix_listK K) (pv 0) (pv 1) (fun _ _ => rfl)))) pss_nil) (pss_one (ps_ret pe_int)), ?_⟩
    refine ⟨_, rfl, _, rfl, a, _, rfl, .inl ha, _, _, rfl, rfl, _, rfl, ite2 (fun hc => ?_) (fun hc => q 0)⟩
    have hc' : k < ((ns.map V.int).length : Int) := of_decide_eq_true hc
    rw [List.length_map] at hc'
    exact ⟨_, rfl, _, rfl, a, _, _, _, rfl, rfl, ha, atI_ints hk hc', q _⟩
inductive sp_pot (vs : List V) (H : Hp) (Q : VK) (E : XK) : Prop
  | mk (c : Int) (e : vs = [.int c]) (q : ∀ p H', Same H H' → H p = none → PotAt H' p → Q (.ref p) H') : sp_pot vs H Q E
theorem sc_pot : FnScope ["_law_cell_here"] ["_law_cell_here"] (defScope s_law_pot) := ⟨rfl, rfl, rfl, by decide +kernel, rfl, by decide +kernel, by decide +kernel⟩
theorem pot (T : Txt K mg C) : Can P w K mg base 1 "_law_pot" ["_law_cell_here"] sp_pot := by
  refine fn_can T.f_law_pot sc_pot (fun vs H Q E h => ?_) (fun f cdv A outer s H vs Q E hr h => ?_)
  · obtain ⟨c, rfl, _⟩ := h
    rfl
  · obtain ⟨c, rfl, q⟩ := h
    refine ⟨_, pss_one (ps_ret (pe_lst (pa2 (pe_b (call_max2 rfl) T.b_max boot_max (pa2 pe_int (pe_op op_sub (pv 0) (pe_op op_pow pe_int pe_int))))
      (pe_op op_add (pe_op op_mod (pe_b call_abs T.b_abs boot_abs (pa1 (pv 0))) pe_int) pe_int)))), ?_⟩
    refine ⟨_, rfl, _, _, rfl, rfl, ⟨by decide +kernel, by decide +kernel, by decide +kernel⟩, _, _, rfl, rfl, _, _, rfl, _, rfl, _, rfl, _, _, rfl, rfl, (by show (0 : Int) < _; decide +kernel), _, _, rfl, rfl, two_line, fun p hp => ?_⟩
    exact q p _ (Same.upd hp) hp ⟨_, _, upd_same⟩
inductive sp_take (vs : List V) (H : Hp) (Q : VK) (E : XK) : Prop
  | mk (p : Addr) (many : Int) (e : vs = [.ref p, .int many]) (h1 : PotAt H p) (h2 : 0 < many) (h3 : many < 2 ^ 300) (q : ∀ d H', 0 ≤ d → d < many → But p H H' → PotAt H' p → Q (.int d) H') : sp_take vs H Q E
theorem sc_take : FnScope ["_law_pot_here", "_law_many", "_law_digit"] ["_law_pot_here", "_law_many"] (defScope s_law_take) := ⟨rfl, rfl, rfl, by decide +kernel, rfl, by decide +kernel, by decide +kernel⟩
theorem take (T : Txt K mg C) : Can P w K mg base 1 "_law_take" ["_law_pot_here", "_law_many"] sp_take := by
  refine fn_can T.f_law_take sc_take (fun vs H Q E h => ?_) (fun f cdv A outer s H vs Q E hr h => ?_)
  · obtain ⟨p, many, rfl, _⟩ := h
    rfl
  · obtain ⟨p, many, rfl, ⟨x, y, hp⟩, h0, h1, q⟩ := h
    refine ⟨_, pss_cons (ps_if (pt_cmpR op_gt (pe_ix (ix_listK K) (pv 0) pe_int (fun _ _ => rfl)) pe_int (nomark _))
        (pss_cons (ps_asg (pe_b call_divmodB T.b_divmod boot_divmod (pa2 (pe_ix (ix_listK K) (pv 0) pe_int (fun _ _ => rfl)) (pv 1))) (pg_tupK K rfl (pgs_cons (pg_sub (pv 0) pe_int set_list) (pgs_cons (pg_name (i := 2) sc_take.nd rfl (Or.inl rfl)) pgs_nil))))
        (pss_one (ps_ret (pv 2)))) pss_nil)
      (pss_cons (ps_asg (pe_op op_mod (pe_op op_add (pe_op op_mul (pe_ix (ix_listK K) (pv 0) pe_int (fun _ _ => rfl)) pe_int) pe_int) pe_int) (pg_sub (pv 0) pe_int set_list))
      (pss_one (ps_ret (pe_op op_mod (pe_op op_fdivB (pe_op op_mod (pe_op op_mul (pe_ix (ix_listK K) (pv 0) pe_int (fun _ _ => rfl)) (pe_ix (ix_listK K) (pv 0) pe_int (fun _ _ => rfl))) pe_int) pe_int) (pv 1))))), ?_⟩
    refine ⟨_, rfl, p, _, _, _, rfl, rfl, .of hp, rfl, _, _, rfl, rfl, _, rfl, ?_⟩
    refine ite2 (fun hc => ?_) (fun hc => ?_)
    · refine ⟨_, rfl, p, _, _, _, rfl, rfl, .of hp, rfl, _, rfl, _, _, rfl, ⟨h0, h1⟩, fun t ht => ?_⟩
      have ne : p ≠ t := ne_of_none hp ht
      have ht2 : Same H (upd H t (.tup [.int (x / many), .int (x % many)])) := Same.upd ht
      refine ⟨t, _, rfl, .of upd_same, rfl, _, _, rfl, _, rfl, p, _, _, _, rfl, rfl, ht2 _ _ hp, rfl, _, _, rfl, rfl, _, rfl, ?_⟩
      refine q _ _ (Int.emod_nonneg _ (by omega)) (Int.emod_lt_of_pos _ h0) (fun b o hb hn => ?_) ⟨_, _, upd_same⟩
      rw [upd_ne hn]
      exact ht2 _ _ hb
    · refine ⟨_, rfl, p, _, _, _, rfl, rfl, .of hp, rfl, _, _, rfl, rfl, .inr ⟨by decide +kernel, by decide +kernel⟩, _, _, rfl, rfl, _, _, rfl, rfl, (by show (0 : Int) < _; decide +kernel), _, rfl, p, _, _, _, rfl, rfl, hp, rfl, ?_⟩
      have hz0 : 0 ≤ (y * 39373 + 7919) % 2147483629 := Int.emod_nonneg _ (by omega)
      have hz1 : (y * 39373 + 7919) % 2147483629 < 2147483629 := Int.emod_lt_of_pos _ (by omega)
      refine ⟨_, rfl, p, _, _, _, rfl, rfl, .of upd_same, rfl, _, rfl, p, _, _, _, rfl, rfl, .of upd_same, rfl, _, _, rfl, rfl, .inl ⟨by omega, by omega⟩, _, _, rfl, rfl, (by show (0 : Int) < _; decide +kernel), _, _, rfl, rfl, ⟨by decide +kernel, by decide +kernel⟩, _, rfl, _, _, rfl, rfl, h0, ?_⟩
      exact q _ _ (Int.emod_nonneg _ (by omega)) (Int.emod_lt_of_pos _ h0) But.upd ⟨_, _, upd_same⟩
end
theorem joinE {ws : List Str} {n : Nat} (h : ∀ x ∈ ws, x.length ≤ n) (hn : ws.length * n ≤ 100000) : JoinOk "" ws = true ∧ (Txt.join "" ws).length ≤ ws.length * n := by
  have e0 : (("" : String) : Str).length = 0 := by decide
  have h2 := Ent.sum_le (f := fun x : Str => x.length) h
  refine ⟨joinOk_of ?_, ?_⟩
  · rw [e0, Nat.mul_zero]; omega
  · have e : Txt.join "" ws = Str.join "" ws := StrLaws.glued_eq_join _ _
    rw [e]
    have h1 := StrLaws.join_length_le "" ws
    rw [e0, Nat.mul_zero] at h1
    omega
theorem asc0 : Asc "" := fun _ h => by
  have e : (("" : String) : Str).cps.toList = [] := by decide
  rw [e] at h
  cases h
theorem atI_strs {S : List Str} {i : Int} (h0 : 0 ≤ i) (h1 : i < (S.length : Int)) : ∃ x ∈ S, atI (S.map V.str) i = some (.str x) := by
  obtain ⟨n, rfl⟩ : ∃ n : Nat, i = n := ⟨i.toNat, by omega⟩
  have hn : n < S.length := by omega
  exact ⟨S[n], List.getElem_mem hn, atI_nat (by rw [List.getElem?_map, List.getElem?_eq_getElem hn]; rfl)⟩
theorem But.free {p l : Addr} {H H' : Hp} (b : But p H H') (h : H' l = none) (hp : PotAt H' p) : H l = none := by
  cases e : H l with
  | none => rfl
  | some o =>
    have := b l o e (hp.ne h)
    rw [h] at this
    cases this
theorem PotAt.upd {H : Hp} {p D : Addr} {o : HO} (h : PotAt H p) (n : D ≠ p) : PotAt (L2.upd H D o) p := by
  obtain ⟨x, y, h⟩ := h
  exact ⟨x, y, by rw [upd_ne (Ne.symm n)]; exact h⟩
theorem But.wr {p D : Addr} {H H' : Hp} {o : HO} (b : But p H H') (h : H D = none) : But p H (L2.upd H' D o) := fun c u e n => by
  rw [upd_ne (ne_of_none e h)]
  exact b _ _ e n
theorem join_asc {c : Str} {ws : List Str} (hc : Asc c) (h : ∀ x ∈ ws, Asc x) : Asc (Txt.join c ws) := fun y hy => by
  rw [tj] at hy
  rcases join_memb hy with h1 | ⟨x, hx, h1⟩
  · exact hc y h1
  · exact h x hx y h1
section
variable {P : Program} {w : World} {K : PySem.W.Frag} {mg : Str → Option Value} {base : Heap} {C : Addr}
inductive sp_text (vs : List V) (H : Hp) (Q : VK) (E : XK) : Prop
  | mk (p : Addr) (S : Str) (m : Nat) (e : vs = [.ref p, .str S, .int (m : Int)]) (h1 : PotAt H p) (hS : Asc S) (l0 : 0 < S.length) (l1 : S.length ≤ 100) (m0 : 0 < m) (m1 : m ≤ 100) (q : ∀ z H', Asc z → z.length ≤ m → But p H H' → PotAt H' p → Q (.str z) H') : sp_text vs H Q E
theorem sc_text : FnScope ["_law_pot_here", "_law_signs", "_law_most"] ["_law_pot_here", "_law_signs", "_law_most"] (defScope s_law_text) := ⟨rfl, rfl, rfl, by decide +kernel, rfl, by decide +kernel, by decide +kernel⟩
set_option maxHeartbeats 2000000 in
theorem text (T : Txt K mg C) : Can P w K mg base 2 "_law_text" ["_law_pot_here", "_law_signs", "_law_most"] sp_text := by
  refine fn_can T.f_law_text sc_text (fun vs H Q E h => ?_) (fun f cdv A outer s H vs Q E hr h => ?_)
  · obtain ⟨p, S, m, rfl, _⟩ := h
    rfl
  · obtain ⟨p, S, m, rfl, hp, hS, l0, l1, m0, m1, q⟩ := h
    refine ⟨_, (pss_one (ps_ret (pe_bmK K PySem.F.plainAttrs_str PySem.F.slot_str_join PySem.F.type_str_join (mt_joinK K) pe_str (pa1 (pe_lc rfl (lcS sc_text) (pi_range1 rfl T.b_range (pa1 (pe_op op_add pe_int (pe_can (take T) hr (pa2 (pv 0) (pv 2)))))) (fun _ _ _ _ => pts_nil) (fun _ _ _ _ => (pe_ix ix_str (pv 2) (pe_can (take T) hr (pa2 (pv 1) (pe_b call_len_str T.b_len boot_len (pa1 (pv 2))))) (fun _ _ => rfl)))))))), ?_⟩
    have hm300 : (m : Int) < 2 ^ 300 := Int.lt_of_le_of_lt (show (m : Int) ≤ 100 by omega) (by decide +kernel)
    have hl300 : (S.length : Int) < 2 ^ 300 := Int.lt_of_le_of_lt (show (S.length : Int) ≤ 100 by omega) (by decide +kernel)
    refine ⟨rfl, _, rfl, _, rfl, p, _, rfl, hp, by omega, hm300, fun d H1 a1 b1 c1 hp1 => ⟨_, _, rfl, rfl, _, rfl, by omega, by omega, fun D hD => ?_⟩⟩
    have hDp : D ≠ p := hp1.ne hD
    refine lc_range (n := (1 + d).toNat) (fun i ys H3 => H3 D = some (.lst ys) ∧ But p H1 H3 ∧ PotAt H3 p ∧ ∃ cs : List Nat, ys = (cs.map fun c => (⟨#[c]⟩ : Str)).map V.str ∧ cs.length = i ∧ ∀ c ∈ cs, c < 128) ⟨upd_same, (Same.upd hD).but, hp1.same (Same.upd hD), [], rfl, rfl, (fun _ h => nomatch h)⟩ (fun i ys H3 h => h.1) (fun ys H3 h => ?_) fun i ys H3 hi h => ?_
    · obtain ⟨h1, h2, h3, cs, rfl, h5, h6⟩ := h
      obtain ⟨j1, j2⟩ := joinE (ws := cs.map fun c => (⟨#[c]⟩ : Str)) (n := 1) (fun x hx => by obtain ⟨c, _, rfl⟩ := List.mem_map.mp hx; exact Nat.le_refl 1) (by rw [List.length_map]; omega)
      rw [List.length_map] at j2
      refine ⟨_, D, _, rfl, rfl, .of h1, j1, q _ _ (join_asc asc0 fun x hx => ?_) (by omega) (c1.trans h2) h3⟩
      obtain ⟨c, hc, rfl⟩ := List.mem_map.mp hx
      exact fun y hy => by rw [List.mem_singleton.mp hy]; exact h6 c hc
    · obtain ⟨h1, h2, h3, cs, rfl, h5, h6⟩ := h
      refine yesI ⟨_, rfl, _, rfl, _, rfl, _, rfl, line6 (by omega), p, _, rfl, h3, by omega, hl300, fun d2 H4 a2 b2 c2 hp4 => ?_⟩
      obtain ⟨n, rfl⟩ : ∃ n : Nat, d2 = n := ⟨d2.toNat, by omega⟩
      have hn : n < S.cps.toList.length := by rw [← str_len]; omega
      have hch : atI S.cps.toList (n : Int) = some S.cps.toList[n] := atI_nat (List.getElem?_eq_getElem hn)
      refine ⟨_, _, _, rfl, rfl, line6 (by omega), hch, LcNx.mk6 hi (by omega) (by rw [List.length_map, List.length_map]; omega) (c2 _ _ h1 hDp) ⟨upd_same, ?_, hp4.upd hDp, cs ++ [S.cps.toList[n]], by rw [List.map_append, List.map_append]; rfl, by rw [List.length_append, h5]; rfl, fun z hz => ?_⟩⟩
      · exact But.wr (h2.trans c2) hD
      · rcases List.mem_append.mp hz with hz | hz
        · exact h6 z hz
        · rw [List.mem_singleton.mp hz]; exact hS _ (List.getElem_mem hn)
theorem ts_len2 {i : Int} (h : i.natAbs < 10 ^ 50) : (ts i).length ≤ 51 := by
  unfold ts
  rw [PySem.ofString_length]
  exact int_text_length_le10 (k := 50) (by decide) h
theorem ts_log2 {i : Int} (h : i.natAbs < 10 ^ 50) : i.natAbs.log2 < 1920 := PySem.Spec.log2_small (Nat.lt_trans h (by decide +kernel))
theorem ts_asc (i : Int) : Asc (ts i) := fun c hc => by have := ts_signs i c hc; omega
theorem lt50 {i : Int} (h1 : -(10 ^ 45 : Int) < i) (h2 : i < (10 ^ 45 : Int)) : i.natAbs < 10 ^ 50 := by
  have e : (10 : Int) ^ 45 = 1000000000000000000000000000000000000000000000 := by decide +kernel
  have e' : (10 : Nat) ^ 50 = 100000000000000000000000000000000000000000000000000 := by decide +kernel
  rw [e] at h1 h2
  rw [e']
  omega
/-- nines -/
theorem nines (m : Int) (h : m ∈ [29, 30, 31, 39, 40, 41]) : ∃ n : Int, PySem.intText? (Txt.mul "9" m) = some n ∧ 0 ≤ n ∧ n < 10 ^ 42 ∧ (Txt.mul "9" m).length ≤ 100 ∧ 0 ≤ m ∧ m ≤ 41 := by
  simp only [List.mem_cons, List.not_mem_nil, or_false] at h
  rcases h with rfl | rfl | rfl | rfl | rfl | rfl
  · exact ⟨10 ^ 29 - 1, by decide +kernel, by decide +kernel, by decide +kernel, by decide +kernel, by decide, by decide⟩
  · exact ⟨10 ^ 30 - 1, by decide +kernel, by decide +kernel, by decide +kernel, by decide +kernel, by decide, by decide⟩
  · exact ⟨10 ^ 31 - 1, by decide +kernel, by decide +kernel, by decide +kernel, by decide +kernel, by decide, by decide⟩
  · exact ⟨10 ^ 39 - 1, by decide +kernel, by decide +kernel, by decide +kernel, by decide +kernel, by decide, by decide⟩
  · exact ⟨10 ^ 40 - 1, by decide +kernel, by decide +kernel, by decide +kernel, by decide +kernel, by decide, by decide⟩
  · exact ⟨10 ^ 41 - 1, by decide +kernel, by decide +kernel, by decide +kernel, by decide +kernel, by decide, by decide⟩
theorem getD_in {S : List Int} {i : Int} (h0 : 0 ≤ i) (h1 : i < (S.length : Int)) : S.getD i.toNat 0 ∈ S := by
  have hi : i.toNat < S.length := by omega
  rw [List.getD_eq_getElem?_getD, List.getElem?_eq_getElem hi]
  exact List.getElem_mem hi
inductive sp_number (vs : List V) (H : Hp) (Q : VK) (E : XK) : Prop
  | mk (p : Addr) (e : vs = [.ref p]) (h1 : PotAt H p) (q : ∀ z H', Asc z → z.length ≤ 60 → But p H H' → PotAt H' p → Q (.str z) H') : sp_number vs H Q E
theorem sc_number : FnScope ["_law_pot_here", "_law_way", "_law_most", "_law_number_here"] ["_law_pot_here"] (defScope s_law_number) := ⟨rfl, rfl, rfl, by decide +kernel, rfl, by decide +kernel, by decide +kernel⟩
set_option maxHeartbeats 4000000 in
theorem number (T : Txt K mg C) : Can P w K mg base 2 "_law_number" ["_law_pot_here"] sp_number := by
  refine fn_can T.f_law_number sc_number (fun vs H Q E h => ?_) (fun f cdv A outer s H vs Q E hr h => ?_)
  · obtain ⟨p, rfl, _⟩ := h
    rfl
  · obtain ⟨p, rfl, hp, q⟩ := h
    refine ⟨_, (pss_cons (ps_set (i := 1) sc_number.nd rfl (Or.inl rfl) (pe_can (take T) hr (pa2 (pv 0) pe_int)))
      (pss_cons (ps_if (pt_cmpR op_lt (pv 1) pe_int (nomark _))
        (pss_one (ps_ret (pe_t call_str_int T.b_str boot_str (pa1 (pe_op op_sub (pe_can (take T) hr (pa2 (pv 0) pe_int)) pe_int)))))
        pss_nil)
      (pss_cons (ps_set (i := 2) sc_number.nd rfl (Or.inl rfl) (pe_ix (ix_listK K) (pe_lst (pa_cons pe_int (pa_cons pe_int (pa_cons pe_int (pa3 pe_int pe_int pe_int))))) (pe_can (take T) hr (pa2 (pv 0) pe_int)) (fun _ _ => rfl)))
      (pss_cons (ps_set (i := 3) sc_number.nd rfl (Or.inl rfl) (pe_op op_sub (pe_t call_int_text T.b_int boot_int (pa1 (pe_op op_mulS pe_str (pv 2)))) (pe_can (take T) hr (pa2 (pv 0) pe_int))))
      (pss_one (ps_ret (pe_t call_str_int T.b_str boot_str (pa1 (pe_ix (ix_listK K) (pe_lst (pa2 (pv 3) (pe_un un_neg (pv 3)))) (pe_can (take T) hr (pa2 (pv 0) pe_int)) (fun _ _ => rfl)))))))))), ?_⟩
    have e45 : (10 : Int) ^ 45 = 1000000000000000000000000000000000000000000000 := by decide +kernel
    have e42 : (10 : Int) ^ 42 = 1000000000000000000000000000000000000000000 := by decide +kernel
    have fin : ∀ (i : Int) (H' : Hp), -(10 ^ 45 : Int) < i → i < (10 ^ 45 : Int) → But p H H' → PotAt H' p → i.natAbs.log2 < 1920 ∧ Q (.str (toString i)) H' := fun i H' h1 h2 b' p' => ⟨ts_log2 (lt50 h1 h2), q _ _ (ts_asc i) (Nat.le_trans (ts_len2 (lt50 h1 h2)) (by decide)) b' p'⟩
    refine ⟨_, rfl, p, _, rfl, hp, by decide +kernel, by decide +kernel, fun d1 H1 a1 b1 c1 hp1 => ?_⟩
    refine ⟨_, rfl, _, _, rfl, rfl, _, rfl, ite2 (fun hc => ?_) (fun hc => ?_)⟩
    · refine ⟨_, rfl, p, _, rfl, hp1, by decide +kernel, by decide +kernel, fun d2 H2 a2 b2 c2 hp2 => ⟨_, _, rfl, rfl, _, rfl, ?_⟩⟩
      exact fin _ _ (by rw [e45]; omega) (by rw [e45]; omega) (c1.trans c2) hp2
    · refine ⟨by show 6 ≤ sizeLine; decide, fun l hl => ?_⟩
      refine ⟨_, rfl, p, _, rfl, hp1.same (Same.upd hl), by decide +kernel, by decide +kernel, fun d2 H2 a2 b2 c2 hp2 => ?_⟩
      have hl2 : H2 l = some (.lst ([29, 30, 31, 39, 40, 41].map V.int)) := c2 _ _ upd_same (hp1.ne hl)
      have b12 : But p H H2 := (c1.same (Same.upd hl)).trans c2
      have hin := getD_in (S := [29, 30, 31, 39, 40, 41]) a2 b2
      refine ⟨l, _, _, _, rfl, rfl, .of hl2, atI_ints (S := [29, 30, 31, 39, 40, 41]) a2 b2, ?_⟩
      generalize ([29, 30, 31, 39, 40, 41] : List Int).getD d2.toNat 0 = m at hin
      obtain ⟨n, t1, t2, t3, t4, t5, t6⟩ := nines m hin
      have h9 : (("9" : String) : Str).length = 1 := by decide
      refine ⟨_, rfl, .mk "9" m rfl rfl (by omega) (by omega) (by rw [h9]; omega) ⟨_, n, rfl, t1, by omega, ?_⟩⟩
      refine ⟨_, rfl, p, _, rfl, hp2, by decide +kernel, by decide +kernel, fun d3 H3 a3 b3 c3 hp3 => ⟨_, _, rfl, rfl, ?_⟩⟩
      refine ⟨_, rfl, _, rfl, _, rfl, two_line, fun l2 hl3 => ?_⟩
      refine ⟨_, rfl, p, _, rfl, hp3.same (Same.upd hl3), by decide +kernel, by decide +kernel, fun d4 H4 a4 b4 c4 hp4 => ?_⟩
      have hl4 : H4 l2 = some (.lst ([n - d3, -(n - d3)].map V.int)) := c4 _ _ upd_same (hp3.ne hl3)
      have b14 : But p H H4 := ((b12.trans c3).same (Same.upd hl3)).trans c4
      have hin2 := getD_in (S := [n - d3, -(n - d3)]) a4 b4
      refine ⟨l2, _, _, _, rfl, rfl, .of hl4, atI_ints (S := [n - d3, -(n - d3)]) a4 b4, _, rfl, ?_⟩
      generalize ([n - d3, -(n - d3)] : List Int).getD d4.toNat 0 = r at hin2
      simp only [List.mem_cons, List.not_mem_nil, or_false] at hin2
      rw [e42] at t3
      exact fin _ _ (by rw [e45]; omega) (by rw [e45]; omega) b14 hp4
end
end Pr
set_option Elab.async false
set_option linter.all false
set_option maxRecDepth 100000
/-! the law's rows: built and spoilt -/
namespace Pr
open PySem L2 PyProof.Rows Ent
abbrev deedL : List Str := ["put", "take", "rank", "shut", "open", "forget", "follow", "puts", ""]
theorem deed_ok : ∀ x ∈ deedL, x.length ≤ 60 ∧ ∀ c ∈ x.cps.toList, c < 128 := by decide +kernel
theorem kds_all : ∀ z : Str, ∃ y : Str, (valV kds (.inr z)).getD (.str "") = .str y ∧ y.length ≤ 4 ∧ Asc y := fun z => by
  have key : ∀ kvs : List (Key × V), (∀ kv ∈ kvs, ∃ y : Str, kv.2 = .str y ∧ y.length ≤ 4 ∧ Asc y) → ∃ y : Str, (valV kvs (.inr z)).getD (.str "") = .str y ∧ y.length ≤ 4 ∧ Asc y := fun kvs => by
    induction kvs with
    | nil => intro _; exact ⟨"", rfl, by decide, asc0⟩
    | cons kv r ih =>
      intro h
      by_cases e : kv.1 = .inr z
      · rw [valV_pos e]
        exact h kv (by simp)
      · rw [valV_neg e]
        exact ih fun x hx => h x (List.mem_cons_of_mem _ hx)
  refine key kds fun kv hkv => ?_
  have asc : ∀ y ∈ ([("skmm" : String), "sk", "nn", "nm", "snnn"] : List String), ∀ c ∈ (y : Str).cps.toList, c < 128 := by decide +kernel
  simp only [List.mem_cons, List.not_mem_nil, or_false] at hkv
  rcases hkv with rfl | rfl | rfl | rfl | rfl | rfl
  · exact ⟨"skmm", rfl, by decide, asc _ (by simp)⟩
  · exact ⟨"sk", rfl, by decide, asc _ (by simp)⟩
  · exact ⟨"nn", rfl, by decide, asc _ (by simp)⟩
  · exact ⟨"nn", rfl, by decide, asc _ (by simp)⟩
  · exact ⟨"nm", rfl, by decide, asc _ (by simp)⟩
  · exact ⟨"snnn", rfl, by decide, asc _ (by simp)⟩
theorem LT_asc : Asc LT := by
  have : ∀ c ∈ LT.cps.toList, c < 128 := by decide +kernel
  exact this
theorem LD_asc : Asc (LT ++ DG) := by
  have : ∀ c ∈ (LT ++ DG).cps.toList, c < 128 := by decide +kernel
  exact this
theorem erase_map {α β : Type} (f : α → β) : ∀ (l : List α) (n : Nat), (l.map f).eraseIdx n = (l.eraseIdx n).map f
  | [], _ => rfl
  | _ :: _, 0 => rfl
  | a :: l, n + 1 => by
    show f a :: (l.map f).eraseIdx n = f a :: (l.eraseIdx n).map f
    rw [erase_map f l n]
/-- words of a row under way -/
structure Wds (ws : List Str) (n : Nat) : Prop where
  l : ws.length ≤ n
  a : ∀ x ∈ ws, Asc x ∧ x.length ≤ 60
theorem Wds.snoc {ws : List Str} {n : Nat} {x : Str} (h : Wds ws n) (ha : Asc x) (hl : x.length ≤ 60) : Wds (ws ++ [x]) (n + 1) := by
  refine ⟨by rw [List.length_append]; have := h.l; show ws.length + 1 ≤ n + 1; omega, fun y hy => ?_⟩
  rcases List.mem_append.mp hy with z | z
  · exact h.a y z
  · rw [List.mem_singleton.mp z]; exact ⟨ha, hl⟩
theorem Wds.mono {ws : List Str} {n m : Nat} (h : Wds ws n) (hm : n ≤ m) : Wds ws m := ⟨Nat.le_trans h.l hm, h.a⟩
section
variable {P : Program} {w : World} {K : PySem.W.Frag} {mg : Str → Option Value} {base : Heap} {C : Addr}
inductive sp_built (vs : List V) (H : Hp) (Q : VK) (E : XK) : Prop
  | mk (p : Addr) (e : vs = [.ref p]) (h1 : PotAt H p) (q : ∀ z H', Asc z → z.length ≤ 700 → But p H H' → PotAt H' p → Q (.str z) H') : sp_built vs H Q E
theorem sc_built : FnScope ["_law_pot_here", "_law_letters", "_law_word", "_law_kinds", "_law_words_here", "_law_kind"] ["_law_pot_here"] (defScope s_law_built) := ⟨rfl, rfl, rfl, by decide +kernel, rfl, by decide +kernel, by decide +kernel⟩
set_option maxHeartbeats 8000000 in
theorem built (T : Txt K mg C) : Can P w K mg base 3 "_law_built" ["_law_pot_here"] sp_built := by
  refine fn_can T.f_law_built sc_built (fun vs H Q E h => ?_) (fun f cdv A outer s H vs Q E hr h => ?_)
  · obtain ⟨p, rfl, _⟩ := h
    rfl
  · obtain ⟨p, rfl, hp, q⟩ := h
    refine ⟨_, (pss_cons (ps_set (i := 1) sc_built.nd rfl (Or.inl rfl) pe_str)
      (pss_cons (ps_set (i := 2) sc_built.nd rfl (Or.inl rfl) (pe_ix (ix_listK K) (pe_lst (pa_cons pe_str (pa_cons pe_str (pa_cons pe_str (pa_cons pe_str (pa_cons pe_str (pa_cons pe_str (pa3 pe_str pe_str pe_str)))))))) (pe_can (take T) hr (pa2 (pv 0) pe_int)) (fun _ _ => rfl)))
      (pss_cons (ps_set (i := 3) sc_built.nd rfl (Or.inl rfl) (pe_dget2 (hu_of hr) (pe_disp (pps_cons pe_str pe_str (pps_cons pe_str pe_str (pps_cons pe_str pe_str (pps_cons pe_str pe_str (pps_cons pe_str pe_str (pps_cons pe_str pe_str pps_nil)))))) rfl rfl (by simp) (by decide)) (pv 2) pe_str ⟨rfl, rfl, rfl, rfl⟩))
      (pss_cut (ps_if (pt_cmpR (op_in_seqK K) (pv 2) (pe_tup (pa2 pe_str pe_str)) rfl)
        (pss_one (ps_set (i := 3) sc_built.nd rfl (Or.inl rfl) (pe_op op_mulS pe_str (pe_op op_add pe_int (pe_can (take T) hr (pa2 (pv 0) pe_int))))))
        pss_nil)
      (pss_cons (ps_set (i := 4) sc_built.nd rfl (Or.inl rfl) (pe_lst (pa1 (pv 2))))
      (pss_cut (ps_for PassesOwn.never rfl (pi_str (pv 3)) (pg_name (i := 5) sc_built.nd rfl (Or.inl rfl))
        (pss_one (ps_if (pt_cmpR op_eq (pv 5) pe_str (nomark _))
          (pss_one (ps_expr (pe_bmK K PySem.F.plainAttrs_list PySem.F.slot_list_append PySem.F.type_list_append mt_append (pv 4) (pa1 (pe_can (text T) hr (pa3 (pv 0) (pv 1) pe_int))))))
          (pss_one (ps_if (pt_cmpR op_eq (pv 5) pe_str (nomark _))
            (pss_one (ps_expr (pe_bmK K PySem.F.plainAttrs_list PySem.F.slot_list_append PySem.F.type_list_append mt_append (pv 4) (pa1 (pe_can (text T) hr (pa3 (pv 0) (pe_op op_add_str (pv 1) pe_str) pe_int))))))
            (pss_one (ps_expr (pe_bmK K PySem.F.plainAttrs_list PySem.F.slot_list_append PySem.F.type_list_append mt_append (pv 4) (pa1 (pe_can (number T) hr (pa1 (pv 0))))))))))))
      (pss_cut (ps_if (pt_cmpR op_eq (pe_can (take T) hr (pa2 (pv 0) pe_int)) pe_int (nomark _))
        (pss_one (ps_expr (pe_bmK K PySem.F.plainAttrs_list PySem.F.slot_list_append PySem.F.type_list_append mt_append (pv 4) (pa1 (pe_ix (ix_listK K) (pv 4) (pe_can (take T) hr (pa2 (pv 0) (pe_b (call_lenK K) T.b_len boot_len (pa1 (pv 4))))) (fun _ _ => rfl))))))
        pss_nil)
      (pss_cut (ps_if (pt_cmpR op_eq (pe_can (take T) hr (pa2 (pv 0) pe_int)) pe_int (nomark _))
        (pss_one (ps_expr (pe_bmK K PySem.F.plainAttrs_list PySem.F.slot_list_pop PySem.F.type_list_pop mt_popAt (pv 4) (pa1 (pe_can (take T) hr (pa2 (pv 0) (pe_b (call_lenK K) T.b_len boot_len (pa1 (pv 4)))))))))
        pss_nil)
      (pss_one (ps_ret (pe_bmK K PySem.F.plainAttrs_str PySem.F.slot_str_join PySem.F.type_str_join (mt_joinK K) pe_str (pa1 (pv 4))))))))))))), ?_⟩
    refine ⟨by show 9 ≤ sizeLine; decide, fun l hl => ?_⟩
    refine ⟨_, rfl, p, _, rfl, hp.same (Same.upd hl), by decide +kernel, by decide +kernel, fun d1 H1 a1 b1 c1 hp1 => ?_⟩
    have hl1 : H1 l = some (.lst (deedL.map V.str)) := c1 _ _ upd_same (hp.ne hl)
    have b1' : But p H H1 := (But.same (fun _ _ e _ => e) (Same.upd hl)).trans c1
    obtain ⟨dw, hdw, hdi⟩ := atI_strs (S := deedL) a1 b1
    obtain ⟨dwl, dwa⟩ := deed_ok dw hdw
    refine ⟨l, _, _, _, rfl, rfl, .of hl1, hdi, ?_⟩
    intro pd hpd
    refine ⟨upd_same, kds, rfl, by decide, ?_⟩
    rw [kds_merge]
    have s2 : Same H1 (upd (upd H1 pd (.dK [])) pd (.dK kds)) := fun bb oo e => by rw [upd_ne (ne_of_none e hpd), upd_ne (ne_of_none e hpd)]; exact e
    have kd : (upd (upd H1 pd (.dK [])) pd (.dK kds)) pd = some (.dK kds) := upd_same
    generalize (upd (upd H1 pd (.dK [])) pd (.dK kds)) = H2 at s2 kd
    obtain ⟨y, hy, yl, ya⟩ := kds_all dw
    refine ⟨pd, rfl, .inl ⟨_, .inl kd⟩, _, rfl, _, .inl ⟨kds, .inr dw, .inl kd, rfl, rfl⟩, ?_⟩
    rw [hy]
    have b2 := But.same b1' s2
    have hp2 := hp1.same s2
    clear hl1 hdi c1 kd s2 hy
    refine ⟨fun σ H3 => ∃ kt : Str, σ = [some (.ref p), some (.str LT), some (.str dw), some (.str kt), none, none] ∧ But p H H3 ∧ PotAt H3 p ∧ Asc kt ∧ kt.length ≤ 7, ?_, ?_⟩
    · refine ⟨_, rfl, two_line, fun t ht => ⟨t, _, rfl, .inr (.of upd_same), rfl, rfl, _, rfl, ?_⟩⟩
      have b3 := But.same b2 (Same.upd (o := .tup [.str "rank", .str "puts"]) ht)
      have hp3 := hp2.same (Same.upd (o := .tup [.str "rank", .str "puts"]) ht)
      refine ite2 (fun _ => ?_) (fun _ => ⟨y, rfl, b3, hp3, ya, by omega⟩)
      refine ⟨_, rfl, p, _, rfl, hp3, by decide +kernel, by decide +kernel, fun d2 H4 a2 b4 c4 hp4 => ⟨_, _, rfl, rfl, ?_⟩⟩
      have hs1 : (("s" : String) : Str).length = 1 := by decide
      obtain ⟨n, hn⟩ : ∃ n : Nat, (1 : Int) + d2 = n := ⟨(1 + d2).toNat, by omega⟩
      rw [hn]
      refine .mk "s" (n : Int) rfl rfl (by omega) (by omega) (by rw [hs1]; omega) ⟨_, rfl, b3.trans c4, hp4, ?_, ?_⟩
      · rw [mul_s]; exact sgs_asc _
      · rw [mul_s, sgs_len, List.length_replicate]; omega
    rintro σ H3 ⟨kt, rfl, b3, hp3, kta, ktl⟩
    refine ⟨_, rfl, one_line, fun L hL => ?_⟩
    have hLp : L ≠ p := hp3.ne hL
    have kL : (upd H3 L (.lst [V.str dw])) L = some (.lst [V.str dw]) := upd_same
    have b4 := But.same b3 (Same.upd (o := .lst [V.str dw]) hL)
    have hp4 := hp3.same (Same.upd (o := .lst [V.str dw]) hL)
    have hL0 : H L = none := But.free b3 hL hp3
    generalize (upd H3 L (.lst [V.str dw])) = H4 at kL b4 hp4
    have w1 : Wds [dw] 1 := ⟨Nat.le_refl _, fun x hx => by rw [List.mem_singleton.mp hx]; exact ⟨dwa, dwl⟩⟩
    refine ⟨fun σ H5 => ∃ v5 ws, σ = [some (.ref p), some (.str LT), some (.str dw), some (.str kt), some (.ref L), v5] ∧ But p H H5 ∧ PotAt H5 p ∧ H5 L = some (.lst (ws.map V.str)) ∧ Wds ws 8 ∧ ws ≠ [], ?_, ?_⟩
    · refine ⟨_, rfl, kt, rfl, kta.all, ?_⟩
      refine for_str (fun i σ H5 => ∃ v5 ws, σ = [some (.ref p), some (.str LT), some (.str dw), some (.str kt), some (.ref L), v5] ∧ But p H H5 ∧ PotAt H5 p ∧ H5 L = some (.lst (ws.map V.str)) ∧ Wds ws (i + 1) ∧ ws ≠ []) ⟨_, [dw], rfl, b4, hp4, kL, w1, by simp⟩ (fun i c σ H5 hc h => ?_) (fun σ H5 h => ?_)
      · obtain ⟨v5, ws, rfl, b5, hp5, kL5, wd, wne⟩ := h
        have hi := (List.getElem?_eq_some_iff.mp hc).1
        rw [← str_len] at hi
        have wl := wd.l
        have app : ∀ z H6, Asc z → z.length ≤ 60 → But p H5 H6 → PotAt H6 p → H6 L = some (.lst (ws.map V.str)) ∧ But p H (upd H6 L (.lst ((ws ++ [z]).map V.str))) ∧ PotAt (upd H6 L (.lst ((ws ++ [z]).map V.str))) p ∧ Wds (ws ++ [z]) (i + 1 + 1) := fun z H6 za zl b6 p6 => ⟨b6 _ _ kL5 hLp, But.wr (b5.trans b6) hL0, p6.upd hLp, wd.snoc za zl⟩
        refine ⟨_, rfl, rfl, _, rfl, ite2 (fun _ => ?_) (fun _ => ⟨_, rfl, rfl, _, rfl, ite2 (fun _ => ?_) (fun _ => ?_)⟩)⟩
        · refine ⟨_, rfl, .inl ⟨rfl, _, .of kL5⟩, _, rfl, _, rfl, .mk p LT 6 rfl hp5 LT_asc (by decide +kernel) (by decide +kernel) (by decide) (by decide) fun z H6 za zl b6 p6 => ?_⟩
          obtain ⟨r1, r2, r3, r4⟩ := app z H6 za (by omega) b6 p6
          refine ⟨L, _, _, rfl, rfl, r1, line6 (by rw [List.length_map]; omega), ?_⟩
          rw [List.map_append] at r2 r3
          exact ⟨_, ws ++ [z], rfl, r2, r3, by rw [upd_same, List.map_append]; rfl, r4, by simp⟩
        · refine ⟨_, rfl, .inl ⟨rfl, _, .of kL5⟩, _, rfl, _, rfl, _, _, rfl, rfl, by decide +kernel, .mk p (LT ++ DG) 8 rfl hp5 LD_asc (by decide +kernel) (by decide +kernel) (by decide) (by decide) fun z H6 za zl b6 p6 => ?_⟩
          obtain ⟨r1, r2, r3, r4⟩ := app z H6 za (by omega) b6 p6
          refine ⟨L, _, _, rfl, rfl, r1, line6 (by rw [List.length_map]; omega), ?_⟩
          rw [List.map_append] at r2 r3
          exact ⟨_, ws ++ [z], rfl, r2, r3, by rw [upd_same, List.map_append]; rfl, r4, by simp⟩
        · refine ⟨_, rfl, .inl ⟨rfl, _, .of kL5⟩, _, rfl, .mk p rfl hp5 fun z H6 za zl b6 p6 => ?_⟩
          obtain ⟨r1, r2, r3, r4⟩ := app z H6 za zl b6 p6
          refine ⟨L, _, _, rfl, rfl, r1, line6 (by rw [List.length_map]; omega), ?_⟩
          rw [List.map_append] at r2 r3
          exact ⟨_, ws ++ [z], rfl, r2, r3, by rw [upd_same, List.map_append]; rfl, r4, by simp⟩
      · obtain ⟨v5, ws, rfl, b5, hp5, kL5, wd, wne⟩ := h
        rw [← str_len] at wd
        exact ⟨_, ws, rfl, b5, hp5, kL5, wd.mono (by omega), wne⟩
    rintro σ H5 ⟨v5, ws, rfl, b5, hp5, kL5, wd, wne⟩
    refine ⟨fun σ H5 => ∃ ws, σ = [some (.ref p), some (.str LT), some (.str dw), some (.str kt), some (.ref L), v5] ∧ But p H H5 ∧ PotAt H5 p ∧ H5 L = some (.lst (ws.map V.str)) ∧ Wds ws 9 ∧ ws ≠ [], ?_, ?_⟩
    · refine ⟨_, rfl, p, _, rfl, hp5, by decide +kernel, by decide +kernel, fun d3 H6 a3 b6 c6 hp6 => ⟨rfl, _, rfl, ?_⟩⟩
      have kL6 := c6 _ _ kL5 hLp
      refine ite2 (fun _ => ?_) (fun _ => ⟨ws, rfl, b5.trans c6, hp6, kL6, wd.mono (by decide), wne⟩)
      have hwl := wd.l
      have hw0 : 0 < ws.length := List.length_pos_iff.mpr wne
      have hw300 : ((ws.map V.str).length : Int) < 2 ^ 300 := Int.lt_of_le_of_lt (show _ ≤ (100 : Int) by rw [List.length_map]; omega) (by decide +kernel)
      refine ⟨_, rfl, .inl ⟨rfl, _, .of kL6⟩, _, rfl, _, rfl, _, rfl, L, _, rfl, .inl (.of kL6), p, _, rfl, hp6, by rw [List.length_map]; omega, hw300, fun d4 H7 a4 b7 c7 hp7 => ?_⟩
      have kL7 := c7 _ _ kL6 hLp
      rw [List.length_map] at b7
      obtain ⟨x, hx, hxi⟩ := atI_strs (S := ws) a4 b7
      refine ⟨L, _, _, _, rfl, rfl, .of kL7, hxi, L, _, _, rfl, rfl, kL7, line6 (by rw [List.length_map]; omega), ?_⟩
      refine ⟨ws ++ [x], rfl, But.wr ((b5.trans c6).trans c7) hL0, hp7.upd hLp, by rw [upd_same, List.map_append]; rfl, wd.snoc (wd.a x hx).1 (wd.a x hx).2, by simp⟩
    rintro σ H6 ⟨ws, rfl, b6, hp6, kL6, wd, wne⟩
    refine ⟨fun σ H5 => ∃ ws, σ = [some (.ref p), some (.str LT), some (.str dw), some (.str kt), some (.ref L), v5] ∧ But p H H5 ∧ PotAt H5 p ∧ H5 L = some (.lst (ws.map V.str)) ∧ Wds ws 9, ?_, ?_⟩
    · refine ⟨_, rfl, p, _, rfl, hp6, by decide +kernel, by decide +kernel, fun d3 H7 a3 b7 c7 hp7 => ⟨rfl, _, rfl, ?_⟩⟩
      have kL7 := c7 _ _ kL6 hLp
      refine ite2 (fun _ => ?_) (fun _ => ⟨ws, rfl, b6.trans c7, hp7, kL7, wd⟩)
      have hwl := wd.l
      have hw0 : 0 < ws.length := List.length_pos_iff.mpr wne
      have hw300 : ((ws.map V.str).length : Int) < 2 ^ 300 := Int.lt_of_le_of_lt (show _ ≤ (100 : Int) by rw [List.length_map]; omega) (by decide +kernel)
      refine ⟨_, rfl, .inl ⟨rfl, _, .of kL7⟩, _, rfl, _, rfl, L, _, rfl, .inl (.of kL7), p, _, rfl, hp7, by rw [List.length_map]; omega, hw300, fun d4 H8 a4 b8 c8 hp8 => ?_⟩
      have kL8 := c8 _ _ kL7 hLp
      rw [List.length_map] at b8
      obtain ⟨n, rfl⟩ : ∃ n : Nat, d4 = n := ⟨d4.toNat, by omega⟩
      have hn : n < ws.length := by omega
      refine ⟨L, _, _, n, V.str ws[n], rfl, rfl, kL8, by omega, by omega, ?_, by rw [List.getElem?_map, List.getElem?_eq_getElem hn]; rfl, ?_⟩
      · rw [List.length_map]
        unfold seqIndex?
        simp only [show ¬ ((n : Int) < 0) by omega, if_false]
        rw [if_pos (by rw [Bool.and_eq_true, decide_eq_true_eq, decide_eq_true_eq]; omega)]
        rfl
      · refine ⟨ws.eraseIdx n, rfl, But.wr ((b6.trans c7).trans c8) hL0, hp8.upd hLp, by rw [upd_same, erase_map], ?_⟩
        exact ⟨Nat.le_trans (List.length_eraseIdx_le ..) wd.l, fun x hx => wd.a x (List.mem_of_mem_eraseIdx hx)⟩
    rintro σ H7 ⟨ws, rfl, b7, hp7, kL7, wd⟩
    have hwl := wd.l
    have ok := joinOk_le (ws := ws) (n := 60) (fun x hx => (wd.a x hx).2) (by omega)
    have ln := join_le (ws := ws) (n := 60) fun x hx => (wd.a x hx).2
    refine ⟨rfl, _, rfl, _, L, ws, rfl, rfl, .of kL7, ok, q _ _ (join_asc (fun c hc => ?_) fun x hx => (wd.a x hx).1) (by omega) b7 hp7⟩
    have e1 : ((" " : String) : Str).cps.toList = [32] := by decide
    rw [e1] at hc
    rw [List.mem_singleton.mp hc]
    decide
end
end Pr
set_option Elab.async false
set_option linter.all false
set_option maxRecDepth 100000
/-! rows spoilt -/
namespace Pr
open PySem L2 PyProof.Rows Ent
abbrev signL : List Str := [" ", "\t", "A", "0", "_", "-", "+", "a", "", ".", "\n"]
theorem sign_ok : ∀ x ∈ signL, x.length ≤ 1 ∧ ∀ c ∈ x.cps.toList, c < 128 := by decide +kernel
theorem asc_take {z : Str} (h : Asc z) (n : Nat) : Asc (StrLaws.sliceText z none (some (n : Int))) := fun c hc => by
  rw [sl_take] at hc
  exact h c (List.mem_of_mem_take hc)
theorem asc_drop {z : Str} (h : Asc z) (n : Nat) : Asc (StrLaws.sliceText z (some (n : Int)) none) := fun c hc => by
  rw [sl_drop] at hc
  exact h c (List.mem_of_mem_drop hc)
theorem asc_app {x y : Str} (h : Asc x) (h' : Asc y) : Asc (x ++ y) := fun c hc => by
  rw [Str.cps_append, Array.toList_append] at hc
  rcases List.mem_append.mp hc with z | z
  · exact h c z
  · exact h' c z
section
variable {P : Program} {w : World} {K : PySem.W.Frag} {mg : Str → Option Value} {base : Heap} {C : Addr}
inductive sp_spoilt (vs : List V) (H : Hp) (Q : VK) (E : XK) : Prop
  | mk (p : Addr) (z : Str) (e : vs = [.ref p, .str z]) (h1 : PotAt H p) (ha : Asc z) (hl : z.length ≤ 700) (q : ∀ z' H', Asc z' → z'.length ≤ 800 → But p H H' → PotAt H' p → Q (.str z') H') : sp_spoilt vs H Q E
theorem sc_spoilt : FnScope ["_law_pot_here", "_law_row", "_law_k", "_law_place", "_law_sign"] ["_law_pot_here", "_law_row"] (defScope s_law_spoilt) := ⟨rfl, rfl, rfl, by decide +kernel, rfl, by decide +kernel, by decide +kernel⟩
set_option maxHeartbeats 8000000 in
theorem spoilt (T : Txt K mg C) : Can P w K mg base 2 "_law_spoilt" ["_law_pot_here", "_law_row"] sp_spoilt := by
  refine fn_can T.f_law_spoilt sc_spoilt (fun vs H Q E h => ?_) (fun f cdv A outer s H vs Q E hr h => ?_)
  · obtain ⟨p, z, rfl, _⟩ := h
    rfl
  · obtain ⟨p, z, rfl, hp, za, zl, q⟩ := h
    refine ⟨_, (pss_cons (ps_for PassesOwn.never rfl (pi_range1 rfl T.b_range (pa1 (pe_ix (ix_listK K) (pe_lst (pa_cons pe_int (pa3 pe_int pe_int pe_int))) (pe_can (take T) hr (pa2 (pv 0) pe_int)) (fun _ _ => rfl)))) (pg_name (i := 2) sc_spoilt.nd rfl (Or.inl rfl))
        (pss_cons (ps_set (i := 3) sc_spoilt.nd rfl (Or.inl rfl) (pe_can (take T) hr (pa2 (pv 0) (pe_op op_add (pe_b call_len_str T.b_len boot_len (pa1 (pv 1))) pe_int))))
        (pss_cons (ps_set (i := 4) sc_spoilt.nd rfl (Or.inl rfl) (pe_ix (ix_listK K) (pe_lst (pa_cons pe_str (pa_cons pe_str (pa_cons pe_str (pa_cons pe_str (pa_cons pe_str (pa_cons pe_str (pa_cons pe_str (pa_cons pe_str (pa3 pe_str pe_str pe_str)))))))))) (pe_can (take T) hr (pa2 (pv 0) pe_int)) (fun _ _ => rfl)))
        (pss_one (ps_set (i := 1) sc_spoilt.nd rfl (Or.inl rfl) (pe_op op_add_str (pe_op op_add_str (pe_slice sl_str (pv 1) po_none (po_some (pv 3))) (pv 4)) (pe_slice sl_str (pv 1) (po_some (pe_op op_add (pv 3) (pe_can (take T) hr (pa2 (pv 0) pe_int)))) po_none)))))))
      (pss_one (ps_ret (pv 1)))), ?_⟩
    refine ⟨by show 4 ≤ sizeLine; decide, fun l hl => ?_⟩
    refine ⟨_, rfl, p, _, rfl, hp.same (Same.upd hl), by decide +kernel, by decide +kernel, fun d1 H1 a1 b1 c1 hp1 => ?_⟩
    have hl1 : H1 l = some (.lst ([0, 0, 1, 2].map V.int)) := c1 _ _ upd_same (hp.ne hl)
    have b1' : But p H H1 := (But.same (fun _ _ e _ => e) (Same.upd hl)).trans c1
    have hin := getD_in (S := [0, 0, 1, 2]) a1 b1
    refine ⟨l, _, _, _, rfl, rfl, .of hl1, atI_ints (S := [0, 0, 1, 2]) a1 b1, ?_⟩
    generalize ([0, 0, 1, 2] : List Int).getD d1.toNat 0 = m at hin
    have hm : 0 ≤ m ∧ m ≤ 2 := by
      simp only [List.mem_cons, List.not_mem_nil, or_false] at hin
      omega
    refine ⟨_, rfl, by omega, by omega, ?_⟩
    refine for_range (n := m.toNat) (fun i σ H2 => ∃ v2 v3 v4 y, σ = [some (.ref p), some (.str y), v2, v3, v4] ∧ But p H H2 ∧ PotAt H2 p ∧ Asc y ∧ y.length ≤ 700 + i * 2) ⟨_, _, _, z, rfl, b1', hp1, za, by omega⟩ (fun i σ H2 hi h => ?_) (fun σ H2 h => ?_)
    · obtain ⟨v2, v3, v4, y, rfl, b2, hp2, ya, yl⟩ := h
      have hy300 : ((y.length : Int) + 1) < 2 ^ 300 := Int.lt_of_le_of_lt (show _ ≤ (1000 : Int) by omega) (by decide +kernel)
      refine ⟨_, rfl, _, rfl, _, rfl, line6 (by omega), _, _, rfl, rfl, p, _, rfl, hp2, by omega, hy300, fun pl H3 a3 b3 c3 hp3 => ?_⟩
      refine ⟨by show 11 ≤ sizeLine; decide, fun l2 hl2 => ?_⟩
      refine ⟨_, rfl, p, _, rfl, hp3.same (Same.upd hl2), by decide +kernel, by decide +kernel, fun d4 H4 a4 b4 c4 hp4 => ?_⟩
      have hl4 : H4 l2 = some (.lst (signL.map V.str)) := c4 _ _ upd_same (hp3.ne hl2)
      obtain ⟨sg, hsg, hsi⟩ := atI_strs (S := signL) a4 b4
      obtain ⟨sl1, sa⟩ := sign_ok sg hsg
      have b24 : But p H H4 := ((b2.trans c3).same (Same.upd hl2)).trans c4
      refine ⟨l2, _, _, _, rfl, rfl, .of hl4, hsi, ?_⟩
      obtain ⟨n, rfl⟩ : ∃ n : Nat, pl = n := ⟨pl.toNat, by omega⟩
      have t1 := slt_len y n
      refine ⟨_, rfl, _, rfl, _, rfl, .mk y rfl (by omega) ⟨_, rfl, _, _, rfl, rfl, line6 (by omega), ?_⟩⟩
      refine ⟨_, rfl, _, rfl, _, rfl, p, _, rfl, hp4, by decide +kernel, by decide +kernel, fun d5 H5 a5 b5 c5 hp5 => ⟨_, _, rfl, rfl, _, rfl, ?_⟩⟩
      obtain ⟨k, hk⟩ : ∃ k : Nat, (n : Int) + d5 = k := ⟨((n : Int) + d5).toNat, by omega⟩
      rw [hk]
      have t2 := sld_len y k
      refine .mk y rfl (by omega) ⟨_, _, rfl, rfl, line6 (by rw [Str.length_append]; omega), ?_⟩
      have e1 : (StrLaws.sliceText y none (some (n : Int))).length = min n y.length := by rw [str_len, sl_take, List.length_take, ← str_len]
      have e2 : (StrLaws.sliceText y (some (k : Int)) none).length = y.length - k := by rw [str_len, sl_drop, List.length_drop, ← str_len]
      refine ⟨_, _, _, _, rfl, b24.trans c5, hp5, asc_app (asc_app (asc_take ya n) sa) (asc_drop ya k), ?_⟩
      rw [Str.length_append, Str.length_append, e1, e2]
      omega
    · obtain ⟨v2, v3, v4, y, rfl, b2, hp2, ya, yl⟩ := h
      exact ⟨_, rfl, q y H2 ya (by omega) b2 hp2⟩
end
end Pr
set_option Elab.async false
set_option linter.all false
set_option maxRecDepth 100000
/-! what is told, as data -/
namespace Pr
open PySem L2 PyProof.Rows Ent
def dV : V → PyData
  | .str x => .str x
  | .int i => .int i
  | _ => .none
inductive Gv (v : V) : Prop
  | str (x : Str) (e : v = .str x) (h : KeyOk x) : Gv v
  | int (i : Int) (e : v = .int i) (h : i.natAbs < 10 ^ 40) : Gv v
theorem okW_key {S : Str} {m : Nat} {z : Str} (h : okW S m z = true) (hm : m ≤ 8) (hS : Asc S) : KeyOk z := by
  unfold okW at h
  rw [Bool.and_eq_true, Bool.and_eq_true, decide_eq_true_eq, decide_eq_true_eq, List.all_eq_true] at h
  obtain ⟨⟨h1, h2⟩, h3⟩ := h
  exact ⟨Nat.le_trans h2 hm, fun c hc => hS c (of_decide_eq_true (h3 c hc))⟩
theorem KS_asc : Asc KS := by rw [← LT_DG]; exact LD_asc
theorem worth_good {κ : Kn} {z : Str} {v : V} (h : worthM κ z = some v) : Gv v := by
  cases κ with
  | s =>
    have h' : (if okW LT 6 z = true then some (V.str z) else none) = some v := h
    by_cases c : okW LT 6 z = true
    · rw [if_pos c] at h'; cases h'; exact .str z rfl (okW_key c (by decide) LT_asc)
    · rw [if_neg c] at h'; cases h'
  | k =>
    have h' : (if okW KS 8 z = true then some (V.str z) else none) = some v := h
    by_cases c : okW KS 8 z = true
    · rw [if_pos c] at h'; cases h'; exact .str z rfl (okW_key c (by decide) KS_asc)
    · rw [if_neg c] at h'; cases h'
  | m =>
    have h' : (numM 30 z).map V.int = some v := h
    cases c : numM 30 z with
    | none => rw [c] at h'; cases h'
    | some i => rw [c] at h'; cases h'; exact .int i rfl (Nat.lt_of_lt_of_le (numM_some c).2 (Nat.pow_le_pow_right (by decide) (by decide)))
  | n =>
    have h' : (numM 40 z).map V.int = some v := h
    cases c : numM 40 z with
    | none => rw [c] at h'; cases h'
    | some i => rw [c] at h'; cases h'; exact .int i rfl (numM_some c).2
theorem allW_good : ∀ {ks : List Kn} {zs : List Str} {us : List V}, allW ks zs = some us → us.length ≤ ks.length ∧ ∀ v ∈ us, Gv v
  | κ :: ks, z :: zs, us, h => by
    have h' : ((worthM κ z).bind fun v => (allW ks zs).map (v :: ·)) = some us := h
    cases e : worthM κ z with
    | none => rw [e] at h'; cases h'
    | some u =>
      rw [e] at h'
      have h2 : (allW ks zs).map (u :: ·) = some us := h'
      cases e2 : allW ks zs with
      | none => rw [e2] at h2; cases h2
      | some vs =>
        rw [e2] at h2
        have e3 : us = u :: vs := (Option.some.inj h2).symm
        subst e3
        obtain ⟨i1, i2⟩ := allW_good e2
        refine ⟨by rw [List.length_cons, List.length_cons]; omega, fun v hv => ?_⟩
        rcases List.mem_cons.mp hv with rfl | hv
        · exact worth_good e
        · exact i2 v hv
  | [], zs, us, h => by
    have : us = [] := by cases zs <;> exact (Option.some.inj (show some ([] : List V) = some us from h)).symm
    subst this
    exact ⟨Nat.zero_le _, fun _ h => nomatch h⟩
  | _ :: _, [], us, h => by
    have : us = [] := (Option.some.inj (show some ([] : List V) = some us from h)).symm
    subst this
    exact ⟨Nat.zero_le _, fun _ h => nomatch h⟩
theorem kinds_key {z : Str} {n : Nat} {ks : List Kn} (h : kindsM z n = some ks) : KeyOk z := by
  have key : ∀ x ∈ ([("rank" : String), "put", "take", "shut", "open", "forget", "follow"] : List String), (x : Str).cps.size ≤ 8 ∧ ∀ c ∈ (x : Str).cps.toList, c < 128 := by decide +kernel
  unfold kindsM at h
  by_cases h0 : z = "rank"
  · subst h0; exact key _ (by simp)
  rw [if_neg h0] at h
  by_cases h1 : z = "put"
  · subst h1; exact key _ (by simp)
  rw [if_neg h1] at h
  by_cases h2 : z = "take"
  · subst h2; exact key _ (by simp)
  rw [if_neg h2] at h
  by_cases h3 : z = "shut"
  · subst h3; exact key _ (by simp)
  rw [if_neg h3] at h
  by_cases h4 : z = "open"
  · subst h4; exact key _ (by simp)
  rw [if_neg h4] at h
  by_cases h5 : z = "forget"
  · subst h5; exact key _ (by simp)
  rw [if_neg h5] at h
  by_cases h6 : z = "follow"
  · subst h6; exact key _ (by simp)
  rw [if_neg h6] at h
  cases h
theorem row_good {z : Str} {us : List V} (h : rowM z = some us) (hl : z.length ≤ 800) : us.length ≤ 901 ∧ ∀ v ∈ us, Gv v := by
  have scn := split_cnt z " " (by decide)
  cases e : Txt.split z " " with
  | nil => unfold rowM at h; rw [e] at h; cases h
  | cons w0 ws =>
    rw [rowM_of e] at h
    rw [e, List.length_cons] at scn
    cases hk : kindsM w0 ws.length with
    | none => rw [hk] at h; cases h
    | some ks =>
      rw [hk] at h
      have h' : (if ks.length = ws.length then (allW ks ws).map (V.str w0 :: ·) else none) = some us := h
      by_cases hlen : ks.length = ws.length
      · rw [if_pos hlen] at h'
        cases ha : allW ks ws with
        | none => rw [ha] at h'; cases h'
        | some vs =>
          rw [ha] at h'
          have e3 : us = V.str w0 :: vs := (Option.some.inj h').symm
          subst e3
          obtain ⟨g1, g2⟩ := allW_good ha
          refine ⟨by rw [List.length_cons]; omega, fun v hv => ?_⟩
          rcases List.mem_cons.mp hv with rfl | hv
          · exact .str w0 rfl (kinds_key hk)
          · exact g2 v hv
      · rw [if_neg hlen] at h'; cases h'
theorem gv_dat {H : Hp} {v : V} (h : Gv v) : Dat H (dV v) v := by
  cases h with
  | str x e h => subst e; unfold dV Dat; rfl
  | int i e h => subst e; unfold dV Dat; rfl
theorem datAll_gv {H : Hp} : ∀ {us : List V}, (∀ v ∈ us, Gv v) → DatAll H (us.map dV) us
  | [], _ => by unfold DatAll; rfl
  | v :: us, h => by
    rw [List.map_cons]
    unfold DatAll
    exact ⟨v, us, rfl, gv_dat (h v (by simp)), datAll_gv fun x hx => h x (List.mem_cons_of_mem _ hx)⟩
theorem dat_row {H : Hp} {D : Addr} {us : List V} (h : H D = some (.lst us)) (g : ∀ v ∈ us, Gv v) : Dat H (.list (us.map dV)) (.ref D) := by
  unfold Dat
  exact ⟨D, us, rfl, h, datAll_gv g⟩
theorem gv_lf {v : V} (h : Gv v) : Lf (dV v) := by
  cases h with
  | str x e h => subst e; exact lf_str h
  | int i e h => subst e; exact lf_int h
theorem gv_bulk {v : V} (h : Gv v) : (dV v).bulk ≤ 10 := by
  cases h with
  | str x e h =>
    subst e
    have := h.1
    show (PyData.str x).bulk ≤ 10
    simp only [PyData.bulk]
    have hx : x.length = x.cps.size := rfl
    omega
  | int i e h => subst e; show (PyData.int i).bulk ≤ 10; simp only [PyData.bulk]; omega
theorem bulk_all : ∀ {us : List V}, (∀ v ∈ us, Gv v) → PyData.bulkAll (us.map dV) ≤ 12 * us.length
  | [], _ => by simp [PyData.bulkAll]
  | v :: us, h => by
    have h1 := bulk_all fun x hx => h x (List.mem_cons_of_mem v hx)
    have h2 := gv_bulk (h v List.mem_cons_self)
    rw [List.map_cons, List.length_cons]
    simp only [PyData.bulkAll]
    omega
theorem depth_all : ∀ {us : List V}, (∀ v ∈ us, Gv v) → PyData.depthAll (us.map dV) ≤ 2
  | [], _ => by simp [PyData.depthAll]
  | v :: us, h => by
    have h1 := depth_all fun x hx => h x (List.mem_cons_of_mem v hx)
    have h2 : (dV v).depth ≤ 2 := by
      cases h v List.mem_cons_self with
      | str x e _ => subst e; show (PyData.str x).depth ≤ 2; simp only [PyData.depth]; omega
      | int i e _ => subst e; show (PyData.int i).depth ≤ 2; simp only [PyData.depth]; omega
    rw [List.map_cons]
    simp only [PyData.depthAll]
    omega
theorem fit_row {us : List V} (g : ∀ v ∈ us, Gv v) (hn : us.length ≤ 901) : Fit (.list (us.map dV)) := by
  refine Lf.fit (lf_list fun d hd => ?_) ?_ ?_
  · obtain ⟨e, he, rfl⟩ := List.mem_map.mp hd
    exact gv_lf (g e he)
  · have := bulk_all g
    simp only [PyData.bulk]
    omega
  · have := depth_all g
    simp only [PyData.depth]
    omega
/-- what is told of a row, shown -/
theorem rowV_shown {z : Str} (hl : z.length ≤ 800) : ∃ sh : Str, ∀ H v, RowV H z v → ∀ Q : VK, Q (.str sh) H → cReprA [v] H Q := by
  cases e : rowM z with
  | none =>
    refine ⟨"None", fun H v h Q q => ?_⟩
    cases h with
    | no _ e => exact .non (by rw [e]) q
    | yes us D h => rw [e] at h; cases h
  | some us =>
    obtain ⟨g1, g2⟩ := row_good e hl
    refine ⟨(PyData.list (us.map dV)).shown, fun H v h Q q => ?_⟩
    cases h with
    | no h => rw [e] at h; cases h
    | yes vs D h e' k =>
      rw [e] at h
      cases h
      exact .mk D _ (by rw [e']) (dat_row k g2) (fit_row g2 g1) q
end Pr
set_option Elab.async false
set_option linter.all false
set_option maxRecDepth 100000
/-! the law -/
namespace L2
open PySem PyProof.Rows
theorem Same.butF {HX H1 H2 : Hp} {p : Addr} (s : Same HX H1) (c : But p H1 H2) (hp : HX p = none) : Same HX H2 := fun b o e => c _ _ (s _ _ e) (ne_of_none e hp)
end L2
namespace Pr
open PySem L2 PyProof.Rows Ent
section
variable {P : Program} {w : World} {K : PySem.W.Frag} {mg : Str → Option Value} {base : Heap} {C : Addr}
inductive sp_law (K : PySem.W.Frag) (vs : List V) (H : Hp) (Q : VK) (E : XK) : Prop
  | mk (a : Addr) (ns : List Int) (e : vs = [.ref a]) (h : SqL K H a (ns.map V.int)) (hl : ns.length ≤ 63) (q : ∀ H', Q (.bl true) H') : sp_law K vs H Q E
theorem sc_law : FnScope ["_law_script", "_law_k", "_law_pot_here", "_law_row", "_law_told_here"] ["_law_script"] (defScope s_law) := ⟨rfl, rfl, rfl, by decide +kernel, rfl, by decide +kernel, by decide +kernel⟩
set_option maxHeartbeats 8000000 in
theorem law_ok (T : Txt K mg C) (Z : TabAt K P w mg) {f : Addr} {fd : FuncData} (F : Fun K "law" "law" s_law f fd) : FnOk P w K mg base CX0 8 f fd ["_law_script"] (sp_law K) := by
  refine F.ok sc_law (fun vs H Q E h => ?_) (fun cdv A outer s H vs Q E hr h => ?_)
  · obtain ⟨a, ns, rfl, _⟩ := h
    rfl
  · obtain ⟨a, ns, rfl, ha, hl, q⟩ := h
    refine ⟨_, (pss_cons (ps_for PassesOwn.never rfl (pi_range1 rfl T.b_range (pa1 (pe_b (call_max2 rfl) T.b_max boot_max (pa2 pe_int (pe_b (call_min2 rfl) T.b_min boot_min (pa2 (pe_b (call_lenK K) T.b_len boot_len (pa1 (pv 0))) pe_int)))))) (pg_name (i := 1) sc_law.nd rfl (Or.inl rfl))
        (pss_cons (ps_set (i := 2) sc_law.nd rfl (Or.inl rfl) (pe_can (pot T) hr (pa1 (pe_op op_add (pe_can (cell T) hr (pa2 (pv 0) (pv 1))) (pe_op op_mul pe_int (pv 1))))))
        (pss_cons (ps_set (i := 3) sc_law.nd rfl (Or.inl rfl) (pe_can (spoilt T) hr (pa2 (pv 2) (pe_can (built T) hr (pa1 (pv 2))))))
        (pss_cons (ps_set (i := 4) sc_law.nd rfl (Or.inl rfl) (pe_can (told T Z) hr (pa1 (pv 3))))
        (pss_cons (ps_if (pt_cmpR op_ne (pe_b (call_reprA hr) T.b_repr boot_repr (pa1 (pv 4))) (pe_b (call_reprA hr) T.b_repr boot_repr (pa1 (pe_can (due T) hr (pa1 (pv 3))))) (nomark _))
          (pss_one (ps_ret pe_bl))
          pss_nil)
        (pss_one (ps_if (pt_cmpR op_notN (pv 4) pe_non (nomark _))
          (pss_cons (ps_expr (pe_bmK K PySem.F.plainAttrs_list PySem.F.slot_list_append PySem.F.type_list_append mt_append (pv 4) (pa1 pe_str)))
          (pss_one (ps_if (pt_cmpR op_ne (pe_b (call_reprA hr) T.b_repr boot_repr (pa1 (pe_can (told T Z) hr (pa1 (pv 3))))) (pe_b (call_reprA hr) T.b_repr boot_repr (pa1 (pe_can (due T) hr (pa1 (pv 3))))) (nomark _))
            (pss_one (ps_ret pe_bl))
            pss_nil)))
          pss_nil)))))))
      (pss_one (ps_ret (pe_b (call_all_seqK K rfl) T.b_all boot_all (pa1 (pe_lc rfl (lcS sc_law) (pi_listK K (pe_lst (pa_cons pe_non (pa_cons pe_int (pa_cons pe_bl (pa3 (pe_lst (pa3 pe_str pe_str pe_str)) (pe_tup (pa2 pe_str pe_str)) pe_dnewK)))))) (fun _ _ _ _ => pts_nil) (fun _ _ _ _ => (pe_cmpR op_isN (pe_can (told T Z) hr (pa1 (pv 0))) pe_non (nomark _))))))))), ?_⟩
    have hlen : ((ns.map V.int).length : Int) = ns.length := by rw [List.length_map]
    refine ⟨_, rfl, a, _, rfl, .inl ha, _, _, rfl, _, _, rfl, _, rfl, by rw [hlen]; omega, by rw [hlen]; omega, ?_⟩
    have hub : (max (6 : Int) (min ((ns.map V.int).length : Int) 30)).toNat ≤ 30 := by rw [hlen]; omega
    refine for_range (fun i σ H1 => ∃ v1 v2 v3 v4, σ = [some (.ref a), v1, v2, v3, v4] ∧ Same H H1) ⟨_, _, _, _, rfl, Same.refl _⟩ (fun i σ H1 hi h => ?_) (fun σ H1 h => ?_)
    · obtain ⟨v1, v2, v3, v4, rfl, s1⟩ := h
      have ha1 : SqL K H1 a (ns.map V.int) := s1.seq ha
      refine ⟨_, rfl, _, rfl, a, ns, _, rfl, ha1, by omega, fun n => ⟨_, rfl, _, _, rfl, rfl, .inl ⟨by omega, by omega⟩, _, _, rfl, rfl, _, rfl, fun p H2 s2 hp hP2 => ?_⟩⟩
      refine ⟨_, rfl, _, rfl, .mk p rfl hP2 fun z0 H3 z0a z0l b3 hP3 => .mk p z0 rfl hP3 z0a z0l fun z H4 za zl b4 hP4 => ?_⟩
      have s14 : Same H1 H4 := Same.butF s2 (b3.trans b4) hp
      obtain ⟨sh, hsh⟩ := rowV_shown zl
      have dz : (!decide (V.str sh = V.str sh)) = false := by simp
      refine ⟨_, rfl, .mk z rfl zl za fun v H5 s5 rv fr => ?_⟩
      refine ⟨_, rfl, hsh H5 v rv _ ⟨_, rfl, .mk z rfl zl za fun v6 H6 s6 rv6 => hsh H6 v6 rv6 _ ⟨rfl, _, rfl, iteD dz ?_⟩⟩⟩
      have s16 : Same H1 H6 := s14.trans (s5.trans s6)
      cases rv with
      | no h e =>
        subst e
        exact ⟨_, rfl, rfl, _, rfl, iteD (by rfl) ⟨_, _, _, _, rfl, s1.trans s16⟩⟩
      | yes us D h e k =>
        subst e
        obtain ⟨g1, g2⟩ := row_good h zl
        have hD1 : H1 D = none := s14.free (fr D rfl)
        have k6 := s6 _ _ k
        refine ⟨_, rfl, rfl, _, rfl, iteC (by rfl) ⟨_, rfl, .inl ⟨rfl, _, .of k6⟩, D, _, _, rfl, rfl, k6, line6 (by omega), ?_⟩⟩
        have s17 : Same H1 (upd H6 D (.lst (us ++ [V.str "x"]))) := s16.but_ne hD1
        generalize (upd H6 D (.lst (us ++ [V.str "x"]))) = H7 at s17
        refine ⟨_, rfl, .mk z rfl zl za fun v8 H8 s8 rv8 fr8 => hsh H8 v8 rv8 _ ⟨_, rfl, .mk z rfl zl za fun v9 H9 s9 rv9 => hsh H9 v9 rv9 _ ⟨rfl, _, rfl, iteD dz ?_⟩⟩⟩
        exact ⟨_, _, _, _, rfl, s1.trans (s17.trans (s8.trans s9))⟩
    · obtain ⟨v1, v2, v3, v4, rfl, s1⟩ := h
      refine ⟨(by show 3 ≤ sizeLine; decide), fun A1 hA1 => ⟨two_line, fun A2 hA2 => fun Dk hDk => ⟨by show 6 ≤ sizeLine; decide, fun B hB => ?_⟩⟩⟩
      have k1 : (upd H1 A1 (.lst [.str "take", .str "a", .str "b"])) A1 = some (.lst [.str "take", .str "a", .str "b"]) := upd_same
      generalize (upd H1 A1 (.lst [.str "take", .str "a", .str "b"])) = G1 at k1 hA2 hDk hB
      have t2 := Same.upd (H := G1) (o := .tup [.str "rank", .str "a"]) hA2
      have k2 : (upd G1 A2 (.tup [.str "rank", .str "a"])) A2 = some (.tup [.str "rank", .str "a"]) := upd_same
      generalize (upd G1 A2 (.tup [.str "rank", .str "a"])) = G2 at t2 k2 hDk hB
      have t3 := Same.upd (H := G2) (o := .dK []) hDk
      have k3 : (upd G2 Dk (.dK [])) Dk = some (.dK []) := upd_same
      generalize (upd G2 Dk (.dK [])) = G3 at t3 k3 hB
      generalize hmm : ([.non, .int 7, .bl true, .ref A1, .ref A2, .ref Dk] : List V) = mm
      have ml : mm.length = 6 := by rw [← hmm]; rfl
      have t4 := Same.upd (H := G3) (o := .lst mm) hB
      have k4 : (upd G3 B (.lst mm)) B = some (.lst mm) := upd_same
      generalize (upd G3 B (.lst mm)) = G4 at t4 k4
      have j1 := t4 _ _ (t3 _ _ (t2 _ _ k1))
      have j2 := t4 _ _ (t3 _ _ k2)
      have j3 := t4 _ _ k3
      have bz : ∀ v ∈ mm, ∀ G5, Same G4 G5 → ∃ t, TyW G5 v t ∧ PySem.W.kitOne K t (.type "str") = some false := fun v hv G5 s5 => by
        rw [← hmm] at hv
        simp only [List.mem_cons, List.not_mem_nil, or_false] at hv
        rcases hv with rfl | rfl | rfl | rfl | rfl | rfl
        · exact ⟨_, .non, rfl⟩
        · exact ⟨_, .s (.int 7), rfl⟩
        · exact ⟨_, .s (.bl true), rfl⟩
        · exact ⟨_, .s (.lst (s5 _ _ j1)), rfl⟩
        · exact ⟨_, .s (.tup (s5 _ _ j2)), rfl⟩
        · exact ⟨_, .dK (s5 _ _ j3), rfl⟩
      refine ⟨B, rfl, ⟨_, .of k4⟩, fun D hD => ?_⟩
      refine lc_list (xs := mm) (fun i ys H5 => H5 D = some (.lst ys) ∧ Same G4 H5 ∧ ys = (List.replicate i true).map V.bl) ⟨upd_same, Same.upd hD, rfl⟩ (fun i ys H5 h => ⟨h.1, .of (h.2.1 _ _ k4)⟩) (fun ys H5 h => ?_) fun i x ys H5 hi hx h => ?_
      · obtain ⟨h1, h2, rfl⟩ := h
        refine ⟨D, _, rfl, .of h1, ?_⟩
        rw [ml]
        exact q _
      · obtain ⟨h1, h2, rfl⟩ := h
        obtain ⟨t, ty, kt⟩ := bz x (List.mem_of_getElem? hx) H5 h2
        refine yesI ⟨_, rfl, .no x t rfl ty kt fun H6 s6 => ⟨rfl, LcNx.mk6 hi (by omega) (by rw [List.length_map, List.length_replicate]; exact Nat.le_refl _) (s6 _ _ h1) ⟨upd_same, (h2.trans s6).but_ne hD, ?_⟩⟩⟩
        rw [List.replicate_succ', List.map_append]
        rfl
theorem law_all (T : Txt K mg C) (Z : Kinds K w mg) {fa : Addr} (hmg : mg "law" = some (.ref fa)) :
    ∃ fd : FuncData, (∀ (s : Shared) (u : Value), BindsTo s fd ⟨[u], []⟩ [("_law_script", u)]) ∧ ∀ base : Heap, K.In base → base.Ns mainGlobals mg → FnOk P w K mg base CX0 8 fa fd ["_law_script"] (sp_law K) := by
  obtain ⟨f, fd, F⟩ := T.f_law
  have e := hmg.symm.trans F.m
  cases e
  obtain ⟨oc, od, kV, doc, pm, an, cdv, ct, osl, rfl, lk, hcd⟩ := F.fn.ex
  exact ⟨_, fun s u => .of_eq rfl, fun base _ _ => law_ok T (Z.tab P) F.fn⟩
end
theorem kinds_mk {K : PySem.W.Frag} {w : World} {h : Heap} {mg : Str → Option Value} (X : K.In h) (G : h.Ns mainGlobals mg) {a a1 a2 a3 a4 a5 a6 : Addr} {k1 k2 k3 k4 k5 k6 : Tok} (c : PySem.W.nsIn K mainGlobals "KINDS" = some (some (.ref a))) (ns : (a == sysModules) = false)
    (d : K.lookup a = some { cls := .type "dict", data := .dict #[⟨PyData.keyHash w.params "put", .str "put" k1, .ref a1⟩, ⟨PyData.keyHash w.params "take", .str "take" k2, .ref a2⟩, ⟨PyData.keyHash w.params "shut", .str "shut" k3, .ref a3⟩, ⟨PyData.keyHash w.params "open", .str "open" k4, .ref a4⟩, ⟨PyData.keyHash w.params "forget", .str "forget" k5, .ref a5⟩, ⟨PyData.keyHash w.params "follow", .str "follow" k6, .ref a6⟩] 6 })
    (t1 : TupK K a1 (nms [.s, .k, .m, .m])) (t2 : TupK K a2 (nms [.s, .k])) (t3 : TupK K a3 (nms [.n, .n])) (t4 : TupK K a4 (nms [.n, .n])) (t5 : TupK K a5 (nms [.n, .m])) (t6 : TupK K a6 (nms [.s, .n, .n, .n])) : Kinds K w mg :=
  .mk a a1 a2 a3 a4 a5 a6 k1 k2 k3 k4 k5 k6 (PySem.W.mg_of X G c) ns d t1 t2 t3 t4 t5 t6
theorem tupK_mk {K : PySem.W.Frag} {a : Addr} {o : Obj} {its : Array Value} {n : Nat} {xs : List V} (h : K.lookup a = some o) (c : o.cls = .type "tuple") (d : o.data = .seq its n) (z : its.size ≤ 10) (v : Vals xs its.toList) : TupK K a xs := ⟨o, its, n, h, c, d, Nat.le_trans z (by decide), v⟩
theorem walk {l : PySem.W.OpenLaw} {q : Program} {loose : List Str} {XP : (Str → Option Value) → Heap → Prop} {YP : World → Heap → Prop} {d : DefRec} {K : Params → PySem.W.Frag} (hn : l.most = some 63) (hdf : d.params.defaults = [])
    (hY : ∀ (w : World) (h : Heap), YP w h → (K w.params).In h)
    (F : ∀ (w : World) (mg : Str → Option Value) (fa : Addr) (h : Heap), (K w.params).In h → h.Ns mainGlobals mg → mg d.name = some (.ref fa) →
      ∃ fd : FuncData, (∀ (s : Shared) (u : Value), BindsTo s fd ⟨[u], []⟩ [("_law_script", u)]) ∧ ∀ base : Heap, (K w.params).In base → base.Ns mainGlobals mg → FnOk l.prog w (K w.params) mg base CX0 8 fa fd ["_law_script"] (sp_law (K w.params))) :
    PySem.W.WalkO q loose XP YP l.row.toRowW d [] (fun f vs => PySem.call f vs) :=
  L2.walk_of (n := 63) (k := 8) (x := "_law_script") (CX := fun _ => CX0) (sp := fun w => sp_law (K w.params)) hn (by decide) hdf ⟨rfl, by decide, by decide, rfl⟩ hY F (fun _ _ a ns hl _ hS => ⟨a, ns, rfl, hS, hl, fun _ => rfl⟩) fun _ _ _ _ _ z => z
end Pr
set_option Elab.async false
set_option linter.all false
set_option maxRecDepth 100000
namespace L2
open PySem PyProof.Rows
variable {K : PySem.W.Frag} {x qual : Str} {st : Stmt} {g : Addr} {fd : FuncData} {p q r s t u v : Str}
end L2
set_option Elab.async false
set_option linter.all false
set_option maxRecDepth 100000
/-! what the head must show of a def, of a method: one fact each -/
namespace L2
open PySem PyProof.Rows
inductive FE (K : PySem.W.Frag) (x : Str) (st : Stmt) : Prop
  | mk {f : Addr} {od an : Option Addr} {sl : Array (Option Value)} {oc kV dc pm cd ct : Value} (a : PySem.W.nsIn K mainGlobals x = some (some (.ref f))) (l : K.lookup f = some ⟨oc, od, .func (PySem.W.fnOf x x (defArgs st) (defBody st) (defScope st) .none kV dc pm an cd ct), sl⟩) (c : PySem.W.codeIn K cd x = true) (k : PySem.W.keepIn K (.ref f) = true) : FE K x st
variable {K : PySem.W.Frag} {h : Heap} {mg : Str → Option Value} {x q : Str} {st : Stmt} {ps : List Str} {C : Addr}
theorem FE.fn (X : K.In h) (G : h.Ns mainGlobals mg) (e : FE K x st) (b : ∀ f fd, Fun K x x st f fd → Binds K fd ps []) : ∃ f fd, Fn K mg x st ps f fd := by
  obtain ⟨a, l, c, k⟩ := e
  exact ⟨_, _, fun_mk l c k, PySem.W.mg_of X G a, b _ _ (fun_mk l c k)⟩
end L2
set_option Elab.async false
set_option linter.all false
set_option maxRecDepth 100000
namespace Pr
open PySem L2 PyProof.Rows
set_option maxHeartbeats 0 in
theorem txt_mk {K : PySem.W.Frag} {h : Heap} {mg : Str → Option Value} {C : Addr} (X : K.In h) (G : h.Ns mainGlobals mg) {t_LETTERS : Tok} {t_KEY_SIGNS : Tok} {t_MOST_KEY_SIGNS : Tok} {t_MOST_SOURCE_SIGNS : Tok} {t_WIDE_FIGURES : Tok} {t_NUMBER_FIGURES : Tok} {c_NoRow : Addr} {cd_NoRow : ClassData}
    (a1 : FE K "is_word" s_is_word)
    (a2 : FE K "is_key" s_is_key)
    (a3 : FE K "is_source" s_is_source)
    (a4 : FE K "whole_of" s_whole_of)
    (a5 : FE K "words_of" s_words_of)
    (a6 : FE K "kinds_behind" s_kinds_behind)
    (a7 : FE K "read_word" s_read_word)
    (a8 : FE K "meaning_of" s_meaning_of)
    (a9 : FE K "_law_cell" s_law_cell)
    (a10 : FE K "_law_pot" s_law_pot)
    (a11 : FE K "_law_take" s_law_take)
    (a12 : FE K "_law_text" s_law_text)
    (a13 : FE K "_law_number" s_law_number)
    (a14 : FE K "_law_built" s_law_built)
    (a15 : FE K "_law_spoilt" s_law_spoilt)
    (a16 : FE K "_law_words" s_law_words)
    (a17 : FE K "_law_are" s_law_are)
    (a18 : FE K "_law_worth" s_law_worth)
    (a19 : FE K "_law_due" s_law_due)
    (a20 : FE K "_law_told" s_law_told)
    (a21 : FE K "law" s_law)
    (c_LETTERS : PySem.W.nsIn K mainGlobals "LETTERS" = some (some (.str "abcdefghijklmnopqrstuvwxyz" t_LETTERS)))
    (c_KEY_SIGNS : PySem.W.nsIn K mainGlobals "KEY_SIGNS" = some (some (.str "abcdefghijklmnopqrstuvwxyz0123456789" t_KEY_SIGNS)))
    (c_MOST_KEY_SIGNS : PySem.W.nsIn K mainGlobals "MOST_KEY_SIGNS" = some (some (.int 8 t_MOST_KEY_SIGNS)))
    (c_MOST_SOURCE_SIGNS : PySem.W.nsIn K mainGlobals "MOST_SOURCE_SIGNS" = some (some (.int 6 t_MOST_SOURCE_SIGNS)))
    (c_WIDE_FIGURES : PySem.W.nsIn K mainGlobals "WIDE_FIGURES" = some (some (.int 30 t_WIDE_FIGURES)))
    (c_NUMBER_FIGURES : PySem.W.nsIn K mainGlobals "NUMBER_FIGURES" = some (some (.int 40 t_NUMBER_FIGURES)))
    (b_ValueError : PySem.W.nsIn K mainGlobals "ValueError" = some none)
    (b_abs : PySem.W.nsIn K mainGlobals "abs" = some none)
    (b_all : PySem.W.nsIn K mainGlobals "all" = some none)
    (b_divmod : PySem.W.nsIn K mainGlobals "divmod" = some none)
    (b_int : PySem.W.nsIn K mainGlobals "int" = some none)
    (b_isinstance : PySem.W.nsIn K mainGlobals "isinstance" = some none)
    (b_len : PySem.W.nsIn K mainGlobals "len" = some none)
    (b_max : PySem.W.nsIn K mainGlobals "max" = some none)
    (b_min : PySem.W.nsIn K mainGlobals "min" = some none)
    (b_range : PySem.W.nsIn K mainGlobals "range" = some none)
    (b_repr : PySem.W.nsIn K mainGlobals "repr" = some none)
    (b_str : PySem.W.nsIn K mainGlobals "str" = some none)
    (b_zip : PySem.W.nsIn K mainGlobals "zip" = some none)
    (esp : PySem.W.specialIn K (.builtin "object.__class__") "__get__" = some (some (.builtin "getset_descriptor.__get__")))
    (etk : PySem.W.takesIn K (.builtin "object.__class__") = some true)
    (ea_NoRow : PySem.W.nsIn K mainGlobals "NoRow" = some (some (.ref c_NoRow)))
    (eo_NoRow : PySem.W.excIn K c_NoRow bmV "ValueError.__new__" = true)
    (eg_NoRow : PySem.W.findIn K (.ref c_NoRow) "__getattribute__" = some (some (.builtin "BaseException.__getattribute__")))
    (en_NoRow : PySem.W.findIn K (.ref c_NoRow) "__getattr__" = some none)
    (ef_NoRow : PySem.W.findIn K (.ref c_NoRow) "__class__" = some (some (.builtin "object.__class__")))
    (em_NoRow : PySem.W.mroIn K c_NoRow (.type "object") = some true)
    (es_NoRow : PySem.W.subIn K (.ref c_NoRow) (.type "BaseException") = some true)
    (ec_NoRow : PySem.W.clsIn K c_NoRow = some cd_NoRow)
    (e_NoRow_NoRow : PySem.W.exmOne K (.ref c_NoRow) (.ref c_NoRow) = some true) : Txt K mg C :=
  ⟨a1.fn X G fun _ _ F => F.b3 (by intros; rfl),
   a2.fn X G fun _ _ F => F.b1 (by intros; rfl),
   a3.fn X G fun _ _ F => F.b1 (by intros; rfl),
   a4.fn X G fun _ _ F => F.b2 (by intros; rfl),
   a5.fn X G fun _ _ F => F.b1 (by intros; rfl),
   a6.fn X G fun _ _ F => F.b2 (by intros; rfl),
   a7.fn X G fun _ _ F => F.b2 (by intros; rfl),
   a8.fn X G fun _ _ F => F.b2 (by intros; rfl),
   a9.fn X G fun _ _ F => F.b2 (by intros; rfl),
   a10.fn X G fun _ _ F => F.b1 (by intros; rfl),
   a11.fn X G fun _ _ F => F.b2 (by intros; rfl),
   a12.fn X G fun _ _ F => F.b3 (by intros; rfl),
   a13.fn X G fun _ _ F => F.b1 (by intros; rfl),
   a14.fn X G fun _ _ F => F.b1 (by intros; rfl),
   a15.fn X G fun _ _ F => F.b2 (by intros; rfl),
   a16.fn X G fun _ _ F => F.b1 (by intros; rfl),
   a17.fn X G fun _ _ F => F.b3 (by intros; rfl),
   a18.fn X G fun _ _ F => F.b2 (by intros; rfl),
   a19.fn X G fun _ _ F => F.b1 (by intros; rfl),
   a20.fn X G fun _ _ F => F.b1 (by intros; rfl),
   a21.fn X G fun _ _ F => F.b1 (by intros; rfl),
   ⟨_, PySem.W.mg_of X G c_LETTERS⟩,
   ⟨_, PySem.W.mg_of X G c_KEY_SIGNS⟩,
   ⟨_, PySem.W.mg_of X G c_MOST_KEY_SIGNS⟩,
   ⟨_, PySem.W.mg_of X G c_MOST_SOURCE_SIGNS⟩,
   ⟨_, PySem.W.mg_of X G c_WIDE_FIGURES⟩,
   ⟨_, PySem.W.mg_of X G c_NUMBER_FIGURES⟩,
   PySem.W.mg_none_of X G b_ValueError,
   PySem.W.mg_none_of X G b_abs,
   PySem.W.mg_none_of X G b_all,
   PySem.W.mg_none_of X G b_divmod,
   PySem.W.mg_none_of X G b_int,
   PySem.W.mg_none_of X G b_isinstance,
   PySem.W.mg_none_of X G b_len,
   PySem.W.mg_none_of X G b_max,
   PySem.W.mg_none_of X G b_min,
   PySem.W.mg_none_of X G b_range,
   PySem.W.mg_none_of X G b_repr,
   PySem.W.mg_none_of X G b_str,
   PySem.W.mg_none_of X G b_zip,
   xc_mk (PySem.W.mg_of X G ea_NoRow) eo_NoRow eg_NoRow en_NoRow ef_NoRow esp etk em_NoRow es_NoRow ec_NoRow,
   (by rw [cOf_eq (PySem.W.mg_of X G ea_NoRow)]; exact e_NoRow_NoRow)⟩
end Pr
set_option Elab.async false
set_option linter.all false
set_option maxRecDepth 100000
open PySem PySem.W PyProof.Rows
def PySem.W.Fast.tw861502493610598483 : Nat := 0
def PySem.W.Fast.tw7774113678449685934 : Nat := 0
def PySem.W.Fast.tw1474578970297107366 : Nat := 0
def PySem.W.Fast.tw14211855207546398734 : Nat := 0
def PySem.W.Fast.tw11843415546741370313 : Nat := 0
def PySem.W.Fast.tw13797355535440723964 : Nat := 0
def PySem.W.Fast.tw8485604247826754651 : Nat := 0
def PySem.W.Fast.tw9385439782273163706 : Nat := 0
def PySem.W.Fast.tw4562827626845409882 : Nat := 0
def PySem.W.Fast.tw87601786513091389 : Nat := 0
def PySem.W.Fast.tw13757698761724263525 : Nat := 0
def PySem.W.Fast.tw4683681711962371626 : Nat := 0
def PySem.W.Fast.tw140236481695663071 : Nat := 0
def PySem.W.Fast.tw11066385474520676512 : Nat := 0
def PySem.W.Fast.tw4684226298888400098 : Nat := 0
def PySem.W.Fast.tw3042748168174471775 : Nat := 0
def PySem.W.Fast.tw9582823730064241283 : Nat := 0
def PySem.W.Fast.tw5994696166404524948 : Nat := 0
def PySem.W.Fast.tw4906484309439969231 : Nat := 0
def PySem.W.Fast.tw8912161614967838395 : Nat := 0
def PySem.W.Fast.tw8297923619242306668 : Nat := 0
def PySem.W.Fast.tw9536688357841153863 : Nat := 0
def PySem.W.Fast.tw4849480874435393781 : Nat := 0
def PySem.W.Fast.tw7029441310896991908 : Nat := 0
def PySem.W.Fast.tw5217270863462422736 : Nat := 0
def PySem.W.Fast.tw209982475168477708 : Nat := 0
def PySem.W.Fast.tw6128106870883400570 : Nat := 0
def PySem.W.Fast.tw15861351967447197489 : Nat := 0
def PySem.W.Fast.tw2187251505897268136 : Nat := 0
def PySem.W.Fast.tw9860861378791804195 : Nat := 0
def PySem.W.Fast.tw3641951560692057861 : Nat := 0
def PySem.W.Fast.tw16723463757517087524 : Nat := 0
def PySem.W.Fast.tw16955839230299176341 : Nat := 0
def PySem.W.Fast.tw14424681132571578402 : Nat := 0
def PySem.W.Fast.tw15127105006835628225 : Nat := 0
def PySem.W.Fast.tw11962351593759143498 : Nat := 0
def PySem.W.Fast.tw2403389108928632939 : Nat := 0
def PySem.W.Fast.tw9848817304349107530 : Nat := 0
def PySem.W.Fast.tw1495895850433845275 : Nat := 0
def PySem.W.Fast.tw10294118229990073760 : Nat := 0
def PySem.W.Fast.tw3270257207059953099 : Nat := 0
def PySem.W.Fast.tw8219003486749837733 : Nat := 0
def PySem.W.Fast.tw8972062959192195235 : Nat := 0
def PySem.W.Fast.tw10295913840692754127 : Nat := 0
def PySem.W.Fast.tw12903330217458380548 : Nat := 0
def PySem.W.Fast.tw6522051377940421278 : Nat := 0
def PySem.W.Fast.tw8899516883271353254 : Nat := 0
def PySem.W.Fast.tw12330612334027959195 : Nat := 0
def PySem.W.Fast.tw5702276774652866934 : Nat := 0
def PySem.W.Fast.tw2789304352393801511 : Nat := 0
def PySem.W.Fast.tw16822532161544500889 : Nat := 0
def PySem.W.Fast.tw10042083083395451092 : Nat := 0
def PySem.W.Fast.tw2941924889016668590 : Nat := 0
def PySem.W.Fast.tw5444512763150141072 : Nat := 0
def PySem.W.Fast.tw446995266069924076 : Nat := 0
def PySem.W.Fast.tw16409965706819354750 : Nat := 0
def PySem.W.Fast.tw13953587524928339648 : Nat := 0
def PySem.W.Fast.tw17214186515701724070 : Nat := 0
def PySem.W.Fast.tw3419001889969749887 : Nat := 0
set_option maxHeartbeats 0 in
open_top hd for PySem.Challenge.rw_peakroll_k91_rows_of_words
set_option maxHeartbeats 0 in
theorem PySem.Challenge.cw_peakroll_k91_rows_of_words_holds : PySem.Challenge.rw_peakroll_k91_rows_of_words.Holds := by
  refine hd ?_
  k_fill
  refine Pr.walk (l := PySem.Challenge.rw_peakroll_k91_rows_of_words) rfl rfl (fun w h Y => PySem.W.kIn_of Y) ?F
  case F =>
    intro w mg fa h KX G hmg
    have T : ∃ C, Pr.Txt (L2.KOf KX) mg C := by
      dsimp only [L2.KOf]
      refine' ⟨0, Pr.txt_mk (C := 0) KX G ?a1 ?a2 ?a3 ?a4 ?a5 ?a6 ?a7 ?a8 ?a9 ?a10 ?a11 ?a12 ?a13 ?a14 ?a15 ?a16 ?a17 ?a18 ?a19 ?a20 ?a21 ?c_LETTERS ?c_KEY_SIGNS ?c_MOST_KEY_SIGNS ?c_MOST_SOURCE_SIGNS ?c_WIDE_FIGURES ?c_NUMBER_FIGURES ?b_ValueError ?b_abs ?b_all ?b_divmod ?b_int ?b_isinstance ?b_len ?b_max ?b_min ?b_range ?b_repr ?b_str ?b_zip ?esp ?etk ?ea_NoRow ?eo_NoRow ?eg_NoRow ?en_NoRow ?ef_NoRow ?em_NoRow ?es_NoRow ?ec_NoRow ?e_NoRow_NoRow⟩
      (case a1 | a2 | a3 | a4 | a5 | a6 | a7 | a8 | a9 | a10 | a11 | a12 | a13 | a14 | a15 | a16 | a17 | a18 | a19 | a20 | a21 => apply L2.FE.mk; k_is; k_is; k_is; k_is)
      (case c_LETTERS | c_KEY_SIGNS | c_MOST_KEY_SIGNS | c_MOST_SOURCE_SIGNS | c_WIDE_FIGURES | c_NUMBER_FIGURES | b_ValueError | b_abs | b_all | b_divmod | b_int | b_isinstance | b_len | b_max | b_min | b_range | b_repr | b_str | b_zip | esp | etk => k_is)
      (case ea_NoRow => k_is)
      (case eo_NoRow => k_exc)
      (case eg_NoRow => k_is)
      (case en_NoRow => k_is)
      (case ef_NoRow => k_is)
      (case em_NoRow => k_is)
      (case es_NoRow => k_is)
      (case ec_NoRow => k_is)
      (case e_NoRow_NoRow => kts_exm)
    obtain ⟨C, T⟩ := T
    have Z : Pr.Kinds (L2.KOf KX) w mg := by
      dsimp only [L2.KOf]
      refine' Pr.kinds_mk KX G ?z0 ?z1 ?z2 ?z3 ?z4 ?z5 ?z6 ?z7 ?z8
      (case z0 => k_is)
      (case z1 => exact rfl)
      (case z2 => exact rfl)
      (case z3 => exact Pr.tupK_mk rfl rfl rfl (by decide) (.cons ⟨_, rfl⟩ (.cons ⟨_, rfl⟩ (.cons ⟨_, rfl⟩ (.cons ⟨_, rfl⟩ .nil)))))
      (case z4 => exact Pr.tupK_mk rfl rfl rfl (by decide) (.cons ⟨_, rfl⟩ (.cons ⟨_, rfl⟩ .nil)))
      (case z5 => exact Pr.tupK_mk rfl rfl rfl (by decide) (.cons ⟨_, rfl⟩ (.cons ⟨_, rfl⟩ .nil)))
      (case z6 => exact Pr.tupK_mk rfl rfl rfl (by decide) (.cons ⟨_, rfl⟩ (.cons ⟨_, rfl⟩ .nil)))
      (case z7 => exact Pr.tupK_mk rfl rfl rfl (by decide) (.cons ⟨_, rfl⟩ (.cons ⟨_, rfl⟩ .nil)))
      (case z8 => exact Pr.tupK_mk rfl rfl rfl (by decide) (.cons ⟨_, rfl⟩ (.cons ⟨_, rfl⟩ (.cons ⟨_, rfl⟩ (.cons ⟨_, rfl⟩ .nil)))))
    exact Pr.law_all T Z hmg
