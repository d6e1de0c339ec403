import PyProof.Rows.All
import Wide.All
import OpenK.AllK
import Wide.FinOn
import Lean
import PyProof.EqAt
import PyProof.EqKinds
import PyProof.TupleCall
import KE.KTryMore
import PyProof.RaisesMany
import PyProof.RulesAs
import PyProof.ExcBaseAll.ValueError
import PyProof.NsDelKeeps
import KE.KIsNot
import PyProof.ExcArgs
import KE.RegKIsAll
import KE.RegKTryMore
import KE.KSortTup
import KE.KIntText
import PySem.Challenge.RW_peakroll_k24_no_entries_text
set_option Elab.async false
set_option linter.all false
set_option maxRecDepth 100000
/-! THE HAND LAYER, for ints, bools, texts, own classes, LISTS and tuples (index, slices, in, append, pop ..), calls, loops. Paste it whole ahead of your own text; what your proof does not reach may be deleted. -/
namespace L2
open PySem PySem.Spec PyProof.Rows

/-- a key: an int or a str -/
abbrev Key := Sum Int Str
def keyIs : Key → Value → Bool
  | .inl k, v => Value.isInt k v
  | .inr x, v => Value.isStrOf x v
def keyH (w : World) : Key → Int
  | .inl k => hashInt k
  | .inr x => hashStr w x
theorem keyIs_shape : ∀ {k : Key} {v : Value}, keyIs k v = true → (∃ i t, k = Sum.inl i ∧ v = Value.int i t) ∨ (∃ x t, k = Sum.inr x ∧ v = Value.str x t)
  | .inl i, v, h => by
    obtain ⟨t, e⟩ := Value.isInt_shape (k := i) (v := v) h
    exact .inl ⟨i, t, rfl, e⟩
  | .inr x, v, h => by
    obtain ⟨t, e⟩ := Value.isStrOf_shape (x := x) (v := v) h
    exact .inr ⟨x, t, rfl, e⟩
theorem key_ll (a b : Int) : decide ((Sum.inl a : Key) = Sum.inl b) = (a == b) := by
  by_cases e : a = b
  · subst e; simp
  · have h : ¬ (Sum.inl a : Key) = Sum.inl b := fun q => e (Sum.inl.inj q)
    rw [decide_eq_false h]
    exact (beq_eq_false_iff_ne.mpr e).symm
theorem key_rr (a b : Str) : decide ((Sum.inr a : Key) = Sum.inr b) = decide (a = b) := by
  by_cases e : a = b
  · subst e; simp
  · have h : ¬ (Sum.inr a : Key) = Sum.inr b := fun q => e (Sum.inr.inj q)
    rw [decide_eq_false h, decide_eq_false e]
theorem key_lr (a : Int) (b : Str) : decide ((Sum.inl a : Key) = Sum.inr b) = false := decide_eq_false (fun q => nomatch q)
theorem key_rl (a : Str) (b : Int) : decide ((Sum.inr a : Key) = Sum.inl b) = false := decide_eq_false (fun q => nomatch q)

def mixKind (prog : Program) (w : World) : PySem.KeyKind prog w Key where
  is := keyIs
  hash := keyH w
  inj := fun v a b ha hb => by
    rcases keyIs_shape ha with ⟨i, t, rfl, rfl⟩ | ⟨x, t, rfl, rfl⟩
    · rcases keyIs_shape hb with ⟨j, u, rfl, e⟩ | ⟨y, u, rfl, e⟩
      · injection e with e1 _; rw [e1]
      · exact nomatch e
    · rcases keyIs_shape hb with ⟨j, u, rfl, e⟩ | ⟨y, u, rfl, e⟩
      · exact nomatch e
      · injection e with e1 _; rw [e1]
  byValue := fun k v h => by
    rcases keyIs_shape h with ⟨i, t, rfl, rfl⟩ | ⟨x, t, rfl, rfl⟩ <;> rfl
  pyHash := fun hv h => by
    rcases keyIs_shape hv with ⟨i, t, rfl, rfl⟩ | ⟨x, t, rfl, rfl⟩
    · exact wpAny_pyHash_int h
    · exact wpAny_pyHash_str h
  eqBool := fun hu hv h => by
    rcases keyIs_shape hu with ⟨i, t, rfl, rfl⟩ | ⟨x, t, rfl, rfl⟩
    · rcases keyIs_shape hv with ⟨j, u, rfl, rfl⟩ | ⟨y, u, rfl, rfl⟩
      · rw [key_ll] at h; exact wpAny_eqBool_int h
      · rw [key_lr] at h; exact SeqAt.EqAt.int_str i t y u _ _ _ _ h
    · rcases keyIs_shape hv with ⟨j, u, rfl, rfl⟩ | ⟨y, u, rfl, rfl⟩
      · rw [key_rl] at h; exact SeqAt.EqAt.str_int x t j u _ _ _ _ h
      · rw [key_rr] at h; exact wpAny_eqBool_str h
  «strs» := fun k x t v h => by
    rcases keyIs_shape h with ⟨i, u, rfl, e⟩ | ⟨y, u, rfl, e⟩
    · exact nomatch e
    · injection e with e1 _
      subst e1
      cases v <;> rfl

end L2

namespace L2
open PySem PySem.Spec PyProof.Rows

/-- a value, without the heap -/
inductive V where
  | non | bl (b : Bool) | int (i : Int) | str (x : Str) | byt (b : Array UInt8) | flt (b : UInt64) | ref (a : Addr) | ty (n : String)
  deriving DecidableEq

def RelV : V → Value → Prop
  | .non, u => u = Value.none
  | .bl b, u => u = Value.bool b
  | .int i, u => ∃ t, u = Value.int i t
  | .str x, u => ∃ t, u = Value.str x t
  | .byt b, u => ∃ t, u = Value.bytes b t
  | .flt b, u => ∃ t, u = Value.float b t
  | .ref a, u => u = Value.ref a
  | .ty n, u => u = Value.type n

abbrev Vals : List V → List Value → Prop := Paired RelV
theorem Vals.length {xs : List V} {us : List Value} (r : Vals xs us) : xs.length = us.length := Paired.length r
theorem Vals.get : ∀ {xs : List V} {us : List Value} {i : Nat} {x : V}, Vals xs us → xs[i]? = some x → ∃ u, us[i]? = some u ∧ RelV x u
  | _, _, _, _, .nil, e => by simp at e
  | _, _, 0, _, .cons r _, e => by simp at e; subst e; exact ⟨_, rfl, r⟩
  | _, _, i + 1, x, .cons _ t, e => by
    obtain ⟨u, h1, h2⟩ := Vals.get (i := i) (x := x) t (by simpa using e)
    exact ⟨u, by simpa using h1, h2⟩
theorem Vals.set {x : V} {u : Value} (r : RelV x u) : ∀ {xs : List V} {us : List Value} (i : Nat), Vals xs us → Vals (xs.set i x) (us.set i u)
  | _, _, _, .nil => .nil
  | _, _, 0, .cons _ t => .cons r t
  | _, _, i + 1, .cons q t => .cons q (Vals.set r i t)
theorem Vals.append : ∀ {xs ys : List V} {us ws : List Value}, Vals xs us → Vals ys ws → Vals (xs ++ ys) (us ++ ws)
  | _, _, _, _, .nil, s => s
  | _, _, _, _, .cons r t, s => .cons r (Vals.append t s)

def RelO : Option V → Option Value → Prop
  | some v, some u => RelV v u
  | none, none => True
  | _, _ => False
def KV {κ : Type} : List (κ × V) → List (κ × Value) → Prop := Paired fun (p : κ × V) (q : κ × Value) => p.1 = q.1 ∧ RelV p.2 q.2

/-- a key of a dict (00_mix): an int or a text -/
def kV : Key → V
  | .inl i => .int i
  | .inr x => .str x

/-- what stands at a tracked address -/
inductive HO where
  /-- a list -/
  | lst (xs : List V)
  /-- a tuple (never changes) -/
  | tup (xs : List V)
  /-- a dict whose keys are ints and texts; one whose keys are tuples of ints and texts (the empty one is both) -/
  | dK (kvs : List (Key × V)) | dT (kvs : List (List Key × V))
  /-- a set of ints: its members, its size -/
  | set (S : Int → Bool) (n : Nat)
  /-- an instance of the class at C, its dict at dx, its attributes -/
  | ins (C dx : Addr) (fs : List (Str × V))
  /-- the dict of the instance at x -/
  | own (x : Addr)
  /-- the dict of an exception -/
  | xd (fs : List (Str × V))
  /-- a bound method, f of x -/
  | met (f x : Addr)
  /-- a range object lo, lo + 1, .. below hi -/
  | rng (lo hi : Int)
  /-- a thing that is known to the object (the script; a dict while a loop walks it): read, never written while it is so -/
  | frz (o : Obj) (u : HO)
  /-- a code object's table -/
  | tbl (ps : Array Value)
  /-- any other thing, by what is true of its one object (a def of one's own: SetO a S n := HO.ext fun h => ..) -/
  | ext (φ : Heap → Prop)

abbrev Hp := Addr → Option HO
def upd (H : Hp) (a : Addr) (o : HO) : Hp := fun b => if b = a then some o else H b
theorem upd_same {H : Hp} {a : Addr} {o : HO} : upd H a o a = some o := by unfold upd; rw [if_pos rfl]
theorem upd_ne {H : Hp} {a b : Addr} {o : HO} (h : b ≠ a) : upd H a o b = H b := by unfold upd; rw [if_neg h]
/-- two objects of different content stand apart -/
theorem ne_of {H : Hp} {a b : Addr} {o u : HO} (h : H a = some o) (h' : H b = some u) (d : o ≠ u) : a ≠ b := by
  intro e; subst e; rw [h] at h'; exact d (Option.some.inj h')
theorem ne_of_none {H : Hp} {a b : Addr} {o : HO} (h : H a = some o) (h' : H b = none) : a ≠ b := by
  intro e; subst e; rw [h] at h'; cases h'

section
variable (P : Program) (w : World)
def ObjOk (H : Hp) (h : Heap) (a : Addr) : HO → Prop
  | .lst xs => xs.length ≤ sizeLine ∧ ∃ (its : List Value) (n : Nat), Vals xs its ∧ h.get? a = some { cls := .type "list", data := .seq its.toArray n }
  | .tup xs => xs.length ≤ sizeLine ∧ ∃ its : List Value, Vals xs its ∧ IsTup h a its.toArray
  | .dK kvs => kvs.length ≤ sizeLine ∧ (a == sysModules) = false ∧ ∃ vs, KV kvs vs ∧ h.DictOf (mixKind P w) a vs
  | .dT kvs => kvs.length ≤ sizeLine ∧ (a == sysModules) = false ∧ ∃ xs : List (List Key × Addr × Value),
      Paired (fun (p : List Key × V) (q : List Key × Addr × Value) => p.1 = q.1 ∧ H q.2.1 = some (.tup (p.1.map kV)) ∧ RelV p.2 q.2.2) kvs xs ∧
      ∃ o es ep, h.get? a = some o ∧ o.ExactDict ∧ o.data = .dict es ep ∧ es.toList = xs.map (entryOfKey (tupleKind (mixKind P w))) ∧ (xs.map (·.1)).Nodup
  | .set S n => h.SetOf (intKind P w) a S n
  | .ins C dx fs => H dx = some (.own a) ∧ fs.length ≤ 1000 ∧ dx ≠ a ∧ h.get? a = some (PySem.W.instObj C dx) ∧
      ∃ mA, h.Ns1 dx mA ∧ (∀ f, RelO (fs.lookup f) (mA f)) ∧ PySem.Within mA (fs.map (·.1))
  | .own _ => ∃ o, h.get? a = some o
  | .xd fs => ∃ mA, h.Ns1 a mA ∧ ∀ f, RelO (fs.lookup f) (mA f)
  | .rng lo hi => ∃ t u v, h.get? a = some { cls := .type "range", data := .fields #[.int lo t, .int hi u, .int 1 v] }
  | .frz o u => h.get? a = some o ∧ ObjOk H h a u
  | .tbl ps => h.get? a = some { cls := .none, data := .fields ps }
  | .met f x => h.get? a = some (PySem.W.methodObj (.ref f) (.ref x))
  | .ext φ => φ h ∧ (∃ o, h.get? a = some o) ∧ ∀ h1 h2 : Heap, φ h1 → (∀ o, h1.get? a = some o → h2.get? a = some o) → φ h2
/-- the abstract heap is held -/
def HOk (H : Hp) (h : Heap) : Prop := ∀ a o, H a = some o → ObjOk P w H h a o
end

section
variable {P : Program} {w : World} {H H' : Hp} {h h' : Heap} {a : Addr} {o : HO}
theorem ObjOk.lt (x : ObjOk P w H h a o) : a < h.objs.size := by
  cases o with
  | lst xs => obtain ⟨_, _, _, _, e⟩ := x; exact Heap.lt_size e
  | tup xs => obtain ⟨_, _, _, p⟩ := x; exact p.lt
  | dK kvs => obtain ⟨_, _, _, _, o, _, _, e, _⟩ := x; exact Heap.lt_size e
  | dT kvs => obtain ⟨_, _, _, _, o, _, _, e, _⟩ := x; exact Heap.lt_size e
  | set S n => obtain ⟨o, _, _, _, e, _⟩ := x; exact Heap.lt_size e
  | ins C dx fs => obtain ⟨_, _, _, e, _⟩ := x; exact Heap.lt_size e
  | own y => obtain ⟨_, e⟩ := x; exact Heap.lt_size e
  | xd fs => obtain ⟨_, ⟨_, _, _, e, _⟩, _⟩ := x; exact Heap.lt_size e
  | rng lo hi => obtain ⟨_, _, _, e⟩ := x; exact Heap.lt_size e
  | frz ob u => obtain ⟨e, _⟩ := x; exact Heap.lt_size e
  | tbl ps => exact Heap.lt_size (show h.get? a = some _ from x)
  | met f y => exact Heap.lt_size (show h.get? a = some _ from x)
  | ext φ => obtain ⟨_, ⟨_, e⟩, _⟩ := x; exact Heap.lt_size e
theorem Paired.mapP {α β : Type} {F G : α → β → Prop} : ∀ {l₁ : List α} {l₂ : List β}, Paired F l₁ l₂ → (∀ a b, F a b → G a b) → Paired G l₁ l₂
  | _, _, .nil, _ => .nil
  | _, _, .cons r t, f => .cons (f _ _ r) (Paired.mapP t f)
/-- what an object's description leans on: its own object, its own dict, the tuples -/
theorem ObjOk.stay (x : ObjOk P w H h a o) (k : ∀ b u, (b = a ∨ H b = some (.own a)) → h.get? b = some u → h'.get? b = some u)
    (ho : ∀ b, H b = some (.own a) → H' b = some (.own a)) (ht : ∀ b xs, H b = some (.tup xs) → H' b = some (.tup xs)) : ObjOk P w H' h' a o := by
  induction o with
  | lst xs => obtain ⟨z, its, n, r, e⟩ := x; exact ⟨z, its, n, r, k _ _ (.inl rfl) e⟩
  | tup xs => obtain ⟨z, its, r, ob, e, c⟩ := x; exact ⟨z, its, r, ob, k _ _ (.inl rfl) e, c⟩
  | dK kvs => obtain ⟨z, y, vs, r, ob, es, ep, e, c⟩ := x; exact ⟨z, y, vs, r, ob, es, ep, k _ _ (.inl rfl) e, c⟩
  | dT kvs =>
    obtain ⟨z, y, xs, r, ob, es, ep, e, c⟩ := x
    exact ⟨z, y, xs, Paired.mapP r fun p q z => ⟨z.1, ht _ _ z.2.1, z.2.2⟩, ob, es, ep, k _ _ (.inl rfl) e, c⟩
  | set S n => obtain ⟨ob, es, ep, t, e, c⟩ := x; exact ⟨ob, es, ep, t, k _ _ (.inl rfl) e, c⟩
  | ins C dx fs =>
    obtain ⟨d, z, ne, e, mA, ⟨od, es, ep, e2, c⟩, r⟩ := x
    exact ⟨ho _ d, z, ne, k _ _ (.inl rfl) e, mA, ⟨od, es, ep, k _ _ (.inr d) e2, c⟩, r⟩
  | own y => obtain ⟨ob, e⟩ := x; exact ⟨ob, k _ _ (.inl rfl) e⟩
  | xd fs => obtain ⟨mA, ⟨od, es, ep, e, c⟩, r⟩ := x; exact ⟨mA, ⟨od, es, ep, k _ _ (.inl rfl) e, c⟩, r⟩
  | rng lo hi => obtain ⟨t, u, v, e⟩ := x; exact ⟨t, u, v, k _ _ (.inl rfl) e⟩
  | frz ob u ih => obtain ⟨e, q⟩ := x; exact ⟨k _ _ (.inl rfl) e, ih q⟩
  | tbl ps =>
    have e : h.get? a = some { cls := .none, data := .fields ps } := x
    show h'.get? a = some { cls := .none, data := .fields ps }
    exact k a _ (.inl rfl) e
  | met f y =>
    have e : h.get? a = some (PySem.W.methodObj (.ref f) (.ref y)) := x
    show h'.get? a = some (PySem.W.methodObj (.ref f) (.ref y))
    exact k a _ (.inl rfl) e
  | ext φ => obtain ⟨p, ⟨o, e⟩, st⟩ := x; exact ⟨st _ _ p fun o q => k _ _ (.inl rfl) q, ⟨o, k _ _ (.inl rfl) e⟩, st⟩
theorem HOk.lt (x : HOk P w H h) (e : H a = some o) : a < h.objs.size := (x a o e).lt
theorem HOk.fresh (x : HOk P w H h) (e : h.objs.size ≤ a) : H a = none := by
  cases q : H a with
  | none => rfl
  | some u => exact absurd (Nat.lt_of_lt_of_le (x.lt q) e) (Nat.lt_irrefl _)
/-- every object of the heap is kept -/
theorem HOk.kept (x : HOk P w H h) (k : ∀ b u, h.get? b = some u → h'.get? b = some u) : HOk P w H h' := fun a o e =>
  (x a o e).stay (fun b u _ q => k b u q) (fun _ q => q) fun _ _ q => q
/-- a new object is laid and tracked -/
theorem HOk.laid (x : HOk P w H h) (k : ∀ b u, h.get? b = some u → h'.get? b = some u) (hp : h.objs.size ≤ a) (new : ObjOk P w (upd H a o) h' a o) : HOk P w (upd H a o) h' := fun b u e => by
  have hn := x.fresh hp
  by_cases hb : b = a
  · subst hb; rw [upd_same] at e; cases e; exact new
  · rw [upd_ne hb] at e
    exact (x b u e).stay (fun c v _ q => k c v q) (fun c q => by rw [upd_ne (ne_of_none q hn)]; exact q) fun c xs q => by rw [upd_ne (ne_of_none q hn)]; exact q
end

/-- what may be read as u: it is u, or a known u -/
def Rd (H : Hp) (a : Addr) (u : HO) : Prop := H a = some u ∨ ∃ o, H a = some (.frz o u)
theorem Rd.ok {P : Program} {w : World} {H : Hp} {h : Heap} {a : Addr} {u : HO} (r : Rd H a u) (x : HOk P w H h) : ObjOk P w H h a u := by
  rcases r with r | ⟨o, r⟩
  · exact x a u r
  · obtain ⟨_, q⟩ := x a _ r
    exact q
/-- what may be written -/
def Mut : Option HO → Prop
  | some (.lst _) => True
  | some (.dK _) => True
  | some (.dT _) => True
  | some (.set _ _) => True
  | some (.ins _ _ _) => True
  | some (.ext _) => True
  | _ => False
section
variable {P : Program} {w : World} {H : Hp} {h h' : Heap} {x e : Addr} {o' : HO}
/-- the object at e is changed: x itself, or the dict of the instance x -/
theorem HOk.write (ok : HOk P w H h) (mu : Mut (H x)) (he : e = x ∨ H e = some (.own x)) (k : ∀ b u, b ≠ e → h.get? b = some u → h'.get? b = some u) (heo : ∃ u, h'.get? e = some u)
    (new : ObjOk P w (upd H x o') h' x o') : HOk P w (upd H x o') h' := fun b u q => by
  have nown : ∀ c y, H c = some (.own y) → c ≠ x := fun c y r z => by subst z; rw [r] at mu; exact mu
  have ntup : ∀ c xs, H c = some (.tup xs) → c ≠ x := fun c xs r z => by subst z; rw [r] at mu; exact mu
  by_cases hb : b = x
  · subst hb; rw [upd_same] at q; cases q; exact new
  · rw [upd_ne hb] at q
    by_cases hbe : b = e
    · have q' : H b = some (.own x) := by
        rcases he with z | z
        · exact absurd (hbe.trans z) hb
        · rw [hbe]; exact z
      rw [q] at q'; cases q'
      obtain ⟨v, hv⟩ := heo
      exact ⟨v, by rw [hbe]; exact hv⟩
    · refine (ok b u q).stay (fun c v hc r => k c v ?_ r) (fun c r => by rw [upd_ne (nown c b r)]; exact r) fun c xs r => by rw [upd_ne (ntup c xs r)]; exact r
      rcases hc with rfl | hc
      · exact hbe
      · rintro rfl
        rcases he with z | z
        · exact nown c b hc z
        · rw [hc] at z; cases z; exact hb rfl
end

/-! ### kept unless tracked; of the frames at fs (the callers') the slots may change (an exception that passes writes there); of the records at ex (iterators) nothing is said -/
structure Un (fs ex : List Addr) (H H' : Hp) (h h' : Heap) : Prop where
  keep : ∀ b o, h.get? b = some o → H b = none → b ∉ fs → b ∉ ex → h'.get? b = some o
  slot : ∀ b o, h.get? b = some o → H b = none → b ∈ fs → b ∉ ex → ∃ sl, h'.get? b = some { o with slots := sl }
  free : ∀ b o, h.get? b = some o → H b = none → b ∉ ex → H' b = none
  there : ∀ b o, h.get? b = some o → b ∉ ex → ∃ o', h'.get? b = some o'
  tups : ∀ b xs, H b = some (.tup xs) → H' b = some (.tup xs)
  frzs : ∀ b o u, H b = some (.frz o u) → H' b = some (.frz o u)
  tbls : ∀ b ps, H b = some (.tbl ps) → ∃ more, H' b = some (.tbl (ps ++ more))
section
variable {fs fs' ex ex' : List Addr} {H H1 H2 : Hp} {h h1 h2 h' : Heap} {a x e : Addr} {o : HO}
theorem Un.any (u : Un fs ex H H1 h h1) {b : Addr} {ob : Obj} (q : h.get? b = some ob) (n : H b = none) (hx : b ∉ ex) : ∃ sl, h1.get? b = some { ob with slots := sl } := by
  by_cases hb : b ∈ fs
  · exact u.slot b ob q n hb hx
  · exact ⟨ob.slots, u.keep b ob q n hb hx⟩
theorem Un.kept (k : ∀ b u, h.get? b = some u → h'.get? b = some u) : Un fs ex H H h h' :=
  ⟨fun b ob q _ _ _ => k b ob q, fun b ob q _ _ _ => ⟨ob.slots, k b ob q⟩, fun _ _ _ n _ => n, fun b ob q _ => ⟨ob, k b ob q⟩, fun _ _ q => q, fun _ _ _ q => q, fun _ ps q => ⟨#[], by rw [q]; simp⟩⟩
theorem Un.refl : Un fs ex H H h h := Un.kept fun _ _ q => q
theorem Un.laid (k : ∀ b u, h.get? b = some u → h'.get? b = some u) (hp : h.objs.size ≤ a) (hn : H a = none) : Un fs ex H (upd H a o) h h' where
  keep := fun b u q _ _ _ => k b u q
  slot := fun b u q _ _ _ => ⟨u.slots, k b u q⟩
  free := fun b u q n _ => by rw [upd_ne (Nat.ne_of_lt (Nat.lt_of_lt_of_le (Heap.lt_size q) hp))]; exact n
  there := fun b u q _ => ⟨u, k b u q⟩
  tups := fun b xs q => by rw [upd_ne (ne_of_none q hn)]; exact q
  frzs := fun b u xs q => by rw [upd_ne (ne_of_none q hn)]; exact q
  tbls := fun b ps q => ⟨#[], by rw [upd_ne (ne_of_none q hn), q]; simp⟩
theorem Un.write (mu : Mut (H x)) (he : e = x ∨ H e = some (.own x)) (k : ∀ b u, b ≠ e → h.get? b = some u → h'.get? b = some u) (heo : ∃ u, h'.get? e = some u) : Un fs ex H (upd H x o) h h' := by
  have hx : ∀ b, H b = none → b ≠ x := fun b n z => by subst z; rw [n] at mu; exact mu
  have hb : ∀ b, H b = none → b ≠ e := fun b n z => by
    subst z
    rcases he with r | r
    · exact hx b n r
    · rw [n] at r; cases r
  have hm : ∀ b u, H b = some u → ¬ Mut (some u) → b ≠ x := fun b u q nm z => by subst z; rw [q] at mu; exact nm mu
  refine ⟨fun b u q n _ _ => k b u (hb b n) q, fun b u q n _ _ => ⟨u.slots, k b u (hb b n) q⟩, fun b u q n _ => by rw [upd_ne (hx b n)]; exact n, fun b u q _ => ?_,
    fun b xs q => by rw [upd_ne (hm b _ q fun z => z)]; exact q, fun b u xs q => by rw [upd_ne (hm b _ q fun z => z)]; exact q, fun b ps q => ⟨#[], by rw [upd_ne (hm b _ q fun z => z), q]; simp⟩⟩
  by_cases hbe : b = e
  · subst hbe; exact heo
  · exact ⟨u, k b u hbe q⟩
end

/-! ### the heap without what is tracked -/
def trk (h : Heap) (H : Hp) : List Addr := (List.range h.objs.size).filter fun a => (H a).isSome
def hidT (h : Heap) (H : Hp) : Heap := PySem.W.hideAll h (trk h H)
theorem hidT_size (h : Heap) (H : Hp) : (hidT h H).objs.size = h.objs.size := PySem.W.hideAll_size _ _
theorem hidT_get {h : Heap} {H : Hp} {b : Addr} {o : Obj} (e : h.get? b = some o) (n : H b = none) : (hidT h H).get? b = some o :=
  PySem.W.hideAll_get _ e fun hm => by
    have q : (H b).isSome = true := (List.mem_filter.mp hm).2
    rw [n] at q; simp at q
theorem of_hidT {h : Heap} {H : Hp} {b : Addr} {o : Obj} (e : (hidT h H).get? b = some o) : h.get? b = some o ∧ H b = none := by
  have e' : h.get? b = some o := PySem.W.of_hideAll (trk h H) e
  refine ⟨e', ?_⟩
  cases q : H b with
  | none => rfl
  | some x =>
    have hm : b ∈ trk h H := List.mem_filter.mpr ⟨List.mem_range.mpr (Heap.lt_size e'), by simp [q]⟩
    have z : (hidT h H).get? b = none := PySem.W.hideAll_none (trk h H) hm
    rw [z] at e; cases e

/-! ### OpenK's ledger, filled with every new object but one -/
end L2

namespace L2
open PySem PySem.Spec PyProof.Rows

/-- the module's facts, over the base: the heap at the law's entry without what is tracked there -/
structure Mod (K : PySem.W.Frag) (mg : Str → Option Value) (base : Heap) : Prop where
  kin : K.In base
  glob : base.Ns mainGlobals mg
  blt : ∃ mb, base.Ns builtinsNs mb ∧ ∀ x : Str, x ≠ "__name__" → mb x = bootBuiltins x
  nolimit : base.NoLimit

/-- the context: a def's body (or a comprehension's block) running. base: fixed through the whole law; s₀, H₀: the entry; outer: the frames whose slots others may change (a def's callers); stack: all frames that run;
   ex: iterators that were made ahead of the entry and are walked here (a comprehension's); fn: the names whose cells were made at the entry (a def: all; a comprehension's block: its own); calm: not within an except suite; pn: pins that every state bears; xe: what is wanted of an exception that leaves the code -/
structure Cx where
  prog : Program
  w : World
  K : PySem.W.Frag
  mg : Str → Option Value
  base : Heap
  A : Around
  N : List Str
  s₀ : Shared
  H₀ : Hp
  env : Env
  outer : List Env
  stack : List Env
  ex : List Addr
  fn : Str → Bool
  calm : Bool
  pn : List (Addr × Obj)
  xe : Value → Shared → Prop
/-- the callers' frames -/
def frs (l : List Env) : List Addr := l.filterMap (·.frame)
abbrev Cx.fs (X : Cx) : List Addr := frs X.outer

def Vis (sc : Scope) (x : Str) : Prop := sc.names.lookup x = some .local ∨ sc.names.lookup x = some .cell ∨ sc.names.lookup x = some .free
def Loc (sc : Scope) (x : Str) : Prop := sc.names.lookup x = some .local ∨ sc.names.lookup x = some .cell
def Look (env : Env) (h : Heap) (m : Str → Option Value) (x : Str) (u : Value) : Prop :=
  (env.kindOf x = some .local ∧ m x = some u) ∨ ((env.kindOf x = some .cell ∨ env.kindOf x = some .free) ∧ ∃ c, env.cells.lookup x = some c ∧ h.IsCell c (some u))

structure Cx.Ok (X : Cx) : Prop where
  mod : Mod X.K X.mg X.base
  kind : X.env.scope.kind = .function
  glob : X.env.globals = mainGlobals
  blt : X.env.builtins = builtinsNs
  above : X.s₀.heap.objs.size ≤ X.env.locals
  inj : ∀ x y c, X.env.cells.lookup x = some c → X.env.cells.lookup y = some c → x = y
  has : ∀ x, (X.env.kindOf x = some .cell ∨ X.env.kindOf x = some .free) → ∃ c, X.env.cells.lookup x = some c
  cab : ∀ x c, X.fn x = true → X.env.cells.lookup x = some c → X.s₀.heap.objs.size ≤ c
  hd : X.calm = true → X.A.handled = none
  frames : X.A.frames = some X.stack
  stk : X.stack = X.outer ∨ (X.stack = X.env :: X.outer ∧ X.env.frame = some X.env.locals)
  exf : ∀ b ∈ X.ex, b ≠ X.env.locals ∧ ∀ x c, X.env.cells.lookup x = some c → c ≠ b
  bs : ∀ b o, X.base.get? b = some o → X.s₀.heap.get? b = some o ∧ X.H₀ b = none
  bsz : X.base.objs.size ≤ X.s₀.heap.objs.size
  noex : ∀ b o, X.base.get? b = some o → b ∉ X.ex
  exfs : ∀ b ∈ X.ex, b ∉ X.fs
  funs : X.s₀.heap.FunFrames X.base X.outer
  frf : ∀ b ∈ X.fs, X.H₀ b = none

structure Inv (X : Cx) (pins : List (Addr × Obj)) (σ : List (Option V)) (H : Hp) (s : Shared) : Prop where
  ok : X.Ok
  os : s.os = X.s₀.os
  bare : AllBare s.gens
  base : Un X.fs X.ex X.H₀ H X.s₀.heap s.heap
  loc : ∃ m, s.heap.Ns X.env.locals m ∧ ∀ (i : Nat) (x : Str) (v : V), X.N[i]? = some x → σ[i]? = some (some v) → Vis X.env.scope x → ∃ u, RelV v u ∧ Look X.env s.heap m x u
  cell : ∀ x c, X.env.cells.lookup x = some c → ∃ v, s.heap.IsCell c v
  free : H X.env.locals = none
  freeC : ∀ x c, X.env.cells.lookup x = some c → H c = none
  pin : ∀ p ∈ X.pn ++ pins, s.heap.get? p.1 = some p.2 ∧ H p.1 = none ∧ p.1 ≠ X.env.locals ∧ p.1 ∉ X.fs ∧ ∀ v, p.2.data ≠ .cell v
  hok : HOk X.prog X.w H s.heap
  len : σ.length = X.N.length

section
variable {X : Cx} {pins : List (Addr × Obj)} {σ : List (Option V)} {H H' : Hp} {s : Shared} {h' : Heap}

theorem Cx.Ok.nofr (ok : X.Ok) {b : Addr} {o : Obj} (e : X.base.get? b = some o) : b ∉ X.fs := fun hb => by
  have := (ok.funs.mem hb).1
  rw [e] at this; cases this
theorem Inv.bs (I : Inv X pins σ H s) : ∀ b o, X.base.get? b = some o → s.heap.get? b = some o ∧ H b = none := fun b o e =>
  ⟨I.base.keep b o (I.ok.bs b o e).1 (I.ok.bs b o e).2 (I.ok.nofr e) (I.ok.noex b o e), I.base.free b o (I.ok.bs b o e).1 (I.ok.bs b o e).2 (I.ok.noex b o e)⟩
theorem Inv.bk (I : Inv X pins σ H s) : ∀ b o, X.base.get? b = some o → s.heap.get? b = some o := fun b o e => (I.bs b o e).1
theorem Inv.mod (I : Inv X pins σ H s) : Mod X.K X.mg X.base := I.ok.mod
theorem Inv.kIn (I : Inv X pins σ H s) : X.K.In s.heap := I.ok.mod.kin.keeps I.bk
theorem Inv.lt (I : Inv X pins σ H s) : X.env.locals < s.heap.objs.size := let ⟨_, hn, _⟩ := I.loc; hn.lt
theorem Inv.sz (I : Inv X pins σ H s) : X.s₀.heap.objs.size ≤ s.heap.objs.size := Nat.le_trans I.ok.above (Nat.le_of_lt I.lt)
theorem Inv.nofs (I : Inv X pins σ H s) {a : Addr} (h : s.heap.objs.size ≤ a) : a ∉ X.fs := fun hb => by
  obtain ⟨_, o, ho, _⟩ := I.ok.funs.mem hb
  exact absurd (Nat.lt_of_lt_of_le (Heap.lt_size ho) (Nat.le_trans I.sz h)) (Nat.lt_irrefl _)
theorem Inv.cne (I : Inv X pins σ H s) : ∀ x c, X.env.cells.lookup x = some c → c ≠ X.env.locals := fun x c e z => by
  obtain ⟨v, o, ho, hd⟩ := I.cell x c e
  obtain ⟨m, ⟨o', es, ep, ho', hd', _⟩, _⟩ := I.loc
  rw [z, ho'] at ho; cases ho; rw [hd'] at hd; cases hd
theorem Inv.funs (I : Inv X pins σ H s) : s.heap.FunFrames X.base X.outer := by
  have all : ∀ (l : List Env), (∀ b ∈ frs l, b ∈ X.fs) → X.s₀.heap.FunFrames X.base l → s.heap.FunFrames X.base l := by
    intro l
    induction l with
    | nil => intro _ _; trivial
    | cons env r ih =>
      intro hs hl
      obtain ⟨hk, ⟨L, o, hf, hn, ho, hd⟩, hr⟩ := hl
      have hL : L ∈ X.fs := hs L (by unfold frs; rw [List.filterMap_cons, hf]; exact List.mem_cons_self)
      obtain ⟨sl, e⟩ := I.base.slot L o ho (I.ok.frf L hL) hL fun z => I.ok.exfs L z hL
      exact ⟨hk, ⟨L, _, hf, hn, e, hd⟩, ih (fun b hb => hs b (by unfold frs; rw [List.filterMap_cons, hf]; exact List.mem_cons_of_mem _ hb)) hr⟩
  exact all X.outer (fun _ hb => hb) I.ok.funs

/-- the frames that run, for a call -/
theorem Inv.stack (I : Inv X pins σ H s) : s.heap.FunFrames X.base X.stack := by
  rcases I.ok.stk with e | ⟨e, hf⟩
  · rw [e]; exact I.funs
  · rw [e]
    obtain ⟨m, hn, _⟩ := I.loc
    refine .cons (by rw [I.ok.kind]; decide) hf hn ?_ I.funs
    exact Heap.get?_none_of_le (Nat.le_trans I.ok.bsz I.ok.above)
theorem Inv.stkSub (I : Inv X pins σ H s) : ∀ b ∈ frs X.stack, b ∈ X.env.locals :: X.fs := fun b hb => by
  rcases I.ok.stk with e | ⟨e, hf⟩
  · rw [e] at hb; exact List.mem_cons_of_mem _ hb
  · rw [e] at hb
    unfold frs at hb
    rw [List.filterMap_cons, hf] at hb
    exact hb
theorem Inv.stkFree (I : Inv X pins σ H s) : ∀ b ∈ frs X.stack, H b = none := fun b hb => by
  rcases List.mem_cons.mp (I.stkSub b hb) with e | hb
  · rw [e]; exact I.free
  · obtain ⟨_, o, ho, _⟩ := I.ok.funs.mem hb
    exact I.base.free b o ho (I.ok.frf b hb) fun z => I.ok.exfs b z hb

/-- THE STEP: the untracked objects but the frame and the records at ch are kept (the callers' frames up to slots), the frame's map is kept, the new abstract heap is held -/
theorem Inv.step {g' : Array GenState} {t' : Nat} {d' : Drawn} {ch : List Addr} (I : Inv X pins σ H s)
    (hch : ∀ b ∈ ch, (b ∈ X.ex ∨ X.s₀.heap.objs.size ≤ b) ∧ b ≠ X.env.locals ∧ (∀ x c, X.env.cells.lookup x = some c → c ≠ b) ∧ ∀ p ∈ X.pn ++ pins, p.1 ≠ b)
    (keep : ∀ b o, b ≠ X.env.locals → b ∉ X.fs → b ∉ ch → s.heap.get? b = some o → H b = none → h'.get? b = some o)
    (slot : ∀ b o, b ≠ X.env.locals → b ∈ X.fs → b ∉ ch → s.heap.get? b = some o → H b = none → ∃ sl, h'.get? b = some { o with slots := sl }) (free : ∀ b o, b ∉ ch → s.heap.get? b = some o → H b = none → H' b = none)
    (there : ∀ b o, b ∉ ch → s.heap.get? b = some o → ∃ o', h'.get? b = some o')
    (tups : ∀ b xs, H b = some (.tup xs) → H' b = some (.tup xs)) (frzs : ∀ b o u, H b = some (.frz o u) → H' b = some (.frz o u)) (tbls : ∀ b ps, H b = some (.tbl ps) → ∃ more, H' b = some (.tbl (ps ++ more)))
    (ns : ∀ m, s.heap.Ns X.env.locals m → h'.Ns X.env.locals m) (hok : HOk X.prog X.w H' h') (hg : AllBare g') :
    Inv X pins σ H' { s with heap := h', gens := g', drawn := d', toks := t' } := by
  have neL : ∀ b o, X.s₀.heap.get? b = some o → b ≠ X.env.locals := fun b o e => Nat.ne_of_lt (Nat.lt_of_lt_of_le (Heap.lt_size e) I.ok.above)
  have neC : ∀ b o, X.s₀.heap.get? b = some o → b ∉ X.ex → b ∉ ch := fun b o e hx hb => by
    rcases (hch b hb).1 with z | z
    · exact hx z
    · exact absurd (Nat.lt_of_lt_of_le (Heap.lt_size e) z) (Nat.lt_irrefl _)
  have cellK : ∀ x c, X.env.cells.lookup x = some c → ∀ v, s.heap.IsCell c v → h'.IsCell c v := fun x c e v ⟨o, ho, hd⟩ => by
    have nch : c ∉ ch := fun z => (hch c z).2.2.1 x c e rfl
    by_cases hc : c ∈ X.fs
    · obtain ⟨sl, q⟩ := slot c o (I.cne x c e) hc nch ho (I.freeC x c e)
      exact ⟨_, q, hd⟩
    · exact ⟨o, keep c o (I.cne x c e) hc nch ho (I.freeC x c e), hd⟩
  refine ⟨I.ok, I.os, hg, ⟨fun b o e n hb hx => ?_, fun b o e n hb hx => ?_, fun b o e n hx => ?_, fun b o e hx => ?_, fun b xs e => tups b xs (I.base.tups b xs e), fun b o xs e => frzs b o xs (I.base.frzs b o xs e), fun b ps e => ?_⟩, ?_, fun x c e => ?_, ?_, fun x c e => ?_, fun p hp => ?_, hok, I.len⟩
  · exact keep b o (neL b o e) hb (neC b o e hx) (I.base.keep b o e n hb hx) (I.base.free b o e n hx)
  · obtain ⟨sl, e1⟩ := I.base.slot b o e n hb hx
    obtain ⟨sl', e2⟩ := slot b _ (neL b o e) hb (neC b o e hx) e1 (I.base.free b o e n hx)
    exact ⟨sl', e2⟩
  · obtain ⟨o', e1⟩ := I.base.there b o e hx
    exact free b o' (neC b o e hx) e1 (I.base.free b o e n hx)
  · obtain ⟨o', e1⟩ := I.base.there b o e hx
    exact there b o' (neC b o e hx) e1
  · obtain ⟨m1, e1⟩ := I.base.tbls b ps e
    obtain ⟨m2, e2⟩ := tbls b _ e1
    exact ⟨m1 ++ m2, by rw [e2, Array.append_assoc]⟩
  · obtain ⟨m, hn, hl⟩ := I.loc
    refine ⟨m, ns m hn, fun i x v e1 e2 e3 => ?_⟩
    obtain ⟨u, r, l⟩ := hl i x v e1 e2 e3
    refine ⟨u, r, ?_⟩
    rcases l with l | ⟨k, c, e, z⟩
    · exact .inl l
    · exact .inr ⟨k, c, e, cellK x c e _ z⟩
  · obtain ⟨v, z⟩ := I.cell x c e
    exact ⟨v, cellK x c e v z⟩
  · obtain ⟨m, ⟨o, _, _, ho, _⟩, _⟩ := I.loc
    exact free _ o (fun z => (hch _ z).2.1 rfl) ho I.free
  · obtain ⟨v, o, ho, hd⟩ := I.cell x c e
    exact free c o (fun z => (hch c z).2.2.1 x c e rfl) ho (I.freeC x c e)
  · obtain ⟨e, n, ne, nf, d⟩ := I.pin p hp
    have nch : p.1 ∉ ch := fun z => (hch p.1 z).2.2.2 p hp rfl
    exact ⟨keep p.1 p.2 ne nf nch e n, free p.1 p.2 nch e n, ne, nf, d⟩
/-- .. where the frame's own object is kept too -/
theorem Inv.un {t' : Nat} (I : Inv X pins σ H s) (u : Un X.fs [] H H' s.heap h') (hok : HOk X.prog X.w H' h') : Inv X pins σ H' { s with heap := h', toks := t' } := by
  obtain ⟨m, ⟨o, es, ep, ho, r⟩, _⟩ := id I.loc
  obtain ⟨sl, hL⟩ := u.any ho I.free (by simp)
  exact I.step (g' := s.gens) (d' := s.drawn) (ch := []) (fun _ z => nomatch z) (fun b o _ hb _ e n => u.keep b o e n hb (by simp)) (fun b o _ hb _ e n => u.slot b o e n hb (by simp)) (fun b o _ e n => u.free b o e n (by simp)) (fun b o _ e => u.there b o e (by simp)) u.tups u.frzs u.tbls (fun m' hm => by
    obtain ⟨o', es', ep', ho', r'⟩ := hm
    rw [ho] at ho'; cases ho'
    exact ⟨_, es', ep', hL, r'⟩) hok I.bare
/-- behind a call (or a comprehension's block): the slots of this frame may have changed too, the records at ch may have turned -/
theorem Inv.call {g' : Array GenState} {t' : Nat} {d' : Drawn} {ch : List Addr} (I : Inv X pins σ H s) (u : Un (frs X.stack) ch H H' s.heap h') (hok : HOk X.prog X.w H' h') (hg : AllBare g')
    (hch : ∀ b ∈ ch, (b ∈ X.ex ∨ X.s₀.heap.objs.size ≤ b) ∧ b ≠ X.env.locals ∧ (∀ x c, X.env.cells.lookup x = some c → c ≠ b) ∧ ∀ p ∈ X.pn ++ pins, p.1 ≠ b) :
    Inv X pins σ H' { s with heap := h', gens := g', drawn := d', toks := t' } := by
  obtain ⟨m, ⟨o, es, ep, ho, r⟩, _⟩ := id I.loc
  obtain ⟨sl, hL⟩ := u.any ho I.free fun z => (hch _ z).2.1 rfl
  exact I.step (ch := ch) hch (fun b o hL hb hc e n => u.keep b o e n (fun z => (List.mem_cons.mp (I.stkSub b z)).elim hL hb) hc) (fun b o _ _ hc e n => u.any e n hc) (fun b o hc e n => u.free b o e n hc) (fun b o hc e => u.there b o e hc) u.tups u.frzs u.tbls (fun m' hm => by
    obtain ⟨o', es', ep', ho', r'⟩ := hm
    rw [ho] at ho'; cases ho'
    exact ⟨_, es', ep', hL, r'⟩) hok hg
/-- an untracked record of ours (an iterator) has turned -/
theorem Inv.turned {t' : Nat} {it : Addr} (I : Inv X pins σ H s) (k : ∀ b o, b ≠ it → s.heap.get? b = some o → h'.get? b = some o) (hn : H it = none) (hL : it ≠ X.env.locals)
    (h1 : it ∈ X.ex ∨ X.s₀.heap.objs.size ≤ it) (h2 : ∀ x c, X.env.cells.lookup x = some c → c ≠ it) (h3 : ∀ p ∈ X.pn ++ pins, p.1 ≠ it) : Inv X pins σ H { s with heap := h', toks := t' } := by
  have nit : ∀ b u, H b = some u → b ≠ it := fun b u e z => by rw [z, hn] at e; cases e
  refine I.step (g' := s.gens) (d' := s.drawn) (ch := [it]) (fun b hb => ?_) (fun b o _ _ hc e _ => k b o (fun z => hc (by simp [z])) e) (fun b o _ _ hc e _ => ⟨o.slots, k b o (fun z => hc (by simp [z])) e⟩) (fun _ _ _ _ n => n)
    (fun b o hc e => ⟨o, k b o (fun z => hc (by simp [z])) e⟩) (fun _ _ e => e) (fun _ _ _ e => e) (fun b ps e => ⟨#[], by rw [e]; simp⟩) (fun m hm => ?_) (fun b u e => ?_) I.bare
  · have e : b = it := by simpa using hb
    subst e
    exact ⟨h1, hL, h2, h3⟩
  · obtain ⟨o, es, ep, ho, r⟩ := hm
    exact ⟨o, es, ep, k _ o (Ne.symm hL) ho, r⟩
  · refine (I.hok b u e).stay (fun c v hc q => k c v ?_ q) (fun _ q => q) fun _ _ q => q
    rcases hc with z | z
    · rw [z]; exact nit b u e
    · exact nit c _ z
theorem Inv.tok (I : Inv X pins σ H s) (t : Nat) : Inv X pins σ H { s with toks := t } := I.un (h' := s.heap) (t' := t) Un.refl I.hok
/-- all objects kept -/
theorem Inv.kept {t' : Nat} (I : Inv X pins σ H s) (k : ∀ b u, s.heap.get? b = some u → h'.get? b = some u) : Inv X pins σ H { s with heap := h', toks := t' } := I.un (Un.kept k) (I.hok.kept k)
/-- a new object laid and tracked -/
theorem Inv.laid {a : Addr} {o : HO} {t' : Nat} (I : Inv X pins σ H s) (k : ∀ b u, s.heap.get? b = some u → h'.get? b = some u) (hp : s.heap.objs.size ≤ a) (new : ObjOk X.prog X.w (upd H a o) h' a o) :
    Inv X pins σ (upd H a o) { s with heap := h', toks := t' } := I.un (Un.laid k hp (I.hok.fresh hp)) (I.hok.laid k hp new)
/-- an object written -/
theorem Inv.write {x e : Addr} {o : HO} {t' : Nat} (I : Inv X pins σ H s) (mu : Mut (H x)) (he : e = x ∨ H e = some (.own x)) (k : ∀ b u, b ≠ e → s.heap.get? b = some u → h'.get? b = some u) (heo : ∃ u, h'.get? e = some u)
    (new : ObjOk X.prog X.w (upd H x o) h' x o) : Inv X pins σ (upd H x o) { s with heap := h', toks := t' } := I.un (Un.write mu he k heo) (I.hok.write mu he k heo new)
theorem Inv.pins_of {pins' : List (Addr × Obj)} (I : Inv X pins σ H s) (h : ∀ p ∈ pins', s.heap.get? p.1 = some p.2 ∧ H p.1 = none ∧ p.1 ≠ X.env.locals ∧ p.1 ∉ X.fs ∧ ∀ v, p.2.data ≠ .cell v) : Inv X pins' σ H s :=
  ⟨I.ok, I.os, I.bare, I.base, I.loc, I.cell, I.free, I.freeC, fun p hp => (List.mem_append.mp hp).elim (fun z => I.pin p (List.mem_append_left _ z)) (h p), I.hok, I.len⟩

theorem nodup_ix {N : List Str} (hN : N.Nodup) {i j : Nat} {x : Str} (a : N[i]? = some x) (b : N[j]? = some x) : i = j := by
  obtain ⟨h1, e1⟩ := List.getElem?_eq_some_iff.mp a
  obtain ⟨h2, e2⟩ := List.getElem?_eq_some_iff.mp b
  exact (List.getElem_inj hN).mp (e1.trans e2.symm)

/-- a name is stored; what changed -/
theorem store_ok2 {M : Model} {A : Around} {E : Value → Shared → Prop} {i : Nat} {x : Str} {v : V} {u : Value} {Q : Unit → Shared → Prop} (I : Inv X pins σ H s) (hN : X.N.Nodup) (hi : X.N[i]? = some x) (hx : Loc X.env.scope x) (r : RelV v u)
    (h : ∀ s', Inv X pins (σ.set i (some v)) H s' → (∃ a, Heap.SameBut a s.heap s'.heap ∧ (a = X.env.locals ∨ X.env.cells.lookup x = some a)) → Q () s') (hf : X.fn x = true ∨ X.env.scope.names.lookup x = some .local := by first | exact .inl rfl | exact .inr rfl | assumption) : wpAny M A (storeName X.env x u) Q E s := by
  obtain ⟨m, hn, hl⟩ := id I.loc
  have hcls : (X.env.scope.kind == .class || (X.env.scope.kind == .module && X.env.locals != X.env.globals)) = false := by rw [I.ok.kind]; rfl
  have hiσ : i < σ.length := by rw [I.len]; exact (List.getElem?_eq_some_iff.mp hi).1
  have cne := I.cne
  have tracked : ∀ {a : Addr} {h' : Heap}, (∃ o, s.heap.get? a = some o ∧ H a = none) → Heap.SameBut a s.heap h' → HOk X.prog X.w H h' := fun {a h'} ha hs b ob e => by
    obtain ⟨_, _, hfree⟩ := ha
    refine (I.hok b ob e).stay (fun c w' hc q => (hs.2 c ?_).trans q) (fun _ q => q) fun _ _ q => q
    rintro rfl
    rcases hc with rfl | hc
    · rw [hfree] at e; cases e
    · rw [hfree] at hc; cases hc
  rcases hx with hk | hk
  · refine wpAny_storeName_local hk hn (fun h' hn' hs => ?_) hcls
    obtain ⟨oL, _, _, hoL, _⟩ := id hn
    refine h _ ⟨I.ok, I.os, I.bare, ⟨fun b o e n hb hx => ?_, fun b o e n hb hx => ?_, I.base.free, fun b o e hx => ?_, I.base.tups, I.base.frzs, I.base.tbls⟩, ⟨_, hn', fun j y v' e1 e2 e3 => ?_⟩, fun y c e => ?_, I.free, I.freeC, fun p hp => ?_, tracked ⟨oL, hoL, I.free⟩ hs, by simpa using I.len⟩ ⟨_, hs, .inl rfl⟩
    · exact (hs.2 b (Nat.ne_of_lt (Nat.lt_of_lt_of_le (Heap.lt_size e) I.ok.above))).trans (I.base.keep b o e n hb hx)
    · obtain ⟨sl, e1⟩ := I.base.slot b o e n hb hx
      exact ⟨sl, (hs.2 b (Nat.ne_of_lt (Nat.lt_of_lt_of_le (Heap.lt_size e) I.ok.above))).trans e1⟩
    · obtain ⟨o', e1⟩ := I.base.there b o e hx
      exact ⟨o', (hs.2 b (Nat.ne_of_lt (Nat.lt_of_lt_of_le (Heap.lt_size e) I.ok.above))).trans e1⟩
    · by_cases hj : j = i
      · subst hj
        rw [hi] at e1; cases e1
        rw [List.getElem?_set_self hiσ] at e2
        cases e2
        exact ⟨u, r, .inl ⟨hk, by simp⟩⟩
      · rw [List.getElem?_set_ne (Ne.symm hj)] at e2
        obtain ⟨u', r', q⟩ := hl j y v' e1 e2 e3
        refine ⟨u', r', ?_⟩
        rcases q with ⟨k, e⟩ | ⟨k, c, e, z⟩
        · refine .inl ⟨k, ?_⟩
          have : y ≠ x := fun e => hj (nodup_ix hN e1 (e ▸ hi))
          simp [this, e]
        · exact .inr ⟨k, c, e, z.sameBut hs (cne y c e)⟩
    · obtain ⟨w', z⟩ := I.cell y c e
      exact ⟨w', z.sameBut hs (cne y c e)⟩
    · obtain ⟨e, n, ne, nf, d⟩ := I.pin p hp
      exact ⟨(hs.2 p.1 ne).trans e, n, ne, nf, d⟩
  · have hfn : X.fn x = true := by
      rcases hf with z | z
      · exact z
      · rw [z] at hk; cases hk
    obtain ⟨c, hc⟩ := I.ok.has x (.inl hk)
    obtain ⟨w', z⟩ := I.cell x c hc
    refine wpAny_storeName_cell I.ok.kind hk hc z (fun h' hc' hs => ?_)
    obtain ⟨oc, hoc, hocd⟩ := id z
    refine h { s with heap := h' } ⟨I.ok, I.os, I.bare, ⟨fun b o e n hb hx => ?_, fun b o e n hb hx => ?_, I.base.free, fun b o e hx => ?_, I.base.tups, I.base.frzs, I.base.tbls⟩, ⟨m, hn.sameBut hs (Ne.symm (cne x c hc)), fun j y v' e1 e2 e3 => ?_⟩, fun y c' e => ?_, I.free, I.freeC, fun p hp => ?_, tracked ⟨oc, hoc, I.freeC x c hc⟩ hs, by simpa using I.len⟩ ⟨c, hs, .inr hc⟩
    · exact (hs.2 b (Nat.ne_of_lt (Nat.lt_of_lt_of_le (Heap.lt_size e) (I.ok.cab x c hfn hc)))).trans (I.base.keep b o e n hb hx)
    · obtain ⟨sl, e1⟩ := I.base.slot b o e n hb hx
      exact ⟨sl, (hs.2 b (Nat.ne_of_lt (Nat.lt_of_lt_of_le (Heap.lt_size e) (I.ok.cab x c hfn hc)))).trans e1⟩
    · obtain ⟨o', e1⟩ := I.base.there b o e hx
      exact ⟨o', (hs.2 b (Nat.ne_of_lt (Nat.lt_of_lt_of_le (Heap.lt_size e) (I.ok.cab x c hfn hc)))).trans e1⟩
    · by_cases hj : j = i
      · subst hj
        rw [hi] at e1; cases e1
        rw [List.getElem?_set_self hiσ] at e2
        cases e2
        exact ⟨u, r, .inr ⟨.inl hk, c, hc, hc'⟩⟩
      · rw [List.getElem?_set_ne (Ne.symm hj)] at e2
        obtain ⟨u', r', q⟩ := hl j y v' e1 e2 e3
        refine ⟨u', r', ?_⟩
        rcases q with q | ⟨k, c', e, z'⟩
        · exact .inl q
        · refine .inr ⟨k, c', e, z'.sameBut hs ?_⟩
          rintro rfl
          exact hj (nodup_ix hN e1 (I.ok.inj _ _ _ e hc ▸ hi))
    · by_cases hcc : c' = c
      · subst hcc; exact ⟨_, hc'⟩
      · obtain ⟨w2, z2⟩ := I.cell y c' e
        exact ⟨w2, z2.sameBut hs hcc⟩
    · obtain ⟨e, n, ne, nf, d⟩ := I.pin p hp
      refine ⟨(hs.2 p.1 ?_).trans e, n, ne, nf, d⟩
      intro q
      rw [q, hoc] at e
      have q' : oc = p.2 := Option.some.inj e
      exact d w' (by rw [← q']; exact hocd)
theorem store_ok {M : Model} {A : Around} {E : Value → Shared → Prop} {i : Nat} {x : Str} {v : V} {u : Value} {Q : Unit → Shared → Prop} (I : Inv X pins σ H s) (hN : X.N.Nodup) (hi : X.N[i]? = some x) (hx : Loc X.env.scope x) (r : RelV v u)
    (h : ∀ s', Inv X pins (σ.set i (some v)) H s' → Q () s') (hf : X.fn x = true ∨ X.env.scope.names.lookup x = some .local := by first | exact .inl rfl | exact .inr rfl | assumption) : wpAny M A (storeName X.env x u) Q E s :=
  store_ok2 I hN hi hx r (fun s' I' _ => h s' I') hf
/-- behind a call or a block, the state as it is -/
theorem Inv.call' {s' : Shared} {ch : List Addr} (I : Inv X pins σ H s) (ho : s'.os = s.os) (u : Un (frs X.stack) ch H H' s.heap s'.heap) (hok : HOk X.prog X.w H' s'.heap) (hg : AllBare s'.gens)
    (hch : ∀ b ∈ ch, (b ∈ X.ex ∨ X.s₀.heap.objs.size ≤ b) ∧ b ≠ X.env.locals ∧ (∀ x c, X.env.cells.lookup x = some c → c ≠ b) ∧ ∀ p ∈ X.pn ++ pins, p.1 ≠ b) : Inv X pins σ H' s' := by
  obtain ⟨h', g', d', t', o'⟩ := s'
  have e : o' = s.os := ho
  subst e
  exact I.call (g' := g') (t' := t') (d' := d') u hok hg hch
end

/-! ### the judgements -/
/-- an exception: its class, its own dict's address (where it has one), the abstract heap behind it -/
abbrev XK := Value → Option Addr → Hp → Prop
abbrev St := List (Option V)
abbrev VK := V → Hp → Prop
/-- an expression's reading; a test's; an argument list's -/
abbrev TE := St → Hp → VK → Prop
abbrev TT := St → Hp → (Bool → Hp → Prop) → Prop
abbrev TA := St → Hp → (List V → Hp → Prop) → Prop
/-- what is wanted behind a statement -/
structure Ends where
  nx : St → Hp → Prop
  rt : VK
  bk : St → Hp → Prop := fun _ _ => False
  ct : St → Hp → Prop := fun _ _ => False
abbrev TS := Ends → St → Hp → Prop

def EP (X : Cx) (pins : List (Addr × Obj)) (σ : St) (Q : VK) (u : Value) (s' : Shared) : Prop := ∃ v H', Inv X pins σ H' s' ∧ RelV v u ∧ Q v H'
def TP (X : Cx) (pins : List (Addr × Obj)) (σ : St) (Q : Bool → Hp → Prop) (b : Bool) (s' : Shared) : Prop := ∃ H', Inv X pins σ H' s' ∧ Q b H'
def AP (X : Cx) (pins : List (Addr × Obj)) (σ : St) (Q : List V → Hp → Prop) (us : List Value) (s' : Shared) : Prop := ∃ vs H', Inv X pins σ H' s' ∧ Vals vs us ∧ Q vs H'
def SP (X : Cx) (pins : List (Addr × Obj)) (D : Ends) (f : Flow) (s' : Shared) : Prop :=
  match f with
  | .next => ∃ σ' H', Inv X pins σ' H' s' ∧ D.nx σ' H'
  | .brk => ∃ σ' H', Inv X pins σ' H' s' ∧ D.bk σ' H'
  | .cont => ∃ σ' H', Inv X pins σ' H' s' ∧ D.ct σ' H'
  | .ret u => ∃ v σ' H', Inv X pins σ' H' s' ∧ RelV v u ∧ D.rt v H'

structure PE (X : Cx) (e : Expr) (t : TE) : Prop where
  go : ∀ (pins : List (Addr × Obj)) (s : Shared) (σ : St) (H : Hp) (Q : VK), Inv X pins σ H s → t σ H Q → wpAny (model X.prog X.w) X.A (eval e X.env) (EP X pins σ Q) X.xe s
instance {X : Cx} {e : Expr} {t : TE} : CoeFun (PE X e t) (fun _ => ∀ (pins : List (Addr × Obj)) (s : Shared) (σ : St) (H : Hp) (Q : VK), Inv X pins σ H s → t σ H Q → wpAny (model X.prog X.w) X.A (eval e X.env) (EP X pins σ Q) X.xe s) := ⟨PE.go⟩
structure PT (X : Cx) (e : Expr) (t : TT) : Prop where
  go : ∀ (pins : List (Addr × Obj)) (s : Shared) (σ : St) (H : Hp) (Q : Bool → Hp → Prop), Inv X pins σ H s → t σ H Q → wpAny (model X.prog X.w) X.A (isTrue e X.env (eval e X.env)) (TP X pins σ Q) X.xe s
instance {X : Cx} {e : Expr} {t : TT} : CoeFun (PT X e t) (fun _ => ∀ (pins : List (Addr × Obj)) (s : Shared) (σ : St) (H : Hp) (Q : Bool → Hp → Prop), Inv X pins σ H s → t σ H Q → wpAny (model X.prog X.w) X.A (isTrue e X.env (eval e X.env)) (TP X pins σ Q) X.xe s) := ⟨PT.go⟩
/-- a test whatever its 'whole' is (and, or) -/
structure PW (X : Cx) (e : Expr) (t : TT) : Prop where
  go : ∀ (whole : Sem Value) (pins : List (Addr × Obj)) (s : Shared) (σ : St) (H : Hp) (Q : Bool → Hp → Prop), Inv X pins σ H s → t σ H Q → wpAny (model X.prog X.w) X.A (isTrue e X.env whole) (TP X pins σ Q) X.xe s
instance {X : Cx} {e : Expr} {t : TT} : CoeFun (PW X e t) (fun _ => ∀ (whole : Sem Value) (pins : List (Addr × Obj)) (s : Shared) (σ : St) (H : Hp) (Q : Bool → Hp → Prop), Inv X pins σ H s → t σ H Q → wpAny (model X.prog X.w) X.A (isTrue e X.env whole) (TP X pins σ Q) X.xe s) := ⟨PW.go⟩
theorem PW.pt {X : Cx} {e : Expr} {t : TT} (h : PW X e t) : PT X e t := .mk (h _)
/-- an argument list (no star), from the left -/
structure PA (X : Cx) (es : List Expr) (t : TA) : Prop where
  go : ∀ (pos : Pos) (pins : List (Addr × Obj)) (s : Shared) (σ : St) (H : Hp) (Q : List V → Hp → Prop), Inv X pins σ H s → t σ H Q → wpAny (model X.prog X.w) X.A (spliced (backTo pos (starEach es X.env))) (AP X pins σ Q) X.xe s
instance {X : Cx} {es : List Expr} {t : TA} : CoeFun (PA X es t) (fun _ => ∀ (pos : Pos) (pins : List (Addr × Obj)) (s : Shared) (σ : St) (H : Hp) (Q : List V → Hp → Prop), Inv X pins σ H s → t σ H Q → wpAny (model X.prog X.w) X.A (spliced (backTo pos (starEach es X.env))) (AP X pins σ Q) X.xe s) := ⟨PA.go⟩
structure PS (X : Cx) (st : Stmt) (t : TS) : Prop where
  go : ∀ (pins : List (Addr × Obj)) (s : Shared) (σ : St) (H : Hp) (D : Ends), Inv X pins σ H s → t D σ H → wpAny (model X.prog X.w) X.A (exec st X.env) (SP X pins D) X.xe s
instance {X : Cx} {st : Stmt} {t : TS} : CoeFun (PS X st t) (fun _ => ∀ (pins : List (Addr × Obj)) (s : Shared) (σ : St) (H : Hp) (D : Ends), Inv X pins σ H s → t D σ H → wpAny (model X.prog X.w) X.A (exec st X.env) (SP X pins D) X.xe s) := ⟨PS.go⟩
structure PSs (X : Cx) (st : List Stmt) (t : TS) : Prop where
  go : ∀ (pins : List (Addr × Obj)) (s : Shared) (σ : St) (H : Hp) (D : Ends), Inv X pins σ H s → t D σ H → wpAny (model X.prog X.w) X.A (execs st X.env) (SP X pins D) X.xe s
instance {X : Cx} {st : List Stmt} {t : TS} : CoeFun (PSs X st t) (fun _ => ∀ (pins : List (Addr × Obj)) (s : Shared) (σ : St) (H : Hp) (D : Ends), Inv X pins σ H s → t D σ H → wpAny (model X.prog X.w) X.A (execs st X.env) (SP X pins D) X.xe s) := ⟨PSs.go⟩
/-- weaken the end -/
theorem thn {α : Type} {t : Sem α} {Q Q' : α → Shared → Prop} {M : Model} {A : Around} {E : Value → Shared → Prop} {s : Shared} (h : wpAny M A t Q E s) (hQ : ∀ a s, Q a s → Q' a s) : wpAny M A t Q' E s := wpAny_mono h hQ fun _ _ x => x
end L2

namespace L2
open PySem PySem.Spec PyProof.Rows
section
variable {X : Cx}


/-! ### names and constants -/
inductive tVar (i : Nat) (σ : St) (H : Hp) (Q : VK) : Prop
  | mk (v : V) (e : σ[i]? = some (some v)) (q : Q v H) : tVar i σ H Q
abbrev tC (v : V) : TE := fun _ H Q => Q v H
theorem pe_var {i : Nat} {x : Str} {pos : Pos} (hN : X.N[i]? = some x) (hv : Vis X.env.scope x) (hd : (x == ("__debug__" : Str)) = false := by decide) (hcd : (x == ("__classdict__" : Str)) = false := by decide) : PE X (.Name x pos) (tVar i) := by
  refine ⟨?_⟩
  intro pins s σ H Q I h
  obtain ⟨v, e, h⟩ := h
  obtain ⟨m, hn, hl⟩ := I.loc
  obtain ⟨u, r, l⟩ := hl i x v hN e hv
  have fin : EP X pins σ Q u s := ⟨v, H, I, r, h⟩
  rcases l with ⟨hk, hm⟩ | ⟨hk, c, hc, hcell⟩
  · exact wpAny_Name (wpAny_loadName_local I.ok.kind hk hn hm fin) hd
  · rcases hk with hk | hk
    · exact wpAny_Name (wpAny_loadName_cell I.ok.kind hk hc hcell fin) hd
    · exact wpAny_Name (wpAny_loadName_free I.ok.kind hk hc hcell fin hcd) hd
theorem pe_int {i j pos} : PE X (.Constant (.int i) j pos) (tC (.int i)) := .mk fun _ _ _ H _ I h => wpAny_Constant_int ⟨.int i, H, I.tok _, ⟨_, rfl⟩, h⟩
theorem pe_bl {b j pos} : PE X (.Constant (.bool b) j pos) (tC (.bl b)) := .mk fun _ _ _ H _ I h => Constant_bool ⟨.bl b, H, I, rfl, h⟩
theorem pe_non {j pos} : PE X (.Constant .none j pos) (tC .non) := .mk fun _ _ _ H _ I h => Constant_none ⟨.non, H, I, rfl, h⟩
theorem pe_str {x j pos} : PE X (.Constant (.str x) j pos) (tC (.str x)) := .mk fun _ _ _ H _ I h => Calls.Constant_str ⟨.str x, H, I.tok _, ⟨_, rfl⟩, h⟩

/-- a global name of the def -/
def Gl (X : Cx) (x : Str) : Prop := X.env.kindOf x = some .globalImplicit
theorem ld_glob {E : Value → Shared → Prop} {pins : List (Addr × Obj)} {s : Shared} {σ : St} {H : Hp} {x : Str} {u : Value} {pos : Pos} {Q : Value → Shared → Prop} (I : Inv X pins σ H s) (hg : Gl X x) (hm : X.mg x = some u) (h : Q u s)
    (hd : (x == ("__debug__" : Str)) = false := by decide) : wpAny (model X.prog X.w) X.A (eval (.Name x pos) X.env) Q E s :=
  Calls.Name_function_global I.ok.kind hg (Calls.loadGlobal_global (by rw [I.ok.glob]; exact I.mod.glob.keeps I.bk) hm h) hd
theorem ld_blt {E : Value → Shared → Prop} {pins : List (Addr × Obj)} {s : Shared} {σ : St} {H : Hp} {x : Str} {u : Value} {pos : Pos} {Q : Value → Shared → Prop} (I : Inv X pins σ H s) (hg : Gl X x) (hm : X.mg x = none) (hv : bootBuiltins x = some u) (h : Q u s)
    (hn : x ≠ "__name__" := by decide) (hd : (x == ("__debug__" : Str)) = false := by decide) : wpAny (model X.prog X.w) X.A (eval (.Name x pos) X.env) Q E s := by
  obtain ⟨mb, h1, h2⟩ := I.mod.blt
  exact Calls.Name_function_global I.ok.kind hg (Calls.loadGlobal_builtin (by rw [I.ok.glob]; exact I.mod.glob.keeps I.bk) hm (by rw [I.ok.blt]; exact h1.keeps I.bk) ((h2 x hn).trans hv) h) hd
/-- a module's constant, a class, a function, as a value -/
theorem pe_glob {x : Str} {v : V} {u : Value} {pos : Pos} (hg : Gl X x) (hm : X.mg x = some u) (r : RelV v u) (hd : (x == ("__debug__" : Str)) = false := by decide) : PE X (.Name x pos) (tC v) := .mk
  fun _ _ _ H _ I h => ld_glob I hg hm ⟨v, H, I, r, h⟩ hd
theorem pe_bltn {x : Str} {v : V} {u : Value} {pos : Pos} (hg : Gl X x) (hm : X.mg x = none) (hv : bootBuiltins x = some u) (r : RelV v u) (hn : x ≠ "__name__" := by decide) (hd : (x == ("__debug__" : Str)) = false := by decide) : PE X (.Name x pos) (tC v) := .mk
  fun _ _ _ H _ I h => ld_blt I hg hm hv ⟨v, H, I, r, h⟩ hn hd

/-! ### arithmetic -/
variable {a b : Expr} {ta tb : TE} {pos : Pos}

/-! ### comparisons -/
/-- a comparison as a value, as a test -/
inductive tBx (x : V) (H1 : Hp) (Q : Bool → Hp → Prop) : Prop
  | mk (c : Bool) (e : x = .bl c) (q : Q c H1) : tBx x H1 Q
def tB (t : TE) : TT := fun σ H Q => t σ H fun x H1 => tBx x H1 Q
/-- an expression whose value is a bool, as a test -/
theorem pt_val {e : Expr} {t : TE} (h : PE X e t) (he : ∀ whole, isTrue e X.env whole = (do let v ← whole; standAt e.pos; holding [v] (truthy v)) := by intro _; rfl) : PT X e (tB t) := by
  refine ⟨?_⟩
  intro pins s σ H Q I hw
  refine isTrue_plain (thn (h pins s σ H _ I hw) fun v s1 ⟨x, H1, I1, r1, q1⟩ => ?_) (he _)
  obtain ⟨d, rfl, q⟩ := q1
  cases r1
  exact wpAny_truthy_bool ⟨H1, I1, q⟩

/-! ### and, or, not -/
variable {tA tB' : TT} {rest : List Expr}
def tAnd (t u : TT) : TT := fun σ H Q => t σ H fun c H1 => if c = true then u σ H1 Q else Q false H1
def tOr (t u : TT) : TT := fun σ H Q => t σ H fun c H1 => if c = true then Q true H1 else u σ H1 Q
def tNot (t : TT) : TT := fun σ H Q => t σ H fun c H1 => Q (!c) H1
theorem pw_and1 (ha : PT X a tA) : PW X (.BoolOp .And [a] pos) tA := by
  refine ⟨?_⟩
  intro wh pins s σ H Q I h
  refine isTrue_and (thn (ha pins s σ H Q I h) fun c s1 e => ?_)
  cases c with
  | true => exact isTrue_and_nil e
  | false => exact e
theorem pw_or1 (ha : PT X a tA) : PW X (.BoolOp .Or [a] pos) tA := by
  refine ⟨?_⟩
  intro wh pins s σ H Q I h
  refine isTrue_or (thn (ha pins s σ H Q I h) fun c s1 e => ?_)
  cases c with
  | false => exact isTrue_or_nil e
  | true => exact e
theorem pw_and (ha : PT X a tA) (hb : PW X (.BoolOp .And (b :: rest) pos) tB') : PW X (.BoolOp .And (a :: b :: rest) pos) (tAnd tA tB') := by
  refine ⟨?_⟩
  intro wh pins s σ H Q I h
  refine isTrue_and (thn (ha pins s σ H _ I h) fun c s1 ⟨H1, I1, q1⟩ => ?_)
  cases c with
  | true => exact hb wh pins s1 σ H1 Q I1 q1
  | false => exact ⟨H1, I1, q1⟩
theorem pw_or (ha : PT X a tA) (hb : PW X (.BoolOp .Or (b :: rest) pos) tB') : PW X (.BoolOp .Or (a :: b :: rest) pos) (tOr tA tB') := by
  refine ⟨?_⟩
  intro wh pins s σ H Q I h
  refine isTrue_or (thn (ha pins s σ H _ I h) fun c s1 ⟨H1, I1, q1⟩ => ?_)
  cases c with
  | true => exact ⟨H1, I1, q1⟩
  | false => exact hb wh pins s1 σ H1 Q I1 q1
theorem pt_not (ha : PT X a tA) : PT X (.UnaryOp .Not a pos) (tNot tA) := by
  refine ⟨?_⟩
  intro pins s σ H Q I h
  exact isTrue_not (ha pins s σ H (fun c H1 => Q (!c) H1) I h)
/-- .. as values (bools) -/
inductive tAndX (tb : TE) (σ : St) (x : V) (H1 : Hp) (Q : VK) : Prop
  | mk (c : Bool) (e : x = .bl c) (q : if c = true then tb σ H1 Q else Q (.bl false) H1) : tAndX tb σ x H1 Q
def tAndV (ta tb : TE) : TE := fun σ H Q => ta σ H fun x H1 => tAndX tb σ x H1 Q
theorem pe_one {op} {t : TE} (h : PE X a t) : PE X (.BoolOp op [a] pos) t := .mk fun pins s σ H Q I hw => BoolOp_one (h pins s σ H Q I hw)
theorem pe_and (ha : PE X a ta) (hb : PE X (.BoolOp .And (b :: rest) pos) tb) : PE X (.BoolOp .And (a :: b :: rest) pos) (tAndV ta tb) := by
  refine ⟨?_⟩
  intro pins s σ H Q I h
  refine BoolOp_and (thn (ha pins s σ H _ I h) fun v s1 ⟨x, H1, I1, r1, q1⟩ => ?_)
  obtain ⟨c, rfl, q1⟩ := q1
  cases r1
  refine wpAny_truthy_bool ?_
  cases c with
  | true => exact hb pins s1 σ H1 Q I1 q1
  | false => exact ⟨.bl false, H1, I1, rfl, q1⟩
end
end L2

namespace L2
open PySem PySem.Spec PyProof.Rows

/-! ### a list, a tuple that is read: tracked, frozen, or an object of the module -/
def SqL (K : PySem.W.Frag) (H : Hp) (a : Addr) (xs : List V) : Prop :=
  Rd H a (.lst xs) ∨
    ∃ (o : Obj) (its : Array Value) (n : Nat), K.lookup a = some o ∧ o.cls = .type "list" ∧ o.dict = none ∧ o.data = .seq its n ∧ its.size ≤ sizeLine ∧ Vals xs its.toList
def SqT (K : PySem.W.Frag) (H : Hp) (a : Addr) (xs : List V) : Prop :=
  Rd H a (.tup xs) ∨
    ∃ (o : Obj) (its : Array Value) (n : Nat), K.lookup a = some o ∧ o.cls = .type "tuple" ∧ o.data = .seq its n ∧ its.size ≤ sizeLine ∧ Vals xs its.toList
def absV : Value → Option V
  | .none => some .non
  | .bool b => some (.bl b)
  | .int i _ => some (.int i)
  | .str x _ => some (.str x)
  | .bytes b _ => some (.byt b)
  | .float b _ => some (.flt b)
  | .ref a => some (.ref a)
  | .type n => some (.ty n)
  | _ => none
theorem RelV.abs {x : V} {u : Value} (r : RelV x u) : absV u = some x := by
  cases x with
  | non => cases r; rfl
  | bl _ => cases r; rfl
  | int _ => obtain ⟨t, rfl⟩ := r; rfl
  | str _ => obtain ⟨t, rfl⟩ := r; rfl
  | byt _ => obtain ⟨t, rfl⟩ := r; rfl
  | flt _ => obtain ⟨t, rfl⟩ := r; rfl
  | ref _ => cases r; rfl
  | ty _ => cases r; rfl
theorem RelV.inj {x y : V} {u : Value} (r : RelV x u) (q : RelV y u) : x = y := Option.some.inj (r.abs.symm.trans q.abs)
theorem Vals.inj : ∀ {xs ys : List V} {us : List Value}, Vals xs us → Vals ys us → xs = ys
  | _, _, _, .nil, .nil => rfl
  | _, _, _, .cons r t, .cons r' t' => by rw [r.inj r', Vals.inj t t']
section
variable {X : Cx} {pins : List (Addr × Obj)} {σ : St} {H : Hp} {s : Shared} {a : Addr} {xs ys : List V}
theorem SqL.of {K : PySem.W.Frag} (h : H a = some (.lst xs)) : SqL K H a xs := .inl (.inl h)
theorem SqT.of {K : PySem.W.Frag} (h : H a = some (.tup xs)) : SqT K H a xs := .inl (.inl h)
theorem Inv.list (I : Inv X pins σ H s) (h : SqL X.K H a xs) : ∃ its : List Value, Vals xs its ∧ PlainL s.heap a its.toArray ∧ xs.length ≤ sizeLine := by
  rcases h with h | ⟨o, its, n, hk, hc, hd, hs, hz, r⟩
  · obtain ⟨z, its, n, r, e⟩ := h.ok I.hok
    exact ⟨its, r, ⟨_, n, e, rfl, rfl, rfl⟩, z⟩
  · refine ⟨its.toList, r, ⟨o, n, I.kIn a o hk, hc, hd, by simpa using hs⟩, ?_⟩
    have e := r.length
    simp only [Array.length_toList] at e
    omega
theorem Inv.tuple (I : Inv X pins σ H s) (h : SqT X.K H a xs) : ∃ its : List Value, Vals xs its ∧ IsTup s.heap a its.toArray ∧ xs.length ≤ sizeLine := by
  rcases h with h | ⟨o, its, n, hk, hc, hs, hz, r⟩
  · obtain ⟨z, its, r, p⟩ := h.ok I.hok
    exact ⟨its, r, p, z⟩
  · refine ⟨its.toList, r, ⟨o, I.kIn a o hk, hc, n, by simpa using hs⟩, ?_⟩
    have e := r.length
    simp only [Array.length_toList] at e
    omega
theorem Inv.list_inj (I : Inv X pins σ H s) (h : SqL X.K H a xs) (h' : SqL X.K H a ys) : xs = ys := by
  obtain ⟨its, r, ⟨o, n, e, _, _, d⟩, _⟩ := I.list h
  obtain ⟨its', r', ⟨o', n', e', _, _, d'⟩, _⟩ := I.list h'
  rw [e] at e'; cases e'
  rw [d] at d'
  injection d' with d1 _
  have : its = its' := by simpa using congrArg Array.toList d1
  subst this
  exact r.inj r'
end

/-! ### another wish about exceptions -/
abbrev Cx.wish (X : Cx) (E : Value → Shared → Prop) : Cx := { X with xe := E }
/-- no exception leaves -/
abbrev Cx.nox (X : Cx) : Cx := X.wish fun _ _ => False
theorem Cx.Ok.wish {X : Cx} (ok : X.Ok) (E : Value → Shared → Prop) : (X.wish E).Ok :=
  ⟨ok.mod, ok.kind, ok.glob, ok.blt, ok.above, ok.inj, ok.has, ok.cab, ok.hd, ok.frames, ok.stk, ok.exf, ok.bs, ok.bsz, ok.noex, ok.exfs, ok.funs, ok.frf⟩
theorem Cx.Ok.unwish {X : Cx} {E : Value → Shared → Prop} (ok : (X.wish E).Ok) : X.Ok :=
  ⟨ok.mod, ok.kind, ok.glob, ok.blt, ok.above, ok.inj, ok.has, ok.cab, ok.hd, ok.frames, ok.stk, ok.exf, ok.bs, ok.bsz, ok.noex, ok.exfs, ok.funs, ok.frf⟩
section
variable {X : Cx} {pins : List (Addr × Obj)} {σ : St} {H : Hp} {s : Shared} {E : Value → Shared → Prop}
theorem Inv.wish (I : Inv X pins σ H s) (E : Value → Shared → Prop) : Inv (X.wish E) pins σ H s := ⟨I.ok.wish E, I.os, I.bare, I.base, I.loc, I.cell, I.free, I.freeC, I.pin, I.hok, I.len⟩
theorem Inv.unwish (I : Inv (X.wish E) pins σ H s) : Inv X pins σ H s := ⟨I.ok.unwish, I.os, I.bare, I.base, I.loc, I.cell, I.free, I.freeC, I.pin, I.hok, I.len⟩
theorem SP.unwish {D : Ends} {f : Flow} {s' : Shared} (h : SP (X.wish E) pins D f s') : SP X pins D f s' := by
  cases f with
  | next => obtain ⟨σ', H', I, q⟩ := h; exact ⟨σ', H', I.unwish, q⟩
  | brk => obtain ⟨σ', H', I, q⟩ := h; exact ⟨σ', H', I.unwish, q⟩
  | cont => obtain ⟨σ', H', I, q⟩ := h; exact ⟨σ', H', I.unwish, q⟩
  | ret u => obtain ⟨v, σ', H', I, r, q⟩ := h; exact ⟨v, σ', H', I.unwish, r, q⟩
theorem PSs.nox {st : List Stmt} {t : TS} (h : PSs X.nox st t) : PSs X st t := .mk fun pins s σ H D I hw =>
  wpAny_mono (h pins s σ H D (I.wish _) hw) (fun _ _ q => q.unwish) fun _ _ z => False.elim z
end

/-! ### blocks and small statements -/
section
variable {X : Cx} {st : Stmt} {rest : List Stmt} {t u : TS} {e : Expr} {te : TE} {pos : Pos}
def tNext : TS := fun D σ H => D.nx σ H
def tSeq (t u : TS) : TS := fun D σ H => t { D with nx := u D } σ H
theorem pss_nil : PSs X [] tNext := .mk fun _ _ σ H _ I h => wpAny_execs_nil ⟨σ, H, I, h⟩
theorem pss_cons (h1 : PS X st t) (h2 : PSs X rest u) : PSs X (st :: rest) (tSeq t u) := by
  refine ⟨?_⟩
  intro pins s σ H D I h
  refine wpAny_execs_cons (thn (h1 pins s σ H { D with nx := u D } I h) fun f s1 q => ?_)
  cases f with
  | next =>
    obtain ⟨σ', H', I', q⟩ := q
    exact h2 pins s1 σ' H' D I' q
  | ret v => exact q
  | brk => exact q
  | cont => exact q
theorem pss_one (h1 : PS X st t) : PSs X [st] t := by
  refine ⟨?_⟩
  intro pins s σ H D I h
  refine wpAny_execs_cons (thn (h1 pins s σ H D I h) fun f s1 q => ?_)
  cases f with
  | next => exact wpAny_execs_nil q
  | ret v => exact q
  | brk => exact q
  | cont => exact q
/-- in a def's body nothing is shown -/
theorem Inv.quiet {pins : List (Addr × Obj)} {σ : St} {H : Hp} {s : Shared} (I : Inv X pins σ H s) : interactive X.env = false := by simp [interactive, I.ok.kind]
/-- an expression whose value is dropped -/
def tDrop (te : TE) : TS := fun D σ H => te σ H fun _ H1 => D.nx σ H1
theorem ps_expr (he : PE X e te) (hs : swapsWith e none pos.line X.env = pure false := by rfl) : PS X (.Expr e pos) (tDrop te) := by
  refine ⟨?_⟩
  intro pins s σ H D I h
  exact wpAny_Expr_any (thn (he pins s σ H _ I h) fun v s1 ⟨x, H1, I1, r1, q1⟩ => ⟨σ, H1, I1, q1⟩) I.quiet hs
def tRet (te : TE) : TS := fun D σ H => te σ H D.rt
theorem ps_ret (he : PE X e te) : PS X (.Return (some e) pos) (tRet te) := by
  refine ⟨?_⟩
  intro pins s σ H D I h
  exact wpAny_Return_some (thn (he pins s σ H _ I h) fun v s1 ⟨x, H1, I1, r1, q1⟩ => ⟨x, σ, H1, I1, r1, q1⟩)
def tIfS (c : TT) (t u : TS) : TS := fun D σ H => c σ H fun b H1 => if b = true then t D σ H1 else u D σ H1
theorem ps_if {c : Expr} {a b : List Stmt} {tc : TT} (hc : PT X c tc) (ha : PSs X a t) (hb : PSs X b u) : PS X (.If c a b pos) (tIfS tc t u) := by
  refine ⟨?_⟩
  intro pins s σ H D I h
  refine wpAny_If (thn (hc pins s σ H _ I h) fun d s1 ⟨H1, I1, q1⟩ => ?_)
  cases d with
  | true => exact ha pins s1 σ H1 D I1 q1
  | false => exact hb pins s1 σ H1 D I1 q1
end

/-! ### targets -/
abbrev TG := V → St → Hp → (St → Hp → Prop) → Prop
abbrev TGs := List V → St → Hp → (St → Hp → Prop) → Prop
def PG (X : Cx) (target : Expr) (t : TG) : Prop :=
  ∀ (pins : List (Addr × Obj)) (s : Shared) (σ : St) (H : Hp) (v : V) (u : Value) (Q : St → Hp → Prop), Inv X pins σ H s → RelV v u → t v σ H Q →
    wpAny (model X.prog X.w) X.A (assign target X.env u) (fun _ s' => ∃ σ' H', Inv X pins σ' H' s' ∧ Q σ' H') X.xe s
/-- several targets, one after another -/
def PGs (X : Cx) (ts : List Expr) (t : TGs) : Prop :=
  ∀ (pins : List (Addr × Obj)) (s : Shared) (σ : St) (H : Hp) (vs : List V) (us : List Value) (Q : St → Hp → Prop), Inv X pins σ H s → Vals vs us → t vs σ H Q →
    wpAny (model X.prog X.w) X.A (assignInOrder ((assignEach ts X.env).map (·.2)) us) (fun _ s' => ∃ σ' H', Inv X pins σ' H' s' ∧ Q σ' H') X.xe s
/-- o[i] = v, by values -/
abbrev TSet := V → V → V → Hp → (Hp → Prop) → Prop
def PSet (X : Cx) (t : TSet) : Prop :=
  ∀ (pins : List (Addr × Obj)) (s : Shared) (σ : St) (H : Hp) (o i v : V) (ov iv u : Value) (Q : Hp → Prop), Inv X pins σ H s → RelV o ov → RelV i iv → RelV v u → t o i v H Q →
    wpAny (model X.prog X.w) X.A (setItem ov iv u) (fun _ s' => ∃ H', Inv X pins σ H' s' ∧ Q H') X.xe s
section
variable {X : Cx} {pos : Pos}
def gName (i : Nat) : TG := fun v σ H Q => Q (σ.set i (some v)) H
theorem pg_name {i : Nat} {x : Str} (hN : X.N.Nodup) (hi : X.N[i]? = some x) (hx : Loc X.env.scope x) (hf : X.fn x = true ∨ X.env.scope.names.lookup x = some .local := by first | exact .inl rfl | exact .inr rfl | assumption) : PG X (.Name x pos) (gName i) := by
  intro pins s σ H v u Q I r h
  exact wpAny_assign_Name (store_ok I hN hi hx r (fun s' I' => ⟨_, H, I', h⟩) hf)
def gNil : TGs := fun vs σ H Q => vs = [] ∧ Q σ H
inductive gCons (t : TG) (u : TGs) (vs : List V) (σ : St) (H : Hp) (Q : St → Hp → Prop) : Prop
  | mk (v : V) (r : List V) (e : vs = v :: r) (q : t v σ H fun σ' H' => u r σ' H' Q) : gCons t u vs σ H Q
theorem pgs_nil : PGs X [] gNil := by
  intro pins s σ H vs us Q I r h
  obtain ⟨e, h⟩ := h
  subst e
  cases r
  exact assignInOrder_nil ⟨σ, H, I, h⟩
theorem pgs_cons {e : Expr} {es : List Expr} {t : TG} {u : TGs} (h1 : PG X e t) (h2 : PGs X es u)
    (hs : (assignEach (e :: es) X.env).map (·.2) = assign e X.env :: (assignEach es X.env).map (·.2) := by rfl) : PGs X (e :: es) (gCons t u) := by
  intro pins s σ H vs us Q I r h
  obtain ⟨v, vr, e1, h⟩ := h
  subst e1
  cases r with
  | cons r rr =>
    rw [hs]
    refine assignInOrder_cons (thn (h1 pins s σ H _ _ _ I r h) fun _ s1 ⟨σ1, H1, I1, q1⟩ => ?_)
    exact h2 pins s1 σ1 H1 _ _ Q I1 rr q1
/-- (a, b, ..) = a tuple of that length -/
inductive gTup (K : PySem.W.Frag) (n : Nat) (t : TGs) (v : V) (σ : St) (H : Hp) (Q : St → Hp → Prop) : Prop
  | mk (a : Addr) (xs : List V) (e : v = .ref a) (h : SqT K H a xs) (l : xs.length = n) (q : t xs σ H Q) : gTup K n t v σ H Q
theorem pg_tup {es : List Expr} {k : Nat} {t : TGs} {n : Nat} (hc : X.calm = true) (h : PGs X es t)
    (hn : (assignEach es X.env).length = n := by rfl) (hst : (assignEach es X.env).findIdx? (·.1) = none := by rfl) : PG X (.Tuple es k pos) (gTup X.K n t) := by
  intro pins s σ H v u Q I r hw
  obtain ⟨a, xs, e1, hq, hl, hw⟩ := hw
  subst e1
  cases r
  obtain ⟨its, rv, ht, hz⟩ := I.tuple hq
  refine assign_Tuple_tuple (I.ok.hd hc) ht (by simp [hn, ← hl, rv.length]) hst fun h' hx => ?_
  have I1 : Inv X pins σ H { s with heap := h' } := I.kept (t' := s.toks) fun b o e => hx b o (Nat.ne_of_lt (Heap.lt_size e)) e
  exact h pins _ σ H xs _ Q I1 (by simpa using rv) hw
/-- o[i] = .. -/
def gSub (to ti : TE) (t : TSet) : TG := fun v σ H Q => to σ H fun o H1 => ti σ H1 fun i H2 => t o i v H2 fun H3 => Q σ H3
theorem pg_sub {o i : Expr} {to ti : TE} {t : TSet} (ho : PE X o to) (hi : PE X i ti) (hs : PSet X t)
    (ha : ∀ v, assign (.Subscript o i pos) X.env v = (do
      let ov ← holding [v] (eval o X.env)
      let iv ← holding [v, ov] (eval i X.env)
      standAt pos
      holding [v, ov, iv] (setItem ov iv v)
      release [v, ov, iv] []) := by intro _; rfl) : PG X (.Subscript o i pos) (gSub to ti t) := by
  intro pins s σ H v u Q I r h
  rw [ha]
  refine wpAny_bind (wpAny_holding (thn (ho pins s σ H _ I h) fun ov s1 ⟨x, H1, I1, r1, q1⟩ => ?_))
  refine wpAny_bind (wpAny_holding (thn (hi pins s1 σ H1 _ I1 q1) fun iv s2 ⟨y, H2, I2, r2, q2⟩ => ?_))
  refine wpAny_bind (wpAny_standAt (wpAny_bind (wpAny_holding (thn (hs pins s2 σ H2 x y v ov iv u _ I2 r1 r2 r q2) fun _ s3 ⟨H3, I3, q3⟩ => ?_))))
  exact wpAny_release ⟨σ, H3, I3, q3⟩
/-- target = value -/
def tAsg (te : TE) (g : TG) : TS := fun D σ H => te σ H fun x H1 => g x σ H1 D.nx
theorem ps_asg {tg e : Expr} {te : TE} {g : TG} (he : PE X e te) (hg : PG X tg g) (hs : swapsWithSole [tg] e pos.line X.env = pure false := by rfl) (hw : swappedStores [tg] e X.env = pure none := by rfl)
    (h1 : (assignEach [tg] X.env).map (·.2) = [assign tg X.env] := by rfl) : PS X (.Assign [tg] e pos) (tAsg te g) := by
  refine ⟨?_⟩
  intro pins s σ H D I h
  refine wpAny_Assign_stores (thn (he pins s σ H _ I h) fun v s1 ⟨x, H1, I1, r1, q1⟩ => ?_) hs hw
  rw [h1]
  exact thn (hg pins s1 σ H1 x v _ I1 r1 q1) fun _ s2 q => q
/-- name = value -/
theorem ps_set {i : Nat} {x : Str} {e : Expr} {te : TE} {pos' : Pos} (hN : X.N.Nodup) (hi : X.N[i]? = some x) (hx : Loc X.env.scope x) (he : PE X e te) (hs : swapsWith e (some (.Name x pos')) pos.line X.env = pure false := by rfl) (hf : X.fn x = true ∨ X.env.scope.names.lookup x = some .local := by first | exact .inl rfl | exact .inr rfl | assumption) :
    PS X (.Assign [.Name x pos'] e pos) (tAsg te (gName i)) := by
  refine ⟨?_⟩
  intro pins s σ H D I h
  refine wpAny_Assign_Name (thn (he pins s σ H _ I h) fun v s1 ⟨y, H1, I1, r1, q1⟩ => ?_) hs
  exact store_ok I1 hN hi hx r1 (fun s2 I2 => ⟨_, H1, I2, q1⟩) hf
end

/-! ### while -/
section
variable {X : Cx} {pos : Pos}
end

/-! ### what a loop or a comprehension walks -/
/-- at turn i: it yields x (the heap may grow), or it stops -/
structure It where
  go : Nat → Hp → Prop
  yld : Nat → Hp → V → Hp → Prop
  stop : Nat → Hp → Prop
/-- the iterator's own objects may turn: they are not the frame's, not pinned, younger than the entry (or a comprehension's own) -/
def FpOk (X : Cx) (pins : List (Addr × Obj)) (H : Hp) (b : Addr) : Prop :=
  H b = none ∧ b ≠ X.env.locals ∧ b ∉ X.fs ∧ (b ∈ X.ex ∨ X.s₀.heap.objs.size ≤ b) ∧ (∀ x c, X.env.cells.lookup x = some c → c ≠ b) ∧ ∀ p ∈ X.pn ++ pins, p.1 ≠ b
theorem Inv.fpOk {X : Cx} {pins : List (Addr × Obj)} {σ : St} {H H' : Hp} {s : Shared} {b : Addr} (I : Inv X pins σ H s) (hb : s.heap.objs.size ≤ b) (hn : H' b = none) : FpOk X pins H' b := by
  refine ⟨hn, Nat.ne_of_gt (Nat.lt_of_lt_of_le I.lt hb), I.nofs hb, .inr (Nat.le_trans I.sz hb), fun x c e z => ?_, fun p hp z => ?_⟩
  · obtain ⟨v, q⟩ := I.cell x c e
    exact absurd (Nat.lt_of_lt_of_le q.lt (by rw [z]; exact hb)) (Nat.lt_irrefl _)
  · exact absurd (Nat.lt_of_lt_of_le (Heap.lt_size (I.pin p hp).1) (by rw [z]; exact hb)) (Nat.lt_irrefl _)
structure Turn (P : Program) (w : World) (K : PySem.W.Frag) (tg : Expr) (J : It) (fp : List Addr) (it : Addr) (tn : Nat → Heap → Prop) : Prop where
  mem : it ∈ fp
  obj : ∀ i h, tn i h → ∀ b ∈ fp, ∃ o, h.get? b = some o ∧ ∀ v, o.data ≠ .cell v
  keep : ∀ i h h', tn i h → (∀ b ∈ fp, ∀ o, h.get? b = some o → h'.get? b = some o) → tn i h'
  item : ∀ (X : Cx), X.prog = P → X.w = w → X.K = K → X.calm = true → ∀ (i : Nat) (pins : List (Addr × Obj)) (s : Shared) (σ : St) (H : Hp) (E : Value → Shared → Prop), Inv X pins σ H s → (∀ b ∈ fp, FpOk X pins H b) → tn i s.heap → J.go i H →
    wpAny (model P w) X.A (pyNext (.ref it)) (fun r s1 => ∃ u, r = some u ∧
      wpAny (model P w) X.A (letOwnedTupleGo tg (.ref it) u) (fun _ s2 => ∃ x H', Inv X pins σ H' s2 ∧ RelV x u ∧ J.yld i H x H' ∧ tn (i + 1) s2.heap ∧ ∀ b ∈ fp, H' b = none) E s1) E s
  done : ∀ (X : Cx), X.prog = P → X.w = w → X.K = K → X.calm = true → ∀ (i : Nat) (pins : List (Addr × Obj)) (s : Shared) (σ : St) (H : Hp) (E : Value → Shared → Prop), Inv X pins σ H s → (∀ b ∈ fp, FpOk X pins H b) → tn i s.heap → J.stop i H →
    wpAny (model P w) X.A (pyNext (.ref it)) (fun r s1 => r = none ∧ Inv X pins σ H s1) E s
  self : ∀ (A : Around) (i : Nat) (s : Shared) (Q : Value → Shared → Prop) (E : Value → Shared → Prop), tn i s.heap → Q (.ref it) s → wpAny (model P w) A (pyIter (.ref it)) Q E s
abbrev TI := St → Hp → (It → Hp → Prop) → Prop
/-- an iterator has come -/
def PIE (X : Cx) (pins : List (Addr × Obj)) (σ : St) (tg : Expr) (R : It → Hp → Prop) (itv : Value) (s2 : Shared) : Prop :=
  ∃ (it : Addr) (fp : List Addr) (tn : Nat → Heap → Prop) (J : It) (H' : Hp), itv = .ref it ∧ Inv X pins σ H' s2 ∧ Turn X.prog X.w X.K tg J fp it tn ∧ tn 0 s2.heap ∧ (∀ b ∈ fp, FpOk X pins H' b) ∧ R J H'
def PI (X : Cx) (tg iter : Expr) (wi : TI) : Prop :=
  ∀ (pins : List (Addr × Obj)) (s : Shared) (σ : St) (H : Hp) (R : It → Hp → Prop), Inv X pins σ H s → wi σ H R →
    wpAny (model X.prog X.w) X.A (eval iter X.env) (fun v s1 => wpAny (model X.prog X.w) X.A (pyIter v) (PIE X pins σ tg R) X.xe s1) X.xe s

/-- the step ahead of the store is nothing for an iterator that keeps no tuple -/
theorem go_of {M : Model} {A : Around} {E : Value → Shared → Prop} {s : Shared} {tg : Expr} {it : Addr} {u : Value} {o : Obj} {n : String} {vs : Array Value} {Q : Unit → Shared → Prop} (ho : s.heap.get? it = some o) (hc : o.cls = .type n) (hd : o.data = .fields vs)
    (hn : ["enumerate", "zip", "dict_itemiterator", "dict_reverseitemiterator", "odict_iterator", "itertools.zip_longest", "itertools.pairwise"].contains n = false) (hQ : Q () s) : wpAny M A (letOwnedTupleGo tg (.ref it) u) Q E s := by
  unfold letOwnedTupleGo
  cases tg <;> first
    | exact wpAny_pure hQ
    | (cases u <;> first
        | exact wpAny_pure hQ
        | (refine wpAny_bind (wpAny_load ho ?_)
           rw [hc, hd]
           show wpAny M A (if (["enumerate", "zip", "dict_itemiterator", "dict_reverseitemiterator", "odict_iterator", "itertools.zip_longest", "itertools.pairwise"].contains n && vs[0]? == some (rawInt _)) = true then _ else _) Q E s
           rw [if_neg (by intro h; rw [hn, Bool.false_and] at h; cases h)]
           exact wpAny_pure hQ))

/-- the list at a, as it stands at each turn (a loop may append to it) -/
def Itl (K : PySem.W.Frag) (a : Addr) : It :=
  ⟨fun i H => ∃ xs x, SqL K H a xs ∧ xs[i]? = some x, fun i H x H' => H' = H ∧ ∀ xs, SqL K H a xs → xs[i]? = some x, fun i H => ∃ xs, SqL K H a xs ∧ xs.length ≤ i⟩
/-- lo, lo + 1, .. (n of them) -/
def Itr (lo : Int) (n : Nat) : It := ⟨fun i _ => i < n, fun i H x H' => H' = H ∧ x = .int (lo + i), fun i _ => n ≤ i⟩
theorem turn_list {P : Program} {w : World} {K : PySem.W.Frag} {tg : Expr} (a it : Addr) : Turn P w K tg (Itl K a) [it] it (fun i h => h.IsListIter it a i) where
  mem := by simp
  obj := fun i h st b hb => by
    have e : b = it := by simpa using hb
    subst e
    obtain ⟨o, e, c, d⟩ := st
    exact ⟨o, e, fun v z => by rw [d] at z; cases z⟩
  keep := fun i h h' st k => st.at fun o e => k it (by simp) o e
  item := by
    intro X hP hw hK hc i pins s σ H E I hf st hg
    subst hP hw hK
    obtain ⟨xs, x, hq, hx⟩ := hg
    obtain ⟨its, rv, p, hz⟩ := I.list hq
    obtain ⟨u, hu, ru⟩ := rv.get hx
    obtain ⟨f0, f1, f2, f3, f4, f5⟩ := hf it (by simp)
    refine wpAny_pyNext_list_item st p.isList (x := u) (by simpa using hu) fun h' st' sb => ?_
    have I1 : Inv X pins σ H { s with heap := h' } := I.turned (t' := s.toks) (fun b o hb e => (sb.2 b hb).trans e) f0 f1 f3 f4 f5
    obtain ⟨o, e, c, d⟩ := id st'
    exact ⟨u, rfl, go_of (s := { s with heap := h' }) e c d (by decide) ⟨x, H, I1, ru, ⟨rfl, fun ys hy => by rw [I.list_inj hy hq]; exact hx⟩, st', fun b hb => (hf b hb).1⟩⟩
  done := by
    intro X hP hw hK hc i pins s σ H E I hf st hg
    subst hP hw hK
    obtain ⟨xs, hq, hx⟩ := hg
    obtain ⟨its, rv, p, hz⟩ := I.list hq
    obtain ⟨f0, f1, f2, f3, f4, f5⟩ := hf it (by simp)
    have hl := rv.length
    exact wpAny_pyNext_list_end (I.ok.hd hc) st p.isList (by simp; omega) fun h' eb => ⟨rfl, I.turned (t' := s.toks) (fun b o hb e => eb b o hb e) f0 f1 f3 f4 f5⟩
  self := fun _ _ _ _ _ st h => wpAny_pyIter_listiter st h
theorem turn_range {P : Program} {w : World} {K : PySem.W.Frag} {tg : Expr} (it : Addr) (lo : Int) (n : Nat) : Turn P w K tg (Itr lo n) [it] it (fun i h => IsRangeIter h it (lo + (i : Nat) * 1) ((n : Int) - (i : Nat)) 1) where
  mem := by simp
  obj := fun i h st b hb => by
    have e : b = it := by simpa using hb
    subst e
    exact ⟨_, st, fun v z => by
      have z' : Data.fields _ = Data.cell v := z
      cases z'⟩
  keep := fun i h h' st k => k it (by simp) _ st
  item := by
    intro X hP hw hK hc i pins s σ H E I hf st hg
    subst hP hw hK
    obtain ⟨f0, f1, f2, f3, f4, f5⟩ := hf it (by simp)
    have W := Walks.range (prog := X.prog) (w := X.w) (I.ok.hd hc) it lo 1 n
    refine W.item i s _ _ hg st fun v h' tk hv st' kk => ?_
    obtain ⟨t, rfl⟩ := hv
    have I1 : Inv X pins σ H { s with heap := h', toks := tk } := I.turned (fun b o hb e => kk b o (by simpa using hb) e) f0 f1 f3 f4 f5
    refine ⟨_, rfl, go_of (s := { s with heap := h', toks := tk }) (n := "range_iterator") st' rfl rfl (by decide) ⟨.int (lo + i), H, I1, ⟨t, ?_⟩, ⟨rfl, rfl⟩, st', fun b hb => (hf b hb).1⟩⟩
    rw [Int.mul_one]
  done := by
    intro X hP hw hK hc i pins s σ H E I hf st hg
    subst hP hw hK
    obtain ⟨f0, f1, f2, f3, f4, f5⟩ := hf it (by simp)
    exact wpAny_pyNext_range_end (I.ok.hd hc) st (by have : n ≤ i := hg; omega) fun h' eb => ⟨rfl, I.turned (t' := s.toks) (fun b o hb e => eb b o hb e) f0 f1 f3 f4 f5⟩
  self := fun _ _ _ _ _ st h => wpAny_pyIter_rangeiter st h
end L2

namespace L2
open PySem PySem.Spec PyProof.Rows
section
variable {X : Cx} {tg : Expr}
inductive iListX (K : PySem.W.Frag) (R : It → Hp → Prop) (x : V) (H1 : Hp) : Prop
  | mk (a : Addr) (e : x = .ref a) (h : ∃ xs, SqL K H1 a xs) (q : R (Itl K a) H1) : iListX K R x H1
def iList (K : PySem.W.Frag) (tl : TE) : TI := fun σ H R => tl σ H fun x H1 => iListX K R x H1
theorem pi_list {l : Expr} {tl : TE} (hl : PE X l tl) : PI X tg l (iList X.K tl) := by
  intro pins s σ H R I h
  refine thn (hl pins s σ H _ I h) fun v s1 ⟨x, H1, I1, r1, q1⟩ => ?_
  obtain ⟨a, e, ⟨xs, hq⟩, q⟩ := q1
  subst e
  cases r1
  obtain ⟨its, rv, p, hz⟩ := I1.list hq
  refine wpAny_pyIter_list p.isList ?_
  refine ⟨s1.heap.objs.size, [s1.heap.objs.size], _, _, H1, rfl, I1.kept (t' := s1.toks) fun b o e => Heap.get?_push_of_some _ e, turn_list a _, ⟨_, Heap.get?_push_size _ rfl, rfl, rfl⟩, fun b hb => ?_, q⟩
  have e : b = s1.heap.objs.size := by simpa using hb
  subst e
  exact I1.fpOk (Nat.le_refl _) (I1.hok.fresh (Nat.le_refl _))
/-- a range object just made, walked -/
theorem range_it {pins : List (Addr × Obj)} {σ : St} {H : Hp} {s : Shared} {R : It → Hp → Prop} {E : Value → Shared → Prop} {lo hi : Int} {t u v : Tok} {tk : Nat} (I : Inv X pins σ H s) (h1 : -(2 ^ 62) ≤ lo) (h2 : lo < 2 ^ 62) (h3 : -(2 ^ 62) ≤ hi) (h4 : hi < 2 ^ 62)
    (q : R (Itr lo (hi - lo).toNat) H) : wpAny (model X.prog X.w) X.A (pyIter (.ref s.heap.objs.size)) (PIE X pins σ tg R) E { s with heap := s.heap.push { cls := .type "range", data := .fields #[.int lo t, .int hi u, .int 1 v] }, toks := tk } := by
  refine wpAny_pyIter_range (IsRange.new ..) (small_one h1 h2 h3 h4) ?_
  have I1 : Inv X pins σ H { s with heap := s.heap.push { cls := .type "range", data := .fields #[.int lo t, .int hi u, .int 1 v] }, toks := tk } := I.kept fun b o e => Heap.get?_push_of_some _ e
  refine ⟨(s.heap.push { cls := .type "range", data := .fields #[.int lo t, .int hi u, .int 1 v] }).objs.size, [(s.heap.push { cls := .type "range", data := .fields #[.int lo t, .int hi u, .int 1 v] }).objs.size], _, _, H, rfl,
    I1.kept (t' := tk) fun b o e => Heap.get?_push_of_some _ e, turn_range _ lo (hi - lo).toNat, ?_, fun b hb => ?_, q⟩
  · have e1 : lo + ((0 : Nat) : Int) * 1 = lo := by simp
    have e2 : (((hi - lo).toNat : Nat) : Int) - ((0 : Nat) : Int) = Builtin.Range.rangeSize lo hi 1 := by rw [rangeSize_one]; split <;> omega
    show IsRangeIter _ _ (lo + ((0 : Nat) : Int) * 1) ((((hi - lo).toNat : Nat) : Int) - ((0 : Nat) : Int)) 1
    rw [e1, e2]
    exact Heap.get?_push_size _ rfl
  · have e : b = (s.heap.push { cls := .type "range", data := .fields #[.int lo t, .int hi u, .int 1 v] }).objs.size := by simpa using hb
    subst e
    exact I1.fpOk (Nat.le_refl _) (I1.hok.fresh (Nat.le_refl _))
inductive iRng1X (R : It → Hp → Prop) (vs : List V) (H1 : Hp) : Prop
  | mk (j : Int) (e : vs = [.int j]) (h1 : -(2 ^ 62) ≤ j) (h2 : j < 2 ^ 62) (q : R (Itr 0 j.toNat) H1) : iRng1X R vs H1
def iRng1 (ta : TA) : TI := fun σ H R => ta σ H fun vs H1 => iRng1X R vs H1
theorem pi_range1 {a : Expr} {ta : TA} {p pos : Pos} (hg : Gl X "range") (hm : X.mg "range" = none) (ha : PA X [a] ta) (hs : starEach [a] X.env = [(false, eval a X.env)] := by rfl) : PI X tg (.Call (.Name "range" p) [a] [] pos) (iRng1 ta) := by
  intro pins s σ H R I h
  refine Call_ (ld_blt I hg hm boot_range (PyProof.Rows.callWith_type1 (thn (ha pos pins s σ H _ I h) fun us s1 ⟨vs, H1, I1, r1, q1⟩ => ?_) hs rfl))
  obtain ⟨j, e, q1, q2, q⟩ := q1
  subst e
  cases r1 with
  | cons r rr =>
    cases rr
    obtain ⟨t, rfl⟩ := r
    exact call_range_1 (range_it I1 (by omega) (by omega) q1 q2 (by simpa using q))

/-! ### for -/
/-- W: the invariant by the turn and a measure; N: what the body is to reach -/
def tFor (wi : TI) (g : TG) (tb : TS) : TS := fun D σ H => wi σ H fun J H1 => ∃ W : Nat → Nat → St → Hp → Prop, (∃ m, W 0 m σ H1) ∧ ∀ i m σ H, W i m σ H →
  (J.stop i H ∧ D.nx σ H) ∨ (J.go i H ∧ ∃ N : St → Hp → Prop, (∀ σ' H', N σ' H' → ∃ m', m' < m ∧ W (i + 1) m' σ' H') ∧ ∀ x H', J.yld i H x H' → g x σ H' fun σ2 H2 => tb { D with nx := N, ct := N, bk := D.nx } σ2 H2)
/-- the records at fp as they stand -/
def pinsAt (fp : List Addr) (h : Heap) : List (Addr × Obj) := fp.filterMap fun b => (h.get? b).map fun o => (b, o)
theorem mem_pinsAt {fp : List Addr} {h : Heap} {b : Addr} {o : Obj} (hb : b ∈ fp) (e : h.get? b = some o) : (b, o) ∈ pinsAt fp h := List.mem_filterMap.mpr ⟨b, hb, by rw [e]; rfl⟩
theorem of_pinsAt {fp : List Addr} {h : Heap} {p : Addr × Obj} (hp : p ∈ pinsAt fp h) : p.1 ∈ fp ∧ h.get? p.1 = some p.2 := by
  obtain ⟨b, hb, e⟩ := List.mem_filterMap.mp hp
  cases q : h.get? b with
  | none => rw [q] at e; cases e
  | some o =>
    rw [q] at e
    have e' : (b, o) = p := Option.some.inj e
    subst e'
    exact ⟨hb, q⟩
theorem Inv.pinned {pins : List (Addr × Obj)} {σ : St} {H : Hp} {s : Shared} {fp : List Addr} (I : Inv X pins σ H s) (hf : ∀ b ∈ fp, FpOk X pins H b) (ho : ∀ b ∈ fp, ∃ o, s.heap.get? b = some o ∧ ∀ v, o.data ≠ .cell v) : Inv X (pins ++ pinsAt fp s.heap) σ H s :=
  I.pins_of fun p hp => (List.mem_append.mp hp).elim (fun z => I.pin p (List.mem_append_right _ z)) fun z => by
    obtain ⟨hb, e⟩ := of_pinsAt z
    obtain ⟨f0, f1, f2, _⟩ := hf p.1 hb
    obtain ⟨o, e', d⟩ := ho p.1 hb
    rw [e] at e'; cases e'
    exact ⟨e, f0, f1, f2, d⟩
theorem Inv.unpinned {pins pl : List (Addr × Obj)} {σ : St} {H : Hp} {s : Shared} (I : Inv X (pins ++ pl) σ H s) : Inv X pins σ H s := I.pins_of fun p hp => I.pin p (List.mem_append_right _ (List.mem_append_left _ hp))
theorem ps_for {iter : Expr} {body : List Stmt} {wi : TI} {g : TG} {tb : TS} {pos : Pos} (hp : PassesOwn (model X.prog X.w) X.A X.env X.xe) (hc : X.calm = true) (hi : PI X tg iter wi) (hg : PG X tg g) (hb : PSs X body tb)
    (hs : ∀ x, foldedSetIterable iter X.env x = pure x := by intro _; rfl) : PS X (.For tg iter body [] pos) (tFor wi g tb) := by
  refine ⟨?_⟩
  intro pins s σ H D I h
  refine wpAny_For (thn (hi pins s σ H _ I h) fun v s1 h1 => thn h1 fun itv s2 h2 => ?_) hs
  obtain ⟨it, fp, tn, J, H2, e, I2, T, st2, f2, W, ⟨m0, w0⟩, turn⟩ := h2
  subst e
  have stat : ∀ {H' : Hp}, (∀ b ∈ fp, H' b = none) → ∀ b ∈ fp, FpOk X pins H' b := fun hn b hb => ⟨hn b hb, (f2 b hb).2⟩
  refine codeAny_forLoop_any (fun n s' => ∃ i σ' H', Inv X pins σ' H' s' ∧ tn i s'.heap ∧ (∀ b ∈ fp, H' b = none) ∧ W i n σ' H') ?_ m0 ⟨0, σ, H2, I2, st2, fun b hb => (f2 b hb).1, w0⟩
  rintro n s3 ⟨i, σ3, H3, I3, st3, fr3, w3⟩
  rcases turn i n σ3 H3 w3 with ⟨stop, qn⟩ | ⟨go, N, hN, step⟩
  · refine wpAny_passesOwn hp (thn (T.done X rfl rfl rfl hc i pins s3 σ3 H3 X.xe I3 (stat fr3) st3 stop) fun r s4 ⟨hr, I4⟩ => ?_)
    subst hr
    exact wpAny_execs_nil ⟨σ3, H3, I4, qn⟩
  · refine wpAny_passesOwn hp (thn (T.item X rfl rfl rfl hc i pins s3 σ3 H3 X.xe I3 (stat fr3) st3 go) fun r s4 ⟨u, hr, h4⟩ => ?_)
    subst hr
    refine wpAny_passesOwn hp (thn h4 fun _ s5 ⟨x, H5, I5, r5, y5, st5, fr5⟩ => ?_)
    have I5' := I5.pinned (stat fr5) (T.obj _ _ st5)
    refine wpAny_passesOwn hp (thn (hg _ s5 σ3 H5 x u _ I5' r5 (step x H5 y5)) fun _ s6 ⟨σ6, H6, I6, q6⟩ => ?_)
    refine wpAny_passesOwn hp (thn (hb _ s6 σ6 H6 _ I6 q6) fun f s7 q7 => ?_)
    have again : ∀ {σ7 : St} {H7 : Hp}, Inv X (pins ++ pinsAt fp s5.heap) σ7 H7 s7 → N σ7 H7 → ∃ m, m < n ∧ ∃ i σ' H', Inv X pins σ' H' s7 ∧ tn i s7.heap ∧ (∀ b ∈ fp, H' b = none) ∧ W i m σ' H' := fun {σ7 H7} I7 n7 => by
      obtain ⟨m', hm, w7⟩ := hN σ7 H7 n7
      refine ⟨m', hm, i + 1, σ7, H7, I7.unpinned, T.keep _ _ _ st5 fun b hb o e => (I7.pin (b, o) (List.mem_append_right _ (List.mem_append_right _ (mem_pinsAt hb e)))).1, fun b hb => ?_, w7⟩
      obtain ⟨o, e, d⟩ := T.obj _ _ st5 b hb
      exact (I7.pin (b, o) (List.mem_append_right _ (List.mem_append_right _ (mem_pinsAt hb e)))).2.1
    cases f with
    | next => obtain ⟨σ7, H7, I7, n7⟩ := q7; exact again I7 n7
    | cont => obtain ⟨σ7, H7, I7, n7⟩ := q7; exact again I7 n7
    | brk => obtain ⟨σ7, H7, I7, q7⟩ := q7; exact ⟨σ7, H7, I7.unpinned, q7⟩
    | ret v => obtain ⟨x7, σ7, H7, I7, r7, q7⟩ := q7; exact ⟨x7, σ7, H7, I7.unpinned, r7, q7⟩
end

/-! ### the forms one uses -/
/-- over a list that the body leaves as it is -/
theorem for_list {K : PySem.W.Frag} {a : Addr} {xs : List V} {g : TG} {tb : TS} {D : Ends} {σ : St} {H : Hp} (Pv : Nat → St → Hp → Prop) (h0 : Pv 0 σ H) (hl : ∀ i σ H, i ≤ xs.length → Pv i σ H → SqL K H a xs)
    (hs : ∀ i x σ H, xs[i]? = some x → Pv i σ H → g x σ H fun σ2 H2 => tb { D with nx := Pv (i + 1), ct := Pv (i + 1), bk := D.nx } σ2 H2) (hd : ∀ σ H, Pv xs.length σ H → D.nx σ H) :
    ∃ W : Nat → Nat → St → Hp → Prop, (∃ m, W 0 m σ H) ∧ ∀ i m σ H, W i m σ H →
      ((Itl K a).stop i H ∧ D.nx σ H) ∨ ((Itl K a).go i H ∧ ∃ N : St → Hp → Prop, (∀ σ' H', N σ' H' → ∃ m', m' < m ∧ W (i + 1) m' σ' H') ∧ ∀ x H', (Itl K a).yld i H x H' → g x σ H' fun σ2 H2 => tb { D with nx := N, ct := N, bk := D.nx } σ2 H2) := by
  refine ⟨fun i m σ H => m = xs.length - i ∧ i ≤ xs.length ∧ Pv i σ H, ⟨xs.length, by simp, Nat.zero_le _, h0⟩, ?_⟩
  rintro i m σ H ⟨rfl, hi, p⟩
  have q := hl i σ H hi p
  by_cases hlt : i < xs.length
  · refine .inr ⟨⟨xs, xs[i], q, by simp [hlt]⟩, Pv (i + 1), fun σ' H' p' => ⟨xs.length - (i + 1), by omega, rfl, hlt, p'⟩, fun x H' y => ?_⟩
    obtain ⟨e, y⟩ := y
    subst e
    exact hs i x σ _ (y xs q) p
  · have e : i = xs.length := by omega
    subst e
    exact .inl ⟨⟨xs, q, Nat.le_refl _⟩, hd σ H p⟩
theorem for_range {lo : Int} {n : Nat} {g : TG} {tb : TS} {D : Ends} {σ : St} {H : Hp} (Pv : Nat → St → Hp → Prop) (h0 : Pv 0 σ H)
    (hs : ∀ i σ H, i < n → Pv i σ H → g (.int (lo + i)) σ H fun σ2 H2 => tb { D with nx := Pv (i + 1), ct := Pv (i + 1), bk := D.nx } σ2 H2) (hd : ∀ σ H, Pv n σ H → D.nx σ H) :
    ∃ W : Nat → Nat → St → Hp → Prop, (∃ m, W 0 m σ H) ∧ ∀ i m σ H, W i m σ H →
      ((Itr lo n).stop i H ∧ D.nx σ H) ∨ ((Itr lo n).go i H ∧ ∃ N : St → Hp → Prop, (∀ σ' H', N σ' H' → ∃ m', m' < m ∧ W (i + 1) m' σ' H') ∧ ∀ x H', (Itr lo n).yld i H x H' → g x σ H' fun σ2 H2 => tb { D with nx := N, ct := N, bk := D.nx } σ2 H2) := by
  refine ⟨fun i m σ H => m = n - i ∧ i ≤ n ∧ Pv i σ H, ⟨n, by simp, Nat.zero_le _, h0⟩, ?_⟩
  rintro i m σ H ⟨rfl, hi, p⟩
  by_cases hlt : i < n
  · refine .inr ⟨hlt, Pv (i + 1), fun σ' H' p' => ⟨n - (i + 1), by omega, rfl, hlt, p'⟩, fun x H' y => ?_⟩
    obtain ⟨e, y⟩ := y
    subst e y
    exact hs i σ _ hlt p
  · have e : i = n := by omega
    subst e
    exact .inl ⟨Nat.le_refl _, hd σ H p⟩
end L2

namespace L2
open PySem PySem.Spec PyProof.Rows

abbrev R2 := V → V → Hp → VK → Prop
/-- a two-place operation on values: f is binaryOp op, inplaceOp op or compareOp op -/
def OpR (X : Cx) (f : Value → Value → Sem Value) (r : R2) : Prop :=
  ∀ (pins : List (Addr × Obj)) (s : Shared) (σ : St) (H : Hp) (x y : V) (v u : Value) (Q : VK), Inv X pins σ H s → RelV x v → RelV y u → r x y H Q →
    wpAny (model X.prog X.w) X.A (f v u) (EP X pins σ Q) X.xe s
/-- a one-place operation -/
def UnR (X : Cx) (f : Value → Sem Value) (r : V → Hp → VK → Prop) : Prop :=
  ∀ (pins : List (Addr × Obj)) (s : Shared) (σ : St) (H : Hp) (x : V) (v : Value) (Q : VK), Inv X pins σ H s → RelV x v → r x H Q →
    wpAny (model X.prog X.w) X.A (f v) (EP X pins σ Q) X.xe s
/-- a call of a value that is known (a builtin, a type) with values -/
def CallR (X : Cx) (f : Value) (r : List V → Hp → VK → Prop) : Prop :=
  ∀ (pins : List (Addr × Obj)) (s : Shared) (σ : St) (H : Hp) (xs : List V) (us : List Value) (Q : VK), Inv X pins σ H s → Vals xs us → r xs H Q →
    wpAny (model X.prog X.w) X.A (call f us) (EP X pins σ Q) X.xe s

def tOp (r : R2) (ta tb : TE) : TE := fun σ H Q => ta σ H fun x H1 => tb σ H1 fun y H2 => r x y H2 Q
def tUn (r : V → Hp → VK → Prop) (ta : TE) : TE := fun σ H Q => ta σ H fun x H1 => r x H1 Q
/-- ints in, under C, and a value out -/
inductive rI (C : Int → Int → Prop) (g : Int → Int → V) (x y : V) (H : Hp) (Q : VK) : Prop
  | mk (i j : Int) (e1 : x = .int i) (e2 : y = .int j) (c : C i j) (q : Q (g i j) H) : rI C g x y H Q
inductive rI0 (g : Int → Int → V) (x y : V) (H : Hp) (Q : VK) : Prop
  | mk (i j : Int) (e1 : x = .int i) (e2 : y = .int j) (q : Q (g i j) H) : rI0 g x y H Q
def rU (g : Int → V) : V → Hp → VK → Prop := fun x H Q => ∃ i, x = .int i ∧ Q (g i) H

section
variable {X : Cx} {a b c : Expr} {ta tb tc : TE} {pos : Pos}

theorem binT (ha : PE X a ta) (hb : PE X b tb) {pins : List (Addr × Obj)} {s : Shared} {σ : St} {H : Hp} {R : V → V → Hp → Prop} (I : Inv X pins σ H s)
    (h : ta σ H fun x H1 => tb σ H1 fun y H2 => R x y H2) {Q : Value → Shared → Prop} {f : Value → Value → Sem Value}
    (hf : ∀ v u s2 x y H2, Inv X pins σ H2 s2 → RelV x v → RelV y u → R x y H2 → wpAny (model X.prog X.w) X.A (f v u) Q X.xe s2) :
    wpAny (model X.prog X.w) X.A (eval a X.env) (fun v s₁ => wpAny (model X.prog X.w) X.A (eval b X.env) (fun u s₂ => wpAny (model X.prog X.w) X.A (f v u) Q X.xe s₂) X.xe s₁) X.xe s := by
  refine thn (ha pins s σ H _ I h) fun v s1 ⟨x, H1, I1, r1, q1⟩ => ?_
  refine thn (hb pins s1 σ H1 _ I1 q1) fun u s2 ⟨y, H2, I2, r2, q2⟩ => ?_
  exact hf v u s2 x y H2 I2 r1 r2 q2

theorem pe_op {op : Operator} {r : R2} (ho : OpR X (binaryOp op) r) (ha : PE X a ta) (hb : PE X b tb) : PE X (.BinOp a op b pos) (tOp r ta tb) := by
  refine ⟨?_⟩
  intro pins s σ H Q I h
  exact wpAny_BinOp (binT ha hb I h fun v u s2 x y H2 I2 rx ry q => ho pins s2 σ H2 x y v u Q I2 rx ry q)
theorem pe_un {op : UnaryOp} {r : V → Hp → VK → Prop} (ho : UnR X (unaryOp op) r) (ha : PE X a ta) : PE X (.UnaryOp op a pos) (tUn r ta) := by
  refine ⟨?_⟩
  intro pins s σ H Q I h
  exact UnaryOp_ (thn (ha pins s σ H _ I h) fun v s1 ⟨x, H1, I1, r1, q1⟩ => ho pins s1 σ H1 x v Q I1 r1 q1)

/-! ### ints -/
theorem opI {f : Value → Value → Sem Value} {C : Int → Int → Prop} {g : Int → Int → Int}
    (rule : ∀ (i j : Int) (t u : Tok) (s : Shared) (Q : Value → Shared → Prop) (E : Value → Shared → Prop), C i j → Q (.int (g i j) s.toks) { s with toks := s.toks + 1 } → wpAny (model X.prog X.w) X.A (f (.int i t) (.int j u)) Q E s) :
    OpR X f (rI C fun i j => .int (g i j)) := by
  intro pins s σ H x y v u Q I rx ry h
  obtain ⟨i, j, rfl, rfl, hc, q⟩ := h
  obtain ⟨t, rfl⟩ := rx
  obtain ⟨t', rfl⟩ := ry
  exact rule i j t t' s _ _ hc ⟨.int (g i j), H, I.tok _, ⟨_, rfl⟩, q⟩
theorem opI0 {f : Value → Value → Sem Value} {g : Int → Int → Int}
    (rule : ∀ (i j : Int) (t u : Tok) (s : Shared) (Q : Value → Shared → Prop) (E : Value → Shared → Prop), Q (.int (g i j) s.toks) { s with toks := s.toks + 1 } → wpAny (model X.prog X.w) X.A (f (.int i t) (.int j u)) Q E s) :
    OpR X f (rI0 fun i j => .int (g i j)) := by
  intro pins s σ H x y v u Q I rx ry h
  obtain ⟨i, j, rfl, rfl, q⟩ := h
  obtain ⟨t, rfl⟩ := rx
  obtain ⟨t', rfl⟩ := ry
  exact rule i j t t' s _ _ ⟨.int (g i j), H, I.tok _, ⟨_, rfl⟩, q⟩
theorem opB0 {f : Value → Value → Sem Value} {g : Int → Int → Bool}
    (rule : ∀ (i j : Int) (t u : Tok) (s : Shared) (Q : Value → Shared → Prop) (E : Value → Shared → Prop), Q (.bool (g i j)) s → wpAny (model X.prog X.w) X.A (f (.int i t) (.int j u)) Q E s) :
    OpR X f (rI0 fun i j => .bl (g i j)) := by
  intro pins s σ H x y v u Q I rx ry h
  obtain ⟨i, j, rfl, rfl, q⟩ := h
  obtain ⟨t, rfl⟩ := rx
  obtain ⟨t', rfl⟩ := ry
  exact rule i j t t' s _ _ ⟨.bl (g i j), H, I, rfl, q⟩

def CPow (i j : Int) : Prop := 0 ≤ j ∧ j ≤ 1000000 ∧ i.natAbs < 2 ^ 64
def CMul (i j : Int) : Prop := (-(2 ^ 64) < i ∧ i < 2 ^ 64) ∨ (-(2 ^ 64) < j ∧ j < 2 ^ 64)
theorem CMul.ok {i j : Int} (h : CMul i j) : IntMulOk i j := by
  rcases h with ⟨h1, h2⟩ | ⟨h1, h2⟩
  · exact .of_left (intBits_le_64 h1 h2)
  · exact .of_right (intBits_le_64 h1 h2)

theorem op_add : OpR X (binaryOp .Add) (rI0 fun i j => .int (i + j)) := opI0 fun _ _ _ _ _ _ _ q => add_int q
theorem op_sub : OpR X (binaryOp .Sub) (rI0 fun i j => .int (i - j)) := opI0 fun _ _ _ _ _ _ _ q => sub_int q
theorem op_mul : OpR X (binaryOp .Mult) (rI CMul fun i j => .int (i * j)) := opI fun _ _ _ _ _ _ _ hc q => mul_int q hc.ok
/-- % by a positive divisor of any size -/
theorem op_mod : OpR X (binaryOp .Mod) (rI (fun _ j => 0 < j) fun i j => .int (i % j)) := opI fun i j _ _ _ _ _ hc q => by
  have h1 : (0 : Int) < j := hc
  exact mod_int' (by omega) (by rw [Int.fmod_eq_emod_of_nonneg i (by omega)]; exact q)
theorem op_pow : OpR X (binaryOp .Pow) (rI CPow fun i j => .int (i ^ j.toNat)) := opI fun _ _ _ _ _ _ _ hc q => pow_int_small hc.1 hc.2.1 hc.2.2 q


theorem unI {f : Value → Sem Value} {g : Int → Int}
    (rule : ∀ (i : Int) (t : Tok) (s : Shared) (Q : Value → Shared → Prop) (E : Value → Shared → Prop), Q (.int (g i) s.toks) { s with toks := s.toks + 1 } → wpAny (model X.prog X.w) X.A (f (.int i t)) Q E s) :
    UnR X f (rU fun i => .int (g i)) := by
  intro pins s σ H x v Q I rx h
  obtain ⟨i, rfl, q⟩ := h
  obtain ⟨t, rfl⟩ := rx
  exact rule i t s _ _ ⟨.int (g i), H, I.tok _, ⟨_, rfl⟩, q⟩
theorem un_neg : UnR X (unaryOp .USub) (rU fun i => .int (-i)) := unI fun _ _ _ _ _ q => neg_int q

/-! ### bools among ints: n += (a < b) -/
end

/-! ### comparisons -/
/-- the scalars that == tells apart as data does -/
def scal : V → V → Bool
  | .non, .non => true | .non, .int _ => true | .int _, .non => true | .non, .bl _ => true | .bl _, .non => true | .non, .str _ => true | .str _, .non => true
  | .int _, .int _ => true | .bl _, .bl _ => true | .str _, .str _ => true | .byt _, .byt _ => true
  | .int _, .str _ => true | .str _, .int _ => true | .bl _, .str _ => true | .str _, .bl _ => true
  | _, _ => false
def rEq : R2 := fun x y H Q => scal x y = true ∧ Q (.bl (decide (x = y))) H
def rNe : R2 := fun x y H Q => scal x y = true ∧ Q (.bl (!decide (x = y))) H

theorem dec_int {i j : Int} : decide (V.int i = V.int j) = (i == j) := by
  rw [Bool.eq_iff_iff]
  simp
theorem dec_bl {i j : Bool} : decide (V.bl i = V.bl j) = (i == j) := by
  rw [Bool.eq_iff_iff]
  simp
theorem dec_str {i j : Str} : decide (V.str i = V.str j) = (i == j) := by
  rw [Bool.eq_iff_iff]
  simp
theorem dec_byt {i j : Array UInt8} : decide (V.byt i = V.byt j) = (i.toList == j.toList) := by
  rw [Bool.eq_iff_iff]
  cases i
  cases j
  simp

section
variable {X : Cx} {a b c : Expr} {ta tb tc : TE} {pos : Pos}
theorem fin_bl {pins : List (Addr × Obj)} {σ : St} {H : Hp} {s : Shared} {Q : VK} {k k' : Bool} (I : Inv X pins σ H s) (q : Q (.bl k) H) (e : k = k') : EP X pins σ Q (.bool k') s := by
  subst e
  exact ⟨.bl k, H, I, rfl, q⟩
theorem op_eq : OpR X (compareOp .Eq) rEq := by
  intro pins s σ H x y v u Q I rx ry h
  obtain ⟨hs, q⟩ := h
  cases x with
  | non =>
    cases rx
    cases y with
    | non => cases ry; exact PySem.EqNone.eq_none_none (fin_bl I q (by simp))
    | bl j => cases ry; exact PySem.EqNone.eq_none_bool (fin_bl I q (by simp))
    | int j => obtain ⟨t', rfl⟩ := ry; exact PySem.EqNone.eq_none_int (fin_bl I q (by simp))
    | str j => obtain ⟨t', rfl⟩ := ry; exact PySem.EqNone.eq_none_str (fin_bl I q (by simp))
    | _ => exact absurd (show false = true from hs) Bool.false_ne_true
  | bl i =>
    cases rx
    cases y with
    | non => cases ry; exact PySem.EqNone.eq_bool_none (fin_bl I q (by simp))
    | bl j => cases ry; exact eq_bool (fin_bl I q dec_bl)
    | str j => obtain ⟨t', rfl⟩ := ry; exact PySem.EqMixed.eq_bool_str (fin_bl I q (by simp))
    | _ => exact absurd (show false = true from hs) Bool.false_ne_true
  | int i =>
    obtain ⟨t, rfl⟩ := rx
    cases y with
    | non => cases ry; exact PySem.EqNone.eq_int_none (fin_bl I q (by simp))
    | int j => obtain ⟨t', rfl⟩ := ry; exact eq_int (fin_bl I q dec_int)
    | str j => obtain ⟨t', rfl⟩ := ry; exact PySem.EqMixed.eq_int_str (fin_bl I q (by simp))
    | _ => exact absurd (show false = true from hs) Bool.false_ne_true
  | str i =>
    obtain ⟨t, rfl⟩ := rx
    cases y with
    | non => cases ry; exact PySem.EqNone.eq_str_none (fin_bl I q (by simp))
    | bl j => cases ry; exact PySem.EqMixed.eq_str_bool (fin_bl I q (by simp))
    | int j => obtain ⟨t', rfl⟩ := ry; exact PySem.EqMixed.eq_str_int (fin_bl I q (by simp))
    | str j => obtain ⟨t', rfl⟩ := ry; exact eq_str (fin_bl I q dec_str)
    | _ => exact absurd (show false = true from hs) Bool.false_ne_true
  | byt i =>
    obtain ⟨t, rfl⟩ := rx
    cases y with
    | byt j => obtain ⟨t', rfl⟩ := ry; exact PySem.W.eq_bytes (fin_bl I q dec_byt)
    | _ => exact absurd (show false = true from hs) Bool.false_ne_true
  | _ => cases y <;> exact absurd (show false = true from hs) Bool.false_ne_true
theorem op_ne : OpR X (compareOp .NotEq) rNe := by
  intro pins s σ H x y v u Q I rx ry h
  obtain ⟨hs, q⟩ := h
  cases x with
  | non =>
    cases rx
    cases y with
    | non => cases ry; exact PySem.EqNone.ne_none_none (fin_bl I q (by simp))
    | bl j => cases ry; exact PySem.EqNone.ne_none_bool (fin_bl I q (by simp))
    | int j => obtain ⟨t', rfl⟩ := ry; exact PySem.EqNone.ne_none_int (fin_bl I q (by simp))
    | str j => obtain ⟨t', rfl⟩ := ry; exact PySem.EqNone.ne_none_str (fin_bl I q (by simp))
    | _ => exact absurd (show false = true from hs) Bool.false_ne_true
  | bl i =>
    cases rx
    cases y with
    | non => cases ry; exact PySem.EqNone.ne_bool_none (fin_bl I q (by simp))
    | bl j => cases ry; exact ne_bool (fin_bl I q (congrArg not dec_bl))
    | str j => obtain ⟨t', rfl⟩ := ry; exact PySem.EqMixed.ne_bool_str (fin_bl I q (by simp))
    | _ => exact absurd (show false = true from hs) Bool.false_ne_true
  | int i =>
    obtain ⟨t, rfl⟩ := rx
    cases y with
    | non => cases ry; exact PySem.EqNone.ne_int_none (fin_bl I q (by simp))
    | int j => obtain ⟨t', rfl⟩ := ry; exact ne_int (fin_bl I q (congrArg not dec_int))
    | str j => obtain ⟨t', rfl⟩ := ry; exact PySem.EqMixed.ne_int_str (fin_bl I q (by simp))
    | _ => exact absurd (show false = true from hs) Bool.false_ne_true
  | str i =>
    obtain ⟨t, rfl⟩ := rx
    cases y with
    | non => cases ry; exact PySem.EqNone.ne_str_none (fin_bl I q (by simp))
    | bl j => cases ry; exact PySem.EqMixed.ne_str_bool (fin_bl I q (by simp))
    | int j => obtain ⟨t', rfl⟩ := ry; exact PySem.EqMixed.ne_str_int (fin_bl I q (by simp))
    | str j => obtain ⟨t', rfl⟩ := ry; exact ne_str (fin_bl I q (congrArg not dec_str))
    | _ => exact absurd (show false = true from hs) Bool.false_ne_true
  | byt i =>
    obtain ⟨t, rfl⟩ := rx
    cases y with
    | byt j => obtain ⟨t', rfl⟩ := ry; exact PySem.W.ne_bytes (fin_bl I q (congrArg not dec_byt))
    | _ => exact absurd (show false = true from hs) Bool.false_ne_true
  | _ => cases y <;> exact absurd (show false = true from hs) Bool.false_ne_true

theorem op_lt : OpR X (compareOp .Lt) (rI0 fun i j => .bl (decide (i < j))) := opB0 fun _ _ _ _ _ _ _ q => lt_int q
theorem op_le : OpR X (compareOp .LtE) (rI0 fun i j => .bl (decide (i ≤ j))) := opB0 fun _ _ _ _ _ _ _ q => le_int q
theorem op_gt : OpR X (compareOp .Gt) (rI0 fun i j => .bl (decide (j < i))) := opB0 fun _ _ _ _ _ _ _ q => gt_int q
/-- the one string within the other -/
theorem op_in_str : OpR X (compareOp .In) (fun x y H Q => ∃ i j, x = .str i ∧ y = .str j ∧ Q (.bl (!(Builtin.Str.occurrences j i 0 j.length 1).isEmpty)) H) := by
  intro pins s σ H x y v u Q I rx ry h
  obtain ⟨i, j, rfl, rfl, q⟩ := h
  obtain ⟨t, rfl⟩ := rx
  obtain ⟨t', rfl⟩ := ry
  exact in_str (fin_bl I q rfl)

/-- is None, is not None: the right side a value none -/
theorem op_isN : OpR X (compareOp .Is) (fun x y H Q => y = .non ∧ Q (.bl (decide (x = .non))) H) := by
  intro pins s σ H x y v u Q I rx ry h
  obtain ⟨rfl, q⟩ := h
  cases ry
  refine is_none_gen (fin_bl I q ?_)
  cases x <;> first
    | (cases rx; rfl)
    | (obtain ⟨t, rfl⟩ := rx; rfl)



theorem nomark (b : Expr) {op : CmpOp} (h : op ≠ .In := by decide) (h2 : op ≠ .NotIn := by decide) : behindInMarks op b = false := by
  have e1 : (op == CmpOp.In) = false := by cases op <;> first | rfl | exact absurd rfl h
  have e2 : (op == CmpOp.NotIn) = false := by cases op <;> first | rfl | exact absurd rfl h2
  cases b <;> simp [behindInMarks, e1, e2]
/-- a comparison as a value; hm: nomark b, or (for in, not in) by with_unfolding_all rfl -/
theorem pe_cmpR {op : CmpOp} {r : R2} (ho : OpR X (compareOp op) r) (ha : PE X a ta) (hb : PE X b tb) (hm : behindInMarks op b = false) : PE X (.Compare a [op] [b] pos) (tOp r ta tb) := by
  refine ⟨?_⟩
  intro pins s σ H Q I h
  exact wpAny_Compare1 (binT ha hb I h fun v u s2 x y H2 I2 rx ry q => ho pins s2 σ H2 x y v u Q I2 rx ry q) hm
/-- a reading of a value as a test -/
def tTest (t : TE) : TT := fun σ H Q => t σ H fun x H' => ∃ k, x = .bl k ∧ Q k H'
theorem pt_cmpR {op : CmpOp} {r : R2} (ho : OpR X (compareOp op) r) (ha : PE X a ta) (hb : PE X b tb) (hm : behindInMarks op b = false) : PT X (.Compare a [op] [b] pos) (tTest (tOp r ta tb)) := by
  refine ⟨?_⟩
  intro pins s σ H Q I h
  refine wpAny_isTrue_Compare1 (thn (ha pins s σ H _ I h) fun v s1 ⟨x, H1, I1, r1, q1⟩ => thn (hb pins s1 σ H1 _ I1 q1) fun u s2 ⟨y, H2, I2, r2, q2⟩ =>
    thn (ho pins s2 σ H2 x y v u _ I2 r1 r2 q2) fun c s3 ⟨z, H3, I3, r3, k, e, q3⟩ => ?_) hm
  subst e
  cases r3
  exact wpAny_truthy_bool ⟨H3, I3, q3⟩
/-- a op1 b op2 c -/
def tChain (r r' : R2) (ta tb tc : TE) : TE := fun σ H Q => ta σ H fun x H1 => tb σ H1 fun y H2 => r x y H2 fun z H3 => ∃ k, z = .bl k ∧
  (if k = true then tc σ H3 fun w' H4 => r' y w' H4 Q else Q (.bl false) H3)
theorem pe_chain {op op' : CmpOp} {r r' : R2} (ho : OpR X (compareOp op) r) (ho' : OpR X (compareOp op') r') (ha : PE X a ta) (hb : PE X b tb) (hc : PE X c tc)
    (hm : lastMarks [op, op'] [b, c] = false := by with_unfolding_all rfl) : PE X (.Compare a [op, op'] [b, c] pos) (tChain r r' ta tb tc) := by
  refine ⟨?_⟩
  intro pins s σ H Q I h
  refine Compare_chain (thn (ha pins s σ H _ I h) fun v s1 ⟨x, H1, I1, r1, q1⟩ => chain_link (thn (hb pins s1 σ H1 _ I1 q1) fun u s2 ⟨y, H2, I2, r2, q2⟩ =>
    thn (ho pins s2 σ H2 x y v u _ I2 r1 r2 q2) fun d s3 ⟨z, H3, I3, r3, k, e, q3⟩ => ?_)) hm
  subst e
  cases r3
  refine wpAny_truthy_bool ?_
  cases k with
  | false => exact ite_ff ⟨.bl false, H3, I3, rfl, q3⟩
  | true => exact ite_tt (chain_last (thn (hc pins s3 σ H3 _ I3 q3) fun w' s4 ⟨z', H4, I4, r4, q4⟩ => ho' pins s4 σ H4 y z' u w' Q I4 r2 r4 q4))

/-! ### truth -/
theorem line63 : (sizeLine : Nat) < 2 ^ 63 := by rw [sizeLine_eq]; decide

/-! ### strs and bytes -/
theorem op_add_str : OpR X (binaryOp .Add) (fun x y H Q => ∃ i j, x = .str i ∧ y = .str j ∧ i.length + j.length ≤ sizeLine ∧ Q (.str (i ++ j)) H) := by
  intro pins s σ H x y v u Q I rx ry h
  obtain ⟨i, j, rfl, rfl, hz, q⟩ := h
  obtain ⟨t, rfl⟩ := rx
  obtain ⟨t', rfl⟩ := ry
  exact add_str (fun t' tk => ⟨.str (i ++ j), H, I.tok _, ⟨_, rfl⟩, q⟩) hz


/-! ### scalar builtins, by CallR -/
theorem vals1 {x : V} {us : List Value} (r : Vals [x] us) : ∃ u, us = [u] ∧ RelV x u := by
  cases r with
  | cons r1 r2 => cases r2; exact ⟨_, rfl, r1⟩
theorem vals2 {x y : V} {us : List Value} (r : Vals [x, y] us) : ∃ u w', us = [u, w'] ∧ RelV x u ∧ RelV y w' := by
  cases r with
  | cons r1 r2 =>
    cases r2 with
    | cons r3 r4 => cases r4; exact ⟨_, _, rfl, r1, r3⟩
theorem call_abs : CallR X (.builtin "abs") (fun xs H Q => ∃ i, xs = [.int i] ∧ Q (.int (if i < 0 then -i else i)) H) := by
  intro pins s σ H xs us Q I r h
  obtain ⟨i, rfl, q⟩ := h
  obtain ⟨u, rfl, t, rfl⟩ := vals1 r
  exact call_abs_int fun u tk => ⟨.int (if i < 0 then -i else i), H, I.tok _, ⟨_, rfl⟩, q⟩
theorem call_max2 (hc : X.calm = true) : CallR X (.builtin "max") (fun xs H Q => ∃ i j, xs = [.int i, .int j] ∧ Q (.int (if j > i then j else i)) H) := by
  intro pins s σ H xs us Q I r h
  obtain ⟨i, j, rfl, q⟩ := h
  obtain ⟨u, w', rfl, ⟨t, rfl⟩, ⟨t', rfl⟩⟩ := vals2 r
  refine max_two_ints (I.ok.hd hc) fun h' tk k => ⟨_, H, I.kept k, ?_, q⟩
  by_cases hj : j > i
  · rw [if_pos hj, if_pos hj]; exact ⟨_, rfl⟩
  · rw [if_neg hj, if_neg hj]; exact ⟨_, rfl⟩
theorem call_min2 (hc : X.calm = true) : CallR X (.builtin "min") (fun xs H Q => ∃ i j, xs = [.int i, .int j] ∧ Q (.int (if j < i then j else i)) H) := by
  intro pins s σ H xs us Q I r h
  obtain ⟨i, j, rfl, q⟩ := h
  obtain ⟨u, w', rfl, ⟨t, rfl⟩, ⟨t', rfl⟩⟩ := vals2 r
  refine min_two_ints (I.ok.hd hc) fun h' tk k => ⟨_, H, I.kept k, ?_, q⟩
  by_cases hj : j < i
  · rw [if_pos hj, if_pos hj]; exact ⟨_, rfl⟩
  · rw [if_neg hj, if_neg hj]; exact ⟨_, rfl⟩
theorem call_int1 : CallR X (.type "int") (fun xs H Q => (∃ i, xs = [.int i] ∧ Q (.int i) H) ∨ ∃ k, xs = [.bl k] ∧ Q (.int (if k then 1 else 0)) H) := by
  intro pins s σ H xs us Q I r h
  rcases h with ⟨i, rfl, q⟩ | ⟨k, rfl, q⟩
  · obtain ⟨u, rfl, t, rfl⟩ := vals1 r
    exact call_int_int ⟨.int i, H, I, ⟨_, rfl⟩, q⟩
  · obtain ⟨u, rfl, r1⟩ := vals1 r
    cases r1
    exact call_int_bool ⟨.int (if k then 1 else 0), H, I.tok _, ⟨_, rfl⟩, q⟩
theorem call_str_int : CallR X (.type "str") (fun xs H Q => ∃ i, xs = [.int i] ∧ i.natAbs.log2 < 1920 ∧ Q (.str (toString i)) H) := by
  intro pins s σ H xs us Q I r h
  obtain ⟨i, rfl, hz, q⟩ := h
  obtain ⟨u, rfl, t, rfl⟩ := vals1 r
  exact PySem.P.str_of_int hz ⟨.str _, H, I.tok _, ⟨_, rfl⟩, q⟩
end
end L2

namespace L2
open PySem PySem.Spec PyProof.Rows

/-! ### an instance, its attributes a map -/



section
variable {prog : Program} {w : World} {A : Around} {E : Value → Shared → Prop} {s : Shared} {K : PySem.W.Frag} {x dx C f : Addr} {mA : Str → Option Value} {name : Str} {v : Value}





end

/-! ### the attributes as a list of pairs -/


section
variable {P : Program} {w : World} {H H' : Hp} {h h' : Heap} {a C dx : Addr} {fs fs' : List (Str × V)}
end

/-! ### what of the text a class must have -/

section
variable {X : Cx} {pins : List (Addr × Obj)} {σ : St} {H : Hp} {s : Shared} {a C dx : Addr} {fs : List (Str × V)} {f : Str} {v : V} {A : Around} {E : Value → Shared → Prop}






end

/-! ### readings and rules -/

section
variable {X : Cx} {o e value : Expr} {f : Str} {pos pos' tpos : Pos} {ta tv : TE}

end

/-! ### isinstance -/
section
variable {X : Cx} {pins : List (Addr × Obj)} {σ : St} {H : Hp} {s : Shared} {A : Around} {E : Value → Shared → Prop} {Q : Value → Shared → Prop} {c : Value} {b : Bool}
end
end L2

namespace L2
open PySem PySem.Spec PyProof.Rows

/-! ### room -/
structure Room (k : Nat) (A : Around) : Prop where
  hd : A.handled = none
  dp : A.depth + 3 * k + 5 < recursionLimit
  un : A.units + 16 * k + 200 < cLine
  gd : A.guards = some []
theorem Room.mono {j k : Nat} {A : Around} (r : Room k A) (h : j ≤ k) : Room j A := ⟨r.hd, by have := r.dp; omega, by have := r.un; omega, r.gd⟩
theorem Room.deeper {k : Nat} {A : Around} (r : Room (k + 1) A) (env : Env) : Room k (A.deeper env) :=
  ⟨r.hd, by have := r.dp; show A.depth + 1 + 3 * k + 5 < _; omega, by have := r.un; show A.units + 3 + 16 * k + 200 < _; omega, r.gd⟩
theorem Room.depth {k : Nat} {A : Around} (r : Room k A) : A.depth < recursionLimit := by have := r.dp; omega

/-! ### argument lists and displays -/
abbrev tNil : TA := fun _ H Q => Q [] H
abbrev tCons (ta : TE) (tr : TA) : TA := fun σ H Q => ta σ H fun x H1 => tr σ H1 fun xs H2 => Q (x :: xs) H2
section
variable {X : Cx} {e : Expr} {es : List Expr} {te : TE} {t : TA} {pos : Pos}
theorem pa_nil : PA X [] tNil := .mk fun _ _ _ _ H Q I h => Calls.spliced_nil ⟨[], H, I, .nil, h⟩
theorem pa_cons (ha : PE X e te) (hr : PA X es t) (hs : starEach (e :: es) X.env = (false, eval e X.env) :: starEach es X.env := by rfl) : PA X (e :: es) (tCons te t) := by
  refine ⟨?_⟩
  intro pos pins s σ H Q I h
  rw [hs]
  show wpAny _ _ (spliced ((false, eval e X.env) :: backTo pos (starEach es X.env))) _ _ s
  refine Calls.spliced_cons (thn (ha pins s σ H _ I h) fun u s1 ⟨x, H1, I1, r1, q1⟩ => ?_)
  exact thn (hr pos pins s1 σ H1 _ I1 q1) fun us s2 ⟨xs, H2, I2, r2, q2⟩ => ⟨x :: xs, H2, I2, .cons r1 r2, q2⟩

/-- a tuple, a list of written items -/
def tTup (t : TA) : TE := fun σ H Q => t σ H fun xs H1 => xs.length ≤ sizeLine ∧ ∀ p, H1 p = none → Q (.ref p) (upd H1 p (.tup xs))
def tLst (t : TA) : TE := fun σ H Q => t σ H fun xs H1 => xs.length ≤ sizeLine ∧ ∀ p, H1 p = none → Q (.ref p) (upd H1 p (.lst xs))
theorem pe_tup {x1} (h : PA X es t) : PE X (.Tuple es x1 pos) (tTup t) := by
  refine ⟨?_⟩
  intro pins s σ H Q I hq
  refine wpAny_Tuple_spliced (thn (h pos pins s σ H _ I hq) fun us s1 ⟨xs, H1, I1, r, z, q⟩ => ⟨by rw [← r.length]; exact z, ?_⟩)
  have hf : H1 s1.heap.objs.size = none := I1.hok.fresh (Nat.le_refl _)
  refine ⟨.ref s1.heap.objs.size, upd H1 s1.heap.objs.size (.tup xs), I1.laid (t' := s1.toks) (fun b u e => Heap.get?_push_of_some _ e) (Nat.le_refl _) ?_, rfl, q _ hf⟩
  exact ⟨z, us, r, ⟨_, Heap.get?_push_size _ rfl, rfl, _, rfl⟩⟩
theorem pe_lst (h : PA X es t) : PE X (.List es pos) (tLst t) := by
  refine ⟨?_⟩
  intro pins s σ H Q I hq
  refine wpAny_List_spliced (thn (h pos pins s σ H _ I hq) fun us s1 ⟨xs, H1, I1, r, z, q⟩ => ⟨by rw [← r.length]; exact z, ?_⟩)
  have hf : H1 s1.heap.objs.size = none := I1.hok.fresh (Nat.le_refl _)
  refine ⟨.ref s1.heap.objs.size, upd H1 s1.heap.objs.size (.lst xs), I1.laid (t' := s1.toks) (fun b u e => Heap.get?_push_of_some _ e) (Nat.le_refl _) ?_, rfl, q _ hf⟩
  exact ⟨z, us, 0, r, Heap.get?_push_size _ rfl⟩
end

/-! ### what a def promises -/
/-- a def's promise: the bound arguments in the parameters' order, the heap, the wanted end, the wanted exception -/
abbrev Sp := List V → Hp → VK → XK → Prop
/-- how an exception lies behind a call (file 08 gives it): the callers' frames, abstract heap and state ahead of the call, the wish, the exception, the state -/
abbrev CXT := List Env → Hp → Shared → XK → Value → Shared → Prop

/-- the state at a call -/
structure Env0 (P : Program) (w : World) (K : PySem.W.Frag) (mg : Str → Option Value) (base : Heap) (A : Around) (outer : List Env) (s : Shared) (H : Hp) : Prop where
  frames : A.frames = some outer
  mod : Mod K mg base
  bs : ∀ b o, base.get? b = some o → s.heap.get? b = some o ∧ H b = none
  bsz : base.objs.size ≤ s.heap.objs.size
  funs : s.heap.FunFrames base outer
  frf : ∀ b ∈ frs outer, H b = none
  hok : HOk P w H s.heap
  bare : AllBare s.gens
/-- a call's end -/
def CE (outer : List Env) (P : Program) (w : World) (H : Hp) (s : Shared) (Q : VK) (u : Value) (s' : Shared) : Prop :=
  ∃ v H', s'.os = s.os ∧ AllBare s'.gens ∧ Un (frs outer) [] H H' s.heap s'.heap ∧ HOk P w H' s'.heap ∧ RelV v u ∧ Q v H'
def CR (CX : CXT) (outer : List Env) (P : Program) (w : World) (H : Hp) (s : Shared) (Q : VK) (E : XK) (r : Result) (s' : Shared) : Prop :=
  match r with
  | .ok (.ret u) => CE outer P w H s Q u s'
  | .ok _ => False
  | .error e => CX outer H s E e s'
structure FnOk (P : Program) (w : World) (K : PySem.W.Frag) (mg : Str → Option Value) (base : Heap) (CX : CXT) (k : Nat) (f : Addr) (fd : FuncData) (ps : List Str) (sp : Sp) : Prop where
  len : ∀ vs H Q E, sp vs H Q E → vs.length = ps.length
  run : ∀ (A : Around) (outer : List Env) (s : Shared) (H : Hp) (args : Args) (us : List Value) (vs : List V) (Q : VK) (E : XK), Room k A → Env0 P w K mg base A outer s H → BindsTo s fd args (ps.zip us) → Vals vs us → sp vs H Q E →
    codeAny (model P w) A (.call (.ref f) args) (CR CX outer P w H s Q E) s


section
variable {X : Cx} {pins : List (Addr × Obj)} {σ : St} {H : Hp} {s s' : Shared}
/-- from a body: what a callee wants -/
theorem Inv.env0 (I : Inv X pins σ H s) : Env0 X.prog X.w X.K X.mg X.base X.A X.stack s H :=
  ⟨I.ok.frames, I.ok.mod, I.bs, Nat.le_trans I.ok.bsz I.sz, I.stack, I.stkFree, I.hok, I.bare⟩
/-- behind a call -/
theorem Inv.after {Q : VK} {u : Value} (I : Inv X pins σ H s) (h : CE X.stack X.prog X.w H s Q u s') : EP X pins σ Q u s' := by
  obtain ⟨v, H', os, bare, un, hok, r, q⟩ := h
  obtain ⟨hh, g, d, t, os'⟩ := s'
  obtain rfl : os' = s.os := os
  exact ⟨v, H', I.call (h' := hh) (g' := g) (d' := d) (t' := t) (ch := []) un hok bare (fun b z => absurd z (by simp)), r, q⟩
end

/-! ### calls -/
/-- f(..): the written arguments, then the defaults dvs; E: what is wanted of an exception -/
abbrev tCall (sp : Sp) (dvs : List V) (E : XK) (t : TA) : TE := fun σ H Q => t σ H fun vs H1 => sp (vs ++ dvs) H1 Q E

/-- how the parameters are bound: us the positional arguments, kw the keywords' values by name, ds the defaults that fill up -/
def Binds (K : PySem.W.Frag) (fd : FuncData) (ps : List Str) (ds : List Value) : Prop :=
  ∀ (s : Shared) (us : List Value), K.In s.heap → (us ++ ds).length = ps.length → BindsTo s fd ⟨us, []⟩ (ps.zip (us ++ ds))
/-- every parameter is given -/
theorem Binds.all {K : PySem.W.Frag} {fd : FuncData} {ps : List Str} (h : ∀ us : List Value, us.length = ps.length → bindArgs fd ⟨us, []⟩ = pure (ps.zip us)) : Binds K fd ps [] := fun s us _ hl => by
  rw [List.append_nil] at hl ⊢
  exact .of_eq (h us hl)

/-- an exception of a callee reaches what this body wants of exceptions -/
def Passes (CX : CXT) (X : Cx) (E : XK) : Prop := ∀ (pins : List (Addr × Obj)) (σ : St) (H : Hp) (s : Shared) (e : Value) (s' : Shared), Inv X pins σ H s → CX X.stack H s E e s' → X.xe e s'

section
variable {X : Cx} {CX : CXT} {k : Nat} {f C : Addr} {fd : FuncData} {ps : List Str} {sp : Sp} {dvs : List V} {ds : List Value} {E : XK} {x m : Str} {p pos apos : Pos} {e o : Expr} {es : List Expr} {ta : TE} {t : TA}

/-- the callee runs -/
theorem run_fn {pins : List (Addr × Obj)} {σ : St} {H : Hp} {s : Shared} {Q : VK} {us : List Value} {vs : List V} (F : FnOk X.prog X.w X.K X.mg X.base CX k f fd ps sp) (hr : Room k X.A) (hb : Binds X.K fd ps ds) (hd : Vals dvs ds) (hx : Passes CX X E)
    (I : Inv X pins σ H s) (r : Vals vs us) (h : sp (vs ++ dvs) H Q E) : wpAny (model X.prog X.w) X.A (call (.ref f) us) (EP X pins σ Q) X.xe s := by
  have r2 : Vals (vs ++ dvs) (us ++ ds) := r.append hd
  have hl : (us ++ ds).length = ps.length := by rw [← r2.length]; exact F.len _ _ _ _ h
  refine wpAny_call (codeAny_mono (F.run X.A X.stack s H ⟨us, []⟩ (us ++ ds) (vs ++ dvs) Q E hr I.env0 (hb s us I.kIn hl) r2 h) fun r s' hq => ?_)
  cases r with
  | error e => exact hx pins σ H s e s' I hq
  | ok fl =>
    cases fl with
    | ret u => exact I.after hq
    | next => exact False.elim hq
    | brk => exact False.elim hq
    | cont => exact False.elim hq

theorem pe_call (F : FnOk X.prog X.w X.K X.mg X.base CX k f fd ps sp) (hr : Room k X.A) (hg : Gl X x) (hm : X.mg x = some (.ref f)) (hk : PySem.W.keepIn X.K (.ref f) = true) (hb : Binds X.K fd ps ds) (hd : Vals dvs ds) (hx : Passes CX X E)
    (ha : PA X (e :: es) t) (hdb : (x == ("__debug__" : Str)) = false := by decide) (he : starEach (e :: es) X.env = (false, eval e X.env) :: starEach es X.env := by rfl) (hpl : (backTo pos (starEach es X.env)).any (·.1) = false := by rfl) :
    PE X (.Call (.Name x p) (e :: es) [] pos) (tCall sp dvs E t) := by
  refine ⟨?_⟩
  intro pins s σ H Q I h
  refine wpAny_Call_Name_kw (ld_glob I hg hm ?_ hdb)
  refine PySem.W.callWith_K (h₀ := X.base) I.ok.mod.kin hk (thn (ha pos pins s σ H _ I h) fun us s1 ⟨vs, H1, I1, r, q⟩ => ⟨I1.kIn, ?_⟩) he hpl
  exact run_fn F hr hb hd hx I1 r q



end

/-! ### keywords -/
section
variable {X : Cx} {CX : CXT} {k : Nat} {f C : Addr} {fd : FuncData} {ps ks : List Str} {sp : Sp} {E : XK} {x m : Str} {p pos apos kpos : Pos} {e o : Expr} {es : List Expr} {kws : List Keyword} {te ta : TE} {t tk : TA} {nm : Option Str}

variable {g : List Value → List Value → List Value} {gV : List V → List V → List V}
end

/-! ### a def's body keeps its promise -/
/-- names: the parameters first -/
structure FnScope (N P : List Str) (sc : Scope) : Prop where
  kind : sc.kind = .function
  co : sc.isCoroutine = false
  gen : sc.isGenerator = false
  nd : N.Nodup
  pre : N.take P.length = P
  par : ∀ x ∈ P, sc.names.lookup x = some .local ∨ sc.names.lookup x = some .cell
  nofree : ∀ y ∈ sc.names, y.2 ≠ .free

theorem bindL_out {kindOf : Str → Option NameKind} {x : Str} : ∀ {binds : List (Str × Value)} {m : Str → Option Value}, (∀ v, (x, v) ∉ binds) → bindL kindOf binds m x = m x
  | [], _, _ => rfl
  | (n, v) :: r, m, h => by
    unfold bindL
    rw [bindL_out fun w hw => h w (List.mem_cons_of_mem _ hw)]
    split
    · have : x ≠ n := by rintro rfl; exact h v List.mem_cons_self
      simp [this]
    · rfl
theorem bindC_out {kindOf : Str → Option NameKind} {x : Str} : ∀ {binds : List (Str × Value)} {m : Str → Option Value}, (∀ v, (x, v) ∉ binds) → bindC kindOf binds m x = m x
  | [], _, _ => rfl
  | (n, v) :: r, m, h => by
    unfold bindC
    rw [bindC_out fun w hw => h w (List.mem_cons_of_mem _ hw)]
    split
    · rfl
    · have : x ≠ n := by rintro rfl; exact h v List.mem_cons_self
      simp [this]
theorem bindL_get {kindOf : Str → Option NameKind} {x : Str} {v : Value} : ∀ {P : List Str} {vs : List Value} {i : Nat} {m : Str → Option Value}, P.Nodup → P[i]? = some x → vs[i]? = some v → kindOf x = some .local →
    bindL kindOf (P.zip vs) m x = some v
  | [], _, _, _, _, h, _, _ => by simp at h
  | _ :: _, [], _, _, _, _, h, _ => by simp at h
  | p :: P, w :: vs, 0, m, nd, h1, h2, hk => by
    simp at h1 h2; subst h1; subst h2
    show bindL kindOf ((p, w) :: P.zip vs) m p = _
    unfold bindL
    rw [bindL_out fun v hv => (List.nodup_cons.mp nd).1 (List.of_mem_zip hv).1, if_pos hk]
    simp
  | p :: P, w :: vs, i + 1, m, nd, h1, h2, hk => by
    show bindL kindOf ((p, w) :: P.zip vs) m x = _
    unfold bindL
    exact bindL_get (i := i) (List.nodup_cons.mp nd).2 (by simpa using h1) (by simpa using h2) hk
theorem bindC_get {kindOf : Str → Option NameKind} {x : Str} {v : Value} : ∀ {P : List Str} {vs : List Value} {i : Nat} {m : Str → Option Value}, P.Nodup → P[i]? = some x → vs[i]? = some v → kindOf x ≠ some .local →
    bindC kindOf (P.zip vs) m x = some v
  | [], _, _, _, _, h, _, _ => by simp at h
  | _ :: _, [], _, _, _, _, h, _ => by simp at h
  | p :: P, w :: vs, 0, m, nd, h1, h2, hk => by
    simp at h1 h2; subst h1; subst h2
    show bindC kindOf ((p, w) :: P.zip vs) m p = _
    unfold bindC
    rw [bindC_out fun v hv => (List.nodup_cons.mp nd).1 (List.of_mem_zip hv).1, if_neg hk]
    simp
  | p :: P, w :: vs, i + 1, m, nd, h1, h2, hk => by
    show bindC kindOf ((p, w) :: P.zip vs) m x = _
    unfold bindC
    exact bindC_get (i := i) (List.nodup_cons.mp nd).2 (by simpa using h1) (by simpa using h2) hk

/-- the names' values at the entry -/
def start (N : List Str) (vs : List V) : St := vs.map some ++ List.replicate (N.length - vs.length) none

/-- the context of a def's body, at its entry; an exception leaves the frame, then lies as CX says -/
def cxOf (CX : CXT) (P : Program) (w : World) (K : PySem.W.Frag) (mg : Str → Option Value) (base : Heap) (N : List Str) (qual : Str) (scope : Scope) (f : Addr) (cd : Value) (A : Around) (outer : List Env) (s : Shared) (H : Hp) (E : XK) : Cx where
  prog := P
  w := w
  K := K
  mg := mg
  base := base
  A := A.deeper (envOfC qual scope s.heap.objs.size f cd)
  N := N
  s₀ := s
  H₀ := H
  env := envOfC qual scope s.heap.objs.size f cd
  outer := outer
  stack := envOfC qual scope s.heap.objs.size f cd :: outer
  ex := []
  calm := true
  fn := fun _ => true
  pn := []
  xe := fun e s' => wpAny (model P w) (A.deeper (envOfC qual scope s.heap.objs.size f cd)) (leaving (envOfC qual scope s.heap.objs.size f cd) e) (fun _ s'' => CX outer H s E e s'') (fun e' s'' => CX outer H s E e' s'') s'

theorem cell_has {sc : Scope} {n : Nat} {x : Str} (h : sc.names.lookup x = some .cell) : ∃ c, (cellsFrom n sc.names []).lookup x = some c := by
  have q := PySem.W.cellsFrom_some sc.names n [] (.inl h)
  exact Option.isSome_iff_exists.mp q

theorem inv_start {CX : CXT} {P : Program} {w : World} {K : PySem.W.Frag} {mg : Str → Option Value} {base : Heap} {N ps : List Str} {qual : Str} {scope : Scope} {f : Addr} {cd : Value} {A : Around} {outer : List Env} {s s1 : Shared} {H : Hp} {E : XK} {us : List Value} {vs : List V}
    (S : FnScope N ps scope) (hd : A.handled = none) (e0 : Env0 P w K mg base A outer s H) (hl : vs.length = ps.length) (r : Vals vs us)
    (x : InCallC s s.heap.objs.size (bindL (envOfC qual scope s.heap.objs.size f cd).kindOf (ps.zip us) fun _ => none) (cellsFrom (s.heap.objs.size + 1) scope.names []) (bindC (envOfC qual scope s.heap.objs.size f cd).kindOf (ps.zip us) fun _ => none) s1) :
    Inv (cxOf CX P w K mg base N qual scope f cd A outer s H E) [] (start N vs) H s1 := by
  have hpl : ps.length ≤ N.length := by have := congrArg List.length S.pre; rw [List.length_take] at this; omega
  obtain ⟨h1, tk, rfl, hk⟩ := x.done
  have noA : ∀ b : Addr, b ∉ (cxOf CX P w K mg base N qual scope f cd A outer s H E).ex := fun b z => absurd (show b ∈ ([] : List Addr) from z) (by simp)
  refine ⟨⟨e0.mod, S.kind, rfl, rfl, Nat.le_refl _, fun y z c h1 h2 => ?_, fun y hy => ?_, fun y c _ h => ?_, fun _ => hd, Around.frames_deeper e0.frames, .inr ⟨rfl, rfl⟩, fun b z => absurd z (noA b), e0.bs, e0.bsz, fun b _ _ => noA b, fun b z => absurd z (noA b), e0.funs, e0.frf⟩,
    rfl, e0.bare, Un.kept hk, ⟨_, x.toInCall.ns, fun i y v h1 h2 h3 => ?_⟩, fun y c h => ⟨_, x.cell y c h⟩, e0.hok.fresh (Nat.le_refl _), fun y c h => ?_, fun p hp => absurd (show p ∈ ([] : List (Addr × Obj)) from hp) (by simp), e0.hok.kept hk, ?_⟩
  · exact name_of_addr x.apart (PySem.mem_of_lookup h1) (PySem.mem_of_lookup h2)
  · have hy : scope.names.lookup y = some .cell ∨ scope.names.lookup y = some .free := hy
    rcases hy with hy | hy
    · exact cell_has hy
    · exact absurd rfl (S.nofree _ (PySem.mem_of_lookup hy))
  · exact Nat.le_of_lt (x.above y c (PySem.mem_of_lookup h))
  · have hi : i < vs.length := by
      unfold start at h2
      by_cases hi : i < vs.length
      · exact hi
      · rw [List.getElem?_append_right (by simpa using hi)] at h2
        rw [List.getElem?_replicate] at h2
        split at h2 <;> cases h2
    have ha : vs[i]? = some v := by
      unfold start at h2
      rw [List.getElem?_append_left (by simpa using hi), List.getElem?_map] at h2
      cases e : vs[i]? with
      | none => rw [e] at h2; cases h2
      | some a => rw [e] at h2; cases h2; rfl
    obtain ⟨u, hu, rv⟩ := r.get ha
    have hp : ps[i]? = some y := by
      rw [← S.pre, List.getElem?_take_of_lt (by omega)]; exact h1
    have ndP : ps.Nodup := by rw [← S.pre]; exact S.nd.sublist (List.take_sublist _ _)
    refine ⟨u, rv, ?_⟩
    rcases S.par y (List.mem_of_getElem? hp) with k | k
    · exact .inl ⟨k, bindL_get ndP hp hu k⟩
    · obtain ⟨c, e⟩ := cell_has (n := s.heap.objs.size + 1) k
      refine .inr ⟨.inl k, c, e, ?_⟩
      have q := x.cell y c e
      rw [bindC_get ndP hp hu (by show scope.names.lookup y ≠ _; rw [k]; decide)] at q
      exact q
  · exact e0.hok.fresh (Nat.le_of_lt (x.above y c (PySem.mem_of_lookup h)))
  · unfold start
    show _ = N.length
    rw [List.length_append, List.length_map, List.length_replicate]
    omega

/-- THE RULE: a def (or a method) of the text, by its body. The body's reading t is chosen for each entry; it is run at the parameters' values -/
theorem fn_of {CX : CXT} {P : Program} {w : World} {K : PySem.W.Frag} {mg : Str → Option Value} {base : Heap} {k : Nat} {f : Addr} {name qual : Str} {params : Arguments} {body : List Stmt} {scope : Scope} {dV kV doc pm cdv ct oc : Value} {an od : Option Addr}
    {osl : Array (Option Value)} {N ps : List Str} {sp : Sp} (lk : K.lookup f = some ⟨oc, od, .func (PySem.W.fnOf name qual params body scope dV kV doc pm an cdv ct), osl⟩) (hcd : PySem.W.codeIn K cdv qual = true) (S : FnScope N ps scope)
    (len : ∀ vs H Q E, sp vs H Q E → vs.length = ps.length)
    (hbody : ∀ (A : Around) (outer : List Env) (s : Shared) (H : Hp) (vs : List V) (Q : VK) (E : XK), Room k (A.deeper (envOfC qual scope s.heap.objs.size f cdv)) → sp vs H Q E →
      ∃ t, PSs (cxOf CX P w K mg base N qual scope f cdv A outer s H E) body t ∧ t { nx := fun _ H' => Q .non H', rt := Q } (start N vs) H) :
    FnOk P w K mg base CX (k + 1) f (PySem.W.fnOf name qual params body scope dV kV doc pm an cdv ct) ps sp := by
  refine ⟨len, fun A outer s H args us vs Q E hr e0 hb r hsp => ?_⟩
  have hl := len _ _ _ _ hsp
  have KX : K.In s.heap := e0.mod.kin.keeps fun b o e => (e0.bs b o e).1
  have lim : s.heap.NoLimit := e0.mod.nolimit.keeps fun b o e => (e0.bs b o e).1
  have hkind : ∀ y ∈ ps.zip us, scope.names.lookup y.1 = some .local ∨ (scope.names.lookup y.1 = some .cell ∧ ((cellsFrom (s.heap.objs.size + 1) scope.names []).lookup y.1).isSome = true) := fun ⟨n, v⟩ hy => by
    rcases S.par n (List.of_mem_zip hy).1 with q | q
    · exact .inl q
    · exact .inr ⟨q, PySem.W.cellsFrom_some _ _ _ (.inl q)⟩
  refine codeAny_call_function hr.depth (KX _ _ lk) rfl S.co S.gen rfl (PySem.W.codeRec_of KX hcd) (hb _ _ _ _ ?_)
  refine wpAny_newFunctionEnv_cells S.kind hkind fun env he s1 x => ?_
  subst he
  refine ⟨lim.keeps x.toInCall.keep, codeAny_func ?_⟩
  obtain ⟨t, ht, hq⟩ := hbody A outer s H vs Q E (hr.deeper _) hsp
  have I : Inv (cxOf CX P w K mg base N qual scope f cdv A outer s H E) [] (start N vs) H s1 := inv_start S hr.hd e0 hl r x
  refine wpAny_mono (ht [] s1 (start N vs) H _ I hq) (fun fl s' hs => ?_) fun e s' hs => hs
  have fin : ∀ {σ' : St} {H' : Hp} {v : V} {u : Value}, Inv (cxOf CX P w K mg base N qual scope f cdv A outer s H E) [] σ' H' s' → RelV v u → Q v H' → CE outer P w H s Q u s' :=
    fun {σ' H' v u} J rv q => ⟨v, H', J.os, J.bare, J.base, J.hok, rv, q⟩
  cases fl with
  | ret u =>
    obtain ⟨v, σ', H', J, rv, q⟩ := hs
    exact fin J rv q
  | next =>
    obtain ⟨σ', H', J, q⟩ := hs
    exact fin (v := V.non) (u := Value.none) J rfl q
  | brk =>
    obtain ⟨_, _, _, q⟩ := hs
    exact False.elim q
  | cont =>
    obtain ⟨_, _, _, q⟩ := hs
    exact False.elim q
end L2

namespace L2
open PySem PySem.Spec PyProof.Rows
section
variable {X : Cx} {x : Str} {p pos : Pos} {e : Expr} {es : List Expr} {t : TA} {id T : String} {r : List V → Hp → VK → Prop}

def tCB (r : List V → Hp → VK → Prop) (t : TA) : TE := fun σ H Q => t σ H fun vs H1 => r vs H1 Q
/-- f(e, ..), f a built-in function -/
theorem pe_callB (hc : CallR X (.builtin id) r) (hg : Gl X x) (hm : X.mg x = none) (hv : bootBuiltins x = some (.builtin id)) (ha : PA X (e :: es) t) (hn : x ≠ "__name__" := by decide) (hdb : (x == ("__debug__" : Str)) = false := by decide)
    (he : starEach (e :: es) X.env = (false, eval e X.env) :: starEach es X.env := by rfl) (hpl : (backTo pos (starEach es X.env)).any (·.1) = false := by rfl) : PE X (.Call (.Name x p) (e :: es) [] pos) (tCB r t) := by
  refine ⟨?_⟩
  intro pins s σ H Q I h
  refine wpAny_Call_Name_kw (ld_blt I hg hm hv ?_ hn hdb)
  exact PyProof.Rows.callWith_builtin1 (thn (ha pos pins s σ H _ I h) fun us s1 ⟨vs, H1, I1, r1, q1⟩ => hc pins s1 σ H1 vs us Q I1 r1 q1) he hpl
/-- T(e, ..), T a built-in type -/
theorem pe_callTy (hc : CallR X (.type T) r) (hg : Gl X x) (hm : X.mg x = none) (hv : bootBuiltins x = some (.type T)) (ha : PA X (e :: es) t) (hn : x ≠ "__name__" := by decide) (hdb : (x == ("__debug__" : Str)) = false := by decide)
    (he : starEach (e :: es) X.env = (false, eval e X.env) :: starEach es X.env := by rfl) (hpl : (backTo pos (starEach es X.env)).any (·.1) = false := by rfl) : PE X (.Call (.Name x p) (e :: es) [] pos) (tCB r t) := by
  refine ⟨?_⟩
  intro pins s σ H Q I h
  refine wpAny_Call_Name_kw (ld_blt I hg hm hv ?_ hn hdb)
  exact PyProof.Rows.callWith_type1 (thn (ha pos pins s σ H _ I h) fun us s1 ⟨vs, H1, I1, r1, q1⟩ => hc pins s1 σ H1 vs us Q I1 r1 q1) he hpl
end
end L2

namespace HT
open PySem PyProof.Rows



section
open PySem.SeqAt
open PySem.AutoSeq1 (wpAny_loadPart')
open PySem.MeetsSeq PySem.MeetsSeq2 PySem.MeetsSeq3

end

section
variable {prog : Program} {w : World} {A : Around} {E : Value → Shared → Prop} {s : Shared}



/-! ### t[a:b], not the whole -/

end
end HT

namespace L2
open PySem PySem.Spec PyProof.Rows

/-! ### the parts of a slice -/
abbrev TO := St → Hp → (Option Int → Hp → Prop) → Prop
/-- a slice's part (left out, or an int) -/
def PO (X : Cx) (e : Option Expr) (t : TO) : Prop :=
  ∀ (pins : List (Addr × Obj)) (s : Shared) (σ : St) (H : Hp) (Q : Option Int → Hp → Prop), Inv X pins σ H s → t σ H Q →
    wpAny (model X.prog X.w) X.A (evalPart e X.env) (fun u s' => ∃ o H', Inv X pins σ H' s' ∧ IsPart u o ∧ Q o H') X.xe s
def tNoPart : TO := fun _ H Q => Q none H
def tPart (t : TE) : TO := fun σ H Q => t σ H fun x H1 => ∃ i, x = .int i ∧ Q (some i) H1


section
variable {X : Cx} {e : Expr} {te : TE} {lo hi : Option Expr} {tl th : TO} {pos p2 : Pos}

theorem po_none : PO X none tNoPart := by
  intro pins s σ H Q I h
  rw [evalPart_none]
  exact wpAny_pure ⟨none, H, I, .none, h⟩
theorem po_some (h : PE X e te) : PO X (some e) (tPart te) := by
  intro pins s σ H Q I hw
  rw [evalPart_some]
  refine thn (h pins s σ H _ I hw) fun u s1 ⟨x, H1, I1, r1, q1⟩ => ?_
  obtain ⟨i, rfl, q⟩ := q1
  obtain ⟨t, rfl⟩ := r1
  exact ⟨some i, H1, I1, .int i t, q⟩

/-- what a slice of a value is, by values: the slice object stands at sl -/
def SlR (X : Cx) (r : V → Option Int → Option Int → Hp → VK → Prop) : Prop :=
  ∀ (pins : List (Addr × Obj)) (s : Shared) (σ : St) (H : Hp) (x : V) (v vl vu : Value) (lo hi : Option Int) (sl : Addr) (Q : VK), Inv X pins σ H s → RelV x v → s.heap.IsSliceOf sl vl vu .none → IsPart vl lo → IsPart vu hi → r x lo hi H Q →
    ∃ T id, typeLookup (.type T) "__getitem__" = pure (some (.builtin id)) ∧ s.TypeIs v T ∧ wpAny (model X.prog X.w) X.A (getItem v (.ref sl)) (EP X pins σ Q) X.xe s
def tSl (r : V → Option Int → Option Int → Hp → VK → Prop) (te : TE) (tl th : TO) : TE := fun σ H Q => te σ H fun x H1 => tl σ H1 fun l H2 => th σ H2 fun u H3 => r x l u H3 Q
/-- a[lo:hi], any a -/
theorem pe_slice {r : V → Option Int → Option Int → Hp → VK → Prop} (hr : SlR X r) (he : PE X e te) (hl : PO X lo tl) (hu : PO X hi th) : PE X (.Subscript e (.Slice lo hi none p2) pos) (tSl r te tl th) := by
  refine ⟨?_⟩
  intro pins s σ H Q I h
  refine Subscript_ (thn (he pins s σ H _ I h) fun v s1 ⟨x, H1, I1, r1, q1⟩ => ?_)
  refine wpAny_Slice (thn (hl pins s1 σ H1 _ I1 q1) fun vl s2 ⟨l, H2, I2, pl, q2⟩ => thn (hu pins s2 σ H2 _ I2 q2) fun vu s3 ⟨u, H3, I3, pu, q3⟩ => ?_)
  rw [evalPart_none]
  refine wpAny_pure ?_
  have I4 : Inv X pins σ H3 { s3 with heap := s3.heap.push { cls := .type "slice", data := .fields #[vl, vu, .none] } } := I3.kept (t' := s3.toks) fun b ob q => Heap.get?_push_of_some _ q
  obtain ⟨T, id, hT, ht, hg⟩ := hr pins { s3 with heap := s3.heap.push { cls := .type "slice", data := .fields #[vl, vu, .none] } } σ H3 x v vl vu l u s3.heap.objs.size Q I4 r1 (Heap.IsSliceOf.new ..) pl pu q3
  show wpAny (model X.prog X.w) X.A (subscriptTail e (.Slice lo hi none p2) v (.ref s3.heap.objs.size)) (EP X pins σ Q) X.xe { s3 with heap := s3.heap.push { cls := .type "slice", data := .fields #[vl, vu, .none] } }
  exact tail_any (ops := [.ref s3.heap.objs.size, v]) ht hT hg (by with_unfolding_all rfl)


/-! ### t < u, t + u -/
end
end L2

namespace L2
open PySem PySem.Spec PyProof.Rows

/-! ### places -/
/-- the place that an index of any sign means -/
def ixN (n : Nat) (i : Int) : Option Nat := if 0 ≤ i then (if i < n then some i.toNat else none) else if -(n : Int) ≤ i then some (i + n).toNat else none
def atI {α : Type} (xs : List α) (i : Int) : Option α := (ixN xs.length i).bind fun j => xs[j]?
theorem ixN_seq {n : Nat} {i : Int} {j : Nat} (h : ixN n i = some j) : seqIndex? i n = some j ∧ j < n ∧ -(n : Int) ≤ i ∧ i < n := by
  unfold ixN at h
  by_cases h0 : 0 ≤ i
  · rw [if_pos h0] at h
    by_cases h1 : i < n
    · rw [if_pos h1] at h
      have e : i.toNat = j := Option.some.inj h
      exact ⟨by rw [seqIndex_of h0 h1, e], by omega, by omega, h1⟩
    · rw [if_neg h1] at h; cases h
  · rw [if_neg h0] at h
    by_cases h1 : -(n : Int) ≤ i
    · rw [if_pos h1] at h
      have e : (i + n).toNat = j := Option.some.inj h
      exact ⟨by rw [seqIndex_neg (by omega) h1, e], by omega, h1, by omega⟩
    · rw [if_neg h1] at h; cases h
theorem atI_get {α : Type} {xs : List α} {i : Int} {v : α} (h : atI xs i = some v) : ∃ j, seqIndex? i xs.length = some j ∧ xs[j]? = some v ∧ j < xs.length ∧ -(xs.length : Int) ≤ i ∧ i < xs.length := by
  unfold atI at h
  cases e : ixN xs.length i with
  | none => rw [e] at h; cases h
  | some j =>
    rw [e] at h
    obtain ⟨h1, h2, h3, h4⟩ := ixN_seq e
    exact ⟨j, h1, h, h2, h3, h4⟩
theorem atI_nat {α : Type} {xs : List α} {j : Nat} {v : α} (h : xs[j]? = some v) : atI xs (j : Int) = some v := by
  have hj : j < xs.length := (List.getElem?_eq_some_iff.mp h).1
  have e : ixN xs.length (j : Int) = some j := by
    unfold ixN
    rw [if_pos (by omega), if_pos (by omega)]; simp
  unfold atI; rw [e]; exact h

/-! ### what may be subscripted -/
/-- what stands as an index of a plain subscript -/
def PlainIx (b : Expr) : Prop := ∀ o i, subscripted b false o i = operate [o, i] (getItem o i)
/-- a subscript by values -/
def IxR (X : Cx) (r : R2) : Prop :=
  ∀ (value slice : Expr) (pins : List (Addr × Obj)) (s : Shared) (σ : St) (H : Hp) (x y : V) (v u : Value) (Q : VK), Inv X pins σ H s → RelV x v → RelV y u → r x y H Q →
    subscripted slice false v u = operate [v, u] (getItem v u) → wpAny (model X.prog X.w) X.A (subscriptTail value slice v u) (EP X pins σ Q) X.xe s
/-- a call of a builtin's method by values: the receiver, the arguments -/
def MtR (X : Cx) (id : String) (r : V → List V → Hp → VK → Prop) : Prop :=
  ∀ (pins : List (Addr × Obj)) (s : Shared) (σ : St) (H : Hp) (x : V) (xs : List V) (v : Value) (us : List Value) (Q : VK), Inv X pins σ H s → RelV x v → Vals xs us → r x xs H Q →
    wpAny (model X.prog X.w) X.A (call (.builtin id) (v :: us)) (EP X pins σ Q) X.xe s
section
variable {X : Cx} {a b : Expr} {ta tb : TE} {pos : Pos}
/-- a[b] -/
theorem pe_ix {r : R2} (hr : IxR X r) (ha : PE X a ta) (hb : PE X b tb) (hs : PlainIx b) : PE X (.Subscript a b pos) (tOp r ta tb) := by
  refine ⟨?_⟩
  intro pins s σ H Q I h
  exact Subscript_ (binT ha hb I h fun v u s2 x y H2 I2 rx ry q => hr a b pins s2 σ H2 x y v u Q I2 rx ry q (hs _ _))

inductive rIxL (K : PySem.W.Frag) (x y : V) (H : Hp) (Q : VK) : Prop
  | mk (p : Addr) (xs : List V) (i : Int) (v : V) (e1 : x = .ref p) (e2 : y = .int i) (h : SqL K H p xs) (e : atI xs i = some v) (q : Q v H) : rIxL K x y H Q
inductive rIxT (K : PySem.W.Frag) (x y : V) (H : Hp) (Q : VK) : Prop
  | mk (p : Addr) (xs : List V) (i : Int) (v : V) (e1 : x = .ref p) (e2 : y = .int i) (h : SqT K H p xs) (e : atI xs i = some v) (q : Q v H) : rIxT K x y H Q
def rIxS : R2 := fun x y H Q => ∃ z i c, x = .str z ∧ y = .int i ∧ z.length ≤ sizeLine ∧ atI z.cps.toList i = some c ∧ Q (.str ⟨#[c]⟩) H
theorem ix_list : IxR X (rIxL X.K) := by
  intro value slice pins s σ H x y v u Q I rx ry h hs
  obtain ⟨p, xs, i, z, rfl, rfl, hq, he, q⟩ := h
  cases rx
  obtain ⟨t, rfl⟩ := ry
  obtain ⟨its, r, pl, hz⟩ := I.list hq
  obtain ⟨j, h1, h2, h3, h4, h5⟩ := atI_get he
  obtain ⟨w, ew, rw'⟩ := r.get h2
  have hl := r.length
  have hn := line63
  have fin : EP X pins σ Q w s := ⟨z, H, I, rw', q⟩
  by_cases h0 : 0 ≤ i
  · have hj : i.toNat = j := by
      rw [seqIndex_of h0 h5] at h1
      exact Option.some.inj h1
    exact item_listR pl.isList h0 (by omega) (by rw [hj]; simpa using ew) fin hs
  · have hj : (i + (its.toArray.size : Int)).toNat = j := by
      rw [seqIndex_neg (by omega) h4] at h1
      rw [List.size_toArray, ← hl]
      exact Option.some.inj h1
    exact subscriptTail_builtinR (x := w) pl.isList.typeIs slot_list_getitem.lookup
      (wpAny_getItem_list_neg (Q := fun r s' => r = w ∧ EP X pins σ Q r s') pl.isList (by omega) (by rw [List.size_toArray] <;> omega) (by omega) (by rw [hj]; simpa using ew) ⟨rfl, fin⟩) hs
theorem ix_tup : IxR X (rIxT X.K) := by
  intro value slice pins s σ H x y v u Q I rx ry h hs
  obtain ⟨p, xs, i, z, rfl, rfl, hq, he, q⟩ := h
  cases rx
  obtain ⟨t, rfl⟩ := ry
  obtain ⟨its, r, pl, hz⟩ := I.tuple hq
  obtain ⟨j, h1, h2, h3, h4, h5⟩ := atI_get he
  obtain ⟨w, ew, rw'⟩ := r.get h2
  have hl := r.length
  have hn := line63
  have fin : EP X pins σ Q w s := ⟨z, H, I, rw', q⟩
  exact subscriptTail_builtinR (x := w) pl.typeIs slot_tuple_getitem.lookup
    (getItem_tuple (j := j) (Q := fun r s' => r = w ∧ EP X pins σ Q r s') pl (by omega) (by omega) (by rw [List.size_toArray, ← hl]; exact h1) (by simpa using ew) ⟨rfl, fin⟩) hs
theorem ix_str : IxR X rIxS := by
  intro value slice pins s σ H x y v u Q I rx ry h hs
  obtain ⟨z, i, c, rfl, rfl, hz, he, q⟩ := h
  obtain ⟨t, rfl⟩ := rx
  obtain ⟨t', rfl⟩ := ry
  obtain ⟨j, h1, h2, h3, h4, h5⟩ := atI_get he
  have hl : z.cps.toList.length = z.length := by simp [Str.length]
  rw [hl] at h1 h4 h5
  have hn := line63
  exact tail_any (typeIs_str s z t) slot_str_getitem.lookup (getItem_str (c := c) (by
    have e1 : decide (i < -(2 ^ 63 : Int)) = false := decide_eq_false (by omega)
    have e2 : decide (i ≥ 2 ^ 63) = false := decide_eq_false (by omega)
    rw [e1, e2, Bool.or_false]) (by rw [h1]; simpa using h2) ⟨.str ⟨#[c]⟩, H, I.tok _, ⟨_, rfl⟩, q⟩) hs

/-! ### xs[i] = v, any sign -/
/-- the list's object behind a store -/
theorem mapSeq_set (its : List Value) (n j : Nat) (u : Value) : Obj.mapSeq (·.setIfInBounds j u) { cls := .type "list", data := .seq its.toArray n } = { cls := .type "list", data := .seq (its.set j u).toArray n } := by
  simp [Obj.mapSeq]
theorem Inv.lst {pins : List (Addr × Obj)} {σ : St} {H : Hp} {s : Shared} {p : Addr} {xs : List V} (I : Inv X pins σ H s) (h : H p = some (.lst xs)) :
    ∃ (its : List Value) (n : Nat), Vals xs its ∧ s.heap.get? p = some { cls := .type "list", data := .seq its.toArray n } ∧ xs.length ≤ sizeLine := by
  obtain ⟨z, its, n, r, e⟩ := I.hok p _ h
  exact ⟨its, n, r, e, z⟩
/-- the list at p is written by an update of its object -/
theorem Inv.lstUpd {pins : List (Addr × Obj)} {σ : St} {H : Hp} {s : Shared} {p : Addr} {xs ys : List V} {its its' : List Value} {n n' : Nat} {f : Obj → Obj} (I : Inv X pins σ H s) (h : H p = some (.lst xs))
    (ho : s.heap.get? p = some { cls := .type "list", data := .seq its.toArray n }) (hf : f { cls := .type "list", data := .seq its.toArray n } = { cls := .type "list", data := .seq its'.toArray n' }) (r : Vals ys its') (hz : ys.length ≤ sizeLine) (t : Nat) :
    Inv X pins σ (upd H p (.lst ys)) { s with heap := s.heap.update p f, toks := t } := by
  have e : (s.heap.update p f).get? p = some { cls := .type "list", data := .seq its'.toArray n' } := by
    rw [Heap.get?_update_self f ho (by rw [hf] <;> rfl), hf]
  refine I.write (x := p) (e := p) (by rw [h]; trivial) (.inl rfl) (fun b u hb q => (Heap.get?_update_other _ _ (Ne.symm hb)).trans q) ⟨_, e⟩ ?_
  exact ⟨hz, its', n', r, e⟩
def rSetL : V → V → V → Hp → (Hp → Prop) → Prop := fun o i v H Q => ∃ p xs k j, o = .ref p ∧ i = .int k ∧ H p = some (.lst xs) ∧ ixN xs.length k = some j ∧ Q (upd H p (.lst (xs.set j v)))
theorem set_list : PSet X rSetL := by
  intro pins s σ H o i v ov iv u Q I ro ri rv h
  obtain ⟨p, xs, k, j, rfl, rfl, hp, hj, q⟩ := h
  cases ro
  obtain ⟨t, rfl⟩ := ri
  obtain ⟨its, n, r, ho, hz⟩ := I.lst hp
  obtain ⟨h1, h2, h3, h4⟩ := ixN_seq hj
  have hl := r.length
  have hn := line63
  have I' : Inv X pins σ (upd H p (.lst (xs.set j v))) { s with heap := s.heap.update p (Obj.mapSeq (·.setIfInBounds j u)) } :=
    I.lstUpd hp ho (mapSeq_set its n j u) (r.set rv j) (by rw [List.length_set]; exact hz) s.toks
  by_cases h0 : 0 ≤ k
  · have hk : k.toNat = j := by
      rw [seqIndex_of h0 h4] at h1
      exact Option.some.inj h1
    exact PySem.W.ki_setAt ho h0 (by omega) (by rw [List.size_toArray, ← hl]; exact h4) (by rw [hk]; exact ⟨_, I', q⟩)
  · have hk : (k + (its.toArray.size : Int)).toNat = j := by
      rw [seqIndex_neg (by omega) h3] at h1
      rw [List.size_toArray, ← hl]
      exact Option.some.inj h1
    exact PySem.W.ki_setBack ho (by omega) (by rw [List.size_toArray, ← hl]; exact h3) (by omega) (by rw [hk]; exact ⟨_, I', q⟩)

/-! ### slices -/

/-! ### in, not in: flat items -/
def flatV : V → Bool
  | .non => true
  | .bl _ => true
  | .int _ => true
  | .str _ => true
  | _ => false
/-- == of flat values -/
def eqV : V → V → Bool
  | .non, .non => true
  | .bl a, .bl b => a == b
  | .bl a, .int b => (if a then 1 else 0) == b
  | .int a, .bl b => a == (if b then 1 else 0)
  | .int a, .int b => a == b
  | .str a, .str b => a == b
  | _, _ => false
theorem eqAt_V {A : Around} {s : Shared} {y x : V} {u v : Value} (ry : RelV y u) (rx : RelV x v) (fy : flatV y = true) (fx : flatV x = true) : SeqAt.EqAt A s u v (eqV y x) := by
  cases y with
  | non =>
    cases ry
    cases x with
    | non => cases rx; exact SeqAt.EqAt.same _
    | bl b => cases rx; exact SeqAt.EqAt.none_bool b
    | int b => obtain ⟨t, rfl⟩ := rx; exact SeqAt.EqAt.none_int b t
    | str b => obtain ⟨t, rfl⟩ := rx; exact SeqAt.EqAt.none_str b t
    | _ => exact absurd (show false = true from fx) Bool.false_ne_true
  | bl a =>
    cases ry
    cases x with
    | non => cases rx; exact SeqAt.EqAt.bool_none a
    | bl b => cases rx; exact SeqAt.EqAt.bool_bool a b
    | int b => obtain ⟨t, rfl⟩ := rx; exact SeqAt.EqAt.bool_int a b t
    | str b => obtain ⟨t, rfl⟩ := rx; exact SeqAt.EqAt.bool_str a b t
    | _ => exact absurd (show false = true from fx) Bool.false_ne_true
  | int a =>
    obtain ⟨t', rfl⟩ := ry
    cases x with
    | non => cases rx; exact SeqAt.EqAt.int_none a t'
    | bl b => cases rx; exact SeqAt.EqAt.int_bool a t' b
    | int b => obtain ⟨t, rfl⟩ := rx; exact SeqAt.EqAt.int_int a t' b t
    | str b => obtain ⟨t, rfl⟩ := rx; exact SeqAt.EqAt.int_str a t' b t
    | _ => exact absurd (show false = true from fx) Bool.false_ne_true
  | str a =>
    obtain ⟨t', rfl⟩ := ry
    cases x with
    | non => cases rx; exact SeqAt.EqAt.str_none a t'
    | bl b => cases rx; exact SeqAt.EqAt.str_bool a t' b
    | int b => obtain ⟨t, rfl⟩ := rx; exact SeqAt.EqAt.str_int a t' b t
    | str b => obtain ⟨t, rfl⟩ := rx; exact SeqAt.EqAt.str_str a t' b t
    | _ => exact absurd (show false = true from fx) Bool.false_ne_true
  | _ => exact absurd (show false = true from fy) Bool.false_ne_true
/-- the items' answers, read off the values (a value's own answer does not lean on its token) -/
def eqU (x : V) (u : Value) : Bool := match u with
  | .none => eqV .non x
  | .bool b => eqV (.bl b) x
  | .int i _ => eqV (.int i) x
  | .str z _ => eqV (.str z) x
  | _ => false
theorem eqU_of {x y : V} {u : Value} (r : RelV y u) (f : flatV y = true) : eqU x u = eqV y x := by
  cases y with
  | non => cases r; rfl
  | bl b => cases r; rfl
  | int i => obtain ⟨t, rfl⟩ := r; rfl
  | str z => obtain ⟨t, rfl⟩ := r; rfl
  | _ => exact absurd (show false = true from f) Bool.false_ne_true
theorem any_eqU {x : V} : ∀ {xs : List V} {us : List Value}, Vals xs us → xs.all flatV = true → us.any (eqU x) = xs.any fun y => eqV y x
  | _, _, .nil, _ => rfl
  | y :: xs, u :: us, .cons r t, f => by
    rw [List.all_cons, Bool.and_eq_true] at f
    rw [List.any_cons, List.any_cons, eqU_of r f.1, any_eqU t f.2]
theorem mem_eqAt {A : Around} {s : Shared} {x : V} {v : Value} (rx : RelV x v) (fx : flatV x = true) : ∀ {xs : List V} {us : List Value}, Vals xs us → xs.all flatV = true → ∀ u ∈ us, SeqAt.EqAt A s u v (eqU x u)
  | _, _, .nil, _ => fun u hu => by cases hu
  | y :: xs, u :: us, .cons r t, f => fun u' hu => by
    rw [List.all_cons, Bool.and_eq_true] at f
    rcases List.mem_cons.mp hu with rfl | hu
    · rw [eqU_of r f.1]; exact eqAt_V r rx f.1 fx
    · exact mem_eqAt rx fx t f.2 u' hu
def inV (x : V) (xs : List V) : Bool := xs.any fun y => eqV y x
/-- x in a list or tuple of flat items -/
def rIn (K : PySem.W.Frag) (neg : Bool) : R2 := fun x y H Q => ∃ p xs, y = .ref p ∧ (SqL K H p xs ∨ SqT K H p xs) ∧ flatV x = true ∧ xs.all flatV = true ∧ Q (.bl (if neg then !inV x xs else inV x xs)) H
theorem op_notIn_seq : OpR X (compareOp .NotIn) (rIn X.K true) := by
  intro pins s σ H x y v u Q I rx ry h
  obtain ⟨p, xs, rfl, hq, fx, fs, q⟩ := h
  cases ry
  rcases hq with hq | hq
  · obtain ⟨its, r, pl, hz⟩ := I.list hq
    refine SeqAt.notIn_listAt (eqU x) pl.isList (fun w hw => mem_eqAt rx fx r fs w (by simpa using hw)) ⟨.bl _, H, I, rfl, ?_⟩
    rw [show its.toArray.any (eqU x) = its.any (eqU x) by simp, any_eqU r fs]
    exact q
  · obtain ⟨its, r, pl, hz⟩ := I.tuple hq
    refine SeqAt.notIn_tupleAt (eqU x) pl (fun w hw => mem_eqAt rx fx r fs w (by simpa using hw)) ⟨.bl _, H, I, rfl, ?_⟩
    rw [show its.toArray.any (eqU x) = its.any (eqU x) by simp, any_eqU r fs]
    exact q

/-! ### len, list(x), tuple(x) of any list or tuple that is read -/
theorem call_len_seq : CallR X (.builtin "len") (fun xs H Q => ∃ p ys, xs = [.ref p] ∧ (SqL X.K H p ys ∨ SqT X.K H p ys) ∧ Q (.int ys.length) H) := by
  intro pins s σ H xs us Q I r h
  obtain ⟨p, ys, rfl, hq, q⟩ := h
  obtain ⟨u, rfl, rx⟩ := vals1 r
  cases rx
  have hn := line63
  rcases hq with hq | hq
  · obtain ⟨its, r', pl, hz⟩ := I.list hq
    have hlen := r'.length
    exact Calls.call_len_list pl.isList (by simp only [List.size_toArray] <;> omega) ⟨.int ys.length, H, I.tok _, ⟨s.toks + 1, by rw [List.size_toArray, hlen]⟩, q⟩
  · obtain ⟨its, r', pl, hz⟩ := I.tuple hq
    have hlen := r'.length
    exact len_tuple pl (by simp only [List.size_toArray] <;> omega) ⟨.int ys.length, H, I.tok _, ⟨s.toks + 1, by rw [List.size_toArray, hlen]⟩, q⟩
theorem call_len_str : CallR X (.builtin "len") (fun xs H Q => ∃ z, xs = [.str z] ∧ z.length ≤ sizeLine ∧ Q (.int z.length) H) := by
  intro pins s σ H xs us Q I r h
  obtain ⟨z, rfl, hz, q⟩ := h
  obtain ⟨u, rfl, t, rfl⟩ := vals1 r
  have hn := line63
  exact len_str (by omega) ⟨.int z.length, H, I.tok _, ⟨_, rfl⟩, q⟩

/-! ### the call of a builtin's method: o.m(..) -/
/-- the value is of that builtin type -/
def tyV (K : PySem.W.Frag) (T : String) (x : V) (H : Hp) : Prop := match x with
  | .str _ => T = "str"
  | .int _ => T = "int"
  | .ref p => (T = "list" ∧ ∃ xs, SqL K H p xs) ∨ (T = "tuple" ∧ ∃ o, K.lookup p = some o ∧ o.cls = .type "tuple" ∧ o.dict = none) ∨
      (T = "dict" ∧ ((∃ kvs, H p = some (.dK kvs)) ∨ ∃ kvs, H p = some (.dT kvs))) ∨ (T = "set" ∧ ∃ S n, H p = some (.set S n))
  | _ => False
theorem tyV_is {pins : List (Addr × Obj)} {σ : St} {H : Hp} {s : Shared} {T : String} {x : V} {v : Value} (I : Inv X pins σ H s) (r : RelV x v) (ty : tyV X.K T x H) :
    s.TypeIs v T ∧ ∀ a, v = .ref a → ∃ ob, s.heap.get? a = some ob ∧ ob.dict = none := by
  cases x with
  | str z =>
    obtain ⟨t, rfl⟩ := r
    cases (show T = "str" from ty)
    exact ⟨typeIs_str s z t, fun _ e => nomatch e⟩
  | int i =>
    obtain ⟨t, rfl⟩ := r
    cases (show T = "int" from ty)
    exact ⟨typeIs_int s i t, fun _ e => nomatch e⟩
  | ref p =>
    cases r
    rcases ty with ⟨rfl, xs, hq⟩ | ⟨rfl, o, hk, hc, hd⟩ | ⟨rfl, hk⟩ | ⟨rfl, S, n, hk⟩
    · obtain ⟨its, _, pl, _⟩ := I.list hq
      refine ⟨pl.isList.typeIs, fun a e => ?_⟩
      cases e
      obtain ⟨o, n, e, c, hd, _⟩ := pl
      exact ⟨o, e, hd⟩
    · refine ⟨⟨o, I.kIn p o hk, hc⟩, fun a e => ?_⟩
      cases e
      exact ⟨o, I.kIn _ o hk, hd⟩
    · have z : ∃ o, s.heap.get? p = some o ∧ o.ExactDict := by
        rcases hk with ⟨kvs, hk⟩ | ⟨kvs, hk⟩
        · obtain ⟨_, _, _, _, o, _, _, e, ex, _⟩ := I.hok p _ hk
          exact ⟨o, e, ex⟩
        · obtain ⟨_, _, _, _, o, _, _, e, ex, _⟩ := I.hok p _ hk
          exact ⟨o, e, ex⟩
      obtain ⟨o, e, ex⟩ := z
      refine ⟨⟨o, e, ex.1⟩, fun a e2 => ?_⟩
      cases e2
      exact ⟨o, e, ex.2.1⟩
    · obtain ⟨o, _, _, _, e, ex, _⟩ := I.hok p _ hk
      refine ⟨⟨o, e, ex.1⟩, fun a e2 => ?_⟩
      cases e2
      exact ⟨o, e, ex.2.1⟩
  | _ => exact False.elim ty
def tBM0 (K : PySem.W.Frag) (T : String) (r : V → List V → Hp → VK → Prop) (to : TE) : TE := fun σ H Q => to σ H fun x H1 => tyV K T x H1 ∧ r x [] H1 Q
def tBM (K : PySem.W.Frag) (T : String) (r : V → List V → Hp → VK → Prop) (to : TE) (t : TA) : TE := fun σ H Q => to σ H fun x H1 => tyV K T x H1 ∧ t σ H1 fun xs H2 => r x xs H2 Q
variable {o e : Expr} {es : List Expr} {to : TE} {t : TA} {name : Str} {apos cpos : Pos} {T id : String} {r : V → List V → Hp → VK → Prop}
theorem pe_bm0 (pa : PlainAttrs T) (slot : Slot T name id) (hty : typeOf (.builtin id) = pure (.type "method_descriptor")) (hm : MtR X id r) (ho : PE X o to)
    (hbase : attributeBase o name X.env (eval o X.env) = eval o X.env := by rfl) (hline : (apos.endLine == cpos.line) = true := by rfl) : PE X (.Call (.Attribute o name apos) [] [] cpos) (tBM0 X.K T r to) := by
  refine ⟨?_⟩
  intro pins s σ H Q I h
  refine wpAny_Call_method0_late hbase hline (thn (ho pins s σ H _ I h) fun v s1 ⟨x, H1, I1, r1, ty, q1⟩ => ?_)
  obtain ⟨h1, h2⟩ := tyV_is I1 r1 ty
  exact ⟨T, id, pa, slot, hty, h1, h2, Calls.callWith_builtin rfl (PySem.evalArgs_none (hm pins s1 σ H1 x [] v [] Q I1 r1 .nil q1))⟩
theorem pe_bm (pa : PlainAttrs T) (slot : Slot T name id) (hty : typeOf (.builtin id) = pure (.type "method_descriptor")) (hm : MtR X id r) (ho : PE X o to) (ha : PA X (e :: es) t)
    (hbase : attributeBase o name X.env (eval o X.env) = eval o X.env := by rfl)
    (hfew : ((backTo cpos (starEach (e :: es) X.env)).all (fun x => !x.1) && (backToKw cpos (keywordEach [] X.env)).all (fun x => x.1.isSome)
      && decide ((e :: es).length + ([] : List Keyword).length + (if ([] : List Keyword).isEmpty then 0 else 1) < 30)) = true := by rfl)
    (hline : (apos.endLine == cpos.line) = true := by rfl) (hs : starEach (e :: es) X.env = (false, eval e X.env) :: starEach es X.env := by rfl) (hplain : (backTo cpos (starEach es X.env)).any (·.1) = false := by rfl) :
    PE X (.Call (.Attribute o name apos) (e :: es) [] cpos) (tBM X.K T r to t) := by
  refine ⟨?_⟩
  intro pins s σ H Q I h
  refine wpAny_Call_method_late hbase hfew hline rfl (thn (ho pins s σ H _ I h) fun v s1 ⟨x, H1, I1, r1, ty, q1⟩ => ?_)
  obtain ⟨h1, h2⟩ := tyV_is I1 r1 ty
  refine ⟨T, id, pa, slot, hty, h1, h2, ?_⟩
  have hA := ha cpos pins s1 σ H1 _ I1 q1
  rw [hs] at hA ⊢
  refine Calls.callWith_builtin (by show (false || (backTo cpos (starEach es X.env)).any (·.1)) = false; rw [hplain] <;> rfl) (Calls.evalArgs_plain ?_)
  exact thn hA fun us s2 ⟨vs, H2, I2, r2, q2⟩ => hm pins s2 σ H2 x vs v us Q I2 r1 r2 q2
/- xs.append(e), list.index on a module's tuple .. are MtR facts of 06m -/
end
end L2

namespace L2
open PySem PySem.Spec PyProof.Rows

def MtM (X : Cx) (id : String) (r : V → List V → Hp → VK → Prop) : Prop :=
  ∀ (pins : List (Addr × Obj)) (s : Shared) (σ : St) (H : Hp) (x : V) (xs : List V) (v : Value) (us : List Value) (Q : VK), Inv X pins σ H s → RelV x v → Vals xs us → r x xs H Q →
    wpAny (model X.prog X.w) X.A (call (.builtin id) (v :: us)) (EP X pins σ Q) X.xe s

/-! ### lists of values -/
theorem Vals.one : ∀ {x : V} {us : List Value}, Vals [x] us → ∃ u, us = [u] ∧ RelV x u
  | _, _, .cons r .nil => ⟨_, rfl, r⟩
theorem Vals.rep {xs : List V} {us : List Value} (h : Vals xs us) : ∀ k : Nat, Vals (List.replicate k xs).flatten (List.replicate k us).flatten
  | 0 => .nil
  | k + 1 => by
    rw [List.replicate_succ, List.replicate_succ, List.flatten_cons, List.flatten_cons]
    exact Vals.append h (Vals.rep h k)
theorem foldl_rep (its : List Value) : ∀ (k : Nat) (acc : List Value),
    List.foldl (fun x1 x2 => x1 ++ x2) acc.toArray (List.replicate k its.toArray) = (acc ++ (List.replicate k its).flatten).toArray
  | 0, acc => by simp
  | k + 1, acc => by
    have e : acc.toArray ++ its.toArray = (acc ++ its).toArray := by simp
    have e2 : (acc ++ its) ++ (List.replicate k its).flatten = acc ++ (List.replicate (k + 1) its).flatten := by
      rw [List.replicate_succ, List.flatten_cons, List.append_assoc]
    rw [← e2, ← foldl_rep its k (acc ++ its), ← e, List.replicate_succ, List.foldl_cons]

section
variable {X : Cx} {pins : List (Addr × Obj)} {σ : St} {H : Hp} {s : Shared} {l b : Addr} {xs ys zs : List V}

/-! ### the two steps: a tracked list is rewritten, a new list is laid -/
theorem Inv.lset {its its' : List Value} {n : Nat} {f : Array Value → Array Value} {t' : Nat} (I : Inv X pins σ H s) (hH : H l = some (.lst xs))
    (e : s.heap.get? l = some { cls := .type "list", data := .seq its.toArray n }) (hf : f its.toArray = its'.toArray) (hv : Vals ys its') (hz : ys.length ≤ sizeLine) :
    Inv X pins σ (upd H l (.lst ys)) { s with heap := s.heap.update l (Obj.mapSeq f), toks := t' } := by
  have q := PySem.IsL.update e f
  rw [hf] at q
  refine I.write (x := l) (e := l) (by rw [hH]; exact trivial) (.inl rfl) (fun b' u hb hu => (Heap.get?_update_other s.heap (Obj.mapSeq f) (Ne.symm hb)).trans hu) ⟨_, q⟩ ?_
  exact ⟨hz, its', _, hv, q⟩
theorem Inv.lnew {its : List Value} {t' : Nat} (I : Inv X pins σ H s) (hv : Vals ys its) (hz : ys.length ≤ sizeLine) :
    Inv X pins σ (upd H s.heap.objs.size (.lst ys)) { s with heap := s.heap.push { cls := .type "list", data := .seq its.toArray }, toks := t' } :=
  I.laid (fun _ _ q => Heap.get?_push_of_some _ q) (Nat.le_refl _) ⟨hz, its, 0, hv, Heap.get?_push_size _ rfl⟩
theorem Inv.fresh (I : Inv X pins σ H s) : H s.heap.objs.size = none := I.hok.fresh (Nat.le_refl _)
theorem Inv.lstM (I : Inv X pins σ H s) (hH : H l = some (.lst xs)) : xs.length ≤ sizeLine ∧ ∃ (its : List Value) (n : Nat), Vals xs its ∧ xs.length = its.length ∧ s.heap.get? l = some { cls := .type "list", data := .seq its.toArray n } := by
  obtain ⟨z, its, n, r, e⟩ := I.hok l _ hH
  exact ⟨z, its, n, r, r.length, e⟩

theorem notLongL {n : Nat} (h : n ≤ sizeLine) : Builtin.List.listTooLong n = false := by
  unfold Builtin.List.listTooLong
  exact decide_eq_false (by omega)
end

section
variable {X : Cx}

/-! ### methods -/
def rAppend : V → List V → Hp → VK → Prop := fun x vs H Q => ∃ l xs y, x = .ref l ∧ vs = [y] ∧ H l = some (.lst xs) ∧ xs.length < sizeLine ∧ Q .non (upd H l (.lst (xs ++ [y])))
theorem mt_append : MtM X "list.append" rAppend := by
  intro pins s σ H x vs v us Q I rx rv h
  obtain ⟨l, xs, y, rfl, rfl, hH, hz, q⟩ := h
  cases rx
  obtain ⟨u, rfl, ru⟩ := rv.one
  obtain ⟨z, its, n, r, hl, e⟩ := I.lstM hH
  refine call_meets F.slot_list_append ⟨_, e, rfl⟩ F.entry_list_append (F.args_list_append_2 _ _) (PySem.list_append l its.toArray n u (by rw [List.size_toArray]; omega)) ⟨e, ?_⟩
  refine ⟨.non, _, I.lset (its' := its ++ [u]) hH e (by simp) (r.append (.cons ru .nil)) ?_, rfl, q⟩
  rw [List.length_append, List.length_singleton]
  omega






/-! ### list + list, list += list, list * int -/
def rCat : R2 := fun x y H Q => ∃ l b xs zs, x = .ref l ∧ y = .ref b ∧ H l = some (.lst xs) ∧ H b = some (.lst zs) ∧ xs.length + zs.length ≤ sizeLine ∧ ∀ p, H p = none → Q (.ref p) (upd H p (.lst (xs ++ zs)))
theorem op_cat : OpR X (binaryOp .Add) rCat := by
  intro pins s σ H x y v u Q I rx ry h
  obtain ⟨l, b, xs, zs, rfl, rfl, hH, hB, hz, q⟩ := h
  cases rx
  cases ry
  obtain ⟨z, its, n, r, hl, e⟩ := I.lstM hH
  obtain ⟨z2, its2, n2, r2, hl2, e2⟩ := I.lstM hB
  refine PySem.P.add_list e e2 ?_ (by rw [List.size_toArray, List.size_toArray]; omega)
  have ea : its.toArray ++ its2.toArray = (its ++ its2).toArray := by simp
  rw [ea]
  exact ⟨.ref _, _, I.lnew (t' := s.toks) (r.append r2) (by rw [List.length_append]; omega), rfl, q _ I.fresh⟩
/-- a list times an int (a negative one is nothing) -/
def rRep : R2 := fun x y H Q => ∃ l k xs, x = .ref l ∧ y = .int k ∧ H l = some (.lst xs) ∧ -(2 ^ 63) ≤ k ∧ k < 2 ^ 63 ∧ xs.length * k.toNat ≤ sizeLine ∧
  ∀ p, H p = none → Q (.ref p) (upd H p (.lst (List.replicate k.toNat xs).flatten))
theorem len_rep {α : Type} (xs : List α) (k : Nat) : (List.replicate k xs).flatten.length = k * xs.length := by
  induction k with
  | zero => simp
  | succ k ih => rw [List.replicate_succ, List.flatten_cons, List.length_append, ih, Nat.succ_mul, Nat.add_comm]
theorem op_rep : OpR X (binaryOp .Mult) rRep := by
  intro pins s σ H x y v u Q I rx ry h
  obtain ⟨l, k, xs, rfl, rfl, hH, h1, h2, hz, q⟩ := h
  cases rx
  obtain ⟨t, rfl⟩ := ry
  obtain ⟨z, its, n, r, hl, e⟩ := I.lstM hH
  have hlen : its.toArray.size * k.toNat ≤ sizeLine := by rw [List.size_toArray, ← hl]; exact hz
  have hcap : ¬ its.toArray.size * k.toNat > (2 ^ 63 - 1) / 8 := by
    have : (sizeLine : Nat) ≤ (2 ^ 63 - 1) / 8 := by decide
    omega
  have hfit : ¬ (!Builtin.List.listFitsIndex k) = true := by
    rw [fitsIndex_both h1 h2]
    exact Bool.false_ne_true
  have hlong : ¬ Builtin.List.listTooLong (its.toArray.size * k.toNat) = true := by
    rw [notLongL hlen]
    exact Bool.false_ne_true
  have hnew : List.foldl (fun x1 x2 => x1 ++ x2) #[] (List.replicate (if its.toArray.isEmpty = true then 0 else k.toNat) its.toArray) = (List.replicate k.toNat its).flatten.toArray := by
    have f0 : ∀ m : Nat, List.foldl (fun x1 x2 => x1 ++ x2) #[] (List.replicate m its.toArray) = (List.replicate m its).flatten.toArray := fun m => by
      have := foldl_rep its m []
      rw [List.nil_append] at this
      exact this
    rw [f0]
    cases its with
    | nil => simp
    | cons a r' => rw [if_neg (by simp)]
  refine wpAny_binaryOp_repeat_ref (T := "list") (U := "int") (by decide) ⟨_, e, rfl⟩ (fun s' => typeIs_int s' k t) noFill_list_mul F.fills_int_mul F.slot_int_rmul repeat_list F.slot_int_index.lookup
    (call_meets F.slot_int_rmul (typeIs_int s k t) F.entry_int_rmul (F.args_int_rmul_2 _ _) (int___rmul___int_list k t l its.toArray n)
      ⟨e, rfl, ⟨_, e, rfl⟩, call_meets F.slot_list_mul ⟨_, e, rfl⟩ F.entry_list_mul (F.args_list_mul_2 _ _) (AutoListH.list___mul___list_int_3 l its.toArray n k t hfit hcap hlong) ⟨e, ?_⟩⟩)
  rw [hnew]
  exact ⟨.ref _, _, I.lnew (t' := s.toks) (r.rep k.toNat) (by rw [len_rep, Nat.mul_comm]; exact hz), rfl, q _ I.fresh⟩

/-! ### del xs[i] -/
end

/-! ### xs[a:b] = ys -/
section
variable {prog : Program} {w : World} {A : Around} {E : Value → Shared → Prop} {s : Shared}
end

section
variable {X : Cx}
end
end L2

namespace Att
open PySem PySem.W PySem.Calls PyProof.Rows

/-! ### the script -/
theorem ints_of_wellAll {P : Params} {h : Heap} : ∀ (ns : List Int) (vs : List Value), WellAll P h vs (ns.map WData.int) → IntsAre vs ns := by
  intro ns
  induction ns with
  | nil =>
    intro vs w
    rw [List.map_nil] at w
    cases w
    exact .nil
  | cons n ns ih =>
    intro vs w
    rw [List.map_cons] at w
    cases w with
    | cons a b =>
      cases a
      exact .cons _ _ (ih _ b)

theorem script_of {l : OpenLaw} {n : Nat} (hn : l.most = some n) {P : Params} {h : Heap} {args : List WData} {vals : List Value}
    (hpre : l.row.toRowW.claim.pre args = true) (hwl : WellAll P h vals args) :
    ∃ a vs ns, vals = [Value.ref a] ∧ args = [WData.list (ns.map WData.int)] ∧ h.get? a = some { cls := .type "list", data := .seq vs.toArray } ∧ IntsAre vs ns ∧ ns.length ≤ n := by
  have hsh : WShape.hasAll [] args [.list .int] = true := (pre_splitW hpre).1
  have hc : l.pre.holds [] { args := args } = true := (pre_splitW hpre).2
  obtain ⟨d, r, rfl, h1, h2⟩ := hasAllW_cons hsh
  obtain rfl := hasAllW_nil h2
  obtain ⟨xs, rfl, h3⟩ := hasW_list h1
  obtain ⟨ns, rfl⟩ := items_int h3
  have hlen : ns.length ≤ n := by
    unfold OpenLaw.pre at hc
    have h4 : (WTm.not (.lt (.lit (.int (n : Int))) (.len (.arg 0)))).holds [] { args := [.list (ns.map .int)] } = true := by
      have h4 := (holds_andW hc).1
      rw [hn] at h4
      exact h4
    have h5 := condW_of h4 (w_not (w_lt w_lit (w_len_list (w_arg rfl))))
    rw [List.length_map] at h5
    refine Nat.le_of_not_lt fun q => ?_
    have q' : (n : Int) < ((ns.length : Nat) : Int) := by omega
    first
      | (rw [decide_eq_true q'] at h5; exact absurd h5 (by decide))
      | (simp at h5; omega)
  cases hwl with
  | cons w1 w2 =>
    cases w2
    cases w1 with
    | list ho hall => exact ⟨_, _, ns, rfl, rfl, ho, ints_of_wellAll ns _ hall, hlen⟩

theorem post_true (l : OpenLaw) (args : List WData) : l.row.toRowW.claim.post args (.bool true) args = true :=
  postW_of (r := l.row.toRowW) (X := (true == true))
    (show WShape.has [] (.bool true) .bool = true by first | rfl | decide | simp [WShape.has, WShape.arms, WShape.armsAll])
    (show (WTm.eq .res (.lit (.bool true))).value [] { args := args, res := some (.bool true), after := args } = some (.bool (true == true)) from w_eq_bool (w_res rfl) w_lit) rfl

/-! ### the attachment: holds_open's last premise (the goal 'hc' behind k_head) from a wpAny of the law's body -/

/-- the same from a codeAny of the CALL (for a layer whose function contracts speak of calls) -/
theorem attach_call {l : OpenLaw} {n : Nat} {q : Program} {loose : List Str} {XP : (Str → Option Value) → Heap → Prop} {YP : World → Heap → Prop} {d : DefRec}
    (hn : l.most = some n) (hdf : d.params.defaults = [])
    (call : ∀ (w : World) (s₀ s₁ : Shared) (mg mb : Str → Option Value) (fa : Addr) (o : Obj) (pm cd doc : Value) (a : Addr) (vs : List Value) (ns : List Int),
      Ground q loose [] XP w s₀ mg mb s₁.heap → YP w s₁.heap →
      s₁.heap.get? fa = some o → o.data = .func (docDef d.name d.params d.body d.scope pm cd doc) → s₁.heap.CodeRec cd d.name → mg d.name = some (.ref fa) →
      s₁.heap.get? a = some { cls := .type "list", data := .seq vs.toArray } → IntsAre vs ns → ns.length ≤ n → s₁.gens = #[] →
      codeAny (model l.prog w) callerA (.call (.ref fa) ⟨[.ref a], []⟩) (fun r s' => r = .ok (.ret (.bool true)) ∧ OldK s₁.heap s'.heap ∧ s'.os = s₁.os ∧ AllBare s'.gens) s₁) :
    WalkO q loose XP YP l.row.toRowW d [] (fun f vs => PySem.call f vs) := by
  intro w s₀ s₁ mg mb G Y fa o pm cd doc dV kV ho hd hcd hD hmg hg args vals as hpre hlay hrd hwl hlo
  obtain rfl : dV = .none := Dflts.none hD hdf
  obtain rfl : kV = .none := Dflts.noKw hD
  obtain ⟨a, vs, ns, rfl, rfl, hobj, hints, hlen⟩ := script_of hn hpre hwl
  refine enter_call (codeAny_mono (call w s₀ s₁ mg mb fa o pm cd doc a vs ns G Y ho (fd_plain hd) hcd hmg hobj hints hlen hg) fun r s' hq => ?_)
  obtain ⟨rfl, h2, h3, h4⟩ := hq
  exact ⟨.inl ⟨.bool true, .bool true, [], rfl, fun _ => rfl, .bool true, post_true l _, fun _ => ⟨List.Pairwise.nil, fun _ hm => (nomatch hm)⟩⟩, h2, h3, h4⟩


/-! ### rules over ANY heap (no ledger) from facts about the written part K: the library's own take a ledger (News) for what they write -/
section
variable {prog : Program} {w : World} {A : Around} {E : Value → Shared → Prop} {s : Shared} {K : Frag}





/-! the whole heap as the ledger: makes every rule that writes through a ledger a rule over any heap -/

end
end Att

namespace L2
open PySem PySem.Spec PyProof.Rows

theorem vals_ints : ∀ {vs : List Value} {ns : List Int}, IntsAre vs ns → Vals (ns.map V.int) vs
  | _, _, .nil => .nil
  | _, _, .cons n t h => .cons ⟨t, rfl⟩ (vals_ints h)

/-- nothing is tracked but the script, known to the object (or it is an object of the module) -/
def Only (H : Hp) : Prop := ∀ b, H b = none ∨ ∃ o xs, H b = some (.frz o (.lst xs))

/-- THE HEAD: the law's promise, at the heap behind the top. F, the promise of the law's def, may use that base is part of the heap (so K.In base, base.Ns mainGlobals mg stand in Mod) -/
theorem law_call {P : Program} {w : World} {K : PySem.W.Frag} {mg mb : Str → Option Value} {CX : CXT} {k : Nat} {fa a : Addr} {fd : FuncData} {x : Str} {sp : Sp} {s₁ : Shared} {vs : List Value} {ns : List Int}
    (KX : K.In s₁.heap) (hns : s₁.heap.Ns mainGlobals mg) (hb : s₁.heap.Ns builtinsNs mb) (hbb : ∀ x : Str, x ≠ "__name__" → mb x = bootBuiltins x) (hlim : s₁.heap.NoLimit) (hg : s₁.gens = #[])
    (ha : s₁.heap.get? a = some { cls := .type "list", data := .seq vs.toArray }) (hi : IntsAre vs ns) (hl : ns.length ≤ sizeLine) (hr : Room k callerA)
    (F : ∀ base : Heap, K.In base → base.Ns mainGlobals mg → FnOk P w K mg base CX k fa fd [x] sp) (hbind : ∀ (s : Shared) (u : Value), BindsTo s fd ⟨[u], []⟩ [(x, u)])
    (hsp : ∀ H : Hp, Only H → SqL K H a (ns.map V.int) → sp [.ref a] H (fun v _ => v = .bl true) fun _ _ _ => False)
    (hCX : ∀ H e s', CX [] H s₁ (fun _ _ _ => False) e s' → False) :
    codeAny (model P w) callerA (.call (.ref fa) ⟨[.ref a], []⟩) (fun r s' => r = .ok (.ret (.bool true)) ∧ OldK s₁.heap s'.heap ∧ s'.os = s₁.os ∧ AllBare s'.gens) s₁ := by
  have rv := vals_ints hi
  have lenV := hi.length
  have core : ∀ H : Hp, Only H → SqL K H a (ns.map V.int) → HOk P w H s₁.heap → (∀ b, H b ≠ none → b = a) → (H a ≠ none → K.lookup a = none) →
      codeAny (model P w) callerA (.call (.ref fa) ⟨[.ref a], []⟩) (fun r s' => r = .ok (.ret (.bool true)) ∧ OldK s₁.heap s'.heap ∧ s'.os = s₁.os ∧ AllBare s'.gens) s₁ := by
    intro H hO hS hok hA hK
    have base_of : ∀ {b : Addr} {o : Obj}, s₁.heap.get? b = some o → H b = none → (hidT s₁.heap H).get? b = some o := fun e n => hidT_get e n
    have noA : ∀ {b : Addr} {o : Obj} {es : Array DictEntry} {ep : Nat}, s₁.heap.get? b = some o → o.data = .dict es ep → H b = none := fun {b o es ep} e d => by
      cases q : H b with
      | none => rfl
      | some u =>
        have e' : b = a := hA b (by rw [q]; simp)
        subst e'
        rw [ha] at e; cases e
        have d' : Data.seq vs.toArray _ = Data.dict es ep := d
        cases d'
    have nsK : ∀ {b : Addr} {m : Str → Option Value}, s₁.heap.Ns b m → (hidT s₁.heap H).Ns b m := fun {b m} ⟨o, es, ep, e, d, r⟩ => ⟨o, es, ep, base_of e (noA e d), d, r⟩
    have hKb : K.In (hidT s₁.heap H) := fun b o e => base_of (KX b o e) (by
      cases q : H b with
      | none => rfl
      | some u =>
        have e' : b = a := hA b (by rw [q]; simp)
        subst e'
        rw [hK (by rw [q]; simp)] at e; cases e)
    have hM : Mod K mg (hidT s₁.heap H) := ⟨hKb, nsK hns, ⟨mb, nsK hb, hbb⟩, let ⟨mc, h1, h2⟩ := hlim; ⟨mc, nsK h1, h2⟩⟩
    have e0 : Env0 P w K mg (hidT s₁.heap H) callerA [] s₁ H := ⟨rfl, hM, fun b o e => of_hidT e, Nat.le_of_eq (hidT_size _ _), trivial, fun b hb => absurd (show b ∈ ([] : List Addr) from hb) (by simp), hok, .of_eq hg⟩
    refine codeAny_mono ((F _ hKb (nsK hns)).run callerA [] s₁ H ⟨[.ref a], []⟩ [.ref a] [.ref a] _ _ hr e0 (hbind s₁ (.ref a)) (.cons rfl .nil) (hsp H hO hS)) fun r s' h => ?_
    cases r with
    | error e => exact (hCX H e s' h).elim
    | ok fl =>
      cases fl with
      | next => exact False.elim h
      | brk => exact False.elim h
      | cont => exact False.elim h
      | ret u =>
        obtain ⟨v, H', os, bare, un, hok', r', q⟩ := h
        have q' : v = .bl true := q
        subst q'
        obtain rfl : u = Value.bool true := r'
        refine ⟨rfl, OldK.of_keep fun b o e => ?_, os, bare⟩
        cases q : H b with
        | none => exact un.keep b o e q (by intro z; exact absurd (show b ∈ ([] : List Addr) from z) (by simp)) (by simp)
        | some u =>
          rcases hO b with z | ⟨ob, xs, z⟩
          · rw [q] at z; cases z
          · have z2 := un.frzs b ob _ z
            obtain ⟨e1, _⟩ := hok b _ z
            obtain ⟨e2, _⟩ := hok' b _ z2
            rw [e] at e1; cases e1
            exact e2
  cases hk : K.lookup a with
  | some o =>
    have e := KX a o hk
    rw [ha] at e
    cases e
    refine core (fun _ => none) (fun _ => .inl rfl) (.inr ⟨_, vs.toArray, _, hk, rfl, rfl, rfl, by rw [List.size_toArray, lenV]; exact hl, by simpa using rv⟩) (fun b u z => by have z' : (none : Option HO) = some u := z; cases z') (fun b z => absurd rfl z) fun z => absurd rfl z
  | none =>
    refine core (fun b => if b = a then some (.frz { cls := .type "list", data := .seq vs.toArray } (.lst (ns.map V.int))) else none) (fun b => ?_) (.inl (.inr ⟨{ cls := .type "list", data := .seq vs.toArray }, if_pos rfl⟩)) (fun b u z => ?_) (fun b z => ?_) fun _ => hk
    · by_cases hb : b = a
      · exact .inr ⟨_, _, if_pos hb⟩
      · exact .inl (if_neg hb)
    · by_cases hb : b = a
      · have z' := (if_pos hb).symm.trans z
        cases z'
        subst hb
        exact ⟨ha, by rw [List.length_map]; exact hl, vs, _, rv, ha⟩
      · have z' := (if_neg hb).symm.trans z
        cases z'
    · by_cases hb : b = a
      · exact hb
      · exact absurd (if_neg hb) z
end L2

namespace L2
open PySem PySem.Spec PyProof.Rows

abbrev KOf {K : PySem.W.Frag} {h : Heap} (_ : K.In h) : PySem.W.Frag := K

/-- the goal that k_head leaves (case hc), from the law's promise. F gives the function object fd (K's own) once, then the promise over every base -/
theorem walk_of {l : PySem.W.OpenLaw} {n k : Nat} {q : Program} {loose : List Str} {XP : (Str → Option Value) → Heap → Prop} {YP : World → Heap → Prop} {d : DefRec} {K : Params → PySem.W.Frag} {CX : World → CXT} {sp : World → Sp} {x : Str}
    (hn : l.most = some n) (hn2 : n ≤ sizeLine) (hdf : d.params.defaults = []) (hr : Room k callerA)
    (hY : ∀ (w : World) (h : Heap), YP w h → (K w.params).In h)
    (F : ∀ (w : World) (mg : Str → Option Value) (fa : Addr) (h : Heap), (K w.params).In h → h.Ns mainGlobals mg → mg d.name = some (.ref fa) →
      ∃ fd : FuncData, (∀ (s : Shared) (u : Value), BindsTo s fd ⟨[u], []⟩ [(x, u)]) ∧
        ∀ base : Heap, (K w.params).In base → base.Ns mainGlobals mg → FnOk l.prog w (K w.params) mg base (CX w) k fa fd [x] (sp w))
    (hsp : ∀ (w : World) (H : Hp) (a : Addr) (ns : List Int), ns.length ≤ n → Only H → SqL (K w.params) H a (ns.map V.int) → sp w [.ref a] H (fun v _ => v = .bl true) fun _ _ _ => False)
    (hCX : ∀ (w : World) (H : Hp) (s : Shared) (e : Value) (s' : Shared), CX w [] H s (fun _ _ _ => False) e s' → False) :
    PySem.W.WalkO q loose XP YP l.row.toRowW d [] (fun f vs => PySem.call f vs) := by
  refine Att.attach_call hn hdf fun w s₀ s₁ mg mb fa o pm cd doc a vs ns G Y ho hd hcd hmg hobj hints hlen hg => ?_
  have KX := hY w _ Y
  obtain ⟨fd, hb, hF⟩ := F w mg fa _ KX G.T.g hmg
  exact law_call KX G.T.g G.T.b G.T.builtins G.T.nolimit hg hobj hints (Nat.le_trans hlen hn2) hr hF hb (fun H hO hS => hsp w H a ns hlen hO hS) fun H e s' => hCX w H s₁ e s'
end L2

/- THE LAST THEOREM (shape; LID, My.* are yours):
   My.Adr: a structure of the addresses that your layer names (classes, functions); My.Txt K t: a structure (Prop) of the equations over K;
   My.txt_mk : {K} {implicit addresses ..} (e1 : nsIn K mainGlobals "law" = some (some (.ref f))) (e2 : K.lookup f = some ⟨oc, od, .func (fnOf "law" "law" params body scope dV kV doc pm an cdv ct), sl⟩) (e3 : codeIn K cdv "law" = true) .. : ∃ t, My.Txt K t

set_option maxRecDepth 100000 in
set_option maxHeartbeats 0 in
theorem PySem.Challenge.cw_LID_holds : PySem.Challenge.rw_LID.Holds := by
  w_on; o_law; k_head; (case hw => w_witness2)
  k_fill
  refine L2.walk_of (l := PySem.Challenge.rw_LID) (n := 63) (k := 40) (x := "script") (CX := fun w => ..) (sp := fun _ => My.sp_law) rfl (by decide) rfl ⟨rfl, by decide, by decide⟩ (fun w h Y => PySem.W.kIn_of Y) ?F ?S ?C
  case F =>
    intro w mg fa h KX G hmg
    have T : ∃ t, My.Txt (L2.KOf KX) t := by
      dsimp only [L2.KOf]                          -- K must stand as «<heap const> w.params» for k_is
      refine' My.txt_mk ?e1 ?e2 ?e3 ..
      (case e1 => PySem.W.k_is)                    -- in the order: a name -> its address -> its object -> its parts
      (case e2 => PySem.W.k_is)
      ..
    obtain ⟨t, T⟩ := T
    have e0 := hmg.symm.trans (PySem.W.mg_of KX G T.law)
    cases e0                                       -- fa is the law's own address
    exact ⟨_, fun s u => .of_eq rfl, fun base kb nb => My.law_fn T kb nb⟩     -- if «.of_eq rfl» comes too early: refine' ⟨_, ?b, fun base kb nb => My.law_fn T kb nb⟩; exact fun s u => .of_eq rfl
  case S => exact fun w H a ns hl hO hS => ..
  case C => exact ..
(the tactic k_is has no namespace: write k_is) -/

/-! SHORT WORDS over the layer: a def of the text, its body, what a loop and a test want. -/
namespace L2
open PySem PySem.Spec PyProof.Rows

/-! ### the text by places -/
def defArgs (s : Stmt) : Arguments := match s with
  | .FunctionDef _ a _ _ _ _ _ _ _ _ => a
  | _ => { posonlyargs := [], args := [], vararg := none, kwonlyargs := [], kw_defaults := [], kwarg := none, defaults := [] }
def defBody (s : Stmt) : List Stmt := match s with
  | .FunctionDef _ _ b _ _ _ _ _ _ _ => b
  | _ => []
def defScope (s : Stmt) : Scope := match s with
  | .FunctionDef _ _ _ _ _ _ sc _ _ _ => sc
  | _ => { kind := .function, names := [], isGenerator := false, isCoroutine := false }

/-! ### no exception leaves a def -/
abbrev CX0 : CXT := fun _ _ _ _ _ _ => False
abbrev E0 : XK := fun _ _ _ => False
theorem pass0 {X : Cx} : Passes CX0 X E0 := fun _ _ _ _ _ _ _ h => h.elim

/-! ### a def (or method) of the text as it stands behind the top -/
structure Fun (K : PySem.W.Frag) (x qual : Str) (st : Stmt) (f : Addr) (fd : FuncData) : Prop where
  ex : ∃ (oc : Value) (od : Option Addr) (kV doc pm : Value) (an : Option Addr) (cdv ct : Value) (osl : Array (Option Value)),
    fd = PySem.W.fnOf x qual (defArgs st) (defBody st) (defScope st) .none kV doc pm an cdv ct ∧ K.lookup f = some ⟨oc, od, .func fd, osl⟩ ∧ PySem.W.codeIn K cdv qual = true
  kp : PySem.W.keepIn K (.ref f) = true
section
variable {P : Program} {w : World} {K : PySem.W.Frag} {mg : Str → Option Value} {base : Heap}
/-- THE RULE for a def: its body as a term of rules, and the reading of that term -/
theorem Fun.ok {x qual : Str} {st : Stmt} {f : Addr} {fd : FuncData} {N ps : List Str} {k : Nat} {sp : Sp} (F : Fun K x qual st f fd) (S : FnScope N ps (defScope st)) (len : ∀ vs H Q E, sp vs H Q E → vs.length = ps.length)
    (hbody : ∀ (cdv : Value) (A : Around) (outer : List Env) (s : Shared) (H : Hp) (vs : List V) (Q : VK) (E : XK), Room k (A.deeper (envOfC qual (defScope st) s.heap.objs.size f cdv)) → sp vs H Q E →
      ∃ t, PSs (cxOf CX0 P w K mg base N qual (defScope st) f cdv A outer s H E).nox (defBody st) t ∧ t { nx := fun _ H' => Q .non H', rt := Q } (start N vs) H) : FnOk P w K mg base CX0 (k + 1) f fd ps sp := by
  obtain ⟨oc, od, kV, doc, pm, an, cdv, ct, osl, rfl, lk, hcd⟩ := F.ex
  refine fn_of lk hcd S len fun A outer s H vs Q E hr hsp => ?_
  obtain ⟨t, h, q⟩ := hbody cdv A outer s H vs Q E hr hsp
  exact ⟨t, h.nox, q⟩
/-- how its arguments bind (no defaults): h is «fun _ _ _ _ _ _ us hl => match us, hl with | [_, _], _ => rfl», one _ a parameter -/
theorem Fun.binds {x qual : Str} {st : Stmt} {f : Addr} {fd : FuncData} {ps : List Str} (F : Fun K x qual st f fd)
    (h : ∀ (kV doc pm : Value) (an : Option Addr) (cdv ct : Value) (us : List Value), us.length = ps.length → bindArgs (PySem.W.fnOf x qual (defArgs st) (defBody st) (defScope st) .none kV doc pm an cdv ct) ⟨us, []⟩ = pure (ps.zip us)) : Binds K fd ps [] := by
  obtain ⟨oc, od, kV, doc, pm, an, cdv, ct, osl, rfl, lk, hcd⟩ := F.ex
  exact .all (h kV doc pm an cdv ct)
theorem fun_mk {x qual : Str} {st : Stmt} {f : Addr} {oc : Value} {od an : Option Addr} {osl : Array (Option Value)} {kV doc pm cdv ct : Value} (l : K.lookup f = some ⟨oc, od, .func (PySem.W.fnOf x qual (defArgs st) (defBody st) (defScope st) .none kV doc pm an cdv ct), osl⟩)
    (c : PySem.W.codeIn K cdv qual = true) (k : PySem.W.keepIn K (.ref f) = true) : Fun K x qual st f (PySem.W.fnOf x qual (defArgs st) (defBody st) (defScope st) .none kV doc pm an cdv ct) := ⟨⟨oc, od, kV, doc, pm, an, cdv, ct, osl, rfl, l, c⟩, k⟩
end
theorem small1000 {n : Nat} (h : n ≤ 1000) : n < sizeLine := Nat.lt_of_le_of_lt h (by decide)

/-! ### expressions in short: the name that stands in the i-th slot -/
section
variable {X : Cx}
theorem pv (i : Nat) {x : Str} {pos : Pos} (hN : X.N[i]? = some x := by rfl) (hv : Vis X.env.scope x := by first | exact Or.inl rfl | exact Or.inr (Or.inl rfl) | exact Or.inr (Or.inr rfl)) (hd : (x == ("__debug__" : Str)) = false := by decide)
    (hcd : (x == ("__classdict__" : Str)) = false := by decide) : PE X (.Name x pos) (tVar i) := pe_var hN hv hd hcd
end

/-! ### tests -/
theorem iteF {A B : Prop} (h : B) : if false = true then A else B := by
  rw [if_neg Bool.false_ne_true]
  exact h
theorem iteT {A B : Prop} (h : A) : if true = true then A else B := by
  rw [if_pos rfl]
  exact h
theorem ite2 {c A B : Prop} [Decidable c] (h1 : c → A) (h2 : ¬ c → B) : if c then A else B := by
  by_cases h : c
  · rw [if_pos h]
    exact h1 h
  · rw [if_neg h]
    exact h2 h

/-! ### heaps -/
/-- all that was tracked is as it was -/
def Same (H H' : Hp) : Prop := ∀ b o, H b = some o → H' b = some o
theorem Same.refl (H : Hp) : Same H H := fun _ _ h => h
theorem Same.trans {H H1 H2 : Hp} (a : Same H H1) (b : Same H1 H2) : Same H H2 := fun c o h => b c o (a c o h)
theorem Same.free {H H' : Hp} (e : Same H H') {l : Addr} (h : H' l = Option.none) : H l = Option.none := by
  cases q : H l with
  | none => rfl
  | some o =>
    rw [e l o q] at h
    cases h
theorem Same.seq {K : PySem.W.Frag} {H H' : Hp} {a : Addr} {xs : List V} (e : Same H H') (h : SqL K H a xs) : SqL K H' a xs := by
  rcases h with (h | ⟨o, h⟩) | h
  · exact .inl (.inl (e _ _ h))
  · exact .inl (.inr ⟨o, e _ _ h⟩)
  · exact .inr h

end L2
set_option Elab.async false
set_option linter.all false
set_option maxRecDepth 100000
/-! MORE CALLS over the hand layer: sum, all, divmod, isinstance, o[i] op= e. -/
namespace L2
open PySem PySem.Spec PyProof.Rows

theorem noPylong_big {x y : Int} (h : y.natAbs < 2 ^ 300) : Builtin.divisionGoesByPylong x y = false := by
  refine PyProof.noPylong_of_log2 ?_
  by_cases h0 : y.natAbs = 0
  · rw [h0]; decide +kernel
  · have h30 : y.natAbs.log2 < 300 := (Nat.log2_lt h0).mpr h
    omega
/-- a divisor from 1 on, of at most sixty figures -/
def CDivB (_i j : Int) : Prop := 0 < j ∧ j < 2 ^ 300
section
variable {X : Cx} {a b : Expr} {ta tb : TE} {pos : Pos}
theorem op_fdivB : OpR X (binaryOp .FloorDiv) (rI CDivB fun i j => .int (i / j)) := opI fun i j _ _ _ _ _ hc q => by
  obtain ⟨h1, h2⟩ := hc
  refine floordiv_int (by omega) ?_ (.inl (noPylong_big (by omega)))
  rw [Int.fdiv_eq_ediv_of_nonneg i (by omega)]
  exact q
inductive cDm (xs : List V) (H : Hp) (Q : VK) : Prop
  | mk (i j : Int) (e : xs = [.int i, .int j]) (c : CDivB i j) (q : ∀ p, H p = none → Q (.ref p) (upd H p (.tup [.int (i / j), .int (i % j)]))) : cDm xs H Q
theorem call_divmodB : CallR X (.builtin "divmod") cDm := by
  intro pins s σ H xs us Q I r h
  obtain ⟨i, j, rfl, ⟨h1, h2⟩, q⟩ := h
  obtain ⟨u, w', rfl, ⟨t, rfl⟩, ⟨t', rfl⟩⟩ := vals2 r
  refine divmod_int (by omega) ?_ (.inl (noPylong_big (by omega)))
  rw [Int.fdiv_eq_ediv_of_nonneg i (by omega), Int.fmod_eq_emod_of_nonneg i (by omega)]
  have hn : H s.heap.objs.size = none := I.hok.fresh (Nat.le_refl _)
  refine ⟨.ref s.heap.objs.size, _, ?_, rfl, q _ hn⟩
  refine I.laid (fun b o e => Heap.get?_push_of_some _ e) (Nat.le_refl _) ⟨by simp only [List.length_cons, List.length_nil]; rw [sizeLine_eq]; decide, [.int (i / j) s.toks, .int (i % j) (s.toks + 1)], .cons ⟨_, rfl⟩ (.cons ⟨_, rfl⟩ .nil), ?_⟩
  exact ⟨_, Heap.get?_push_size s.heap rfl, rfl, 0, rfl⟩


theorem bools_at {bs : List Bool} {its : List Value} (rv : Vals (bs.map V.bl) its) {i : Nat} {v : Value} (e : its[i]? = some v) : v = .bool (bs.getD i true) := by
  have hl := rv.length
  rw [List.length_map] at hl
  have hi : i < its.length := (List.getElem?_eq_some_iff.mp e).1
  have hn : bs[i]? = some (bs[i]'(by omega)) := List.getElem?_eq_getElem (by omega)
  obtain ⟨u, hu, ru⟩ := rv.get (i := i) (x := V.bl (bs[i]'(by omega))) (by rw [List.getElem?_map, hn]; rfl)
  rw [e] at hu
  cases hu
  rw [List.getD_eq_getElem?_getD, hn]
  exact ru
theorem all_getD (bs : List Bool) : ((List.range bs.length).all fun i => bs.getD i true) = bs.all id := by
  rw [Bool.eq_iff_iff, List.all_eq_true, List.all_eq_true]
  constructor
  · intro h b hb
    obtain ⟨i, hi, e⟩ := List.getElem_of_mem hb
    have := h i (List.mem_range.mpr hi)
    rw [List.getD_eq_getElem?_getD, List.getElem?_eq_getElem hi, e] at this
    exact this
  · intro h i hi
    have hi' := List.mem_range.mp hi
    rw [List.getD_eq_getElem?_getD, List.getElem?_eq_getElem hi']
    exact h _ (List.getElem_mem hi')
theorem call_all_seq (hc : X.calm = true) : CallR X (.builtin "all") (fun xs H Q => ∃ (p : Addr) (bs : List Bool), xs = [.ref p] ∧ SqL X.K H p (bs.map V.bl) ∧ Q (.bl (bs.all id)) H) := by
  intro pins s σ H xs us Q I r h
  obtain ⟨p, bs, rfl, hq, q⟩ := h
  obtain ⟨u, rfl, rx⟩ := vals1 r
  cases rx
  have hh : X.A.in1.handled = none := I.ok.hd hc
  obtain ⟨its, rv, pl, hz⟩ := I.list hq
  have hp : p < s.heap.objs.size := by obtain ⟨o, e, _⟩ := pl.isList; exact Heap.lt_size e
  have hl := rv.length
  rw [List.length_map] at hl
  refine call_all_walk (wpAny_pyIter_list pl.isList ?_)
  refine ⟨s.heap.objs.size, [s.heap.objs.size, p], [s.heap.objs.size], _, _, _, fun i => bs.getD i true, rfl, Walks.list hh _ p (Nat.ne_of_lt hp) its.toArray, ⟨⟨_, Heap.get?_push_size _ rfl, rfl, rfl⟩, pl.isList.at fun o e => Heap.get?_push_of_some _ e⟩, ?_, ?_⟩
  · intro i v s' Q' E' e q'
    have e' : its[i]? = some v := by simpa using e
    rw [bools_at rv e']
    exact wpAny_pure q'
  · intro h' tk k
    have e : ((List.range its.toArray.size).all fun i => bs.getD i true) = bs.all id := by rw [List.size_toArray, ← hl]; exact all_getD bs
    rw [e]
    exact ⟨.bl (bs.all id), H, I.kept fun b ob e => k b ob (by simp; exact Nat.ne_of_lt (Heap.lt_size e)) (Heap.get?_push_of_some _ e), rfl, q⟩

/-! ### isinstance -/
inductive TyS (H : Hp) : V → Value → Prop
  | bl (y : Bool) : TyS H (.bl y) (.type "bool")
  | int (i : Int) : TyS H (.int i) (.type "int")
  | lst {a : Addr} {xs : List V} (ea : H a = some (.lst xs)) : TyS H (.ref a) (.type "list")
  | tup {a : Addr} {xs : List V} (ea : H a = some (.tup xs)) : TyS H (.ref a) (.type "tuple")
theorem ty_kit {pins : List (Addr × Obj)} {σ : St} {H : Hp} {s : Shared} {x : V} {u t : Value} (I : Inv X pins σ H s) (rx : RelV x u) (ty : TyS H x t) : ∃ Hx : Heap → Prop, PySem.W.KitX X.K u t Hx ∧ Hx s.heap ∧ u ≠ .builtin "__main__.__loader__#opaque" := by
  cases ty with
  | bl y => cases (show u = Value.bool y from rx); exact ⟨_, PySem.W.kitx_bool, True.intro, fun z => nomatch z⟩
  | int i => obtain ⟨t, q⟩ := (show ∃ t, u = Value.int i t from rx); cases q; exact ⟨_, PySem.W.kitx_int, True.intro, fun z => nomatch z⟩
  | @lst a xs ea =>
    cases (show u = Value.ref a from rx)
    obtain ⟨_, _, n, _, h1⟩ := (show ObjOk X.prog X.w H s.heap a (.lst xs) from I.hok a _ ea)
    exact ⟨_, PySem.W.kitx_list, ⟨_, h1, rfl⟩, fun z => nomatch z⟩
  | @tup a xs ea =>
    cases (show u = Value.ref a from rx)
    obtain ⟨_, _, _, p⟩ := (show ObjOk X.prog X.w H s.heap a (.tup xs) from I.hok a _ ea)
    obtain ⟨o, h1, h2, _⟩ := p
    exact ⟨_, PySem.W.kitx_tuple, ⟨o, h1, h2⟩, fun z => nomatch z⟩
theorem pe_ty {x : Str} {T : String} (hg : Gl X x) (hm : X.mg x = none) (hv : bootBuiltins x = some (.type T)) (hn : x ≠ "__name__" := by decide) (hd : (x == ("__debug__" : Str)) = false := by decide) : PE X (.Name x pos) (tC (.ty T)) := pe_bltn hg hm hv rfl hn hd

/-! ### o[i] by values -/
end

example (K : PySem.W.Frag) : PySem.W.kitOne K (.type "bool") (.type "int") = some true := by rfl
example (K : PySem.W.Frag) : PySem.W.kitOne K (.type "int") (.type "bool") = some false := by rfl
example (K : PySem.W.Frag) : PySem.W.kitAny K (.type "tuple") [.type "list", .type "tuple"] = some true := by rfl
example (K : PySem.W.Frag) : PySem.W.kitAny K (.type "str") [.type "list", .type "tuple"] = some false := by rfl
end L2
set_option Elab.async false
set_option linter.all false
set_option maxRecDepth 100000
/-! reversed(t) of a tuple, walked by a for. -/
namespace L2
open PySem PySem.Spec PyProof.Rows

namespace RF
end RF



section
variable {prog : Program} {w : World} {A : Around} {E : Value → Shared → Prop} {s : Shared}
end


section
variable {X : Cx} {tg : Expr}
end
end L2
set_option Elab.async false
set_option linter.all false
set_option maxRecDepth 100000
/-! LIST COMPREHENSIONS over the hand layer: one clause, a plain name, none or one test. -/
namespace L2
open PySem PySem.Spec PyProof.Rows

/-! ### the closure -/
def clStep (cells : List (Str × Addr)) (cs : List (Str × Addr)) (p : Str × NameKind) : List (Str × Addr) :=
  if (p.2 == NameKind.free) = true then (match cells.lookup p.1 with | some a => (p.1, a) :: cs | none => cs) else cs
def clOf (sc : Scope) (cells : List (Str × Addr)) : List (Str × Addr) := sc.names.foldl (clStep cells) []

theorem closure_eq {sc : Scope} {env : Env} (h : ∀ p ∈ sc.names, p.2 = .free → ∃ a, env.cells.lookup p.1 = some a) : closureFor sc env = pure (clOf sc env.cells) := by
  have key : ∀ (l : List (Str × NameKind)) (cs : List (Str × Addr)), (∀ p ∈ l, p.2 = .free → ∃ a, env.cells.lookup p.1 = some a) →
      (forIn l cs fun (x : Str × NameKind) (r : List (Str × Addr)) => match x with
        | (name, kind) => if (kind == NameKind.free) = true then (do let a ← cellOf env name; pure (ForInStep.yield ((name, a) :: r))) else (pure (ForInStep.yield r) : Sem (ForInStep (List (Str × Addr))))) = (pure (l.foldl (clStep env.cells) cs) : Sem (List (Str × Addr))) := by
    intro l
    induction l with
    | nil => intro cs _; rfl
    | cons p r ih =>
      intro cs hp
      obtain ⟨n, k⟩ := p
      rw [List.forIn_cons, List.foldl_cons]
      by_cases hk : (k == NameKind.free) = true
      · obtain ⟨a, ea⟩ := hp (n, k) List.mem_cons_self (by simpa using hk)
        have e1 : clStep env.cells cs (n, k) = (n, a) :: cs := by unfold clStep; rw [if_pos hk]; dsimp only; dsimp only at ea; rw [ea]
        rw [e1]
        dsimp only at ea ⊢
        rw [if_pos hk]
        unfold cellOf
        rw [ea]
        simp only [pure_bind]
        exact ih _ fun q hq => hp q (List.mem_cons_of_mem _ hq)
      · have e1 : clStep env.cells cs (n, k) = cs := by unfold clStep; rw [if_neg hk]
        rw [e1]
        dsimp only
        rw [if_neg hk]
        simp only [pure_bind]
        exact ih _ fun q hq => hp q (List.mem_cons_of_mem _ hq)
  unfold closureFor clOf
  rw [← key sc.names [] h]
  simp only [bind_pure]

theorem clOf_sub (sc : Scope) (cells : List (Str × Addr)) {y : Str} {c : Addr} : (clOf sc cells).lookup y = some c → cells.lookup y = some c := by
  have key : ∀ (l : List (Str × NameKind)) (cs : List (Str × Addr)), (∀ y c, cs.lookup y = some c → cells.lookup y = some c) → ∀ y c, (l.foldl (clStep cells) cs).lookup y = some c → cells.lookup y = some c := by
    intro l
    induction l with
    | nil => intro cs h; exact h
    | cons p r ih =>
      intro cs h
      rw [List.foldl_cons]
      refine ih _ ?_
      intro y c e
      unfold clStep at e
      split at e
      · split at e
        · rename_i a ea
          rw [List.lookup_cons] at e
          cases q : y == p.1 with
          | true =>
            rw [q] at e
            cases e
            rw [eq_of_beq q]; exact ea
          | false => rw [q] at e; exact h y c e
        · exact h y c e
      · exact h y c e
  exact key sc.names [] (fun _ _ h => by cases h) y c

theorem clOf_has (sc : Scope) (cells : List (Str × Addr)) (h : ∀ p ∈ sc.names, p.2 = .free → ∃ a, cells.lookup p.1 = some a) {y : Str} (hy : (y, NameKind.free) ∈ sc.names) : ∃ c, (clOf sc cells).lookup y = some c := by
  have mono : ∀ (l : List (Str × NameKind)) (cs : List (Str × Addr)), (∃ c, cs.lookup y = some c) → ∃ c, (l.foldl (clStep cells) cs).lookup y = some c := by
    intro l
    induction l with
    | nil => intro cs h; exact h
    | cons p r ih =>
      intro cs hc
      rw [List.foldl_cons]
      refine ih _ ?_
      unfold clStep
      split
      · split
        · rw [List.lookup_cons]
          cases q : y == p.1 with
          | true => exact ⟨_, rfl⟩
          | false => exact hc
        · exact hc
      · exact hc
  have key : ∀ (l : List (Str × NameKind)) (cs : List (Str × Addr)), (∀ p ∈ l, p.2 = .free → ∃ a, cells.lookup p.1 = some a) → (y, NameKind.free) ∈ l → ∃ c, (l.foldl (clStep cells) cs).lookup y = some c := by
    intro l
    induction l with
    | nil => intro cs _ hm; cases hm
    | cons p r ih =>
      intro cs hp hm
      rw [List.foldl_cons]
      rcases List.mem_cons.mp hm with e | hm
      · subst e
        obtain ⟨a, ea⟩ := hp (y, .free) List.mem_cons_self rfl
        refine mono r _ ⟨a, ?_⟩
        unfold clStep
        rw [if_pos (show (NameKind.free == NameKind.free) = true by decide)]
        dsimp only at ea ⊢
        rw [ea, List.lookup_cons, beq_self_eq_true]
      · exact ih _ (fun q hq => hp q (List.mem_cons_of_mem _ hq)) hm
  exact key sc.names [] h hy

/-! ### the block's context -/
def cxLC (X : Cx) (x : Str) (scope : Scope) (C : Addr) (fp : List Addr) (s : Shared) (H : Hp) : Cx where
  prog := X.prog
  w := X.w
  K := X.K
  mg := X.mg
  base := X.base
  A := X.A
  N := x :: X.N
  s₀ := s
  H₀ := H
  env := compEnvC scope (clOf scope X.env.cells) C X.env
  outer := X.stack
  stack := X.stack
  ex := fp
  fn := fun _ => false
  calm := X.calm
  pn := []
  xe := fun _ _ => False

/-- what a comprehension's scope must be -/
structure LcScope (X : Cx) (x : Str) (sc : Scope) : Prop where
  kind : sc.kind = .function
  nocell : ∀ p ∈ sc.names, p.2 ≠ .cell
  loc : sc.names.lookup x = some .local
  names : ∀ p ∈ sc.names, p.2 = .local → sc.names.lookup p.1 = some .local
  apart : ∀ y ∈ X.N, sc.names.lookup y ≠ some .local
  nd : X.N.Nodup
  free : ∀ p ∈ sc.names, p.2 = .free → X.env.kindOf p.1 = some .cell ∨ X.env.kindOf p.1 = some .free

section
variable {X : Cx} {pins : List (Addr × Obj)} {σ : St} {H : Hp} {s : Shared} {x : Str} {sc : Scope} {C : Addr} {fp : List Addr}

theorem relabel_look {env : Env} : ∀ {names : List (Str × NameKind)} {y : Str} {k : NameKind}, (names.map fun (n, k) => if (k == NameKind.free && env.scope.kind == .function && env.kindOf n == some .cell) then (n, NameKind.cell) else (n, k)).lookup y = some k →
    ∃ k', names.lookup y = some k' ∧ (k = k' ∨ (k' = .free ∧ k = .cell))
  | [], _, _, h => by simp at h
  | (n, k0) :: r, y, k, h => by
    have ih := @relabel_look env r y k
    have h : List.lookup y ((if (k0 == NameKind.free && env.scope.kind == .function && env.kindOf n == some .cell) = true then (n, NameKind.cell) else (n, k0)) :: (r.map _)) = some k := h
    cases hx : y == n with
    | true =>
      refine ⟨k0, by rw [List.lookup_cons, hx], ?_⟩
      by_cases hc : (k0 == NameKind.free && env.scope.kind == .function && env.kindOf n == some .cell) = true
      · rw [if_pos hc, List.lookup_cons, hx] at h
        cases h
        simp only [Bool.and_eq_true, beq_iff_eq] at hc
        exact .inr ⟨hc.1.1, rfl⟩
      · rw [if_neg hc, List.lookup_cons, hx] at h
        cases h
        exact .inl rfl
    | false =>
      by_cases hc : (k0 == NameKind.free && env.scope.kind == .function && env.kindOf n == some .cell) = true
      · rw [if_pos hc, List.lookup_cons, hx] at h
        rw [List.lookup_cons, hx]; exact ih h
      · rw [if_neg hc, List.lookup_cons, hx] at h
        rw [List.lookup_cons, hx]; exact ih h

theorem LcScope.cells (S : LcScope X x sc) (ok : X.Ok) : ∀ p ∈ sc.names, p.2 = .free → ∃ a, X.env.cells.lookup p.1 = some a := fun p hp e => ok.has p.1 (S.free p hp e)

theorem Inv.okLC (I : Inv X pins σ H s) (S : LcScope X x sc) (hC : s.heap.objs.size ≤ C) (hf : ∀ b ∈ fp, FpOk X pins H b) (hlt : ∀ b ∈ fp, b < s.heap.objs.size) : (cxLC X x sc C fp s H).Ok where
  mod := I.ok.mod
  kind := S.kind
  glob := I.ok.glob
  blt := I.ok.blt
  above := hC
  inj := fun y z c e1 e2 => I.ok.inj y z c (clOf_sub sc X.env.cells e1) (clOf_sub sc X.env.cells e2)
  has := fun y hy => by
    have hy' : (relabel sc X.env).names.lookup y = some .cell ∨ (relabel sc X.env).names.lookup y = some .free := hy
    have fr : sc.names.lookup y = some .free := by
      rcases hy' with h | h
      · obtain ⟨k', e, q⟩ := relabel_look h
        rcases q with q | ⟨q, _⟩
        · subst q; exact absurd rfl (S.nocell _ (PySem.mem_of_lookup e))
        · rw [e, q]
      · obtain ⟨k', e, q⟩ := relabel_look h
        rcases q with q | ⟨_, q⟩
        · rw [e, ← q]
        · cases q
    exact clOf_has sc X.env.cells (S.cells I.ok) (PySem.mem_of_lookup fr)
  cab := fun y c e => by cases (show false = true from e)
  hd := I.ok.hd
  frames := I.ok.frames
  stk := .inl rfl
  exf := fun b hb => ⟨Nat.ne_of_lt (Nat.lt_of_lt_of_le (hlt b hb) hC), fun y c e => (hf b hb).2.2.2.2.1 y c (clOf_sub sc X.env.cells e)⟩
  bs := I.bs
  bsz := Nat.le_trans I.ok.bsz I.sz
  noex := fun b o e hb => by
    rcases (hf b hb).2.2.2.1 with q | q
    · exact I.ok.noex b o e q
    · exact absurd (Nat.lt_of_lt_of_le (Heap.lt_size e) (Nat.le_trans I.ok.bsz q)) (Nat.lt_irrefl _)
  exfs := fun b hb z => by
    rcases List.mem_cons.mp (I.stkSub b z) with q | q
    · exact (hf b hb).2.1 q
    · exact (hf b hb).2.2.1 q
  funs := I.stack
  frf := I.stkFree

/-- the block begins: a new list at D, a new frame at C -/
theorem Inv.startLC {D : Addr} {h1 : Heap} {m : Str → Option Value} {tk : Nat} (I : Inv X pins σ H s) (S : LcScope X x sc) (hf : ∀ b ∈ fp, FpOk X pins H b) (hlt : ∀ b ∈ fp, b < s.heap.objs.size)
    (hD : D = s.heap.objs.size) (hC : s.heap.objs.size ≤ C) (hDC : C ≠ D) (hk : ∀ b o, s.heap.get? b = some o → h1.get? b = some o) (hn : h1.Ns C m) (hl : h1.get? D = some { cls := .type "list", data := .seq ([] : List Value).toArray 0 }) :
    Inv (cxLC X x sc C fp s H) [] (none :: σ) (upd H D (.lst [])) { s with heap := h1, toks := tk } := by
  have hDle : s.heap.objs.size ≤ D := by rw [hD]; exact Nat.le_refl _
  have cells : ∀ y c, (clOf sc X.env.cells).lookup y = some c → c < s.heap.objs.size := fun y c e => by
    obtain ⟨v, q⟩ := I.cell y c (clOf_sub sc X.env.cells e)
    exact q.lt
  refine ⟨I.okLC S hC hf hlt, rfl, I.bare, Un.laid hk hDle (I.hok.fresh hDle), ⟨m, hn, fun i y v e1 e2 e3 => ?_⟩, fun y c e => ?_, ?_, fun y c e => ?_, fun p hp => absurd (show p ∈ ([] : List (Addr × Obj)) from hp) (by simp), I.hok.laid hk hDle ⟨Nat.zero_le _, [], 0, .nil, hl⟩, ?_⟩
  · cases i with
    | zero => cases (show some (none : Option V) = some (some v) from e2)
    | succ j =>
      have e1' : X.N[j]? = some y := e1
      have e2' : σ[j]? = some (some v) := e2
      have e3' : Vis (relabel sc X.env) y := e3
      have ny : sc.names.lookup y ≠ some .local := S.apart y (List.mem_of_getElem? e1')
      have fr : sc.names.lookup y = some .free ∧ ((relabel sc X.env).names.lookup y = some .cell ∨ (relabel sc X.env).names.lookup y = some .free) := by
        rcases e3' with h | h | h
        · obtain ⟨k', e, q⟩ := relabel_look h
          rcases q with q | ⟨_, q⟩
          · subst q; exact absurd e ny
          · cases q
        · obtain ⟨k', e, q⟩ := relabel_look h
          rcases q with q | ⟨q, _⟩
          · subst q; exact absurd rfl (S.nocell _ (PySem.mem_of_lookup e))
          · exact ⟨by rw [e, q], .inl h⟩
        · obtain ⟨k', e, q⟩ := relabel_look h
          rcases q with q | ⟨_, q⟩
          · exact ⟨by rw [e, ← q], .inr h⟩
          · cases q
      have ok := S.free (y, .free) (PySem.mem_of_lookup fr.1) rfl
      obtain ⟨m0, hn0, hl0⟩ := I.loc
      obtain ⟨u, r, l⟩ := hl0 j y v e1' e2' (.inr ok)
      refine ⟨u, r, .inr ⟨fr.2, ?_⟩⟩
      rcases l with ⟨k, _⟩ | ⟨_, c, ec, z⟩
      · rcases ok with q | q <;> (rw [show X.env.kindOf y = some .local from k] at q; cases q)
      · obtain ⟨c', ec'⟩ := clOf_has sc X.env.cells (S.cells I.ok) (PySem.mem_of_lookup fr.1)
        have := clOf_sub sc X.env.cells ec'
        rw [ec] at this
        cases this
        obtain ⟨o, ho, hd⟩ := z
        exact ⟨c, ec', o, hk _ _ ho, hd⟩
  · obtain ⟨v, o, ho, hd⟩ := I.cell y c (clOf_sub sc X.env.cells e)
    exact ⟨v, o, hk _ _ ho, hd⟩
  · show upd H D (.lst []) C = none
    rw [upd_ne hDC]
    exact I.hok.fresh hC
  · show upd H D (.lst []) c = none
    rw [upd_ne (Nat.ne_of_lt (Nat.lt_of_lt_of_le (cells y c e) hDle))]
    exact I.freeC y c (clOf_sub sc X.env.cells e)
  · show (none :: σ).length = (x :: X.N).length
    rw [List.length_cons, List.length_cons, I.len]

/-- the frame C of a block let go: nothing of ours stands there -/
theorem Inv.butC {h' : Heap} (I : Inv X pins σ H s) (hs : Heap.SameBut C s.heap h') (hC : X.s₀.heap.objs.size ≤ C) (hn : H C = none) (hL : C ≠ X.env.locals) (hc : ∀ y c, X.env.cells.lookup y = some c → c ≠ C) (hp : ∀ p ∈ X.pn ++ pins, p.1 ≠ C) :
    Inv X pins σ H { s with heap := h' } := I.turned (t' := s.toks) (fun b o hb e => (hs.2 b hb).trans e) hn hL (.inr hC) hc hp

/-- the block is through: back in the context around it -/
theorem Inv.endLC {s2 : Shared} {H2 : Hp} {st : St} {pl : List (Addr × Obj)} (I : Inv X pins σ H s) (J : Inv (cxLC X x sc C fp s H) pl st H2 s2) (hf : ∀ b ∈ fp, FpOk X pins H b) : Inv X pins σ H2 s2 :=
  I.call' (ch := fp) J.os J.base J.hok J.bare fun b hb => ⟨(hf b hb).2.2.2.1, (hf b hb).2.1, (hf b hb).2.2.2.2.1, (hf b hb).2.2.2.2.2⟩
end

/-! ### the tests -/
def PTs (X : Cx) (ifs : List Expr) (t : TT) : Prop :=
  ∀ (pins : List (Addr × Obj)) (s : Shared) (σ : St) (H : Hp) (Q : Bool → Hp → Prop), Inv X pins σ H s → t σ H Q →
    wpAny (model X.prog X.w) X.A (forIn ifs true fun c r => if r = true then do let ok ← isTrue c X.env (eval c X.env); pure (ForInStep.yield ok) else pure (ForInStep.yield r)) (TP X pins σ Q) X.xe s
def tYes : TT := fun _ H Q => Q true H
theorem pts_nil {X : Cx} : PTs X [] tYes := fun _ _ _ H _ I h => wpAny_tests_nil ⟨H, I, h⟩

/-! ### the loop, the step ahead of the store kept -/
theorem compLoop_own {prog : Program} {w : World} {A : Around} {R : Result → Shared → Prop} {s : Shared} {elt target iter : Expr} {ifs : List Expr} {scope : Scope} {pos : Pos} {it acc : Value} {env : Env} (I : Nat → Shared → Prop)
    (turn : ∀ n s, I n s → wpAny (model prog w) A (pyNext it) (fun r s1 => match r with
      | none => R (.ok .next) s1
      | some v => wpAny (model prog w) A (letOwnedTupleGo target it v) (fun _ s1 => wpAny (model prog w) A (assign target env v) (fun _ s2 =>
          wpAny (model prog w) A (forIn ifs true fun c r => if r = true then do let ok ← isTrue c env (eval c env); pure (ForInStep.yield ok) else pure (ForInStep.yield r)) (fun ok s3 =>
            if ok = true then wpAny (model prog w) A (eval elt env) (fun x s4 =>
              wpAny (model prog w) A (call (.builtin "list.append") [acc, x]) (fun _ s5 => ∃ m, m < n ∧ I m s5) (fun _ _ => False) s4) (fun _ _ => False) s3
            else ∃ m, m < n ∧ I m s3) (fun _ _ => False) s2) (fun _ _ => False) s1) (fun _ _ => False) s1) (fun _ _ => False) s)
    (n : Nat) (h : I n s) :
    codeAny (model prog w) A (.compLoop (.ListComp elt [⟨target, iter, ifs, 0⟩] scope pos) 0 it acc env) R s := by
  refine codeAny_loop rfl I (fun n s hI => ?_) n h
  show wpAny _ A ((compTurn (.ListComp elt [⟨target, iter, ifs, 0⟩] scope pos) 0 it acc env).onRaise (fun x => do noteFrame x env; theTreesLotGoes x)) _ _ s
  refine wpAny_noted ?_
  rw [compTurn_list]
  refine wpAny_bind (wpAny_standAt (wpAny_bind (wpAny_mono (turn n s hI) (fun r s1 h1 => ?_) fun _ _ h' => h'.elim)))
  cases r with
  | none => exact wpAny_pure h1
  | some v =>
    refine wpAny_bind (wpAny_mono h1 (fun _ s1 h1 => ?_) fun _ _ h' => h'.elim)
    refine wpAny_bind (wpAny_mono h1 (fun _ s2 h2 => wpAny_bind (wpAny_mono h2 (fun ok s3 h3 => ?_) fun _ _ h' => h'.elim)) fun _ _ h' => h'.elim)
    cases ok with
    | false => exact wpAny_pure ⟨rfl, h3⟩
    | true =>
      exact wpAny_bind (wpAny_bind (wpAny_mono h3 (fun x s4 h4 => wpAny_bind (wpAny_mono h4 (fun _ s5 h5 => wpAny_pure (wpAny_pure ⟨rfl, h5⟩)) fun _ _ h' => h'.elim)) fun _ _ h' => h'.elim))

/-! ### the reading -/
/-- acc = []; for x in ..: if ..: acc.append(..), the list at D -/
def lcGo (tc : TT) (te : TE) (σ : St) (J : It) (D : Addr) (Fin : Hp → Prop) (H : Hp) : Prop :=
  ∃ W : Nat → Nat → List V → Hp → Prop, (∃ m, W 0 m [] (upd H D (.lst []))) ∧ ∀ i m ys H, W i m ys H → H D = some (.lst ys) ∧
    ((J.stop i H ∧ Fin H) ∨ (J.go i H ∧ ∀ x H', J.yld i H x H' → tc (some x :: σ) H' fun b H2 => if b = true then te (some x :: σ) H2 fun y H3 => H3 D = some (.lst ys) ∧ ys.length < sizeLine ∧ ∃ m', m' < m ∧ W (i + 1) m' (ys ++ [y]) (upd H3 D (.lst (ys ++ [y])))
      else ∃ m', m' < m ∧ W (i + 1) m' ys H2))
def tLC (wi : TI) (tc : TT) (te : TE) : TE := fun σ H Q => wi σ H fun J H1 => ∀ D, H1 D = none → lcGo tc te σ J D (fun H2 => Q (.ref D) H2) H1

section
variable {X : Cx} {x : Str} {sc : Scope} {elt iter : Expr} {ifs : List Expr} {px pos : Pos} {wi : TI} {tc : TT} {te : TE}
/-- from the iterator on -/
theorem lc_block {pins : List (Addr × Obj)} {σ : St} {H : Hp} {s : Shared} {it : Addr} {fp : List Addr} {tn : Nat → Heap → Prop} {J : It} {Fin : Addr → Hp → Prop} {RR : Value → Addr → Result → Shared → Prop} {E : Value → Shared → Prop}
    (hc : X.calm = true) (S : LcScope X x sc) (I : Inv X pins σ H s) (T : Turn X.prog X.w X.K (.Name x px) J fp it tn) (st : tn 0 s.heap) (hf : ∀ b ∈ fp, FpOk X pins H b)
    (ht : ∀ C s0 H0, PTs (cxLC X x sc C fp s0 H0) ifs tc) (he : ∀ C s0 H0, PE (cxLC X x sc C fp s0 H0) elt te) (q : ∀ D, H D = none → lcGo tc te σ J D (Fin D) H)
    (hR : ∀ D C H2 s2 m, s.heap.objs.size ≤ C → Inv X pins σ H2 s2 → H2 C = none → s2.heap.Ns C m → Fin D H2 → RR (.ref D) C (.ok .next) s2) :
    wpAny (model X.prog X.w) X.A (newList []) (fun acc s3 => wpAny (model X.prog X.w) X.A (newFunctionEnv sc X.env.globals (clOf sc X.env.cells) [] X.env.qual none .none (some X.env)) (fun cenv s4 =>
      codeAny (model X.prog X.w) X.A (.compStart (.ListComp elt [⟨.Name x px, iter, ifs, 0⟩] sc pos) 0 (.ref it) acc { cenv with scope := relabel sc X.env }) (RR acc cenv.locals) s4) E s3) E s := by
  have hlt : ∀ b ∈ fp, b < s.heap.objs.size := fun b hb => by
    obtain ⟨o, e, _⟩ := T.obj 0 _ st b hb
    exact Heap.lt_size e
  refine wpAny_newObj_type (wpAny_newFunctionEnv S.nocell (by intro y hy; simp at hy) (fun h1 hns1 hsb1 => ?_) S.kind)
  dsimp only at hns1 hsb1 ⊢
  generalize hH2 : s.heap.push { cls := .type "list", dict := none, data := .seq ([] : List Value).toArray } = G at hns1 hsb1 ⊢
  have hC : G.objs.size = s.heap.objs.size + 1 := by rw [← hH2, Heap.size_push]
  have hCle : s.heap.objs.size ≤ G.objs.size := by rw [hC]; exact Nat.le_succ _
  have hDC : G.objs.size ≠ s.heap.objs.size := by rw [hC]; exact Nat.succ_ne_self _
  have old : ∀ b o, s.heap.get? b = some o → h1.get? b = some o := fun b o e => hsb1.extBut b o (Nat.ne_of_lt (Nat.lt_of_lt_of_le (Heap.lt_size e) hCle)) (Heap.get?_push_of_some _ (hH2 ▸ Heap.get?_push_of_some _ e))
  have hacc : h1.get? s.heap.objs.size = some { cls := .type "list", data := .seq ([] : List Value).toArray 0 } := hsb1.extBut _ _ (Ne.symm hDC) (Heap.get?_push_of_some _ (hH2 ▸ Heap.get?_push_size _ rfl))
  have hDn : H s.heap.objs.size = none := I.hok.fresh (Nat.le_refl _)
  obtain ⟨W, ⟨m0, w0⟩, turn⟩ := q s.heap.objs.size hDn
  have st1 : tn 0 h1 := T.keep _ _ _ st fun b _ o e => old b o e
  have I1 := fun tk => I.startLC (tk := tk) S hf hlt rfl hCle hDC old hns1 hacc
  have fr1 : ∀ b ∈ fp, upd H s.heap.objs.size (.lst []) b = none := fun b hb => by rw [upd_ne (Nat.ne_of_lt (hlt b hb))]; exact (hf b hb).1
  have loop : ∀ s3 : Shared, s3 = { s with heap := h1, toks := s.toks + ([] : List (Str × Value)).length } →
      codeAny (model X.prog X.w) X.A (.compLoop (.ListComp elt [⟨.Name x px, iter, ifs, 0⟩] sc pos) 0 (.ref it) (.ref s.heap.objs.size) (compEnvC sc (clOf sc X.env.cells) G.objs.size X.env))
        (RR (.ref s.heap.objs.size) G.objs.size) s3 := by
    rintro s3 rfl
    have fpk : ∀ {H' : Hp}, (∀ b ∈ fp, H' b = none) → ∀ b ∈ fp, FpOk (cxLC X x sc G.objs.size fp s H) [] H' b := fun hn b hb =>
      ⟨hn b hb, Nat.ne_of_lt (Nat.lt_of_lt_of_le (hlt b hb) hCle), (I.okLC (C := G.objs.size) S hCle hf hlt).exfs b hb, .inl hb, fun y c e => (hf b hb).2.2.2.2.1 y c (clOf_sub sc X.env.cells e), fun p hp => absurd (show p ∈ ([] : List (Addr × Obj)) from hp) (by simp)⟩
    refine compLoop_own (fun n s' => ∃ i w ys H', Inv (cxLC X x sc G.objs.size fp s H) [] (w :: σ) H' s' ∧ tn i s'.heap ∧ (∀ b ∈ fp, H' b = none) ∧ W i n ys H') ?_ m0 ⟨0, none, [], _, I1 _, st1, fr1, w0⟩
    rintro n s3 ⟨i, v0, ys, H3, I3, st3, fr3, w3⟩
    obtain ⟨hD3, turn3⟩ := turn i n ys H3 w3
    rcases turn3 with ⟨stop, fin⟩ | ⟨go, step⟩
    · refine thn (T.done (cxLC X x sc G.objs.size fp s H) rfl rfl rfl hc i [] s3 _ H3 _ I3 (fpk fr3) st3 stop) fun r s4 ⟨hr, I4⟩ => ?_
      subst hr
      obtain ⟨m4, hn4, _⟩ := I4.loc
      exact hR _ _ H3 s4 m4 hCle (I.endLC I4 hf) I4.free hn4 fin
    · refine thn (T.item (cxLC X x sc G.objs.size fp s H) rfl rfl rfl hc i [] s3 _ H3 _ I3 (fpk fr3) st3 go) fun r s4 ⟨u, hr, h4⟩ => ?_
      subst hr
      refine thn h4 fun _ s5 ⟨y, H5, I5, r5, y5, st5, fr5⟩ => ?_
      have I5' := I5.pinned (fpk fr5) (T.obj _ _ st5)
      have hN : (x :: X.N).Nodup := List.nodup_cons.mpr ⟨fun hm => S.apart x hm S.loc, S.nd⟩
      have pg : PG (cxLC X x sc G.objs.size fp s H) (.Name x px) (gName 0) := pg_name hN rfl (.inl (lookup_relabel_local S.loc)) (.inr (lookup_relabel_local S.loc))
      refine thn (pg _ s5 _ H5 y u (fun σ6 H6 => σ6 = some y :: σ ∧ H6 = H5) I5' r5 ⟨rfl, rfl⟩) fun _ s6 ⟨σ6, H6, I6, e6, e6'⟩ => ?_
      subst e6; subst e6'
      refine thn (ht G.objs.size s H _ s6 _ H6 _ I6 (step y H6 y5)) fun ok s7 ⟨H7, I7, q7⟩ => ?_
      have again : ∀ {H8 : Hp} {s8 : Shared} {zs : List V}, Inv (cxLC X x sc G.objs.size fp s H) ([] ++ pinsAt fp s5.heap) (some y :: σ) H8 s8 → (∃ m', m' < n ∧ W (i + 1) m' zs H8) → ∃ m, m < n ∧ ∃ i w ys H', Inv (cxLC X x sc G.objs.size fp s H) [] (w :: σ) H' s8 ∧ tn i s8.heap ∧ (∀ b ∈ fp, H' b = none) ∧ W i m ys H' := fun {H8 s8 zs} I8 ⟨m', hm, w8⟩ => by
        refine ⟨m', hm, i + 1, some y, zs, H8, I8.unpinned, T.keep _ _ _ st5 fun b hb o e => (I8.pin (b, o) (List.mem_append_right _ (List.mem_append_right _ (mem_pinsAt hb e)))).1, fun b hb => ?_, w8⟩
        obtain ⟨o, e, d⟩ := T.obj _ _ st5 b hb
        exact (I8.pin (b, o) (List.mem_append_right _ (List.mem_append_right _ (mem_pinsAt hb e)))).2.1
      cases ok with
      | false =>
        rw [if_neg Bool.false_ne_true] at q7 ⊢
        exact again I7 q7
      | true =>
        rw [if_pos rfl] at q7 ⊢
        refine thn (he G.objs.size s H _ s7 _ H7 _ I7 q7) fun z s8 ⟨zv, H8, I8, r8, hD8, hz8, w8⟩ => ?_
        refine thn (mt_append _ s8 _ H8 (.ref s.heap.objs.size) [zv] (.ref s.heap.objs.size) [z] (fun _ H9 => ∃ m', m' < n ∧ W (i + 1) m' (ys ++ [zv]) H9) I8 rfl (.cons r8 .nil) ⟨_, ys, zv, rfl, rfl, hD8, hz8, w8⟩) fun _ s9 ⟨_, H9, I9, _, w9⟩ => ?_
        exact again I9 w9
  exact codeAny_compStart_list (loop _ rfl) (T.self X.A 0 _ _ _ st1 (loop _ rfl))

theorem pe_lc (hc : X.calm = true) (S : LcScope X x sc) (hi : PI X (.Name x px) iter wi) (ht : ∀ C fp s0 H0, PTs (cxLC X x sc C fp s0 H0) ifs tc) (he : ∀ C fp s0 H0, PE (cxLC X x sc C fp s0 H0) elt te)
    (hs : ∀ v, foldedSetIterable iter X.env v = pure v := by intro _; rfl) : PE X (.ListComp elt [⟨.Name x px, iter, ifs, 0⟩] sc pos) (tLC wi tc te) := by
  refine ⟨?_⟩
  intro pins s σ H Q I h
  rw [eval_ListComp]
  refine wpAny_comprehension_free (use := none) rfl hs (closure_eq (S.cells I.ok)) S.kind S.names (thn (hi pins s σ H _ I h) fun v s1 h1 => thn h1 fun itv s2 h2 => ?_)
  obtain ⟨it, fp, tn, J, H2, e, I2, T, st2, f2, q2⟩ := h2
  subst e
  refine lc_block (RR := fun acc C => compPost (model X.prog X.w) X.A X.xe none (EP X pins σ Q) acc C) (Fin := fun D H3 => Q (.ref D) H3) hc S I2 T st2 f2 (fun C s0 H0 => ht C fp s0 H0) (fun C s0 H0 => he C fp s0 H0) q2 ?_
  intro D C H3 s3 m hC I3 hn hN q3
  refine ⟨m, hN, fun h' hs' => ⟨.ref D, H3, I3.butC hs' (Nat.le_trans I2.sz hC) hn (Nat.ne_of_gt (Nat.lt_of_lt_of_le I2.lt hC)) (fun y c e => ?_) (fun p hp => ?_), rfl, q3⟩⟩
  · obtain ⟨v, z⟩ := I2.cell y c e
    exact Nat.ne_of_lt (Nat.lt_of_lt_of_le z.lt hC)
  · exact Nat.ne_of_lt (Nat.lt_of_lt_of_le (Heap.lt_size (I2.pin p hp).1) hC)

/-- name = [.. for ..]: the name is stored ahead of the block's names' going -/
theorem ps_setLC {i : Nat} {y : Str} {py spos : Pos} (hc : X.calm = true) (hi' : X.N[i]? = some y) (hy : X.env.scope.names.lookup y = some .local) (S : LcScope X x sc) (hi : PI X (.Name x px) iter wi) (ht : ∀ C fp s0 H0, PTs (cxLC X x sc C fp s0 H0) ifs tc) (he : ∀ C fp s0 H0, PE (cxLC X x sc C fp s0 H0) elt te)
    (hsw : swapsWith (.ListComp elt [⟨.Name x px, iter, ifs, 0⟩] sc pos) (some (.Name y py)) spos.line X.env = pure true := by rfl) (hs : ∀ v, foldedSetIterable iter X.env v = pure v := by intro _; rfl) :
    PS X (.Assign [.Name y py] (.ListComp elt [⟨.Name x px, iter, ifs, 0⟩] sc pos) spos) (tAsg (tLC wi tc te) (gName i)) := by
  refine ⟨?_⟩
  intro pins s σ H Dn I h
  rw [exec_Assign_Name_used _ _ _ _ hsw]
  refine wpAny_bind (wpAny_standAt (wpAny_bind ?_))
  show wpAny _ X.A (do let _ ← comprehension (.ListComp elt [⟨.Name x px, iter, ifs, 0⟩] sc pos) sc X.env _ (newList []) false (eval iter X.env) (some (assign (.Name y py) X.env))) _ _ s
  refine wpAny_bind (wpAny_mono (wpAny_comprehension_free (use := some (assign (.Name y py) X.env)) (Q := fun _ s' => SP X pins Dn .next s') rfl hs (closure_eq (S.cells I.ok)) S.kind S.names
    (thn (hi pins s σ H _ I h) fun v s1 h1 => thn h1 fun itv s2 h2 => ?_)) (fun _ s' hq => wpAny_pure (wpAny_pure hq)) fun _ _ e => e)
  obtain ⟨it, fp, tn, J, H2, e, I2, T, st2, f2, q2⟩ := h2
  subst e
  refine lc_block (RR := fun acc C => compPost (model X.prog X.w) X.A X.xe (some (assign (.Name y py) X.env)) (fun _ s' => SP X pins Dn .next s') acc C) (Fin := fun D H3 => gName i (.ref D) σ H3 Dn.nx) hc S I2 T st2 f2 (fun C s0 H0 => ht C fp s0 H0) (fun C s0 H0 => he C fp s0 H0) q2 ?_
  intro D C H3 s3 m hC I3 hn hN q3
  show wpAny _ _ (assign (.Name y py) X.env (.ref D)) _ _ s3
  have cne : ∀ y c, X.env.cells.lookup y = some c → c ≠ C := fun y c e => by
    obtain ⟨v, z⟩ := I2.cell y c e
    exact Nat.ne_of_lt (Nat.lt_of_lt_of_le z.lt hC)
  refine wpAny_assign_Name (store_ok2 I3 S.nd hi' (.inl hy) (show RelV (.ref D) (.ref D) from rfl) (fun s4 I4 ⟨a, hs4, ha⟩ => ?_) (.inr hy))
  have haC : C ≠ a := by
    rcases ha with e | e
    · rw [e]; exact Nat.ne_of_gt (Nat.lt_of_lt_of_le I2.lt hC)
    · exact Ne.symm (cne y a e)
  refine ⟨m, hN.sameBut hs4 haC, fun h' hs' => ⟨_, H3, I4.butC hs' (Nat.le_trans I2.sz hC) hn (Nat.ne_of_gt (Nat.lt_of_lt_of_le I2.lt hC)) cne (fun p hp => ?_), q3⟩⟩
  exact Nat.ne_of_lt (Nat.lt_of_lt_of_le (Heap.lt_size (I2.pin p hp).1) hC)
end

/-! ### the forms one uses -/
end L2
set_option Elab.async false
set_option linter.all false
set_option maxRecDepth 100000
set_option Elab.async false
set_option linter.all false
set_option maxRecDepth 100000
namespace L2
open PySem PySem.Spec PyProof.Rows
/-! ### defs of the text, and what they promise -/
structure Fn (K : PySem.W.Frag) (mg : Str → Option Value) (x : Str) (st : Stmt) (ps : List Str) (f : Addr) (fd : FuncData) : Prop where
  fn : Fun K x x st f fd
  m : mg x = some (.ref f)
  b : Binds K fd ps []
def Can (P : Program) (w : World) (K : PySem.W.Frag) (mg : Str → Option Value) (base : Heap) (k : Nat) (x : Str) (ps : List Str) (sp : Sp) : Prop :=
  ∃ f fd, FnOk P w K mg base CX0 k f fd ps sp ∧ mg x = some (.ref f) ∧ PySem.W.keepIn K (.ref f) = true ∧ Binds K fd ps []
section
variable {P : Program} {w : World} {K : PySem.W.Frag} {mg : Str → Option Value} {base : Heap}
theorem fn_can {x : Str} {st : Stmt} {N ps : List Str} {k : Nat} {sp : Sp} (h : ∃ f fd, Fn K mg x st ps f fd) (S : FnScope N ps (defScope st)) (len : ∀ vs H Q E, sp vs H Q E → vs.length = ps.length)
    (hbody : ∀ (f : Addr) (cdv : Value) (A : Around) (outer : List Env) (s : Shared) (H : Hp) (vs : List V) (Q : VK) (E : XK), Room k (A.deeper (envOfC x (defScope st) s.heap.objs.size f cdv)) → sp vs H Q E →
      ∃ t, PSs (cxOf CX0 P w K mg base N x (defScope st) f cdv A outer s H E).nox (defBody st) t ∧ t { nx := fun _ H' => Q .non H', rt := Q } (start N vs) H) : Can P w K mg base (k + 1) x ps sp := by
  obtain ⟨f, fd, F⟩ := h
  exact ⟨f, fd, F.fn.ok S len fun cdv A outer s H vs Q E hr h => hbody f cdv A outer s H vs Q E hr h, F.m, F.fn.kp, F.b⟩
end
section
variable {X : Cx} {k k' : Nat} {x m : Str} {ps : List Str} {sp : Sp} {p pos apos : Pos} {e o : Expr} {es : List Expr} {ta : TE} {t : TA} {C : Addr}
theorem pe_can (h : Can X.prog X.w X.K X.mg X.base k x ps sp) (hr : Room k' X.A) (ha : PA X (e :: es) t) (hg : Gl X x := by rfl) (hk : k ≤ k' := by decide) (hdb : (x == ("__debug__" : Str)) = false := by decide)
    (hs : starEach (e :: es) X.env = (false, eval e X.env) :: starEach es X.env := by rfl) (hpl : (backTo pos (starEach es X.env)).any (·.1) = false := by rfl) : PE X (.Call (.Name x p) (e :: es) [] pos) (tCall sp [] E0 t) := by
  obtain ⟨f, fd, F, hm, kp, b⟩ := h
  exact pe_call F (hr.mono hk) hg hm kp b .nil pass0 ha hdb hs hpl
theorem pe_gi {n : Int} (h : ∃ t, X.mg x = some (.int n t)) (hg : Gl X x := by rfl) (hd : (x == ("__debug__" : Str)) = false := by decide) : PE X (.Name x pos) (tC (.int n)) := by
  obtain ⟨t, h⟩ := h
  exact pe_glob hg h ⟨t, rfl⟩ hd
/-- T-names, builtins in short -/
theorem pe_b {id : String} {r : List V → Hp → VK → Prop} (hc : CallR X (.builtin id) r) (hm : X.mg x = none) (hv : bootBuiltins x = some (.builtin id)) (ha : PA X (e :: es) t) (hg : Gl X x := by rfl) (hn : x ≠ "__name__" := by decide) (hdb : (x == ("__debug__" : Str)) = false := by decide)
    (he : starEach (e :: es) X.env = (false, eval e X.env) :: starEach es X.env := by rfl) (hpl : (backTo pos (starEach es X.env)).any (·.1) = false := by rfl) : PE X (.Call (.Name x p) (e :: es) [] pos) (tCB r t) := pe_callB hc hg hm hv ha hn hdb he hpl
theorem pe_t {T : String} {r : List V → Hp → VK → Prop} (hc : CallR X (.type T) r) (hm : X.mg x = none) (hv : bootBuiltins x = some (.type T)) (ha : PA X (e :: es) t) (hg : Gl X x := by rfl) (hn : x ≠ "__name__" := by decide) (hdb : (x == ("__debug__" : Str)) = false := by decide)
    (he : starEach (e :: es) X.env = (false, eval e X.env) :: starEach es X.env := by rfl) (hpl : (backTo pos (starEach es X.env)).any (·.1) = false := by rfl) : PE X (.Call (.Name x p) (e :: es) [] pos) (tCB r t) := pe_callTy hc hg hm hv ha hn hdb he hpl
theorem pa1 {a : Expr} {ta : TE} (ha : PE X a ta) (hs : starEach [a] X.env = (false, eval a X.env) :: starEach [] X.env := by rfl) : PA X [a] (tCons ta tNil) := pa_cons ha pa_nil hs
theorem pa2 {a b : Expr} {ta tb : TE} (ha : PE X a ta) (hb : PE X b tb) (hs : starEach [a, b] X.env = (false, eval a X.env) :: starEach [b] X.env := by rfl) (hs2 : starEach [b] X.env = (false, eval b X.env) :: starEach [] X.env := by rfl) : PA X [a, b] (tCons ta (tCons tb tNil)) := pa_cons ha (pa_cons hb pa_nil hs2) hs
theorem pa3 {a b c : Expr} {ta tb tc : TE} (ha : PE X a ta) (hb : PE X b tb) (hc : PE X c tc) (hs : starEach [a, b, c] X.env = (false, eval a X.env) :: starEach [b, c] X.env := by rfl) (hs1 : starEach [b, c] X.env = (false, eval b X.env) :: starEach [c] X.env := by rfl) (hs2 : starEach [c] X.env = (false, eval c X.env) :: starEach [] X.env := by rfl) : PA X [a, b, c] (tCons ta (tCons tb (tCons tc tNil))) := pa_cons ha (pa_cons hb (pa_cons hc pa_nil hs2) hs1) hs
end
/-- all that was tracked but p is as it was -/
def But (p : Addr) (H H' : Hp) : Prop := ∀ b o, H b = some o → b ≠ p → H' b = some o
theorem But.trans {p : Addr} {H H1 H2 : Hp} (a : But p H H1) (b : But p H1 H2) : But p H H2 := fun c o h n => b c o (a c o h n) n
theorem Same.but {p : Addr} {H H' : Hp} (a : Same H H') : But p H H' := fun b o h _ => a b o h
theorem Same.upd {H : Hp} {p : Addr} {o : HO} (h : H p = none) : Same H (upd H p o) := fun b u e => by rw [upd_ne (ne_of_none e h)]; exact e
end L2
set_option Elab.async false
set_option linter.all false
set_option maxRecDepth 100000
namespace L2
open PySem PySem.Spec PyProof.Rows
theorem ul1 : ∀ {us : List Value}, us.length = 1 → ∃ a, us = [a]
  | [a], _ => ⟨a, rfl⟩
theorem ul2 {us : List Value} (h : us.length = 2) : ∃ a b, us = [a, b] := by
  cases us with
  | nil => cases h
  | cons a r => obtain ⟨b, rfl⟩ := ul1 (Nat.succ.inj h); exact ⟨a, b, rfl⟩
theorem ul3 {us : List Value} (h : us.length = 3) : ∃ a b c, us = [a, b, c] := by
  cases us with
  | nil => cases h
  | cons a r => obtain ⟨b, c, rfl⟩ := ul2 (Nat.succ.inj h); exact ⟨a, b, c, rfl⟩
section
variable {K : PySem.W.Frag} {x qual p q r s t u : Str} {st : Stmt} {g : Addr} {fd : FuncData}
abbrev fnQ (x qual : Str) (st : Stmt) (kV doc pm : Value) (an : Option Addr) (cdv ct : Value) : FuncData := PySem.W.fnOf x qual (defArgs st) (defBody st) (defScope st) .none kV doc pm an cdv ct
theorem Fun.b1 (F : Fun K x qual st g fd) (h : ∀ kV doc pm an cdv ct a, bindArgs (fnQ x qual st kV doc pm an cdv ct) ⟨[a], []⟩ = pure [(p, a)]) : Binds K fd [p] [] := F.binds fun kV doc pm an cdv ct us hl => by
  obtain ⟨a, rfl⟩ := ul1 hl
  exact h kV doc pm an cdv ct a
theorem Fun.b2 (F : Fun K x qual st g fd) (h : ∀ kV doc pm an cdv ct a b, bindArgs (fnQ x qual st kV doc pm an cdv ct) ⟨[a, b], []⟩ = pure [(p, a), (q, b)]) : Binds K fd [p, q] [] := F.binds fun kV doc pm an cdv ct us hl => by
  obtain ⟨a, b, rfl⟩ := ul2 hl
  exact h kV doc pm an cdv ct a b
theorem Fun.b3 (F : Fun K x qual st g fd) (h : ∀ kV doc pm an cdv ct a b c, bindArgs (fnQ x qual st kV doc pm an cdv ct) ⟨[a, b, c], []⟩ = pure [(p, a), (q, b), (r, c)]) : Binds K fd [p, q, r] [] := F.binds fun kV doc pm an cdv ct us hl => by
  obtain ⟨a, b, c, rfl⟩ := ul3 hl
  exact h kV doc pm an cdv ct a b c
end
end L2
set_option Elab.async false
set_option linter.all false
set_option maxRecDepth 100000
/-! errors of own classes: raise, and how they pass through defs -/
namespace L2
open PySem PySem.Spec PyProof.Rows
section
variable {P : Program} {w : World} {H H' : Hp} {h h' : Heap} {a : Addr} {o : HO}
theorem ObjOk.there (x : ObjOk P w H h a o) : ∃ ob, h.get? a = some ob := by
  cases o with
  | lst xs => obtain ⟨_, _, _, _, e⟩ := x; exact ⟨_, e⟩
  | tup xs => obtain ⟨_, _, _, ob, e, _⟩ := x; exact ⟨_, e⟩
  | dK kvs => obtain ⟨_, _, _, _, o, _, _, e, _⟩ := x; exact ⟨_, e⟩
  | dT kvs => obtain ⟨_, _, _, _, o, _, _, e, _⟩ := x; exact ⟨_, e⟩
  | set S n => obtain ⟨o, _, _, _, e, _⟩ := x; exact ⟨_, e⟩
  | ins C dx fs => obtain ⟨_, _, _, e, _⟩ := x; exact ⟨_, e⟩
  | own y => exact x
  | xd fs => obtain ⟨_, ⟨_, _, _, e, _⟩, _⟩ := x; exact ⟨_, e⟩
  | rng lo hi => obtain ⟨_, _, _, e⟩ := x; exact ⟨_, e⟩
  | frz ob u => obtain ⟨e, _⟩ := x; exact ⟨_, e⟩
  | tbl ps => exact ⟨_, x⟩
  | met f y => exact ⟨_, x⟩
  | ext φ => obtain ⟨_, ⟨_, e⟩, _⟩ := x; exact ⟨_, e⟩
theorem HOk.none (x : HOk P w H h) (e : h.get? a = .none) : H a = .none := by
  cases q : H a with
  | none => rfl
  | some u => obtain ⟨_, e'⟩ := (x a u q).there; rw [e] at e'; cases e'
theorem funs_un {base : Heap} {fs : List Addr} (u : Un fs [] H H' h h') : ∀ {l : List Env}, (∀ b ∈ frs l, b ∈ fs ∧ H b = .none) → h.FunFrames base l → h'.FunFrames base l
  | [], _, _ => trivial
  | env :: r, hs, hl => by
    obtain ⟨hk, ⟨L, o, hf, hn, ho, hd⟩, hr⟩ := hl
    have hL := hs L (by unfold frs; rw [List.filterMap_cons, hf]; exact List.mem_cons_self)
    obtain ⟨sl, e⟩ := u.slot L o ho hL.2 hL.1 (by simp)
    exact ⟨hk, ⟨L, _, hf, hn, e, hd⟩, funs_un u (fun b hb => hs b (by unfold frs; rw [List.filterMap_cons, hf]; exact List.mem_cons_of_mem _ hb)) hr⟩
end
/-- how an error's record stands: new, or with its traceback; g: the heap ahead of it -/
inductive XRec (g h : Heap) (H' : Hp) (a : Addr) (cls : Value) : Bool → Prop
  | new (oe : Obj) (vs : Array Value) (he : h.get? a = some oe) (hc : oe.cls = cls) (hd : oe.data = .fields vs) (hdi : oe.dict = none) (hn : H' a = none) (hg : g.get? a = none) (h1 : vs[1]? = some .none) : XRec g h H' a cls true
  | old (oe : Obj) (vs : Array Value) (he : h.get? a = some oe) (hc : oe.cls = cls) (hd : oe.data = .fields vs) (hdi : oe.dict = none) (hn : H' a = none) (hg : g.get? a = none) (T : Addr) (oT : Obj) (ts : Array Value) (h1 : vs[1]? = some (.ref T)) (ht : T ≠ a) (hT : h.get? T = some oT)
      (hdT : oT.data = .fields ts) (h3 : ts[3]? = some .none) (hnT : H' T = none) (hgT : g.get? T = none) : XRec g h H' a cls false
  | fl (oe : Obj) (vs : Array Value) (he : h.get? a = some oe) (hc : oe.cls = cls) (hd : oe.data = .fields vs) (hdi : oe.dict = none) (hn : H' a = none) (hg : g.get? a = none) (T : Addr) (oT : Obj) (ts : Array Value) (h1 : vs[1]? = some (.ref T)) (ht : T ≠ a) (hT : h.get? T = some oT)
      (hdT : oT.data = .fields ts) (f : Addr) (h3 : ts[3]? = some (rawInt f)) (hnT : H' T = none) (hgT : g.get? T = none) : XRec g h H' a cls true
theorem XRec.base {g h : Heap} {H' : Hp} {a : Addr} {cls : Value} {b : Bool} (x : XRec g h H' a cls b) : H' a = none ∧ g.get? a = none := by
  cases x with
  | new oe vs he hc hd hdi hn hg => exact ⟨hn, hg⟩
  | old oe vs he hc hd hdi hn hg => exact ⟨hn, hg⟩
  | fl oe vs he hc hd hdi hn hg => exact ⟨hn, hg⟩
structure EX (P : Program) (w : World) (st : List Env) (H : Hp) (s : Shared) (new : Bool) (cls : Value) (a : Addr) (H' : Hp) (s' : Shared) : Prop where
  os : s'.os = s.os
  bare : AllBare s'.gens
  un : Un (frs st) [] H H' s.heap s'.heap
  hok : HOk P w H' s'.heap
  rc : XRec s.heap s'.heap H' a cls new
def CX1 (P : Program) (w : World) : CXT := fun outer H s E e s' => ∃ a cls H', e = .ref a ∧ EX P w outer H s false cls a H' s' ∧ E cls none H'
section
variable {X : Cx} {pins : List (Addr × Obj)} {σ : St} {H H' : Hp} {s s₁ : Shared} {cls : Value} {a : Addr} {new : Bool}
/-- behind an error, in the same def -/
theorem EX.inv (I : Inv X pins σ H s) (x : EX X.prog X.w X.stack H s new cls a H' s₁) : Inv X pins σ H' s₁ := I.call' x.os x.un x.hok x.bare fun b hb => by simp at hb
/-- what a frame's note leaves -/
structure Noted (fs : List Addr) (e : Addr) (oe : Obj) (L : Addr) (h h₃ : Heap) : Prop where
  stay : ∀ b o, b ∉ fs → b ≠ e → h.get? b = some o → h₃.get? b = some o
  slot : ∀ b ∈ fs, ∀ o, h.get? b = some o → ∃ sl, h₃.get? b = some { o with slots := sl }
  tr : ∃ T oT ts, h.objs.size ≤ T ∧ h₃.get? e = some (oe.mapFields fun z => z.setIfInBounds 1 (.ref T)) ∧ h₃.get? T = some oT ∧ oT.data = .fields ts ∧ ts[3]? = some (rawInt L)
theorem x_entry {M : Model} {A : Around} {E : Value → Shared → Prop} {s : Shared} {base : Heap} {env : Env} {outer : List Env} {L e : Addr} {oe : Obj} {vs : Array Value} {head : Value} {hadNext : Bool} {Q : Unit → Shared → Prop}
    (hfr : A.frames = some (env :: outer)) (hl : s.heap.FunFrames base (env :: outer)) (hf : env.frame = some L) (he : s.heap.get? e = some oe) (hd : oe.data = .fields vs) (hsz : 1 < vs.size) (h : ∀ h₃, Noted (frs (env :: outer)) e oe L s.heap h₃ → Q () { s with heap := h₃ }) :
    wpAny M A (do let a ← frameOf env; let pl ← entryPlaceOf L hadNext; let b ← EntryCells.newEntry head a .none (rawInt L) .none pl; setField (.ref e) 1 b) Q E s := by
  have hene : e ∉ frs (env :: outer) := fun hm => by
    obtain ⟨_, o, ho, hnf⟩ := hl.mem hm
    rw [he] at ho; cases ho; exact hnf vs hd
  refine wpAny_bind (wpAny_frameOf_fun hfr hl hf fun h₁ hs₁ => wpAny_bind (wpAny_entryPlaceOf fun pl hpl => ?_))
  unfold EntryCells.newEntry newFields
  refine wpAny_bind (wpAny_newObj_type ?_ (hpl.sizeOk5 _ _ _ _ _))
  generalize htb : ({ cls := .type "traceback", dict := none, data := .fields ([head, .ref L, .none, rawInt L, .none] ++ (if pl.isEmpty then List.replicate 6 Value.none else pl)).toArray } : Obj) = tb
  have he₁ : h₁.get? e = some oe := (hs₁.2.1 e hene).trans he
  have he₂ : (h₁.push tb).get? e = some oe := Heap.get?_push_of_some _ he₁
  have nTe : h₁.objs.size ≠ e := Nat.ne_of_gt (Heap.lt_size he₁)
  have dtb : tb.data = .fields ([head, .ref L, .none, rawInt L, .none] ++ (if pl.isEmpty then List.replicate 6 Value.none else pl)).toArray := by rw [← htb]
  have htbf : tb.isFreed = false := Obj.isFreed_of_fields dtb
  have hd₃ := Obj.data_mapFields hd fun z => z.setIfInBounds 1 (Value.ref h₁.objs.size)
  have he₃ := Heap.get?_update_self (Obj.mapFields fun z => z.setIfInBounds 1 (Value.ref h₁.objs.size)) he₂ (Obj.isFreed_of_fields hd₃)
  have hT₃ := (Heap.get?_update_other (h₁.push tb) (Obj.mapFields fun z => z.setIfInBounds 1 (Value.ref h₁.objs.size)) (Ne.symm nTe)).trans (Heap.get?_push_size h₁ htbf)
  refine wpAny_setField he₂ hd hsz (h _ ⟨fun b o hb hbe hbo => ?_, fun b hb o hbo => ?_, ?_⟩)
  · have hb1 : h₁.get? b = some o := (hs₁.2.1 b hb).trans hbo
    rw [Heap.get?_update_other _ _ (Ne.symm hbe)]
    exact Heap.get?_push_of_some _ hb1
  · obtain ⟨sl, hb1⟩ := hs₁.2.2 b o hbo
    refine ⟨sl, ?_⟩
    rw [Heap.get?_update_other _ _ (fun q => hene (by rw [q]; exact hb))]
    exact Heap.get?_push_of_some _ hb1
  · exact ⟨h₁.objs.size, tb, _, Nat.le_of_eq hs₁.1.symm, he₃, hT₃, dtb, by simp⟩
theorem EX.fin (I : Inv X pins σ H s) (x : EX X.prog X.w X.stack H s new cls a H' s₁) {oe : Obj} {vs : Array Value} (he : s₁.heap.get? a = some oe) (hc : oe.cls = cls) (hd : oe.data = .fields vs) (hdi : oe.dict = none) (hv : 1 < vs.size) {T0 : Option Addr}
    (hT0 : ∀ T, T0 = some T → H' T = none ∧ s.heap.get? T = none) {g h₃ : Heap} (hg : ∀ b o, (∀ T, T0 = some T → b ≠ T) → s₁.heap.get? b = some o → g.get? b = some o) (hgf : ∀ b ∈ frs X.stack, ∀ o, s₁.heap.get? b = some o → g.get? b = some o) (hgs : s₁.heap.objs.size ≤ g.objs.size)
    (hge : g.get? a = some oe) {L : Addr} (nt : Noted (frs X.stack) a oe L g h₃) : EX X.prog X.w X.stack H s true cls a H' { s₁ with heap := h₃ } := by
  obtain ⟨stay, slot, T, oT, ts, hTs, heT, hT, hdT, h3⟩ := nt
  obtain ⟨b1, b2⟩ := x.rc.base
  have frm : ∀ b ∈ frs X.stack, ∀ o, s.heap.get? b = some o → ∃ sl, h₃.get? b = some { o with slots := sl } := fun b hb o e => by
    obtain ⟨sl, e1⟩ := x.un.slot b o e (I.stkFree b hb) hb (by simp)
    obtain ⟨sl', e2⟩ := slot b hb _ (hgf b hb _ e1)
    exact ⟨sl', e2⟩
  have frn : ∀ b ∈ frs X.stack, H' b = none := fun b hb => by
    obtain ⟨_, o, ho, _⟩ := I.stack.mem hb
    exact x.un.free b o ho (I.stkFree b hb) (by simp)
  refine ⟨x.os, x.bare, ⟨fun b o e n hb _ => ?_, fun b o e n hb _ => frm b hb o e, x.un.free, fun b o e _ => ?_, x.un.tups, x.un.frzs, x.un.tbls⟩, fun b ob e => ?_, ?_⟩
  · refine stay b o hb (fun q => by rw [q, b2] at e; cases e) (hg b o (fun T hT q => by rw [q, (hT0 T hT).2] at e; cases e) (x.un.keep b o e n hb (by simp)))
  · by_cases hm : b ∈ frs X.stack
    · obtain ⟨sl, e2⟩ := frm b hm o e
      exact ⟨_, e2⟩
    · obtain ⟨o', e1⟩ := x.un.there b o e (by simp)
      exact ⟨o', stay b o' hm (fun q => by rw [q, b2] at e; cases e) (hg b o' (fun T hT q => by rw [q, (hT0 T hT).2] at e; cases e) e1)⟩
  · refine (x.hok b ob e).stay (fun c u hc q => ?_) (fun _ q => q) fun _ _ q => q
    have tr : ∃ v, H' c = some v := by
      rcases hc with rfl | hc
      · exact ⟨_, e⟩
      · exact ⟨_, hc⟩
    obtain ⟨v, tr⟩ := tr
    refine stay c u (fun hm => ?_) (fun z => ?_) (hg c u (fun T hT z => ?_) q)
    · rw [frn c hm] at tr; cases tr
    · rw [z, b1] at tr; cases tr
    · rw [z, (hT0 T hT).1] at tr; cases tr
  · have hTn : s₁.heap.get? T = none := Heap.get?_none_of_le (Nat.le_trans hgs hTs)
    have hTa : T ≠ a := fun z => by rw [z, he] at hTn; cases hTn
    refine .fl _ _ heT ((Obj.cls_mapFields ..).trans hc) (Obj.data_mapFields hd _) ?_ b1 b2 T oT ts (by simp [hv]) hTa hT hdT L h3 (x.hok.none hTn) ?_
    · obtain ⟨c0, d0, dt, sl⟩ := oe
      dsimp only at hd hdi
      subst hd hdi
      rfl
    · cases q : s.heap.get? T with
      | none => rfl
      | some o => obtain ⟨o', e2⟩ := x.un.there T o q (by simp); rw [hTn] at e2; cases e2
/-- what lies at the traceback alone is changed -/
theorem EX.upT {P : Program} {w : World} {st : List Env} {new' : Bool} (x : EX P w st H s new cls a H' s₁) {T : Addr} {h₃ : Heap} (hk : ∀ b, b ≠ T → h₃.get? b = s₁.heap.get? b) (ho : ∃ o, h₃.get? T = some o) (hnT : H' T = none) (hgT : s.heap.get? T = none) (rc : XRec s.heap h₃ H' a cls new') : EX P w st H s new' cls a H' { s₁ with heap := h₃ } := by
  have nT : ∀ {b o}, s.heap.get? b = some o → b ≠ T := fun {b o} e z => by rw [z, hgT] at e; cases e
  refine ⟨x.os, x.bare, ⟨fun b o e n hb hx => (hk b (nT e)).trans (x.un.keep b o e n hb hx), fun b o e n hb hx => ?_, x.un.free, fun b o e hx => ?_, x.un.tups, x.un.frzs, x.un.tbls⟩, fun b ob e => ?_, rc⟩
  · obtain ⟨sl, e1⟩ := x.un.slot b o e n hb hx
    exact ⟨sl, (hk b (nT e)).trans e1⟩
  · obtain ⟨o', e1⟩ := x.un.there b o e hx
    exact ⟨o', (hk b (nT e)).trans e1⟩
  · refine (x.hok b ob e).stay (fun c u hc q => (hk c fun z => ?_).trans q) (fun _ q => q) fun _ _ q => q
    rcases hc with rfl | hc
    · rw [z, hnT] at e; cases e
    · rw [z, hnT] at hc; cases hc
/-- the frame is noted in the error's traceback -/
theorem note_fl {M : Model} {A : Around} {Q : Unit → Shared → Prop} {E : Value → Shared → Prop} {cenv : Env} (I : Inv X pins σ H s) (hst : X.stack = X.env :: X.outer) (hf : X.env.frame = some X.env.locals) (hA : A.frames = some X.stack) (hcf : cenv.frame = X.env.frame) (x : EX X.prog X.w X.stack H s new cls a H' s₁)
    (h : ∀ h₃, EX X.prog X.w X.stack H s true cls a H' { s₁ with heap := h₃ } → (∃ vs oe T oT ts, ∃ f : Addr, h₃.get? a = some oe ∧ oe.data = .fields vs ∧ vs[1]? = some (.ref T) ∧ T ≠ a ∧ h₃.get? T = some oT ∧ oT.data = .fields ts ∧ ts[3]? = some (rawInt f) ∧ H' T = none ∧ s.heap.get? T = none) → Q () { s₁ with heap := h₃ }) : wpAny M A (noteFrame (.ref a) cenv) Q E s₁ := by
  have hfun : s₁.heap.FunFrames X.base X.stack := funs_un x.un (fun b hb => ⟨hb, I.stkFree b hb⟩) I.stack
  have efr : PySem.frameOf cenv = PySem.frameOf X.env := by unfold PySem.frameOf; rw [hcf]
  have rc := x.rc
  have h' : ∀ h₃, EX X.prog X.w X.stack H s true cls a H' { s₁ with heap := h₃ } → (∀ oe vs, h₃.get? a = some oe → oe.data = .fields vs → vs[1]? ≠ some .none) → Q () { s₁ with heap := h₃ } := fun h₃ x3 hne => by
    refine h h₃ x3 ?_
    cases x3.rc with
    | new oe vs he hc hd hdi hn hg h1 => exact absurd h1 (hne oe vs he hd)
    | fl oe vs he hc hd hdi hn hg T oT ts h1 ht hT hdT f h3 hnT hgT => exact ⟨vs, oe, T, oT, ts, f, he, hd, h1, ht, hT, hdT, h3, hnT, hgT⟩
  have hne : ∀ {h₃ : Heap} {oe : Obj} {T : Addr} {vs : Array Value}, oe.data = .fields vs → h₃.get? a = some (oe.mapFields fun z => z.setIfInBounds 1 (.ref T)) → ∀ oe' vs', h₃.get? a = some oe' → oe'.data = .fields vs' → vs'[1]? ≠ some .none := fun {h₃ oe T vs} hd e oe' vs' e' hd' z => by
    rw [e] at e'; cases e'
    have q := Obj.data_mapFields hd fun z => z.setIfInBounds 1 (Value.ref T)
    rw [hd'] at q
    cases q
    rw [Array.getElem?_setIfInBounds] at z
    split at z
    · split at z <;> cases z
    · rename_i z0; exact z0 rfl
  have over : ∀ {oe : Obj} {vs : Array Value} (_ : s₁.heap.get? a = some oe) (_ : oe.cls = cls) (_ : oe.data = .fields vs) (_ : oe.dict = none) {T : Addr} {oT : Obj} {ts : Array Value} {v3 : Value} (_ : vs[1]? = some (.ref T)) (_ : T ≠ a) (_ : s₁.heap.get? T = some oT) (_ : oT.data = .fields ts) (_ : ts[3]? = some v3) (_ : (v3 == rawInt X.env.locals) = false) (_ : H' T = none) (_ : s.heap.get? T = none), wpAny M A (noteFrame (.ref a) cenv) Q E s₁ := by
    intro oe vs he hc hd hdi T oT ts v3 h1 ht hT hdT h3 hv3 hnT hgT
    unfold noteFrame
    simp only [hcf, hf, efr]
    refine wpAny_bind (wpAny_field he hd h1 ?_)
    rw [if_pos (show (Value.ref T != Value.none) = true by simp)]
    refine wpAny_bind (wpAny_field hT hdT h3 ?_)
    rw [if_neg (show ¬ ((v3 == rawInt X.env.locals) = true) by rw [hv3]; exact Bool.false_ne_true)]
    refine wpAny_bind (wpAny_setField hT hdT (Array.getElem?_eq_some_iff.mp h3).1 ?_)
    have oth : ∀ c, c ≠ T → (s₁.heap.update T (Obj.mapFields fun z => z.setIfInBounds 3 Value.none)).get? c = s₁.heap.get? c := fun c hc => Heap.get?_update_other _ _ (Ne.symm hc)
    have nrec : ∀ c o, s₁.heap.get? c = some o → (∀ z, o.data ≠ .fields z) → c ≠ T := fun c o hc hnf q => by rw [q, hT] at hc; cases hc; exact hnf ts hdT
    have nfr : ∀ c ∈ frs X.stack, c ≠ T := fun c hc q => by
      obtain ⟨_, o, ho, hnf⟩ := hfun.mem hc
      exact nrec c o ho hnf q
    have hfun2 : (s₁.heap.update T (Obj.mapFields fun z => z.setIfInBounds 3 Value.none)).FunFrames X.base X.stack := hfun.of_keeps fun c o hc hnf => ⟨o, (oth c (nrec c o hc hnf)).trans hc, rfl⟩
    rw [hst] at hA hfun2
    have hv := (Array.getElem?_eq_some_iff.mp h1).1
    refine x_entry hA hfun2 hf ((oth a (Ne.symm ht)).trans he) hd hv fun h₃ nt => ?_
    have nt' := nt
    obtain ⟨_, _, T', _, _, _, heT, _⟩ := nt'
    refine h' h₃ (x.fin I he hc hd hdi hv (T0 := some T) (fun T' z => by cases z; exact ⟨hnT, hgT⟩) (g := s₁.heap.update T (Obj.mapFields fun z => z.setIfInBounds 3 Value.none)) (fun c o n e => (oth c (n T rfl)).trans e) (fun c hc o e => (oth c (nfr c hc)).trans e) (Nat.le_of_eq (Heap.size_after_update ..).symm) ((oth a (Ne.symm ht)).trans he) (L := X.env.locals) ?_) (hne hd heT)
    rw [hst]
    exact nt
  cases rc with
  | new oe vs he hc hd hdi hn hg h1 =>
    unfold noteFrame
    simp only [hcf, hf, efr]
    refine wpAny_bind (wpAny_field he hd h1 ?_)
    rw [if_neg (by decide)]
    rw [hst] at hA hfun
    refine x_entry hA hfun hf he hd (Array.getElem?_eq_some_iff.mp h1).1 fun h₃ nt => ?_
    have nt' := nt
    obtain ⟨_, _, T', _, _, _, heT, _⟩ := nt'
    refine h' h₃ (x.fin I he hc hd hdi (Array.getElem?_eq_some_iff.mp h1).1 (T0 := none) (fun _ z => nomatch z) (g := s₁.heap) (fun _ _ _ e => e) (fun _ _ _ e => e) (Nat.le_refl _) he (L := X.env.locals) ?_) (hne hd heT)
    rw [hst]
    exact nt
  | old oe vs he hc hd hdi hn hg T oT ts h1 ht hT hdT h3 hnT hgT => exact over he hc hd hdi h1 ht hT hdT h3 (by simp [rawInt]) hnT hgT
  | fl oe vs he hc hd hdi hn hg T oT ts h1 ht hT hdT f h3 hnT hgT =>
    cases q : (rawInt f == rawInt X.env.locals) with
    | false => exact over he hc hd hdi h1 ht hT hdT h3 q hnT hgT
    | true =>
      unfold noteFrame
      simp only [hcf, hf, efr]
      refine wpAny_bind (wpAny_field he hd h1 ?_)
      rw [if_pos (show (Value.ref T != Value.none) = true by simp)]
      refine wpAny_bind (wpAny_field hT hdT h3 ?_)
      rw [if_pos q]
      exact wpAny_pure (h _ x ⟨vs, oe, T, oT, ts, f, he, hd, h1, ht, hT, hdT, h3, hnT, hgT⟩)
/-- the error's record with another word of its flight -/
theorem EX.flight {fl : Option Addr} (x : EX X.prog X.w X.stack H s true cls a H' s₁) {vs ts : Array Value} {oe oT : Obj} {T f : Addr} (he : s₁.heap.get? a = some oe) (hd : oe.data = .fields vs) (h1 : vs[1]? = some (.ref T)) (ht : T ≠ a) (hT : s₁.heap.get? T = some oT) (hdT : oT.data = .fields ts) (h3 : ts[3]? = some (rawInt f)) (hnT : H' T = none) (hgT : s.heap.get? T = none) :
    EX X.prog X.w X.stack H s fl.isSome cls a H' { s₁ with heap := s₁.heap.update T (Obj.mapFields fun z => z.setIfInBounds 3 (fl.elim .none fun f => rawInt f)) } := by
  have dT := Obj.data_mapFields hdT fun z => z.setIfInBounds 3 (fl.elim .none fun f => rawInt f)
  have oT' := Heap.get?_update_self (Obj.mapFields fun z => z.setIfInBounds 3 (fl.elim .none fun f => rawInt f)) hT (Obj.isFreed_of_fields dT)
  have oth : ∀ b, b ≠ T → (s₁.heap.update T (Obj.mapFields fun z => z.setIfInBounds 3 (fl.elim .none fun f => rawInt f))).get? b = s₁.heap.get? b := fun b hb => Heap.get?_update_other _ _ (Ne.symm hb)
  have h3' : (ts.setIfInBounds 3 (fl.elim .none fun f => rawInt f))[3]? = some (fl.elim .none fun f => rawInt f) := Array.getElem?_setIfInBounds_self_of_lt (Array.getElem?_eq_some_iff.mp h3).1
  refine x.upT oth ⟨_, oT'⟩ hnT hgT ?_
  have base : oe.cls = cls ∧ oe.dict = none ∧ H' a = none ∧ s.heap.get? a = none := by
    cases x.rc with
    | new oe' vs' he' hc hd' hdi hn hg h1' => rw [he] at he'; cases he'; exact ⟨hc, hdi, hn, hg⟩
    | fl oe' vs' he' hc hd' hdi hn hg => rw [he] at he'; cases he'; exact ⟨hc, hdi, hn, hg⟩
  obtain ⟨hc, hdi, hn, hg⟩ := base
  cases fl with
  | none => exact .old oe vs ((oth a (Ne.symm ht)).trans he) hc hd hdi hn hg T _ _ h1 ht oT' dT h3' hnT hgT
  | some f' => exact .fl oe vs ((oth a (Ne.symm ht)).trans he) hc hd hdi hn hg T _ _ h1 ht oT' dT f' h3' hnT hgT
theorem note_ex {M : Model} {A : Around} {Q : Unit → Shared → Prop} {E : Value → Shared → Prop} (I : Inv X pins σ H s) (hst : X.stack = X.env :: X.outer) (hf : X.env.frame = some X.env.locals) (hA : A.frames = some X.stack) (x : EX X.prog X.w X.stack H s new cls a H' s₁)
    (h : ∀ h₃, EX X.prog X.w X.stack H s false cls a H' { s₁ with heap := h₃ } → Q () { s₁ with heap := h₃ }) : wpAny M A (noteFrame (.ref a) X.env) (fun _ s₂ => wpAny M A (setFlight (.ref a) none) Q E s₂) E s₁ := by
  refine note_fl I hst hf hA rfl x fun h₃ x3 ⟨vs, oe, T, oT, ts, f, he, hd, h1, ht, hT, hdT, h3, hnT, hgT⟩ => ?_
  unfold setFlight
  refine wpAny_bind (wpAny_field he hd h1 ?_)
  rw [if_pos (show (Value.ref T != Value.none) = true by simp)]
  exact wpAny_setField hT hdT (Array.getElem?_eq_some_iff.mp h3).1 (h _ (x3.flight (fl := none) he hd h1 ht hT hdT h3 hnT hgT))
/-- an error leaves a def -/
theorem leave_ex {M : Model} {A : Around} {Q : Unit → Shared → Prop} {E : Value → Shared → Prop} (I : Inv X pins σ H s) (hst : X.stack = X.env :: X.outer) (hf : X.env.frame = some X.env.locals) (hA : A.frames = some X.stack) (x : EX X.prog X.w X.stack H s new cls a H' s₁)
    (h : ∀ h₃, EX X.prog X.w X.stack H s false cls a H' { s₁ with heap := h₃ } → Q () { s₁ with heap := h₃ }) : wpAny M A (leaving X.env (.ref a)) Q E s₁ := by
  unfold leaving
  exact wpAny_bind (note_ex I hst hf hA x h)
/-- as the callers see it -/
theorem EX.out (I : Inv X pins σ H s) (hex : X.ex = []) (x : EX X.prog X.w X.stack H s false cls a H' s₁) : EX X.prog X.w X.outer X.H₀ X.s₀ false cls a H' s₁ := by
  have base := I.base
  rw [hex] at base
  have gone : ∀ {b : Addr}, s.heap.get? b = none → X.s₀.heap.get? b = none := fun {b} e => by
    cases q : X.s₀.heap.get? b with
    | none => rfl
    | some o => obtain ⟨o', e2⟩ := base.there b o q (by simp); rw [e] at e2; cases e2
  have nst : ∀ {b : Addr} {o : Obj}, X.s₀.heap.get? b = some o → b ∉ X.fs → b ∉ frs X.stack := fun {b o} e n hm => by
    rcases List.mem_cons.mp (I.stkSub b hm) with z | z
    · exact absurd (Nat.lt_of_lt_of_le (Heap.lt_size e) I.ok.above) (by rw [z]; exact Nat.lt_irrefl _)
    · exact n z
  refine ⟨x.os.trans I.os, x.bare, ⟨fun b o e n hb _ => x.un.keep b o (base.keep b o e n hb (by simp)) (base.free b o e n (by simp)) (nst e hb) (by simp), fun b o e n hb _ => ?_, fun b o e n _ => ?_, fun b o e _ => ?_, fun b xs e => x.un.tups b xs (base.tups b xs e), fun b o u e => x.un.frzs b o u (base.frzs b o u e), fun b ps e => ?_⟩, x.hok, ?_⟩
  · obtain ⟨sl, e1⟩ := base.slot b o e n hb (by simp)
    obtain ⟨sl', e2⟩ := x.un.any e1 (base.free b o e n (by simp)) (by simp)
    exact ⟨sl', e2⟩
  · obtain ⟨sl, e1⟩ := base.any e n (by simp)
    exact x.un.free b _ e1 (base.free b o e n (by simp)) (by simp)
  · obtain ⟨o', e1⟩ := base.there b o e (by simp)
    exact x.un.there b o' e1 (by simp)
  · obtain ⟨m1, e1⟩ := base.tbls b ps e
    obtain ⟨m2, e2⟩ := x.un.tbls b _ e1
    exact ⟨m1 ++ m2, by rw [e2, Array.append_assoc]⟩
  · have rc := x.rc
    cases rc with
    | old oe vs he hc hd hdi hn hg T oT ts h1 ht hT hdT h3 hnT hgT => exact .old oe vs he hc hd hdi hn (gone hg) T oT ts h1 ht hT hdT h3 hnT (gone hgT)
end
/-- what a context wishes of errors -/
structure Wish (X : Cx) (E : XK) : Prop where
  go : ∀ (pins : List (Addr × Obj)) (σ : St) (H : Hp) (s : Shared) (new : Bool) (cls : Value) (a : Addr) (H' : Hp) (s₁ : Shared), Inv X pins σ H s → EX X.prog X.w X.stack H s new cls a H' s₁ → E cls none H' → X.xe (.ref a) s₁
theorem Wish.pass {X : Cx} {E : XK} (W : Wish X E) : Passes (CX1 X.prog X.w) X E := fun pins σ H s e s' I ⟨a, cls, H', e1, x, q⟩ => by
  subst e1
  exact W.go pins σ H s false cls a H' s' I x q
/-- a def's body -/
theorem wish_def {P : Program} {w : World} {K : PySem.W.Frag} {mg : Str → Option Value} {base : Heap} {N : List Str} {qual : Str} {scope : Scope} {f : Addr} {cd : Value} {A : Around} {outer : List Env} {s : Shared} {H : Hp} {E : XK} : Wish (cxOf (CX1 P w) P w K mg base N qual scope f cd A outer s H E) E where
  go := fun pins σ H1 s1 new cls a H' s₁ I x q => by
    show wpAny (model P w) (A.deeper (envOfC qual scope s.heap.objs.size f cd)) (leaving (envOfC qual scope s.heap.objs.size f cd) (.ref a)) _ _ s₁
    refine leave_ex I rfl rfl I.ok.frames x fun h₃ x' => ⟨a, cls, H', rfl, x'.out I rfl, q⟩
end L2
set_option Elab.async false
set_option linter.all false
set_option maxRecDepth 100000
namespace L2
open PySem PySem.Spec PyProof.Rows
/-- an own class of errors, as it lies -/
theorem own_at {K : PySem.W.Frag} {h : Heap} {C : Addr} {bmB : List Value} {newId : String} (X : K.In h) (q : PySem.W.excIn K C bmB newId = true) :
    ∃ bm N nm q bs hdct sn sub ab col dd k0 k1 k2 k3 k5 mN, h.get? C = some (excClassObj nm q C N bs bm hdct sn sub ab col dd k0 k1 k2 k3 k5 newId) ∧ h.Ns N mN ∧ mN "__init__" = none ∧ OwnTail h bmB bm := by
  unfold PySem.W.excIn at q
  split at q
  · rename_i dd cd sl ho
    split at q
    · rename_i C' bm k0 k1 k2 k3 n k5 hm hs
      simp only [Bool.and_eq_true, beq_iff_eq, Bool.not_eq_true'] at q
      obtain ⟨⟨⟨⟨⟨rfl, rfl⟩, hdel⟩, ht⟩, hok⟩, hni⟩ := q
      obtain ⟨nm, bs, mro, ns, qn, hd, sn, sub, ab, col, del⟩ := cd
      dsimp only at hm hdel hok hni
      subst hm hdel
      have hsl : sl = #[k0, k1, k2, k3, some (.builtin n), k5] := by obtain ⟨l⟩ := sl; simp only at hs; rw [hs]
      subst hsl
      exact ⟨bm, ns, nm, qn, bs, hd, sn, sub, ab, col, dd, k0, k1, k2, k3, k5, _, X _ _ ho, .of_isNs (PySem.W.isNs_of_in X hok), PySem.W.nsMap_none_of_in X hok hni, PySem.W.tail_of_in X ht⟩
    · cases q
  · cases q
abbrev bmV : List Value := [.type "ValueError", .type "Exception", .type "BaseException", .type "object"]
/-- an own class of errors over ValueError, by its name -/
structure XCls (K : PySem.W.Frag) (mg : Str → Option Value) (x : Str) (C : Addr) : Prop where
  m : mg x = some (.ref C)
  ok : PySem.W.excIn K C bmV "ValueError.__new__" = true
/-- raise C(..) -/
inductive tRaise (t : TA) (cls : Value) (E : XK) (D : Ends) (σ : St) (H : Hp) : Prop
  | mk (h : t σ H fun vs H1 => vs.length ≤ sizeLine ∧ E cls none H1) : tRaise t cls E D σ H
section
variable {X : Cx} {E : XK} {x : Str} {C : Addr} {e₀ : Expr} {rest : List Expr} {t : TA} {np cpos pos : Pos}
theorem ps_raise (W : Wish X E) (hc : X.calm = true) (hC : XCls X.K X.mg x C) (ha : PA X (e₀ :: rest) t) (hg : Gl X x := by rfl) (he : starEach (e₀ :: rest) X.env = (false, eval e₀ X.env) :: starEach rest X.env := by rfl)
    (hpl : (backTo cpos (starEach rest X.env)).any (·.1) = false := by rfl) (hdb : (x == ("__debug__" : Str)) = false := by decide) : PS X (.Raise (some (.Call (.Name x np) (e₀ :: rest) [] cpos)) none pos) (tRaise t (.ref C) E) := by
  refine ⟨?_⟩
  intro pins s σ H D I h
  obtain ⟨h⟩ := h
  obtain ⟨bm, N, nm, q, bs, hdct, sn, sub, ab, col, dd, k0, k1, k2, k3, k5, mN, hCo, hN, hni, T⟩ := own_at I.mod.kin hC.ok
  refine wpAny_Raise_call_subT (C := C) (nm := nm) (q := q) (N := N) (bs := bs) (bm := bm) (hdct := hdct) (sn := sn) (sub := sub) (ab := ab) (col := col) (dd := dd) (k0 := k0) (k1 := k1) (k2 := k2) (k3 := k3) (k5 := k5) PySem.F.excBase_ValueError (mN := mN)
    (T.hasType PySem.F.excBase_ValueError.hasBase) (I.ok.hd hc) (by rw [he]; show (false || (backTo cpos (starEach rest X.env)).any (·.1)) = false; rw [hpl]; rfl) hni (ld_glob I hg hC.m ⟨rfl, ?_⟩ hdb)
  have hw := ha cpos pins s σ H _ I h
  rw [he] at hw ⊢
  refine Calls.evalArgs_plain (wpAny_mono hw (fun us s₂ h₂ => ?_) fun _ _ y => y)
  obtain ⟨vs, H1, I1, r, hl, qe⟩ := h₂
  refine ⟨rfl, by rw [← r.length]; exact hl, I1.bk _ _ hCo, hN.keeps I1.bk, T.keeps I1.bk, fun h' e hm => ?_⟩
  obtain ⟨tt, he', _, _⟩ := hm.there
  exact W.go pins σ H1 s₂ true (.ref C) e H1 { s₂ with heap := h' } I1 ⟨rfl, I1.bare, Un.kept hm.keeps, I1.hok.kept hm.keeps, .new _ _ he' rfl rfl rfl (I1.hok.none hm.new) hm.new rfl⟩ qe
end
/-- a def from which errors may leave -/
def CanX (P : Program) (w : World) (K : PySem.W.Frag) (mg : Str → Option Value) (base : Heap) (k : Nat) (x : Str) (ps : List Str) (sp : Sp) : Prop :=
  ∃ f fd, FnOk P w K mg base (CX1 P w) k f fd ps sp ∧ mg x = some (.ref f) ∧ PySem.W.keepIn K (.ref f) = true ∧ Binds K fd ps []
section
variable {P : Program} {w : World} {K : PySem.W.Frag} {mg : Str → Option Value} {base : Heap}
theorem fn_canX {x : Str} {st : Stmt} {N ps : List Str} {k : Nat} {sp : Sp} (h : ∃ f fd, Fn K mg x st ps f fd) (S : FnScope N ps (defScope st)) (len : ∀ vs H Q E, sp vs H Q E → vs.length = ps.length)
    (hbody : ∀ (f : Addr) (cdv : Value) (A : Around) (outer : List Env) (s : Shared) (H : Hp) (vs : List V) (Q : VK) (E : XK), Room k (A.deeper (envOfC x (defScope st) s.heap.objs.size f cdv)) → Wish (cxOf (CX1 P w) P w K mg base N x (defScope st) f cdv A outer s H E) E → sp vs H Q E →
      ∃ t, PSs (cxOf (CX1 P w) P w K mg base N x (defScope st) f cdv A outer s H E) (defBody st) t ∧ t { nx := fun _ H' => Q .non H', rt := Q } (start N vs) H) : CanX P w K mg base (k + 1) x ps sp := by
  obtain ⟨f, fd, F⟩ := h
  obtain ⟨oc, od, kV, doc, pm, an, cdv, ct, osl, e, lk, hcd⟩ := F.fn.ex
  refine ⟨f, fd, ?_, F.m, F.fn.kp, F.b⟩
  subst e
  exact fn_of lk hcd S len fun A outer s H vs Q E hr hsp => hbody f cdv A outer s H vs Q E hr wish_def hsp
end
section
variable {X : Cx} {k k' : Nat} {x : Str} {ps : List Str} {sp : Sp} {p pos : Pos} {e : Expr} {es : List Expr} {t : TA} {E : XK}
theorem pe_canX (h : CanX X.prog X.w X.K X.mg X.base k x ps sp) (W : Wish X E) (hr : Room k' X.A) (ha : PA X (e :: es) t) (hg : Gl X x := by rfl) (hk : k ≤ k' := by decide) (hdb : (x == ("__debug__" : Str)) = false := by decide)
    (hs : starEach (e :: es) X.env = (false, eval e X.env) :: starEach es X.env := by rfl) (hpl : (backTo pos (starEach es X.env)).any (·.1) = false := by rfl) : PE X (.Call (.Name x p) (e :: es) [] pos) (tCall sp [] E t) := by
  obtain ⟨f, fd, F, hm, kp, b⟩ := h
  exact pe_call F (hr.mono hk) hg hm kp b .nil W.pass ha hdb hs hpl
end
/-! ### try -/
abbrev Cx.tryC (X : Cx) (pn : List (Addr × Obj)) (xe : Value → Shared → Prop) : Cx := { X with pn := pn, xe := xe }
abbrev Cx.mark (X : Cx) (a : Addr) : Cx := { X with A := X.A.mark (some (.ref a)), calm := false, xe := fun _ _ => False }
section
variable {X : Cx} {pins pins2 : List (Addr × Obj)} {σ : St} {H : Hp} {s : Shared} {xe : Value → Shared → Prop} {a : Addr}
theorem Cx.Ok.tryC (ok : X.Ok) (pn : List (Addr × Obj)) (xe : Value → Shared → Prop) : (X.tryC pn xe).Ok :=
  ⟨ok.mod, ok.kind, ok.glob, ok.blt, ok.above, ok.inj, ok.has, ok.cab, ok.hd, ok.frames, ok.stk, ok.exf, ok.bs, ok.bsz, ok.noex, ok.exfs, ok.funs, ok.frf⟩
theorem Cx.Ok.untry {pn : List (Addr × Obj)} (ok : (X.tryC pn xe).Ok) : X.Ok :=
  ⟨ok.mod, ok.kind, ok.glob, ok.blt, ok.above, ok.inj, ok.has, ok.cab, ok.hd, ok.frames, ok.stk, ok.exf, ok.bs, ok.bsz, ok.noex, ok.exfs, ok.funs, ok.frf⟩
theorem Inv.tryC (I : Inv X pins σ H s) (xe : Value → Shared → Prop) : Inv (X.tryC (X.pn ++ pins) xe) [] σ H s :=
  ⟨I.ok.tryC _ _, I.os, I.bare, I.base, I.loc, I.cell, I.free, I.freeC, fun p hp => I.pin p (by simpa using hp), I.hok, I.len⟩
theorem Inv.untry (I : Inv (X.tryC (X.pn ++ pins) xe) pins2 σ H s) : Inv X pins σ H s :=
  ⟨I.ok.untry, I.os, I.bare, I.base, I.loc, I.cell, I.free, I.freeC, fun p hp => I.pin p (List.mem_append_left _ hp), I.hok, I.len⟩
theorem SP.untry {D : Ends} {f : Flow} {s' : Shared} (h : SP (X.tryC (X.pn ++ pins) xe) pins2 D f s') : SP X pins D f s' := by
  cases f with
  | next => obtain ⟨σ', H', I, q⟩ := h; exact ⟨σ', H', I.untry, q⟩
  | brk => obtain ⟨σ', H', I, q⟩ := h; exact ⟨σ', H', I.untry, q⟩
  | cont => obtain ⟨σ', H', I, q⟩ := h; exact ⟨σ', H', I.untry, q⟩
  | ret u => obtain ⟨v, σ', H', I, r, q⟩ := h; exact ⟨v, σ', H', I.untry, r, q⟩
theorem Inv.mark (I : Inv X pins σ H s) (a : Addr) : Inv (X.mark a) pins σ H s :=
  ⟨⟨I.ok.mod, I.ok.kind, I.ok.glob, I.ok.blt, I.ok.above, I.ok.inj, I.ok.has, I.ok.cab, (fun z => nomatch z), I.ok.frames, I.ok.stk, I.ok.exf, I.ok.bs, I.ok.bsz, I.ok.noex, I.ok.exfs, I.ok.funs, I.ok.frf⟩, I.os, I.bare, I.base, I.loc, I.cell, I.free, I.freeC, I.pin, I.hok, I.len⟩
theorem Inv.unmark (ok : X.Ok) (I : Inv (X.mark a) pins σ H s) : Inv X pins σ H s := ⟨ok, I.os, I.bare, I.base, I.loc, I.cell, I.free, I.freeC, I.pin, I.hok, I.len⟩
end
/-- the clauses of a try, at an error of that class -/
def PHs (X : Cx) (hs : List ExceptHandler) (th : Value → TS) : Prop :=
  ∀ (pins : List (Addr × Obj)) (s : Shared) (σ : St) (H : Hp) (D : Ends) (a : Addr) (cls : Value) (g : Heap), Inv X pins σ H s → XRec g s.heap H a cls false → X.s₀.heap.get? a = none → (∀ p ∈ X.pn ++ pins, p.1 ≠ a) → th cls D σ H → wpAny (model X.prog X.w) X.A (handleBy (.ref a) X.env hs) (SP X pins D) X.xe s
def tTry (n : Nat) (t : XK → TS) (th : Value → TS) : TS := fun D σ H => t (fun cls _ H' => ∀ σ' : St, σ'.length = n → th cls D σ' H') D σ H
section
variable {X : Cx} {body : List Stmt} {h₀ : ExceptHandler} {hs : List ExceptHandler} {t : XK → TS} {th : Value → TS} {pos : Pos}
theorem ps_try {n : Nat} (hb : ∀ (pn : List (Addr × Obj)) (xe : Value → Shared → Prop) (E : XK), Wish (X.tryC pn xe) E → PSs (X.tryC pn xe) body (t E)) (hh : PHs X (h₀ :: hs) th) (hst : X.stack = X.env :: X.outer := by rfl) (hf : X.env.frame = some X.env.locals := by rfl) (hn : X.N.length = n := by rfl) (hex : X.ex = [] := by rfl) :
    PS X (.Try body (h₀ :: hs) [] [] pos) (tTry n t th) := by
  refine ⟨?_⟩
  intro pins s σ H D I h
  refine wpAny_Try_except (wpAny_mono (hb (X.pn ++ pins) (fun e s₁ => wpAny (model X.prog X.w) X.A (noteFrame e X.env) (fun _ s₂ => wpAny (model X.prog X.w) X.A (setFlight e none) (fun _ s₃ => wpAny (model X.prog X.w) X.A (handleBy e X.env (h₀ :: hs)) (SP X pins D) X.xe s₃) X.xe s₂) X.xe s₁) _ ⟨fun pins2 σ2 H2 s2 new cls a H' s₁ I2 x q => ?_⟩ [] s σ H D (I.tryC _) h) (fun f s₁ q => ?_) fun _ _ z => z)
  · have I2' : Inv X pins σ2 H2 s2 := I2.untry
    refine note_ex I2' hst hf I2'.ok.frames x fun h₃ x3 => ?_
    have I3 := x3.inv I2'
    have fr := x3.rc.base.2
    refine hh pins _ σ2 H' D a cls s2.heap I3 x3.rc ?_ (fun p hp z => ?_) (q σ2 (I3.len.trans hn))
    · cases e : X.s₀.heap.get? a with
      | none => rfl
      | some o => obtain ⟨o', e2⟩ := I2'.base.there a o e (by rw [hex]; simp); rw [fr] at e2; cases e2
    · have e := (I2'.pin p hp).1
      rw [z, fr] at e
      cases e
  · cases f with
    | next =>
      obtain ⟨σ', H', I', q'⟩ := q
      exact pss_nil pins s₁ σ' H' D I'.untry q'
    | ret v => exact q.untry
    | brk => exact q.untry
    | cont => exact q.untry
end
end L2
set_option Elab.async false
set_option linter.all false
set_option maxRecDepth 100000
/-! the clauses of a try -/
namespace L2
open PySem PySem.Spec PyProof.Rows
theorem set3 {ts : Array Value} (h : ts[3]? = some Value.none) : ts.setIfInBounds 3 Value.none = ts := by
  obtain ⟨hl, e⟩ := Array.getElem?_eq_some_iff.mp h
  refine Array.ext (by simp) fun i h1 h2 => ?_
  rw [Array.getElem_setIfInBounds h2]
  by_cases hi : 3 = i
  · subst hi; simp [e]
  · simp [hi]
theorem map3 {o : Obj} {ts : Array Value} (hd : o.data = .fields ts) (h : ts[3]? = some Value.none) : Obj.mapFields (fun z => z.setIfInBounds 3 Value.none) o = o := by
  obtain ⟨c, d, dt, sl⟩ := o
  dsimp only at hd
  subst hd
  unfold Obj.mapFields
  simp [set3 h]
theorem keep3 {h : Heap} {T : Addr} {oT : Obj} {ts : Array Value} (hT : h.get? T = some oT) (hd : oT.data = .fields ts) (h3 : ts[3]? = some Value.none) : ∀ b u, h.get? b = some u → (h.update T (Obj.mapFields fun z => z.setIfInBounds 3 Value.none)).get? b = some u := fun b u e => by
  by_cases hb : b = T
  · subst hb
    rw [hT] at e
    cases e
    rw [Heap.get?_update_self _ hT (by rw [map3 hd h3]; exact Obj.isFreed_of_fields hd), map3 hd h3]
  · rw [Heap.get?_update_other _ _ (Ne.symm hb)]; exact e
section
variable {X : Cx} {x n : Str} {C : Addr} {b₀ : Stmt} {suite : List Stmt} {rest : List ExceptHandler} {pos np : Pos} {th : Value → TS}
theorem ph_nil : PHs X [] (fun _ _ _ _ => False) := fun _ _ _ _ _ _ _ _ _ _ _ _ h => h.elim
/-- the match, and the mark set down -/
theorem h_test {pins : List (Addr × Obj)} {σ : St} {H : Hp} {s : Shared} {a : Addr} {cls : Value} {g : Heap} {b : Bool} {name : Option Str} {Q : Flow → Shared → Prop} (I : Inv X pins σ H s) (xr : XRec g s.heap H a cls false) (hC : X.mg x = some (.ref C)) (hg : Gl X x) (hb : PySem.W.exmOne X.K cls (.ref C) = some b) (hdb : (x == ("__debug__" : Str)) = false)
    (h : if b = true then codeAny (model X.prog X.w) (X.A.mark (some (.ref a))) (.handlers (.ref a) [.ExceptHandler none name (b₀ :: suite) pos] X.env) (fun r s₂ => match r with
          | .ok f => (match name with | none => Q f s₂ | some n => wpAny (model X.prog X.w) X.A (do bindName X.env n .none; unbindBehindTheSuite X.env n pos) (fun _ s₃ => Q f s₃) X.xe s₂)
          | .error e => cameBackBy (model X.prog X.w) X.A X.env X.xe e s₂) s
      else wpAny (model X.prog X.w) X.A (handleBy (.ref a) X.env rest) Q X.xe s) :
    wpAny (model X.prog X.w) X.A (handleBy (.ref a) X.env (.ExceptHandler (some (.Name x np)) name (b₀ :: suite) pos :: rest)) Q X.xe s := by
  refine wpAny_handleBy_cons (codeAny_handlers_test (ld_glob (X := X.mark a) (I.mark a) hg hC ?_ hdb)) (by intro z; cases z)
  have LT : PySem.W.Looks (model X.prog X.w) s.heap (typeOf (.ref a)) cls := by
    cases xr with
    | old oe vs he hc => rw [← hc]; exact (PySem.W.Looks.ld he).andThen .now
  refine (PySem.W.exm_one (M := model X.prog X.w) I.kIn LT hb).here ?_
  cases b with
  | true => exact h
  | false => exact h
/-- an error, as it lies -/
def XO (a : Addr) (oe : Obj) : HO := .ext fun h => h.get? a = some oe
theorem Inv.trackX {pins : List (Addr × Obj)} {σ : St} {H : Hp} {s : Shared} {a : Addr} {oe : Obj} {vs : Array Value} (I : Inv X pins σ H s) (he : s.heap.get? a = some oe) (hd : oe.data = .fields vs) (hn : H a = none) (x0 : X.s₀.heap.get? a = none) (xp : ∀ p ∈ X.pn ++ pins, p.1 ≠ a) : Inv X pins σ (upd H a (XO a oe)) s := by
  have na : ∀ {b u}, H b = some u → b ≠ a := fun {b u} e z => by rw [z, hn] at e; cases e
  have nL : X.env.locals ≠ a := fun z => by
    obtain ⟨m, ⟨o, es, ep, ho, hdd, _⟩, _⟩ := I.loc
    rw [z, he] at ho; cases ho; rw [hd] at hdd; cases hdd
  refine ⟨I.ok, I.os, I.bare, ⟨I.base.keep, I.base.slot, fun b o e n hx => ?_, I.base.there, fun b xs e => ?_, fun b o u e => ?_, fun b ps e => ?_⟩, I.loc, I.cell, ?_, fun y c e => ?_, fun p hp => ?_, fun b ob e => ?_, I.len⟩
  · rw [upd_ne (fun z => by rw [z, x0] at e; cases e)]; exact I.base.free b o e n hx
  · have e1 := I.base.tups b xs e
    rw [upd_ne (na e1)]; exact e1
  · have e1 := I.base.frzs b o u e
    rw [upd_ne (na e1)]; exact e1
  · obtain ⟨m, e1⟩ := I.base.tbls b ps e
    exact ⟨m, by rw [upd_ne (na e1)]; exact e1⟩
  · rw [upd_ne nL]; exact I.free
  · have nc : c ≠ a := fun z => by
      obtain ⟨v, o, ho, hdd⟩ := I.cell y c e
      rw [z, he] at ho; cases ho; rw [hd] at hdd; cases hdd
    rw [upd_ne nc]; exact I.freeC y c e
  · obtain ⟨e1, e2, e3⟩ := I.pin p hp
    exact ⟨e1, by rw [upd_ne (xp p hp)]; exact e2, e3⟩
  · by_cases hb : b = a
    · subst hb
      rw [upd_same] at e
      cases e
      exact ⟨he, ⟨_, he⟩, fun h1 h2 z k => k _ z⟩
    · rw [upd_ne hb] at e
      refine (I.hok b ob e).stay (fun c u _ q => q) (fun c q => ?_) fun c xs q => ?_
      · rw [upd_ne (na q)]; exact q
      · rw [upd_ne (na q)]; exact q
/-- a name of ours is forgotten -/
theorem Inv.forget {pins : List (Addr × Obj)} {σ : St} {H : Hp} {s : Shared} {i : Nat} {m : Str → Option Value} {v : Option Value} {h' : Heap} {tk : Nat} (I : Inv X pins σ H s) (hN : X.N.Nodup) (hi : X.N[i]? = some n) (hm : s.heap.Ns X.env.locals m) (hn' : h'.Ns X.env.locals (fun y => if y = n then v else m y)) (hs : Heap.SameBut X.env.locals s.heap h') :
    Inv X pins (σ.set i none) H { s with heap := h', toks := tk } := by
  obtain ⟨m0, hn, hl⟩ := id I.loc
  have em : m0 = m := by
    funext y
    obtain ⟨o, es, ep, ho, hd, hk, hf⟩ := hn
    obtain ⟨o', es', ep', ho', hd', hk', hf'⟩ := hm
    rw [ho] at ho'; cases ho'
    rw [hd] at hd'; cases hd'
    rw [← hf y, ← hf' y]
  subst em
  have low : ∀ {b : Addr} {o : Obj}, X.s₀.heap.get? b = some o → b ≠ X.env.locals := fun e => Nat.ne_of_lt (Nat.lt_of_lt_of_le (Heap.lt_size e) I.ok.above)
  refine ⟨I.ok, I.os, I.bare, ⟨fun b o e n hb hx => (hs.2 b (low e)).trans (I.base.keep b o e n hb hx), fun b o e n hb hx => ?_, I.base.free, fun b o e hx => ?_, I.base.tups, I.base.frzs, I.base.tbls⟩, ⟨_, hn', fun j y v' e1 e2 e3 => ?_⟩, fun y c e => ?_, I.free, I.freeC, fun p hp => ?_, fun b ob e => ?_, by simpa using I.len⟩
  · obtain ⟨sl, e1⟩ := I.base.slot b o e n hb hx
    exact ⟨sl, (hs.2 b (low e)).trans e1⟩
  · obtain ⟨o', e1⟩ := I.base.there b o e hx
    exact ⟨o', (hs.2 b (low e)).trans e1⟩
  · by_cases hj : j = i
    · subst hj
      have hiσ : j < σ.length := by rw [I.len]; exact (List.getElem?_eq_some_iff.mp hi).1
      rw [List.getElem?_set_self hiσ] at e2
      cases e2
    · rw [List.getElem?_set_ne (Ne.symm hj)] at e2
      obtain ⟨u', r', q⟩ := hl j y v' e1 e2 e3
      have ny : y ≠ n := fun z => hj (nodup_ix hN e1 (z ▸ hi))
      refine ⟨u', r', ?_⟩
      rcases q with ⟨k, e⟩ | ⟨k, c, e, z⟩
      · exact .inl ⟨k, by simp [ny, e]⟩
      · exact .inr ⟨k, c, e, z.sameBut hs (I.cne y c e)⟩
  · obtain ⟨w', z⟩ := I.cell y c e
    exact ⟨w', z.sameBut hs (I.cne y c e)⟩
  · obtain ⟨e, n, ne, nf, d⟩ := I.pin p hp
    exact ⟨(hs.2 _ ne).trans e, n, ne, nf, d⟩
  · refine (I.hok b ob e).stay (fun c w' hc q => (hs.2 c ?_).trans q) (fun _ q => q) fun _ _ q => q
    rintro rfl
    rcases hc with rfl | hc
    · rw [I.free] at e; cases e
    · rw [I.free] at hc; cases hc
/-- except C as n: .. -/
inductive tHN (K : PySem.W.Frag) (C : Addr) (i : Nat) (ts : TS) (th : Value → TS) (cls : Value) (D : Ends) (σ : St) (H : Hp) : Prop
  | mk (b : Bool) (e : PySem.W.exmOne K cls (.ref C) = some b)
      (q : if b = true then ∀ a oe, H a = none → oe.cls = cls → oe.dict = none → (∃ vs, oe.data = .fields vs) → ts { nx := fun σ' H' => D.nx (σ'.set i none) H', rt := D.rt, bk := fun σ' H' => D.bk (σ'.set i none) H', ct := fun σ' H' => D.ct (σ'.set i none) H' } (σ.set i (some (.ref a))) (upd H a (XO a oe)) else th cls D σ H) : tHN K C i ts th cls D σ H
theorem phN {i : Nat} {ts : TS} (hC : X.mg x = some (.ref C)) (hN : X.N.Nodup) (hi : X.N[i]? = some n) (hk : X.env.scope.names.lookup n = some .local) (hs : ∀ a : Addr, PSs (X.mark a) (b₀ :: suite) ts) (hr : PHs X rest th) (hg : Gl X x := by rfl) (hdb : (x == ("__debug__" : Str)) = false := by decide) :
    PHs X (.ExceptHandler (some (.Name x np)) (some n) (b₀ :: suite) pos :: rest) (tHN X.K C i ts th) := by
  intro pins s σ H D a cls g I xr x0 xp h
  obtain ⟨b, e, q⟩ := h
  refine h_test I xr hC hg e hdb ?_
  cases b with
  | false => exact hr pins s σ H D a cls g I xr x0 xp q
  | true =>
    refine codeAny_handlers_suite_as ?_
    cases xr with
    | old oe vs he hc hd hdi hn hgg T oT ts' h1 ht hT hdT h3 hnT hgT =>
      refine wpAny_setFlight_none he hd h1 hT hdT (Array.getElem?_eq_some_iff.mp h3).1 ?_
      have kp := keep3 hT hdT h3
      have I' : Inv X pins σ H { s with heap := s.heap.update T (Obj.mapFields fun z => z.setIfInBounds 3 Value.none) } := I.kept (t' := s.toks) kp
      have IT := (I'.trackX (kp _ _ he) hd hn x0 xp).mark a
      refine store_ok (X := X.mark a) IT hN hi (.inl hk) (v := .ref a) rfl (fun s2 I2 => ?_) (.inr hk)
      refine wpAny_mono (hs a pins s2 _ _ _ I2 (q a oe hn hc hdi ⟨vs, hd⟩)) (fun f s3 z => ?_) fun _ _ z => z.elim
      have go : ∀ {σ' H'}, Inv (X.mark a) pins σ' H' s3 → ∀ {Q : Flow → Shared → Prop}, (∀ s5, Inv X pins (σ'.set i none) H' s5 → Q f s5) → wpAny (model X.prog X.w) X.A (do bindName X.env n .none; unbindBehindTheSuite X.env n pos) (fun _ s5 => Q f s5) X.xe s3 := fun {σ' H'} J {Q} hq => by
        have J' := J.unmark I.ok
        obtain ⟨m, hm, _⟩ := id J'.loc
        refine wpAny_nameGoes_keeps hk hm (by rw [I.ok.kind]; rfl) fun h' v hn' hsb => hq _ (J'.forget hN hi hm hn' hsb)
      cases f with
      | next => obtain ⟨σ', H', J, z⟩ := z; exact go J fun s5 J5 => ⟨_, _, J5, z⟩
      | brk => obtain ⟨σ', H', J, z⟩ := z; exact go J fun s5 J5 => ⟨_, _, J5, z⟩
      | cont => obtain ⟨σ', H', J, z⟩ := z; exact go J fun s5 J5 => ⟨_, _, J5, z⟩
      | ret u => obtain ⟨v, σ', H', J, r, z⟩ := z; exact go J fun s5 J5 => ⟨v, _, _, J5, r, z⟩
end
end L2
set_option Elab.async false
set_option linter.all false
set_option maxRecDepth 100000
/-! isinstance of an error -/
namespace L2
open PySem PySem.Spec PySem.W PyProof.Rows
structure XAttr (K : Frag) (C : Addr) : Prop where
  ga : findIn K (.ref C) "__getattribute__" = some (some (.builtin "BaseException.__getattribute__"))
  gn : findIn K (.ref C) "__getattr__" = some none
  fo : findObj K C none "__class__" = some (.bind (.builtin "getset_descriptor.__get__") (.builtin "object.__class__"))
  mo : mroIn K C (.type "object") = some true
  sb : subIn K (.ref C) (.type "BaseException") = some true
section
variable {prog : Program} {w : World} {A : Around} {E : Value → Shared → Prop} {s : Shared} {K : Frag} {a C : Addr} {oe : Obj}
theorem kx_call {tk : Tok} {R : Result → Shared → Prop} (F1 : XAttr K C) (X : K.In s.heap) (I : PySem.W.InstAt s.heap a oe C none) (h : R (.ok (.ret (.ref C))) s) :
    codeAny (model prog w) A (.call (.builtin "BaseException.__getattribute__") ⟨[.ref a, .str "__class__" tk], []⟩) R s := by
  have hk : builtinKind "BaseException.__getattribute__" = some .slot := by decide +kernel
  have hsplit : splitId "BaseException.__getattribute__" = some ("BaseException", "__getattribute__") := by decide +kernel
  have ha := F.args_bexc_ga (.ref a) (.str "__class__" tk)
  have cg := fun (A : Around) (R : Result → Shared → Prop) (hR : R (.ok (.ret (.ref C))) s) => PySem.W.class_get (prog := prog) (w := w) (A := A) (R := R) (tp := .ref C) X I F1.mo hR
  obtain ⟨hh, g, d, t, os⟩ := s
  have L0 := I.type (M := model prog w)
  have L1 := looks_subIn (M := model prog w) X F1.sb
  have L2 := looks_find (M := model prog w) X I F1.fo
  refine codeAny_call_builtin F.excAttr_ValueError.ga.plain F.entry_bexc_ga ?_
  simp only [checkBuiltinCall, hk, hsplit]
  refine wpAny_bind ?_
  unfold isInstance
  repeat (any_goals (first | assumption | (with_reducible refine wpAny_bind (L0.at ?_)) | (with_reducible refine wpAny_bind (L2.at ?_)) | (with_reducible refine L1.at ?_) | wp_step))
  exact cg _ _ (wpAny_pure h)
theorem kx_class {Q : Option Value → Shared → Prop} (F1 : XAttr K C) (X : K.In s.heap) (I : PySem.W.InstAt s.heap a oe C none) (h : Q (some (.ref C)) { s with toks := s.toks + 1 }) : wpAny (model prog w) A (getAttr? (.ref a) "__class__") Q E s := by
  have kc := fun (A : Around) (tk : Tok) (t : Nat) (R : Result → Shared → Prop) (hR : R (.ok (.ret (.ref C))) { s with toks := t }) => kx_call (prog := prog) (w := w) (A := A) (s := { s with toks := t }) (tk := tk) F1 X I hR
  have f3 := F.excAttr_ValueError.ga.bind (.ref a)
  have hx2 : (Value.builtin "BaseException.__getattribute__" == Value.builtin "object.__getattribute__") = false := by decide +kernel
  have hx1 : (onTheHeap (Value.ref C) && Value.builtin "BaseException.__getattribute__" == Value.builtin "object.__getattribute__") = false := by rw [hx2]; rfl
  have hx0 : (false && onTheHeap (Value.builtin "BaseException.__getattribute__")) = false := rfl
  obtain ⟨hh, g, d, t, os⟩ := s
  have L0 := I.type (M := model prog w)
  have L1 := looks_findIn (M := model prog w) X F1.ga
  have L2 := looks_findIn (M := model prog w) X F1.gn
  unfold getAttr? getAttrBy? getAttrBy
  refine wpAny_bind (wpAny_mkText (wpAny_bind (wpAny_attempt (wpAny_holding (wpAny_bind (L0.at (wpAny_bind (L1.at ?_))))))))
  show wpAny _ _ (if (onTheHeap (Value.ref C) && Value.builtin "BaseException.__getattribute__" == Value.builtin "object.__getattribute__") = true then _ else _) _ _ _
  rw [if_neg (by rw [hx1]; simp)]
  unfold getAttrByItsOwn hookBefore
  rw [if_pos (show onTheHeap (Value.ref C) = true by rfl)]
  refine wpAny_bind (L2.at (wpAny_bind (wpAny_attempt (wpAny_holding ?_))))
  unfold callGetattribute boundAndCalled
  rw [if_neg (by simp)]
  rw [f3]
  refine wpAny_bind (wpAny_pure (wpAny_call (kc _ _ _ _ ?_)))
  exact handed_on rfl (wpAny_pure h)
theorem kitx_err (F1 : XAttr K C) (hc : oe.cls = .ref C) (hdi : oe.dict = none) (hd : ∃ vs, oe.data = .fields vs) (hcl : (clsIn K C).isSome = true) : KitX K (.ref a) (.ref C) (fun h => h.get? a = some oe) := by
  have hI : ∀ h : Heap, h.get? a = some oe → PySem.W.InstAt h a oe C none := fun h e => by
    obtain ⟨vs, hd⟩ := hd
    refine ⟨e, hc, ?_, ?_⟩
    · obtain ⟨c0, d0, dt, sl⟩ := oe
      dsimp only at hd
      subst hd
      rfl
    · rw [hdi]; trivial
  refine ⟨fun M h X e => (hI h e).type, fun M h X e => ?_, fun h tp dd its n sl X htp => ?_, fun {_ _ _ _ _ s} X e k => kx_class F1 X (hI _ e) k⟩
  · obtain ⟨cd, hcD⟩ := Option.isSome_iff_exists.mp hcl
    unfold clsIn at hcD
    split at hcD
    · rename_i c' d' cd' sl' ho
      intro A' Q' E' s' k q
      unfold isType loadHead
      exact wpAny_bind (wpAny_loadPart (k _ _ (X _ _ ho)) (wpAny_pure q))
    · cases hcD
  · obtain ⟨cd, hcD⟩ := Option.isSome_iff_exists.mp hcl
    refine Bool.eq_false_iff.mpr fun q => ?_
    have e : C = tp := Value.ref.inj (beq_iff_eq.mp q)
    subst e
    unfold clsIn at hcD
    split at hcD
    · rename_i c' d' cd' sl' ho
      have z := (X _ _ ho).symm.trans htp
      cases z
    · cases hcD
end
end L2
namespace L2
open PySem PySem.Spec PyProof.Rows
/-- an error of an own class -/
structure XErr (K : PySem.W.Frag) (oe : Obj) (C : Addr) : Prop where
  c : oe.cls = .ref C
  d : oe.dict = none
  f : ∃ vs, oe.data = .fields vs
  at_ : XAttr K C
  cl : (PySem.W.clsIn K C).isSome = true
inductive cIsE (K : PySem.W.Frag) (xs : List V) (H : Hp) (Q : VK) : Prop
  | own (a : Addr) (oe : Obj) (C C' : Addr) (b : Bool) (e : xs = [.ref a, .ref C']) (h : H a = some (XO a oe)) (x : XErr K oe C) (k : PySem.W.kitOne K (.ref C) (.ref C') = some b) (q : Q (.bl b) H) : cIsE K xs H Q
  | ty (a : Addr) (oe : Obj) (C : Addr) (T : String) (b : Bool) (e : xs = [.ref a, .ty T]) (h : H a = some (XO a oe)) (x : XErr K oe C) (k : PySem.W.kitOne K (.ref C) (.type T) = some b) (q : Q (.bl b) H) : cIsE K xs H Q
theorem call_isE {X : Cx} (K : PySem.W.Frag) (ek : X.K = K := by rfl) : CallR X (.builtin "isinstance") (cIsE K) := by
  subst ek
  intro pins s σ H xs us Q I r h
  have go : ∀ {a : Addr} {oe : Obj} {C : Addr} {c : Value} {b : Bool}, H a = some (XO a oe) → XErr X.K oe C → PySem.W.kitOne X.K (.ref C) c = some b → Q (.bl b) H → wpAny (model X.prog X.w) X.A (call (.builtin "isinstance") [.ref a, c]) (EP X pins σ Q) X.xe s := fun {a oe C c b} h x k q => by
    have p : s.heap.get? a = some oe := (I.hok a _ h).1
    exact PySem.W.kia_one (kitx_err x.at_ x.c x.d x.f x.cl) I.kIn p k (by intro z; cases z) fun tk => ⟨.bl b, H, I.tok tk, rfl, q⟩
  cases h with
  | own a oe C C' b e h x k q =>
    subst e
    obtain ⟨u, w', rfl, rx, rt⟩ := vals2 r
    cases rx
    cases rt
    exact go h x k q
  | ty a oe C T b e h x k q =>
    subst e
    obtain ⟨u, w', rfl, rx, rt⟩ := vals2 r
    cases rx
    cases rt
    exact go h x k q
end L2
set_option Elab.async false
set_option linter.all false
set_option maxRecDepth 100000
namespace L2
open PySem PySem.Spec PyProof.Rows
structure RoomN (k : Nat) (A : Around) : Prop where
  dp : A.depth + 3 * k + 5 < recursionLimit
  un : A.units + 16 * k + 200 < cLine
  gd : A.guards = some []
theorem RoomN.mono {j k : Nat} {A : Around} (r : RoomN k A) (h : j ≤ k) : RoomN j A := ⟨by have := r.dp; omega, by have := r.un; omega, r.gd⟩
theorem RoomN.deeper {k : Nat} {A : Around} (r : RoomN (k + 1) A) (env : Env) : RoomN k (A.deeper env) := ⟨by have := r.dp; show A.depth + 1 + 3 * k + 5 < _; omega, by have := r.un; show A.units + 3 + 16 * k + 200 < _; omega, r.gd⟩
theorem RoomN.depth {k : Nat} {A : Around} (r : RoomN k A) : A.depth < recursionLimit := by have := r.dp; omega
theorem Room.n {k : Nat} {A : Around} (r : Room k A) (v : Option Value) : RoomN k (A.mark v) := ⟨r.dp, r.un, r.gd⟩
def cxN (CX : CXT) (P : Program) (w : World) (K : PySem.W.Frag) (mg : Str → Option Value) (base : Heap) (N : List Str) (qual : Str) (scope : Scope) (f : Addr) (cd : Value) (A : Around) (outer : List Env) (s : Shared) (H : Hp) (E : XK) : Cx where
  prog := P
  w := w
  K := K
  mg := mg
  base := base
  A := A.deeper (envOfC qual scope s.heap.objs.size f cd)
  N := N
  s₀ := s
  H₀ := H
  env := envOfC qual scope s.heap.objs.size f cd
  outer := outer
  stack := envOfC qual scope s.heap.objs.size f cd :: outer
  ex := []
  calm := false
  fn := fun _ => true
  pn := []
  xe := fun e s' => wpAny (model P w) (A.deeper (envOfC qual scope s.heap.objs.size f cd)) (leaving (envOfC qual scope s.heap.objs.size f cd) e) (fun _ s'' => CX outer H s E e s'') (fun e' s'' => CX outer H s E e' s'') s'
theorem inv_startN {CX : CXT} {P : Program} {w : World} {K : PySem.W.Frag} {mg : Str → Option Value} {base : Heap} {N ps : List Str} {qual : Str} {scope : Scope} {f : Addr} {cd : Value} {A : Around} {outer : List Env} {s s1 : Shared} {H : Hp} {E : XK} {us : List Value} {vs : List V}
    (S : FnScope N ps scope) (e0 : Env0 P w K mg base A outer s H) (hl : vs.length = ps.length) (r : Vals vs us)
    (x : InCallC s s.heap.objs.size (bindL (envOfC qual scope s.heap.objs.size f cd).kindOf (ps.zip us) fun _ => none) (cellsFrom (s.heap.objs.size + 1) scope.names []) (bindC (envOfC qual scope s.heap.objs.size f cd).kindOf (ps.zip us) fun _ => none) s1) :
    Inv (cxN CX P w K mg base N qual scope f cd A outer s H E) [] (start N vs) H s1 := by
  have hpl : ps.length ≤ N.length := by have := congrArg List.length S.pre; rw [List.length_take] at this; omega
  obtain ⟨h1, tk, rfl, hk⟩ := x.done
  have noA : ∀ b : Addr, b ∉ (cxN CX P w K mg base N qual scope f cd A outer s H E).ex := fun b z => absurd (show b ∈ ([] : List Addr) from z) (by simp)
  refine ⟨⟨e0.mod, S.kind, rfl, rfl, Nat.le_refl _, fun y z c h1 h2 => ?_, fun y hy => ?_, fun y c _ h => ?_, (fun z => nomatch z), Around.frames_deeper e0.frames, .inr ⟨rfl, rfl⟩, fun b z => absurd z (noA b), e0.bs, e0.bsz, fun b _ _ => noA b, fun b z => absurd z (noA b), e0.funs, e0.frf⟩,
    rfl, e0.bare, Un.kept hk, ⟨_, x.toInCall.ns, fun i y v h1 h2 h3 => ?_⟩, fun y c h => ⟨_, x.cell y c h⟩, e0.hok.fresh (Nat.le_refl _), fun y c h => ?_, fun p hp => absurd (show p ∈ ([] : List (Addr × Obj)) from hp) (by simp), e0.hok.kept hk, ?_⟩
  · exact name_of_addr x.apart (PySem.mem_of_lookup h1) (PySem.mem_of_lookup h2)
  · have hy : scope.names.lookup y = some .cell ∨ scope.names.lookup y = some .free := hy
    rcases hy with hy | hy
    · exact cell_has hy
    · exact absurd rfl (S.nofree _ (PySem.mem_of_lookup hy))
  · exact Nat.le_of_lt (x.above y c (PySem.mem_of_lookup h))
  · have hi : i < vs.length := by
      unfold start at h2
      by_cases hi : i < vs.length
      · exact hi
      · rw [List.getElem?_append_right (by simpa using hi)] at h2
        rw [List.getElem?_replicate] at h2
        split at h2 <;> cases h2
    have ha : vs[i]? = some v := by
      unfold start at h2
      rw [List.getElem?_append_left (by simpa using hi), List.getElem?_map] at h2
      cases e : vs[i]? with
      | none => rw [e] at h2; cases h2
      | some a => rw [e] at h2; cases h2; rfl
    obtain ⟨u, hu, rv⟩ := r.get ha
    have hp : ps[i]? = some y := by
      rw [← S.pre, List.getElem?_take_of_lt (by omega)]; exact h1
    have ndP : ps.Nodup := by rw [← S.pre]; exact S.nd.sublist (List.take_sublist _ _)
    refine ⟨u, rv, ?_⟩
    rcases S.par y (List.mem_of_getElem? hp) with k | k
    · exact .inl ⟨k, bindL_get ndP hp hu k⟩
    · obtain ⟨c, e⟩ := cell_has (n := s.heap.objs.size + 1) k
      refine .inr ⟨.inl k, c, e, ?_⟩
      have q := x.cell y c e
      rw [bindC_get ndP hp hu (by show scope.names.lookup y ≠ _; rw [k]; decide)] at q
      exact q
  · exact e0.hok.fresh (Nat.le_of_lt (x.above y c (PySem.mem_of_lookup h)))
  · unfold start
    show _ = N.length
    rw [List.length_append, List.length_map, List.length_replicate]
    omega
structure FnOkN (P : Program) (w : World) (K : PySem.W.Frag) (mg : Str → Option Value) (base : Heap) (CX : CXT) (k : Nat) (f : Addr) (fd : FuncData) (ps : List Str) (sp : Sp) : Prop where
  len : ∀ vs H Q E, sp vs H Q E → vs.length = ps.length
  run : ∀ (A : Around) (outer : List Env) (s : Shared) (H : Hp) (args : Args) (us : List Value) (vs : List V) (Q : VK) (E : XK), RoomN k A → Env0 P w K mg base A outer s H → BindsTo s fd args (ps.zip us) → Vals vs us → sp vs H Q E →
    codeAny (model P w) A (.call (.ref f) args) (CR CX outer P w H s Q E) s
theorem fn_ofN {CX : CXT} {P : Program} {w : World} {K : PySem.W.Frag} {mg : Str → Option Value} {base : Heap} {k : Nat} {f : Addr} {name qual : Str} {params : Arguments} {body : List Stmt} {scope : Scope} {dV kV doc pm cdv ct oc : Value} {an od : Option Addr}
    {osl : Array (Option Value)} {N ps : List Str} {sp : Sp} (lk : K.lookup f = some ⟨oc, od, .func (PySem.W.fnOf name qual params body scope dV kV doc pm an cdv ct), osl⟩) (hcd : PySem.W.codeIn K cdv qual = true) (S : FnScope N ps scope)
    (len : ∀ vs H Q E, sp vs H Q E → vs.length = ps.length)
    (hbody : ∀ (A : Around) (outer : List Env) (s : Shared) (H : Hp) (vs : List V) (Q : VK) (E : XK), RoomN k (A.deeper (envOfC qual scope s.heap.objs.size f cdv)) → sp vs H Q E →
      ∃ t, PSs (cxN CX P w K mg base N qual scope f cdv A outer s H E) body t ∧ t { nx := fun _ H' => Q .non H', rt := Q } (start N vs) H) :
    FnOkN P w K mg base CX (k + 1) f (PySem.W.fnOf name qual params body scope dV kV doc pm an cdv ct) ps sp := by
  refine ⟨len, fun A outer s H args us vs Q E hr e0 hb r hsp => ?_⟩
  have hl := len _ _ _ _ hsp
  have KX : K.In s.heap := e0.mod.kin.keeps fun b o e => (e0.bs b o e).1
  have lim : s.heap.NoLimit := e0.mod.nolimit.keeps fun b o e => (e0.bs b o e).1
  have hkind : ∀ y ∈ ps.zip us, scope.names.lookup y.1 = some .local ∨ (scope.names.lookup y.1 = some .cell ∧ ((cellsFrom (s.heap.objs.size + 1) scope.names []).lookup y.1).isSome = true) := fun ⟨n, v⟩ hy => by
    rcases S.par n (List.of_mem_zip hy).1 with q | q
    · exact .inl q
    · exact .inr ⟨q, PySem.W.cellsFrom_some _ _ _ (.inl q)⟩
  refine codeAny_call_function hr.depth (KX _ _ lk) rfl S.co S.gen rfl (PySem.W.codeRec_of KX hcd) (hb _ _ _ _ ?_)
  refine wpAny_newFunctionEnv_cells S.kind hkind fun env he s1 x => ?_
  subst he
  refine ⟨lim.keeps x.toInCall.keep, codeAny_func ?_⟩
  obtain ⟨t, ht, hq⟩ := hbody A outer s H vs Q E (hr.deeper _) hsp
  have I : Inv (cxN CX P w K mg base N qual scope f cdv A outer s H E) [] (start N vs) H s1 := inv_startN S e0 hl r x
  refine wpAny_mono (ht [] s1 (start N vs) H _ I hq) (fun fl s' hs => ?_) fun e s' hs => hs
  have fin : ∀ {σ' : St} {H' : Hp} {v : V} {u : Value}, Inv (cxN CX P w K mg base N qual scope f cdv A outer s H E) [] σ' H' s' → RelV v u → Q v H' → CE outer P w H s Q u s' :=
    fun {σ' H' v u} J rv q => ⟨v, H', J.os, J.bare, J.base, J.hok, rv, q⟩
  cases fl with
  | ret u =>
    obtain ⟨v, σ', H', J, rv, q⟩ := hs
    exact fin J rv q
  | next =>
    obtain ⟨σ', H', J, q⟩ := hs
    exact fin (v := V.non) (u := Value.none) J rfl q
  | brk =>
    obtain ⟨_, _, _, q⟩ := hs
    exact False.elim q
  | cont =>
    obtain ⟨_, _, _, q⟩ := hs
    exact False.elim q
section
variable {X : Cx} {CX : CXT} {k : Nat} {f C : Addr} {fd : FuncData} {ps : List Str} {sp : Sp} {dvs : List V} {ds : List Value} {E : XK} {x m : Str} {p pos apos : Pos} {e o : Expr} {es : List Expr} {ta : TE} {t : TA}
theorem run_fnN {pins : List (Addr × Obj)} {σ : St} {H : Hp} {s : Shared} {Q : VK} {us : List Value} {vs : List V} (F : FnOkN X.prog X.w X.K X.mg X.base CX k f fd ps sp) (hr : RoomN k X.A) (hb : Binds X.K fd ps ds) (hd : Vals dvs ds) (hx : Passes CX X E)
    (I : Inv X pins σ H s) (r : Vals vs us) (h : sp (vs ++ dvs) H Q E) : wpAny (model X.prog X.w) X.A (call (.ref f) us) (EP X pins σ Q) X.xe s := by
  have r2 : Vals (vs ++ dvs) (us ++ ds) := r.append hd
  have hl : (us ++ ds).length = ps.length := by rw [← r2.length]; exact F.len _ _ _ _ h
  refine wpAny_call (codeAny_mono (F.run X.A X.stack s H ⟨us, []⟩ (us ++ ds) (vs ++ dvs) Q E hr I.env0 (hb s us I.kIn hl) r2 h) fun r s' hq => ?_)
  cases r with
  | error e => exact hx pins σ H s e s' I hq
  | ok fl =>
    cases fl with
    | ret u => exact I.after hq
    | next => exact False.elim hq
    | brk => exact False.elim hq
    | cont => exact False.elim hq
theorem pe_callN (F : FnOkN X.prog X.w X.K X.mg X.base CX k f fd ps sp) (hr : RoomN k X.A) (hg : Gl X x) (hm : X.mg x = some (.ref f)) (hk : PySem.W.keepIn X.K (.ref f) = true) (hb : Binds X.K fd ps ds) (hd : Vals dvs ds) (hx : Passes CX X E)
    (ha : PA X (e :: es) t) (hdb : (x == ("__debug__" : Str)) = false := by decide) (he : starEach (e :: es) X.env = (false, eval e X.env) :: starEach es X.env := by rfl) (hpl : (backTo pos (starEach es X.env)).any (·.1) = false := by rfl) :
    PE X (.Call (.Name x p) (e :: es) [] pos) (tCall sp dvs E t) := by
  refine ⟨?_⟩
  intro pins s σ H Q I h
  refine wpAny_Call_Name_kw (ld_glob I hg hm ?_ hdb)
  refine PySem.W.callWith_K (h₀ := X.base) I.ok.mod.kin hk (thn (ha pos pins s σ H _ I h) fun us s1 ⟨vs, H1, I1, r, q⟩ => ⟨I1.kIn, ?_⟩) he hpl
  exact run_fnN F hr hb hd hx I1 r q
end
/-- a def that may be called within an except suite; no error leaves it -/
def CanN (P : Program) (w : World) (K : PySem.W.Frag) (mg : Str → Option Value) (base : Heap) (k : Nat) (x : Str) (ps : List Str) (sp : Sp) : Prop :=
  ∃ f fd, FnOkN P w K mg base CX0 k f fd ps sp ∧ mg x = some (.ref f) ∧ PySem.W.keepIn K (.ref f) = true ∧ Binds K fd ps []
section
variable {P : Program} {w : World} {K : PySem.W.Frag} {mg : Str → Option Value} {base : Heap}
theorem fn_canN {x : Str} {st : Stmt} {N ps : List Str} {k : Nat} {sp : Sp} (h : ∃ f fd, Fn K mg x st ps f fd) (S : FnScope N ps (defScope st)) (len : ∀ vs H Q E, sp vs H Q E → vs.length = ps.length)
    (hbody : ∀ (f : Addr) (cdv : Value) (A : Around) (outer : List Env) (s : Shared) (H : Hp) (vs : List V) (Q : VK) (E : XK), RoomN k (A.deeper (envOfC x (defScope st) s.heap.objs.size f cdv)) → sp vs H Q E →
      ∃ t, PSs (cxN CX0 P w K mg base N x (defScope st) f cdv A outer s H E).nox (defBody st) t ∧ t { nx := fun _ H' => Q .non H', rt := Q } (start N vs) H) : CanN P w K mg base (k + 1) x ps sp := by
  obtain ⟨f, fd, F⟩ := h
  obtain ⟨oc, od, kV, doc, pm, an, cdv, ct, osl, e, lk, hcd⟩ := F.fn.ex
  refine ⟨f, fd, ?_, F.m, F.fn.kp, F.b⟩
  subst e
  refine fn_ofN lk hcd S len fun A outer s H vs Q E hr hsp => ?_
  obtain ⟨t, h, q⟩ := hbody f cdv A outer s H vs Q E hr hsp
  exact ⟨t, h.nox, q⟩
end
section
variable {X : Cx} {k k' : Nat} {x : Str} {ps : List Str} {sp : Sp} {p pos : Pos} {e : Expr} {es : List Expr} {t : TA}
theorem pe_canN (h : CanN X.prog X.w X.K X.mg X.base k x ps sp) (hr : RoomN k' X.A) (ha : PA X (e :: es) t) (hg : Gl X x := by rfl) (hk : k ≤ k' := by decide) (hdb : (x == ("__debug__" : Str)) = false := by decide)
    (hs : starEach (e :: es) X.env = (false, eval e X.env) :: starEach es X.env := by rfl) (hpl : (backTo pos (starEach es X.env)).any (·.1) = false := by rfl) : PE X (.Call (.Name x p) (e :: es) [] pos) (tCall sp [] E0 t) := by
  obtain ⟨f, fd, F, hm, kp, b⟩ := h
  exact pe_callN F (hr.mono hk) hg hm kp b .nil pass0 ha hdb hs hpl
end
end L2
set_option Elab.async false
set_option linter.all false
set_option maxRecDepth 100000
/-! the own classes of errors that a text names -/
namespace L2
open PySem PySem.Spec PyProof.Rows
/-- where the class stands that a name of the module means -/
def cOf (mg : Str → Option Value) (x : Str) : Addr := match mg x with
  | some (.ref C) => C
  | _ => 0
theorem cOf_eq {mg : Str → Option Value} {x : Str} {C : Addr} (h : mg x = some (.ref C)) : cOf mg x = C := by unfold cOf; rw [h]
structure XC (K : PySem.W.Frag) (mg : Str → Option Value) (x : Str) : Prop where
  m : mg x = some (.ref (cOf mg x))
  ok : PySem.W.excIn K (cOf mg x) bmV "ValueError.__new__" = true
  at_ : XAttr K (cOf mg x)
  cl : (PySem.W.clsIn K (cOf mg x)).isSome = true
theorem XC.cls {K : PySem.W.Frag} {mg : Str → Option Value} {x : Str} (h : XC K mg x) : XCls K mg x (cOf mg x) := ⟨h.m, h.ok⟩
theorem XC.err {K : PySem.W.Frag} {mg : Str → Option Value} {x : Str} (h : XC K mg x) {oe : Obj} (c : oe.cls = .ref (cOf mg x)) (d : oe.dict = none) (f : ∃ vs, oe.data = .fields vs) : XErr K oe (cOf mg x) := ⟨c, d, f, h.at_, h.cl⟩
theorem xc_mk {K : PySem.W.Frag} {mg : Str → Option Value} {x : Str} {C : Addr} (m : mg x = some (.ref C)) (ok : PySem.W.excIn K C bmV "ValueError.__new__" = true)
    (ga : PySem.W.findIn K (.ref C) "__getattribute__" = some (some (.builtin "BaseException.__getattribute__"))) (gn : PySem.W.findIn K (.ref C) "__getattr__" = some none)
    (fo : PySem.W.findIn K (.ref C) "__class__" = some (some (.builtin "object.__class__"))) (sp : PySem.W.specialIn K (.builtin "object.__class__") "__get__" = some (some (.builtin "getset_descriptor.__get__"))) (tk : PySem.W.takesIn K (.builtin "object.__class__") = some true) (mo : PySem.W.mroIn K C (.type "object") = some true) (sb : PySem.W.subIn K (.ref C) (.type "BaseException") = some true) {cd : ClassData} (cl : PySem.W.clsIn K C = some cd) : XC K mg x := by
  refine ⟨?_, ?_, ?_, ?_⟩ <;> rw [cOf_eq m]
  · exact m
  · exact ok
  · refine ⟨ga, gn, ?_, mo, sb⟩
    unfold PySem.W.findObj
    rw [cl, Option.bind_some, fo, Option.bind_some]
    simp [sp, tk]
  · rw [cl]; rfl
end L2
set_option Elab.async false
set_option linter.all false
set_option maxRecDepth 100000
namespace Pr
open PySem L2
def top (i : Nat) : Stmt := PySem.Challenge.pw_peakroll_k24_no_entries_text.main.body.getD i (.Pass ⟨0, 0, 0, 0⟩)
abbrev s_is_word : Stmt := top 13
abbrev s_is_key : Stmt := top 14
abbrev s_need_text : Stmt := top 15
abbrev s_whole_of : Stmt := top 18
abbrev s_read_wide : Stmt := top 19
abbrev s_read_entries : Stmt := top 21
abbrev s_read_entry : Stmt := top 22
abbrev s_law_cell : Stmt := top 24
abbrev s_law_pot : Stmt := top 25
abbrev s_law_take : Stmt := top 26
abbrev s_law_wide : Stmt := top 27
abbrev s_law_key : Stmt := top 28
abbrev s_law_entry : Stmt := top 29
abbrev s_law_word : Stmt := top 30
abbrev s_law_bad_words : Stmt := top 31
abbrev s_law_odd_key : Stmt := top 32
abbrev s_law_bad : Stmt := top 33
abbrev s_law_is_text_alone : Stmt := top 34
abbrev s_law_tried : Stmt := top 35
abbrev s_law : Stmt := top 36
structure Txt (K : PySem.W.Frag) (mg : Str → Option Value) (C : Addr) : Prop where
  f_is_word : ∃ f fd, Fn K mg "is_word" s_is_word ["value", "signs", "most"] f fd
  f_is_key : ∃ f fd, Fn K mg "is_key" s_is_key ["value"] f fd
  f_need_text : ∃ f fd, Fn K mg "need_text" s_need_text ["value"] f fd
  f_whole_of : ∃ f fd, Fn K mg "whole_of" s_whole_of ["word", "most"] f fd
  f_read_wide : ∃ f fd, Fn K mg "read_wide" s_read_wide ["word"] f fd
  f_read_entries : ∃ f fd, Fn K mg "read_entries" s_read_entries ["text"] f fd
  f_read_entry : ∃ f fd, Fn K mg "read_entry" s_read_entry ["word"] f fd
  f_law_cell : ∃ f fd, Fn K mg "_law_cell" s_law_cell ["_law_script", "_law_k"] f fd
  f_law_pot : ∃ f fd, Fn K mg "_law_pot" s_law_pot ["_law_cell_here"] f fd
  f_law_take : ∃ f fd, Fn K mg "_law_take" s_law_take ["_law_pot_here", "_law_many"] f fd
  f_law_wide : ∃ f fd, Fn K mg "_law_wide" s_law_wide ["_law_pot_here"] f fd
  f_law_key : ∃ f fd, Fn K mg "_law_key" s_law_key ["_law_pot_here"] f fd
  f_law_entry : ∃ f fd, Fn K mg "_law_entry" s_law_entry ["_law_pot_here"] f fd
  f_law_word : ∃ f fd, Fn K mg "_law_word" s_law_word ["_law_entry_here"] f fd
  f_law_bad_words : ∃ f fd, Fn K mg "_law_bad_words" s_law_bad_words ["_law_entry_here"] f fd
  f_law_odd_key : ∃ f fd, Fn K mg "_law_odd_key" s_law_odd_key ["_law_pot_here", "_law_entry_here"] f fd
  f_law_bad : ∃ f fd, Fn K mg "_law_bad" s_law_bad ["_law_pot_here", "_law_entries"] f fd
  f_law_is_text_alone : ∃ f fd, Fn K mg "_law_is_text_alone" s_law_is_text_alone ["_law_e"] f fd
  f_law_tried : ∃ f fd, Fn K mg "_law_tried" s_law_tried ["_law_thing"] f fd
  f_law : ∃ f fd, Fn K mg "law" s_law ["_law_script"] f fd
  c_LETTERS : ∃ t, mg "LETTERS" = some (.str "abcdefghijklmnopqrstuvwxyz" t)
  c_KEY_SIGNS : ∃ t, mg "KEY_SIGNS" = some (.str "abcdefghijklmnopqrstuvwxyz0123456789" t)
  c_MOST_KEY_SIGNS : ∃ t, mg "MOST_KEY_SIGNS" = some (.int 8 t)
  c_WIDE_FIGURES : ∃ t, mg "WIDE_FIGURES" = some (.int 30 t)
  b_ValueError : mg "ValueError" = none
  b_abs : mg "abs" = none
  b_all : mg "all" = none
  b_divmod : mg "divmod" = none
  b_int : mg "int" = none
  b_isinstance : mg "isinstance" = none
  b_len : mg "len" = none
  b_max : mg "max" = none
  b_min : mg "min" = none
  b_range : mg "range" = none
  b_repr : mg "repr" = none
  b_str : mg "str" = none
  x_PeakError : XC K mg "PeakError"
  x_NoMoment : XC K mg "NoMoment"
  x_NoNumber : XC K mg "NoNumber"
  x_NoText : XC K mg "NoText"
  x_NoBounds : XC K mg "NoBounds"
  x_Gone : XC K mg "Gone"
  x_NoRow : XC K mg "NoRow"
  x_Held : XC K mg "Held"
  kv_NoText : PySem.W.kitOne K (.ref (cOf mg "NoText")) (.type "ValueError") = some true
  e_NoText_PeakError : PySem.W.exmOne K (.ref (cOf mg "NoText")) (.ref (cOf mg "PeakError")) = some true
  k_NoText_NoMoment : PySem.W.kitOne K (.ref (cOf mg "NoText")) (.ref (cOf mg "NoMoment")) = some false
  k_NoText_NoNumber : PySem.W.kitOne K (.ref (cOf mg "NoText")) (.ref (cOf mg "NoNumber")) = some false
  k_NoText_NoText : PySem.W.kitOne K (.ref (cOf mg "NoText")) (.ref (cOf mg "NoText")) = some true
  k_NoText_NoBounds : PySem.W.kitOne K (.ref (cOf mg "NoText")) (.ref (cOf mg "NoBounds")) = some false
  k_NoText_Gone : PySem.W.kitOne K (.ref (cOf mg "NoText")) (.ref (cOf mg "Gone")) = some false
  k_NoText_NoRow : PySem.W.kitOne K (.ref (cOf mg "NoText")) (.ref (cOf mg "NoRow")) = some false
  k_NoText_Held : PySem.W.kitOne K (.ref (cOf mg "NoText")) (.ref (cOf mg "Held")) = some false
end Pr
set_option Elab.async false
set_option linter.all false
set_option maxRecDepth 100000
namespace L2
open PySem PySem.Spec PyProof.Rows
/-! ### the forms of a comprehension that one uses -/
/-- an element has come: y goes onto the list at D -/
def LcNx (n i : Nat) (D : Addr) (ys : List V) (Pv : Nat → List V → Hp → Prop) (y : V) (H3 : Hp) : Prop :=
  H3 D = some (.lst ys) ∧ ys.length < sizeLine ∧ ∃ m', m' < n - i ∧ (m' = n - (i + 1) ∧ i + 1 ≤ n ∧ Pv (i + 1) (ys ++ [y]) (upd H3 D (.lst (ys ++ [y]))))
/-- none has come -/
def LcNo (n i : Nat) (ys : List V) (Pv : Nat → List V → Hp → Prop) (H3 : Hp) : Prop := ∃ m', m' < n - i ∧ (m' = n - (i + 1) ∧ i + 1 ≤ n ∧ Pv (i + 1) ys H3)
theorem LcNx.mk {n i : Nat} {D : Addr} {ys : List V} {Pv : Nat → List V → Hp → Prop} {y : V} {H3 : Hp} (hi : i < n) (hn : n ≤ 1000) (hl : ys.length ≤ i) (h : H3 D = some (.lst ys)) (p : Pv (i + 1) (ys ++ [y]) (upd H3 D (.lst (ys ++ [y])))) : LcNx n i D ys Pv y H3 :=
  ⟨h, small1000 (by omega), n - (i + 1), by omega, rfl, hi, p⟩
theorem lc_go {tc : TT} {te : TE} {σ : St} {J : It} {D : Addr} {Fin : Hp → Prop} {H : Hp} {n : Nat} (Pv : Nat → List V → Hp → Prop) (h0 : Pv 0 [] (upd H D (.lst [])))
    (hD : ∀ i ys H, Pv i ys H → H D = some (.lst ys)) (hend : ∀ ys H, Pv n ys H → J.stop n H ∧ Fin H)
    (hgo : ∀ i ys H, i < n → Pv i ys H → J.go i H ∧ ∀ x H', J.yld i H x H' → tc (some x :: σ) H' fun b H2 => if b = true then te (some x :: σ) H2 (LcNx n i D ys Pv) else LcNo n i ys Pv H2) : lcGo tc te σ J D Fin H := by
  refine ⟨fun i m ys H => m = n - i ∧ i ≤ n ∧ Pv i ys H, ⟨n, rfl, Nat.zero_le _, h0⟩, ?_⟩
  rintro i m ys H ⟨rfl, hi, p⟩
  refine ⟨hD i ys H p, ?_⟩
  by_cases hlt : i < n
  · exact .inr (hgo i ys H hlt p)
  · have e : i = n := by omega
    subst e
    exact .inl (hend ys H p)
theorem lc_list {K : PySem.W.Frag} {a : Addr} {xs : List V} {tc : TT} {te : TE} {σ : St} {D : Addr} {Fin : Hp → Prop} {H : Hp} (Pv : Nat → List V → Hp → Prop) (h0 : Pv 0 [] (upd H D (.lst [])))
    (hD : ∀ i ys H, Pv i ys H → H D = some (.lst ys) ∧ SqL K H a xs) (hend : ∀ ys H, Pv xs.length ys H → Fin H)
    (hgo : ∀ i x ys H, i < xs.length → xs[i]? = some x → Pv i ys H → tc (some x :: σ) H fun b H2 => if b = true then te (some x :: σ) H2 (LcNx xs.length i D ys Pv) else LcNo xs.length i ys Pv H2) : lcGo tc te σ (Itl K a) D Fin H := by
  refine lc_go Pv h0 (fun i ys H p => (hD i ys H p).1) (fun ys H p => ⟨⟨xs, (hD _ _ _ p).2, Nat.le_refl _⟩, hend ys H p⟩) fun i ys H hi p => ?_
  refine ⟨⟨xs, xs[i], (hD _ _ _ p).2, List.getElem?_eq_getElem hi⟩, fun x H' y => ?_⟩
  obtain ⟨e, y⟩ := y
  subst e
  exact hgo i x ys _ hi (y xs (hD _ _ _ p).2) p
theorem lc_range {lo : Int} {n : Nat} {tc : TT} {te : TE} {σ : St} {D : Addr} {Fin : Hp → Prop} {H : Hp} (Pv : Nat → List V → Hp → Prop) (h0 : Pv 0 [] (upd H D (.lst [])))
    (hD : ∀ i ys H, Pv i ys H → H D = some (.lst ys)) (hend : ∀ ys H, Pv n ys H → Fin H)
    (hgo : ∀ i ys H, i < n → Pv i ys H → tc (some (.int (lo + i)) :: σ) H fun b H2 => if b = true then te (some (.int (lo + i)) :: σ) H2 (LcNx n i D ys Pv) else LcNo n i ys Pv H2) : lcGo tc te σ (Itr lo n) D Fin H := by
  refine lc_go Pv h0 hD (fun ys H p => ⟨Nat.le_refl _, hend ys H p⟩) fun i ys H hi p => ?_
  refine ⟨hi, fun x H' y => ?_⟩
  obtain ⟨e, y⟩ := y
  subst e y
  exact hgo i ys _ hi p
/-! within a comprehension's block the readings must not name the block's context -/
section
variable {X : Cx}
theorem ix_tupK (K : PySem.W.Frag) (e : X.K = K := by rfl) : IxR X (rIxT K) := by rw [← e]; exact ix_tup
theorem ix_listK (K : PySem.W.Frag) (e : X.K = K := by rfl) : IxR X (rIxL K) := by rw [← e]; exact ix_list
end
theorem yesI {σ : St} {H : Hp} {A B : Hp → Prop} (h : A H) : tYes σ H (fun b H2 => if b = true then A H2 else B H2) := by
  show if true = true then A H else B H
  rw [if_pos rfl]
  exact h
theorem lcS {X : Cx} {x : Str} {sc scp : Scope} {N ps : List Str} (S : FnScope N ps scp) (hN : X.N = N := by rfl) (hs : X.env.scope = scp := by rfl) (h1 : sc.kind = .function := by rfl) (h2 : ∀ p ∈ sc.names, p.2 ≠ .cell := by decide +kernel) (h3 : sc.names.lookup x = some .local := by rfl)
    (h4 : ∀ p ∈ sc.names, p.2 = .local → sc.names.lookup p.1 = some .local := by decide +kernel) (h5 : ∀ y ∈ N, sc.names.lookup y ≠ some .local := by decide +kernel)
    (h7 : ∀ p ∈ sc.names, p.2 = .free → scp.names.lookup p.1 = some .cell ∨ scp.names.lookup p.1 = some .free := by decide +kernel) : LcScope X x sc :=
  ⟨h1, h2, h3, h4, by rw [hN]; exact h5, by rw [hN]; exact S.nd, fun p hp e => by
    show X.env.scope.names.lookup p.1 = _ ∨ X.env.scope.names.lookup p.1 = _
    rw [hs]
    exact h7 p hp e⟩
theorem Paired.get {α β : Type} {F : α → β → Prop} : ∀ {xs : List α} {ys : List β} {i : Nat} {x : α}, Paired F xs ys → xs[i]? = some x → ∃ y, ys[i]? = some y ∧ F x y
  | _, _, _, _, .nil, e => by simp at e
  | _, _, 0, _, .cons r _, e => by simp at e; subst e; exact ⟨_, rfl, r⟩
  | _, _, i + 1, x, .cons _ t, e => by
    obtain ⟨u, h1, h2⟩ := Paired.get (i := i) (x := x) t (by simpa using e)
    exact ⟨u, by simpa using h1, h2⟩
end L2
set_option Elab.async false
set_option linter.all false
set_option maxRecDepth 100000
/-! WHAT A SORT OF FEWER THAN 64 THINGS COMES TO, over the library's tree of asks: a permutation, in order, those alike as they stood. -/
namespace Srt
open PySem PySem.W PyProof.Rows
section
variable {n : Nat} {lt : Nat → Nat → Bool} {α β : Type}
end
section
variable {lt : Nat → Nat → Bool} {N : Nat}
end
end Srt
set_option Elab.async false
set_option linter.all false
set_option maxRecDepth 100000
/-! sorted(list, key = a def of the text) over the hand layer. -/
namespace L2
open PySem PySem.Spec PyProof.Rows
section
variable {X : Cx} {pins : List (Addr × Obj)} {σ : St} {H : Hp} {s : Shared}
end
section
variable {X : Cx} {pins : List (Addr × Obj)} {σ : St} {H : Hp} {s : Shared} {kS D : Addr} {its : List Value} {xs : List V} {f : Value} {Q : VK}
end
end L2
set_option Elab.async false
set_option linter.all false
set_option maxRecDepth 100000
/-! in order: sorted by (moment, key), over the hand layer. -/
namespace Srt
open PySem
end Srt
namespace L2
open PySem PySem.Spec PyProof.Rows
section
variable {X : Cx} {pins : List (Addr × Obj)} {σ : St} {H : Hp} {s : Shared}
theorem Paired.snoc {α β : Type} {F : α → β → Prop} {x : α} {y : β} (h : F x y) : ∀ {xs : List α} {ys : List β}, Paired F xs ys → Paired F (xs ++ [x]) (ys ++ [y])
  | _, _, .nil => .cons h .nil
  | _, _, .cons r t => .cons r (Paired.snoc h t)
end
section
variable {X : Cx} {k : Nat} {kf pn : Str} {e : Expr} {t : TA} {p pos kp kpos : Pos}
end
end L2
set_option Elab.async false
set_option linter.all false
set_option maxRecDepth 100000
/-! repr, ==, != of data (numbers, texts, None, lists and tuples of these), min and max of a list of ints, over the hand layer. -/
namespace L2
open PySem PySem.Spec PyProof.Rows
/-! a thing that is read as that data -/
mutual
def Dat (H : Hp) : PyData → V → Prop
  | .none, v => v = .non
  | .bool b, v => v = .bl b
  | .int i, v => v = .int i
  | .str x, v => v = .str x
  | .list ds, v => ∃ a xs, v = .ref a ∧ H a = some (.lst xs) ∧ DatAll H ds xs
  | .tuple ds, v => ∃ a xs, v = .ref a ∧ H a = some (.tup xs) ∧ DatAll H ds xs
  | .dict _, _ => False
def DatAll (H : Hp) : List PyData → List V → Prop
  | [], xs => xs = []
  | d :: ds, xs => ∃ x r, xs = x :: r ∧ Dat H d x ∧ DatAll H ds r
end
section
variable {X : Cx} {pins : List (Addr × Obj)} {σ : St} {H : Hp} {s : Shared}
mutual
theorem Dat.reads (I : Inv X pins σ H s) : ∀ (d : PyData) (v : V) (u : Value), RelV v u → Dat H d v → ∃ as, Reads s.heap u d as
  | .none, v, u, r, h => by unfold Dat at h; subst h; cases r; exact ⟨_, .none⟩
  | .bool b, v, u, r, h => by unfold Dat at h; subst h; cases r; exact ⟨_, .bool b⟩
  | .int i, v, u, r, h => by unfold Dat at h; subst h; obtain ⟨t, rfl⟩ := r; exact ⟨_, .int i t⟩
  | .str x, v, u, r, h => by unfold Dat at h; subst h; obtain ⟨t, rfl⟩ := r; exact ⟨_, .str x t⟩
  | .list ds, v, u, r, h => by
    unfold Dat at h
    obtain ⟨a, xs, rfl, h1, h2⟩ := h
    cases r
    obtain ⟨_, its, n, rv, e⟩ := I.hok a _ h1
    obtain ⟨as, hr⟩ := DatAll.reads I ds xs its rv h2
    exact ⟨_, .list e rfl rfl (by simpa using hr)⟩
  | .tuple ds, v, u, r, h => by
    unfold Dat at h
    obtain ⟨a, xs, rfl, h1, h2⟩ := h
    cases r
    obtain ⟨_, its, rv, o, ho, hc, n, hd⟩ := I.hok a _ h1
    obtain ⟨as, hr⟩ := DatAll.reads I ds xs its rv h2
    exact ⟨_, .tuple ho hc hd (by simpa using hr)⟩
  | .dict _, v, u, r, h => by unfold Dat at h; exact h.elim
theorem DatAll.reads (I : Inv X pins σ H s) : ∀ (ds : List PyData) (xs : List V) (us : List Value), Vals xs us → DatAll H ds xs → ∃ as, ReadsAll s.heap us ds as
  | [], xs, us, r, h => by unfold DatAll at h; subst h; cases r; exact ⟨_, .nil⟩
  | d :: ds, xs, us, r, h => by
    unfold DatAll at h
    obtain ⟨x, rr, rfl, h1, h2⟩ := h
    cases r with
    | cons rx rt =>
      obtain ⟨as, q1⟩ := Dat.reads I d x _ rx h1
      obtain ⟨bs, q2⟩ := DatAll.reads I ds rr _ rt h2
      exact ⟨_, .cons q1 q2⟩
end
end
/-- data that can be shown and compared here -/
structure Fit (d : PyData) : Prop where
  sh : d.showable = true
  cl : d.canLay0 = true
  sz : d.shown.length ≤ sizeLine
  dp : d.depth ≤ 8
section
variable {X : Cx}
inductive cRepr (vs : List V) (H : Hp) (Q : VK) : Prop
  | mk (a : Addr) (d : PyData) (e : vs = [.ref a]) (h : Dat H d (.ref a)) (f : Fit d) (q : Q (.str d.shown) H) : cRepr vs H Q
theorem call_repr {k : Nat} (hr : Room k X.A) : CallR X (.builtin "repr") cRepr := by
  intro pins s σ H xs us Q I r h
  obtain ⟨a, d, rfl, hd, f, q⟩ := h
  obtain ⟨u, rfl, ru⟩ := vals1 r
  cases ru
  obtain ⟨as, rd⟩ := Dat.reads I d (.ref a) (.ref a) rfl hd
  exact repr_of_reads' rd f.sh (PyData.noDict_hsm (PyData.hasDict_of_canLay d f.cl)) hr.gd (by have := hr.un; have := f.dp; omega) (fun _ _ q => q) (fun h' u tk hk => ⟨.str d.shown, H, I.kept hk, ⟨u, rfl⟩, q⟩) f.sz
end
section
variable {X : Cx}
end
end L2
set_option Elab.async false
set_option linter.all false
set_option maxRecDepth 100000
/-! entries and bars, as data -/
namespace Ent
open PySem
/-- an entry: moment, key, value -/
abbrev En := Int × Str × Int
def eD (e : En) : PyData := .tuple [.int e.1, .str e.2.1, .int e.2.2]
/-! ### the order that a sort tells -/
/-! ### data that can be shown -/
structure Lf (d : PyData) : Prop where
  sh : d.showable = true
  cl : d.canLay0 = true
  ls : d.leavesShort 62 = true
theorem lf_int {i : Int} (h : i.natAbs < 10 ^ 40) : Lf (.int i) where
  sh := by
    unfold PyData.showable
    exact decide_eq_true (PySem.Spec.log2_small (Nat.lt_trans h (by decide +kernel)))
  cl := rfl
  ls := by
    unfold PyData.leavesShort
    refine decide_eq_true ?_
    show (Str.ofString (toString i)).length ≤ 62
    rw [ofString_length]
    exact Nat.le_trans (int_text_length_le10 (k := 40) (by decide) h) (by decide)
def KeyOk (k : Str) : Prop := k.cps.size ≤ 8 ∧ ∀ c ∈ k.cps.toList, c < 128
theorem lf_str {k : Str} (h : KeyOk k) : Lf (.str k) where
  sh := rfl
  cl := by
    unfold PyData.canLay0 PyData.strOk
    rw [Array.all_eq_true_iff_forall_mem]
    intro c hc
    have := h.2 c (Array.mem_toList_iff.mpr hc)
    exact decide_eq_true (by omega)
  ls := by
    unfold PyData.leavesShort
    rw [List.all_eq_true]
    intro c hc
    have := h.2 c hc
    have e : (16 : Nat) ^ 8 = 4294967296 := by decide
    exact decide_eq_true (by omega)
theorem lf_all : ∀ {ds : List PyData}, (∀ d ∈ ds, Lf d) → PyData.showableAll ds = true ∧ PyData.canLayAll0 ds = true ∧ PyData.leavesShortAll 62 ds = true
  | [], _ => ⟨rfl, rfl, rfl⟩
  | d :: ds, h => by
    obtain ⟨a, b, c⟩ := lf_all fun x hx => h x (List.mem_cons_of_mem d hx)
    have hd := h d List.mem_cons_self
    unfold PyData.showableAll PyData.canLayAll0 PyData.leavesShortAll
    rw [a, b, c, hd.sh, hd.cl, hd.ls]
    exact ⟨rfl, rfl, rfl⟩
theorem lf_list {ds : List PyData} (h : ∀ d ∈ ds, Lf d) : Lf (.list ds) where
  sh := by unfold PyData.showable; exact (lf_all h).1
  cl := by unfold PyData.canLay0; exact (lf_all h).2.1
  ls := by unfold PyData.leavesShort; exact (lf_all h).2.2
theorem lf_tuple {ds : List PyData} (h : ∀ d ∈ ds, Lf d) : Lf (.tuple ds) where
  sh := by unfold PyData.showable; exact (lf_all h).1
  cl := by unfold PyData.canLay0; exact (lf_all h).2.1
  ls := by unfold PyData.leavesShort; exact (lf_all h).2.2
theorem Lf.fit {d : PyData} (h : Lf d) (hb : d.bulk ≤ 20000) (hd : d.depth ≤ 8) : L2.Fit d where
  sh := h.sh
  cl := h.cl
  sz := by
    have := PyData.shown_le_bulk 62 (by decide) d h.ls
    rw [sizeLine_eq]
    have e : (62 + 2) * d.bulk ≤ 64 * 20000 := Nat.mul_le_mul (by decide) hb
    omega
  dp := hd
structure EnOk (e : En) : Prop where
  m : e.1.natAbs < 10 ^ 30
  v : e.2.2.natAbs < 10 ^ 30
  k : KeyOk e.2.1
theorem le40 {i : Int} (h : i.natAbs < 10 ^ 30) : i.natAbs < 10 ^ 40 := Nat.lt_trans h (by decide +kernel)
theorem lf_three {e : En} (h : EnOk e) : ∀ d ∈ [PyData.int e.1, .str e.2.1, .int e.2.2], Lf d := fun d hd => by
  rcases List.mem_cons.mp hd with rfl | hd
  · exact lf_int (le40 h.m)
  · rcases List.mem_cons.mp hd with rfl | hd
    · exact lf_str h.k
    · rw [List.mem_singleton.mp hd]; exact lf_int (le40 h.v)
theorem lf_eD {e : En} (h : EnOk e) : Lf (eD e) := lf_tuple (lf_three h)
theorem bulk_eD {e : En} (h : EnOk e) : (eD e).bulk ≤ 11 := by
  have := h.k.1
  unfold eD
  simp only [PyData.bulk, PyData.bulkAll]
  omega
theorem depth_eD (e : En) : (eD e).depth = 1 := by
  unfold eD
  simp [PyData.depth, PyData.depthAll]
end Ent
set_option Elab.async false
set_option linter.all false
set_option maxRecDepth 100000
namespace L2
open PySem PySem.Spec PyProof.Rows
section
variable {X : Cx} {st : Stmt} {rest : List Stmt} {t u : TS} {e : Expr} {te : TE}
def tCut (t u : TS) : TS := fun D σ H => ∃ M : St → Hp → Prop, t { D with nx := M } σ H ∧ ∀ σ' H', M σ' H' → u D σ' H'
theorem pss_cut (h1 : PS X st t) (h2 : PSs X rest u) : PSs X (st :: rest) (tCut t u) := by
  refine ⟨?_⟩
  intro pins s σ H D I h
  obtain ⟨M, a, b⟩ := h
  refine wpAny_execs_cons (thn (h1 pins s σ H { D with nx := M } I a) fun f s1 q => ?_)
  cases f with
  | next =>
    obtain ⟨σ', H', I', q⟩ := q
    exact h2 pins s1 σ' H' D I' (b _ _ q)
  | ret v => exact q
  | brk => exact q
  | cont => exact q
end
end L2
set_option Elab.async false
set_option linter.all false
set_option maxRecDepth 100000
/-! A list or a tuple alike: walked, indexed, compared. -/
namespace L2
open PySem PySem.Spec PyProof.Rows
/-- the record of a list, or of a tuple -/
def Ob (o : HO) (xs : List V) : Prop := o = .lst xs ∨ o = .tup xs
section
variable {X : Cx} {tg : Expr}
end
/-! ### == and != of lists and tuples of whole numbers -/
section
variable {X : Cx}
end
end L2
set_option Elab.async false
set_option linter.all false
set_option maxRecDepth 100000
/-! LIST COMPREHENSIONS whose target is several names (a, b = each pair). -/
namespace L2
open PySem PySem.Spec PyProof.Rows
def cxLN (X : Cx) (xs Ns : List Str) (scope : Scope) (C : Addr) (fp : List Addr) (s : Shared) (H : Hp) : Cx where
  prog := X.prog
  w := X.w
  K := X.K
  mg := X.mg
  base := X.base
  A := X.A
  N := xs ++ Ns
  s₀ := s
  H₀ := H
  env := compEnvC scope (clOf scope X.env.cells) C X.env
  outer := X.stack
  stack := X.stack
  ex := fp
  fn := fun _ => false
  calm := X.calm
  pn := []
  xe := fun _ _ => False
/-- xs: the block's names; Ns: the names around it, those that the block's names hide put otherwise -/
structure LnScope (X : Cx) (xs Ns : List Str) (sc : Scope) : Prop where
  kind : sc.kind = .function
  nocell : ∀ p ∈ sc.names, p.2 ≠ .cell
  loc : ∀ x ∈ xs, sc.names.lookup x = some .local
  names : ∀ p ∈ sc.names, p.2 = .local → sc.names.lookup p.1 = some .local
  apart : ∀ y ∈ Ns, sc.names.lookup y ≠ some .local
  sub : ∀ (i : Nat) (y : Str), Ns[i]? = some y → sc.names.lookup y = some .free → X.N[i]? = some y
  len : Ns.length = X.N.length
  all : (xs ++ Ns).Nodup
  free : ∀ p ∈ sc.names, p.2 = .free → X.env.kindOf p.1 = some .cell ∨ X.env.kindOf p.1 = some .free
section
variable {X : Cx} {pins : List (Addr × Obj)} {σ : St} {H : Hp} {s : Shared} {xs Ns : List Str} {sc : Scope} {C : Addr} {fp : List Addr}
theorem LnScope.cells (S : LnScope X xs Ns sc) (ok : X.Ok) : ∀ p ∈ sc.names, p.2 = .free → ∃ a, X.env.cells.lookup p.1 = some a := fun p hp e => ok.has p.1 (S.free p hp e)
theorem Inv.okLN (I : Inv X pins σ H s) (S : LnScope X xs Ns sc) (hC : s.heap.objs.size ≤ C) (hf : ∀ b ∈ fp, FpOk X pins H b) (hlt : ∀ b ∈ fp, b < s.heap.objs.size) : (cxLN X xs Ns sc C fp s H).Ok where
  mod := I.ok.mod
  kind := S.kind
  glob := I.ok.glob
  blt := I.ok.blt
  above := hC
  inj := fun y z c e1 e2 => I.ok.inj y z c (clOf_sub sc X.env.cells e1) (clOf_sub sc X.env.cells e2)
  has := fun y hy => by
    have hy' : (relabel sc X.env).names.lookup y = some .cell ∨ (relabel sc X.env).names.lookup y = some .free := hy
    have fr : sc.names.lookup y = some .free := by
      rcases hy' with h | h
      · obtain ⟨k', e, q⟩ := relabel_look h
        rcases q with q | ⟨q, _⟩
        · subst q; exact absurd rfl (S.nocell _ (PySem.mem_of_lookup e))
        · rw [e, q]
      · obtain ⟨k', e, q⟩ := relabel_look h
        rcases q with q | ⟨_, q⟩
        · rw [e, ← q]
        · cases q
    exact clOf_has sc X.env.cells (S.cells I.ok) (PySem.mem_of_lookup fr)
  cab := fun y c e => by cases (show false = true from e)
  hd := I.ok.hd
  frames := I.ok.frames
  stk := .inl rfl
  exf := fun b hb => ⟨Nat.ne_of_lt (Nat.lt_of_lt_of_le (hlt b hb) hC), fun y c e => (hf b hb).2.2.2.2.1 y c (clOf_sub sc X.env.cells e)⟩
  bs := I.bs
  bsz := Nat.le_trans I.ok.bsz I.sz
  noex := fun b o e hb => by
    rcases (hf b hb).2.2.2.1 with q | q
    · exact I.ok.noex b o e q
    · exact absurd (Nat.lt_of_lt_of_le (Heap.lt_size e) (Nat.le_trans I.ok.bsz q)) (Nat.lt_irrefl _)
  exfs := fun b hb z => by
    rcases List.mem_cons.mp (I.stkSub b z) with q | q
    · exact (hf b hb).2.1 q
    · exact (hf b hb).2.2.1 q
  funs := I.stack
  frf := I.stkFree
theorem Inv.startLN {D : Addr} {h1 : Heap} {m : Str → Option Value} {tk : Nat} {w : St} (I : Inv X pins σ H s) (S : LnScope X xs Ns sc) (hf : ∀ b ∈ fp, FpOk X pins H b) (hlt : ∀ b ∈ fp, b < s.heap.objs.size) (hw : w = xs.map fun _ => none)
    (hD : D = s.heap.objs.size) (hC : s.heap.objs.size ≤ C) (hDC : C ≠ D) (hk : ∀ b o, s.heap.get? b = some o → h1.get? b = some o) (hn : h1.Ns C m) (hl : h1.get? D = some { cls := .type "list", data := .seq ([] : List Value).toArray 0 }) :
    Inv (cxLN X xs Ns sc C fp s H) [] (w ++ σ) (upd H D (.lst [])) { s with heap := h1, toks := tk } := by
  have hwl : w.length = xs.length := by rw [hw, List.length_map]
  have hDle : s.heap.objs.size ≤ D := by rw [hD]; exact Nat.le_refl _
  have cells : ∀ y c, (clOf sc X.env.cells).lookup y = some c → c < s.heap.objs.size := fun y c e => by
    obtain ⟨v, q⟩ := I.cell y c (clOf_sub sc X.env.cells e)
    exact q.lt
  refine ⟨I.okLN S hC hf hlt, rfl, I.bare, Un.laid hk hDle (I.hok.fresh hDle), ⟨m, hn, fun i y v e1 e2 e3 => ?_⟩, fun y c e => ?_, ?_, fun y c e => ?_, fun p hp => absurd (show p ∈ ([] : List (Addr × Obj)) from hp) (by simp), I.hok.laid hk hDle ⟨Nat.zero_le _, [], 0, .nil, hl⟩, ?_⟩
  · have e1 : (xs ++ Ns)[i]? = some y := e1
    have e2 : (w ++ σ)[i]? = some (some v) := e2
    rcases Nat.lt_or_ge i xs.length with hi | hi
    · rw [List.getElem?_append_left (by omega), hw, List.getElem?_map, List.getElem?_eq_getElem hi] at e2
      cases e2
    · have e1' : Ns[i - xs.length]? = some y := by rw [List.getElem?_append_right hi] at e1; exact e1
      have e2' : σ[i - xs.length]? = some (some v) := by rw [List.getElem?_append_right (by omega), hwl] at e2; exact e2
      have e3' : Vis (relabel sc X.env) y := e3
      have ny : sc.names.lookup y ≠ some .local := S.apart y (List.mem_of_getElem? e1')
      have fr : sc.names.lookup y = some .free ∧ ((relabel sc X.env).names.lookup y = some .cell ∨ (relabel sc X.env).names.lookup y = some .free) := by
        rcases e3' with h | h | h
        · obtain ⟨k', e, q⟩ := relabel_look h
          rcases q with q | ⟨_, q⟩
          · subst q; exact absurd e ny
          · cases q
        · obtain ⟨k', e, q⟩ := relabel_look h
          rcases q with q | ⟨q, _⟩
          · subst q; exact absurd rfl (S.nocell _ (PySem.mem_of_lookup e))
          · exact ⟨by rw [e, q], .inl h⟩
        · obtain ⟨k', e, q⟩ := relabel_look h
          rcases q with q | ⟨_, q⟩
          · exact ⟨by rw [e, ← q], .inr h⟩
          · cases q
      have ok := S.free (y, .free) (PySem.mem_of_lookup fr.1) rfl
      obtain ⟨m0, hn0, hl0⟩ := I.loc
      obtain ⟨u, r, l⟩ := hl0 _ y v (S.sub _ y e1' fr.1) e2' (.inr ok)
      refine ⟨u, r, .inr ⟨fr.2, ?_⟩⟩
      rcases l with ⟨k, _⟩ | ⟨_, c, ec, z⟩
      · rcases ok with q | q <;> (rw [show X.env.kindOf y = some .local from k] at q; cases q)
      · obtain ⟨c', ec'⟩ := clOf_has sc X.env.cells (S.cells I.ok) (PySem.mem_of_lookup fr.1)
        have := clOf_sub sc X.env.cells ec'
        rw [ec] at this
        cases this
        obtain ⟨o, ho, hd⟩ := z
        exact ⟨c, ec', o, hk _ _ ho, hd⟩
  · obtain ⟨v, o, ho, hd⟩ := I.cell y c (clOf_sub sc X.env.cells e)
    exact ⟨v, o, hk _ _ ho, hd⟩
  · show upd H D (.lst []) C = none
    rw [upd_ne hDC]
    exact I.hok.fresh hC
  · show upd H D (.lst []) c = none
    rw [upd_ne (Nat.ne_of_lt (Nat.lt_of_lt_of_le (cells y c e) hDle))]
    exact I.freeC y c (clOf_sub sc X.env.cells e)
  · show (w ++ σ).length = (xs ++ Ns).length
    rw [List.length_append, List.length_append, I.len, hwl, S.len]
theorem Inv.endLN {s2 : Shared} {H2 : Hp} {st : St} {pl : List (Addr × Obj)} (I : Inv X pins σ H s) (J : Inv (cxLN X xs Ns sc C fp s H) pl st H2 s2) (hf : ∀ b ∈ fp, FpOk X pins H b) : Inv X pins σ H2 s2 :=
  I.call' (ch := fp) J.os J.base J.hok J.bare fun b hb => ⟨(hf b hb).2.2.2.1, (hf b hb).2.1, (hf b hb).2.2.2.2.1, (hf b hb).2.2.2.2.2⟩
end
/-- acc = []; for target in ..: if ..: acc.append(..), the list at D; n: how many names the target has -/
def lcGoN (n : Nat) (g : TG) (tc : TT) (te : TE) (σ : St) (J : It) (D : Addr) (Fin : Hp → Prop) (H : Hp) : Prop :=
  ∃ W : Nat → Nat → List V → Hp → Prop, (∃ m, W 0 m [] (upd H D (.lst []))) ∧ ∀ i m ys H, W i m ys H → H D = some (.lst ys) ∧
    ((J.stop i H ∧ Fin H) ∨ (J.go i H ∧ ∀ x H' (u : St), u.length = n → J.yld i H x H' → g x (u ++ σ) H' fun σ2 H2 => (∃ u2 : St, u2.length = n ∧ σ2 = u2 ++ σ) ∧ tc σ2 H2 fun b H3 => if b = true then te σ2 H3 fun y H4 => H4 D = some (.lst ys) ∧ ys.length < sizeLine ∧ ∃ m', m' < m ∧ W (i + 1) m' (ys ++ [y]) (upd H4 D (.lst (ys ++ [y])))
      else ∃ m', m' < m ∧ W (i + 1) m' ys H3))
def tLN (n : Nat) (wi : TI) (g : TG) (tc : TT) (te : TE) : TE := fun σ H Q => wi σ H fun J H1 => ∀ D, H1 D = none → lcGoN n g tc te σ J D (fun H2 => Q (.ref D) H2) H1
section
variable {X : Cx} {xs Ns : List Str} {sc : Scope} {elt iter tg : Expr} {ifs : List Expr} {pos : Pos} {wi : TI} {g : TG} {tc : TT} {te : TE}
/-- the target a -/
theorem pg_one {x : Str} {p1 : Pos} (S : LnScope X [x] Ns sc) : ∀ C fp s0 H0, PG (cxLN X [x] Ns sc C fp s0 H0) (.Name x p1) (gName 0) := fun C fp s0 H0 => by
  have lx : (relabel sc X.env).names.lookup x = some .local := lookup_relabel_local (S.loc x (by simp))
  exact pg_name (X := cxLN X [x] Ns sc C fp s0 H0) (i := 0) S.all rfl (.inl lx) (.inr lx)
end
theorem lcN_go {tc : TT} {te : TE} {g : TG} {k : Nat} {σ : St} {J : It} {D : Addr} {Fin : Hp → Prop} {H : Hp} {n : Nat} (Pv : Nat → List V → Hp → Prop) (h0 : Pv 0 [] (upd H D (.lst [])))
    (hD : ∀ i ys H, Pv i ys H → H D = some (.lst ys)) (hend : ∀ ys H, Pv n ys H → J.stop n H ∧ Fin H)
    (hgo : ∀ i ys H, i < n → Pv i ys H → J.go i H ∧ ∀ x H' (u : St), u.length = k → J.yld i H x H' → g x (u ++ σ) H' fun σ2 H2 => (∃ u2 : St, u2.length = k ∧ σ2 = u2 ++ σ) ∧ tc σ2 H2 fun b H3 => if b = true then te σ2 H3 (LcNx n i D ys Pv) else LcNo n i ys Pv H3) : lcGoN k g tc te σ J D Fin H := by
  refine ⟨fun i m ys H => m = n - i ∧ i ≤ n ∧ Pv i ys H, ⟨n, rfl, Nat.zero_le _, h0⟩, ?_⟩
  rintro i m ys H ⟨rfl, hi, p⟩
  refine ⟨hD i ys H p, ?_⟩
  by_cases hlt : i < n
  · exact .inr (hgo i ys H hlt p)
  · have e : i = n := by omega
    subst e
    exact .inl (hend ys H p)
theorem lcN_list {K : PySem.W.Frag} {a : Addr} {xs : List V} {tc : TT} {te : TE} {g : TG} {k : Nat} {σ : St} {D : Addr} {Fin : Hp → Prop} {H : Hp} (Pv : Nat → List V → Hp → Prop) (h0 : Pv 0 [] (upd H D (.lst [])))
    (hD : ∀ i ys H, Pv i ys H → H D = some (.lst ys) ∧ SqL K H a xs) (hend : ∀ ys H, Pv xs.length ys H → Fin H)
    (hgo : ∀ i x ys H (u : St), u.length = k → i < xs.length → xs[i]? = some x → Pv i ys H → g x (u ++ σ) H fun σ2 H2 => (∃ u2 : St, u2.length = k ∧ σ2 = u2 ++ σ) ∧ tc σ2 H2 fun b H3 => if b = true then te σ2 H3 (LcNx xs.length i D ys Pv) else LcNo xs.length i ys Pv H3) : lcGoN k g tc te σ (Itl K a) D Fin H := by
  refine lcN_go Pv h0 (fun i ys H p => (hD i ys H p).1) (fun ys H p => ⟨⟨xs, (hD _ _ _ p).2, Nat.le_refl _⟩, hend ys H p⟩) fun i ys H hi p => ?_
  refine ⟨⟨xs, xs[i], (hD _ _ _ p).2, List.getElem?_eq_getElem hi⟩, fun x H' u hu y => ?_⟩
  obtain ⟨e, y⟩ := y
  subst e
  exact hgo i x ys _ u hu hi (y xs (hD _ _ _ p).2) p
theorem len1 {α : Type} : ∀ {u : List α}, u.length = 1 → ∃ a, u = [a]
  | [a], _ => ⟨a, rfl⟩
theorem sub_of {N Ns : List Str} {sc : Scope} (h : (Ns.zip N).all (fun p => decide (p.1 = p.2) || !(sc.names.lookup p.1 == some NameKind.free)) = true) (hl : Ns.length = N.length) : ∀ (i : Nat) (y : Str), Ns[i]? = some y → sc.names.lookup y = some .free → N[i]? = some y := fun i y e f => by
  have hi : i < Ns.length := (List.getElem?_eq_some_iff.mp e).1
  have hN : N[i]? = some (N[i]'(by omega)) := List.getElem?_eq_getElem (by omega)
  have hm : (y, N[i]'(by omega)) ∈ Ns.zip N := by
    refine List.mem_of_getElem? (i := i) ?_
    rw [List.getElem?_zip_eq_some]
    exact ⟨e, hN⟩
  have := List.all_eq_true.mp h _ hm
  dsimp only at this
  rw [f] at this
  have z : y = N[i]'(by omega) := by simpa using this
  rw [hN, ← z]
theorem lnS {X : Cx} {xs : List Str} (Ns : List Str) {sc scp : Scope} {N ps : List Str} (S : FnScope N ps scp) (hN : X.N = N := by rfl) (hs : X.env.scope = scp := by rfl) (h1 : sc.kind = .function := by rfl) (h2 : ∀ p ∈ sc.names, p.2 ≠ .cell := by decide +kernel) (h3 : ∀ x ∈ xs, sc.names.lookup x = some .local := by decide +kernel)
    (h4 : ∀ p ∈ sc.names, p.2 = .local → sc.names.lookup p.1 = some .local := by decide +kernel) (h5 : ∀ y ∈ Ns, sc.names.lookup y ≠ some .local := by decide +kernel) (h6 : (Ns.zip N).all (fun p => decide (p.1 = p.2) || !(sc.names.lookup p.1 == some NameKind.free)) = true := by decide +kernel) (hl : Ns.length = N.length := by rfl) (hall : (xs ++ Ns).Nodup := by decide +kernel)
    (h7 : ∀ p ∈ sc.names, p.2 = .free → scp.names.lookup p.1 = some .cell ∨ scp.names.lookup p.1 = some .free := by decide +kernel) : LnScope X xs Ns sc :=
  ⟨h1, h2, h3, h4, h5, by rw [hN]; exact sub_of h6 hl, by rw [hN]; exact hl, hall, fun p hp e => by
    show X.env.scope.names.lookup p.1 = _ ∨ X.env.scope.names.lookup p.1 = _
    rw [hs]
    exact h7 p hp e⟩
end L2
set_option Elab.async false
set_option linter.all false
set_option maxRecDepth 100000
namespace L2
open PySem PySem.Spec PyProof.Rows
section
variable {X : Cx}
end
end L2
set_option Elab.async false
set_option linter.all false
set_option maxRecDepth 100000
namespace HT
open PySem PyProof.Rows
section
variable {prog : Program} {w : World} {A : Around} {E : Value → Shared → Prop} {s : Shared}
end
end HT
namespace L2
open PySem PySem.Spec PyProof.Rows
section
variable {X : Cx} {e : Expr} {te : TE} {pos p2 : Pos}
end
end L2
set_option Elab.async false
set_option linter.all false
set_option maxRecDepth 100000
/-! The rules once more, with K named: a reading then does not bear the whole context. -/
namespace L2
open PySem PySem.Spec PyProof.Rows
section
variable {X : Cx} {tg : Expr}
theorem pi_listK (K : PySem.W.Frag) {l : Expr} {tl : TE} (hl : PE X l tl) (e : X.K = K := by rfl) : PI X tg l (iList K tl) := by subst e; exact pi_list hl
inductive cLen (K : PySem.W.Frag) (xs : List V) (H : Hp) (Q : VK) : Prop
  | mk (p : Addr) (ys : List V) (e : xs = [.ref p]) (h : SqL K H p ys ∨ SqT K H p ys) (q : Q (.int ys.length) H) : cLen K xs H Q
theorem call_lenK (K : PySem.W.Frag) (e : X.K = K := by rfl) : CallR X (.builtin "len") (cLen K) := by
  subst e
  intro pins s σ H xs us Q I r h
  obtain ⟨p, ys, e, h, q⟩ := h
  exact call_len_seq pins s σ H xs us Q I r ⟨p, ys, e, h, q⟩
theorem call_all_seqK (K : PySem.W.Frag) (hc : X.calm = true) (e : X.K = K := by rfl) : CallR X (.builtin "all") (fun xs H Q => ∃ (p : Addr) (bs : List Bool), xs = [.ref p] ∧ SqL K H p (bs.map V.bl) ∧ Q (.bl (bs.all id)) H) := by subst e; exact call_all_seq hc
theorem pg_tupK (K : PySem.W.Frag) {es : List Expr} {k : Nat} {t : TGs} {n : Nat} {pos : Pos} (hc : X.calm = true) (h : PGs X es t) (hn : (assignEach es X.env).length = n := by rfl) (hst : (assignEach es X.env).findIdx? (·.1) = none := by rfl) (ek : X.K = K := by rfl) : PG X (.Tuple es k pos) (gTup K n t) := by subst ek; exact pg_tup hc h hn hst
theorem pe_bmK (K : PySem.W.Frag) {o e : Expr} {es : List Expr} {to : TE} {t : TA} {name : Str} {apos cpos : Pos} {T id : String} {r : V → List V → Hp → VK → Prop} (pa : PlainAttrs T) (slot : Slot T name id) (hty : typeOf (.builtin id) = pure (.type "method_descriptor")) (hm : MtR X id r) (ho : PE X o to) (ha : PA X (e :: es) t)
    (hbase : attributeBase o name X.env (eval o X.env) = eval o X.env := by rfl)
    (hfew : ((backTo cpos (starEach (e :: es) X.env)).all (fun x => !x.1) && (backToKw cpos (keywordEach [] X.env)).all (fun x => x.1.isSome) && decide ((e :: es).length + ([] : List Keyword).length + (if ([] : List Keyword).isEmpty then 0 else 1) < 30)) = true := by rfl)
    (hline : (apos.endLine == cpos.line) = true := by rfl) (hs : starEach (e :: es) X.env = (false, eval e X.env) :: starEach es X.env := by rfl) (hplain : (backTo cpos (starEach es X.env)).any (·.1) = false := by rfl) (ek : X.K = K := by rfl) :
    PE X (.Call (.Attribute o name apos) (e :: es) [] cpos) (tBM K T r to t) := by subst ek; exact pe_bm pa slot hty hm ho ha hbase hfew hline hs hplain
end
end L2
set_option Elab.async false
set_option linter.all false
set_option maxRecDepth 100000
/-! entries in a heap -/
namespace L2
open PySem PySem.Spec PyProof.Rows
section
variable {X : Cx} {k k' : Nat} {x : Str} {sp : Sp} {p pos : Pos}
end
theorem Same.but_ne {H H' : Hp} {D : Addr} {o : HO} (s : Same H H') (h : H D = none) : Same H (L2.upd H' D o) := fun b u e => by
  rw [L2.upd_ne (ne_of_none e h)]
  exact s _ _ e
theorem Paired.mono2 {α β : Type} {F G : α → β → Prop} (f : ∀ a b, F a b → G a b) {l₁ : List α} {l₂ : List β} (r : Paired F l₁ l₂) : Paired G l₁ l₂ := Paired.mapP r f
theorem line1000 {n : Nat} (h : n ≤ 1000) : n ≤ sizeLine := Nat.le_of_lt (small1000 h)
end L2
namespace Pr
open PySem L2 PyProof.Rows Ent
/-- an entry's three things -/
abbrev three (e : En) : List V := [.int e.1, .str e.2.1, .int e.2.2]
def EntT (H : Hp) (x : V) (e : En) : Prop := ∃ a, x = .ref a ∧ H a = some (.tup (three e))
theorem EntT.same {H H' : Hp} (s : Same H H') {x : V} {e : En} (h : EntT H x e) : EntT H' x e := by
  obtain ⟨a, h1, h2⟩ := h
  exact ⟨a, h1, s _ _ h2⟩
theorem EntT.wr {H : Hp} {x : V} {e : En} {D : Addr} {ys : List V} {o : HO} (h : EntT H x e) (hD : H D = some (.lst ys)) : EntT (upd H D o) x e := by
  obtain ⟨a, h1, h2⟩ := h
  exact ⟨a, h1, by rw [upd_ne (ne_of h2 hD (by intro z; cases z))]; exact h2⟩
theorem EntT.dat {H : Hp} {x : V} {e : En} (h : EntT H x e) : Dat H (eD e) x := by
  obtain ⟨a, h1, h2⟩ := h
  unfold eD Dat
  refine ⟨a, _, h1, h2, ?_⟩
  unfold DatAll
  refine ⟨_, _, rfl, by unfold Dat; rfl, ?_⟩
  unfold DatAll
  refine ⟨_, _, rfl, by unfold Dat; rfl, ?_⟩
  unfold DatAll
  refine ⟨_, _, rfl, by unfold Dat; rfl, ?_⟩
  unfold DatAll
  rfl
end Pr
set_option Elab.async false
set_option linter.all false
set_option maxRecDepth 100000
/-! TEXTS over the hand layer: their methods, join, split, partition, int of a text. -/
namespace L2
open PySem PySem.Spec PyProof.Rows
theorem strs_of : ∀ {ts : List Str} {us : List Value}, Vals (ts.map V.str) us → ∃ l : List (Str × Tok), us = strValues l ∧ l.map (·.1) = ts
  | [], us, h => by
    cases h
    exact ⟨[], rfl, rfl⟩
  | x :: r, us, h => by
    cases h with
    | cons a b =>
      obtain ⟨t, rfl⟩ := a
      obtain ⟨l, rfl, e⟩ := strs_of b
      exact ⟨(x, t) :: l, rfl, by rw [List.map_cons, e]⟩
theorem vals_of : ∀ (l : List (Str × Tok)), Vals ((l.map (·.1)).map V.str) (strValues l)
  | [] => .nil
  | (x, t) :: r => .cons ⟨t, rfl⟩ (vals_of r)
section
variable {X : Cx}
/-- x.isdigit(), x.isascii() and the like, by the call's own rule -/
theorem mt_is {id : String} {f : Str → Bool} (hc : ∀ (x : Str) (t : Tok) (Q : Value → Shared → Prop) (s : Shared), Q (.bool (f x)) s → wpAny (model X.prog X.w) X.A (call (.builtin id) [.str x t]) Q X.xe s) : MtR X id (fun x xs H Q => ∃ z, x = .str z ∧ xs = [] ∧ Q (.bl (f z)) H) := by
  intro pins s σ H x xs v us Q I rx r h
  obtain ⟨z, e1, e2, q⟩ := h
  subst e1 e2
  obtain ⟨t, rfl⟩ := rx
  cases r
  exact hc z t _ s ⟨.bl (f z), H, I, rfl, q⟩
theorem mt_isdigit : MtR X "str.isdigit" (fun x xs H Q => ∃ z, x = .str z ∧ xs = [] ∧ Q (.bl (Txt.isdigit z)) H) := mt_is fun _ _ _ _ h => SC.isdigit h
theorem mt_isascii : MtR X "str.isascii" (fun x xs H Q => ∃ z, x = .str z ∧ xs = [] ∧ Q (.bl (Txt.isascii z)) H) := mt_is fun _ _ _ _ h => SC.isascii h
theorem mt_removeprefix : MtR X "str.removeprefix" (fun x xs H Q => ∃ z y, x = .str z ∧ xs = [.str y] ∧ z.length ≤ sizeLine ∧ Q (.str (Txt.removeprefix z y)) H) := by
  intro pins s σ H x xs v us Q I rx r h
  obtain ⟨z, y, e1, e2, hz, q⟩ := h
  subst e1 e2
  obtain ⟨t, rfl⟩ := rx
  obtain ⟨u, rfl, ry⟩ := vals1 r
  obtain ⟨t', rfl⟩ := ry
  exact SC.removeprefix (fun t1 k => ⟨.str _, H, I.tok k, ⟨t1, rfl⟩, q⟩) hz
theorem mt_join : MtR X "str.join" (fun x xs H Q => ∃ sep D, ∃ ts : List Str, x = .str sep ∧ xs = [.ref D] ∧ SqL X.K H D (ts.map V.str) ∧ JoinOk sep ts = true ∧ Q (.str (Txt.join sep ts)) H) := by
  intro pins s σ H x xs v us Q I rx r h
  obtain ⟨sep, D, ts, e1, e2, hq, hok, q⟩ := h
  subst e1 e2
  obtain ⟨t, rfl⟩ := rx
  obtain ⟨u, rfl, ry⟩ := vals1 r
  cases ry
  obtain ⟨its, rv, p, hz⟩ := I.list hq
  obtain ⟨l, rfl, et⟩ := strs_of rv
  exact SC.join p.isList et hok fun t1 k => ⟨.str _, H, I.tok k, ⟨t1, rfl⟩, q⟩
/-- a new list of texts stands at the heap's end -/
theorem new_strs {pins : List (Addr × Obj)} {σ : St} {H : Hp} {s : Shared} {Q : VK} (l : List (Str × Tok)) {ts : List Str} {k : Nat} (I : Inv X pins σ H s) (e : l.map (·.1) = ts) (hz : ts.length ≤ sizeLine) (q : ∀ D, H D = none → Q (.ref D) (upd H D (.lst (ts.map V.str)))) :
    EP X pins σ Q (.ref s.heap.objs.size) { s with heap := s.heap.push { cls := .type "list", data := .seq (strValues l).toArray }, toks := k } := by
  subst e
  refine ⟨.ref _, _, I.laid (t' := k) (o := .lst ((l.map (·.1)).map V.str)) (fun b ob z => Heap.get?_push_of_some _ z) (Nat.le_refl _) ?_, rfl, q _ (I.hok.fresh (Nat.le_refl _))⟩
  exact ⟨by rw [List.length_map]; exact hz, _, 0, vals_of l, Heap.get?_push_size _ rfl⟩
theorem mt_split : MtR X "str.split" (fun x xs H Q => ∃ z y, x = .str z ∧ xs = [.str y] ∧ (y.length == 0) = false ∧ z.length ≤ sizeLine ∧ (Txt.split z y).length ≤ sizeLine ∧ ∀ D, H D = none → Q (.ref D) (upd H D (.lst ((Txt.split z y).map V.str)))) := by
  intro pins s σ H x xs v us Q I rx r h
  obtain ⟨z, y, e1, e2, hy, hz, hn, q⟩ := h
  subst e1 e2
  obtain ⟨t, rfl⟩ := rx
  obtain ⟨u, rfl, ry⟩ := vals1 r
  obtain ⟨t', rfl⟩ := ry
  cases h1 : (decide (z.length < y.length) || decide (Builtin.Str.strKind z < Builtin.Str.strKind y)) with
  | true =>
    have es : Txt.split z y = [z] := if_pos h1
    rw [es] at hn q
    exact call_meets F.slot_str_split (typeIs_str _ _ _) F.entry_str_split (F.args_str_split_2 _ _) (meets_str_split_cannot_occur z y t t' h1) (new_strs [(z, t)] (k := s.toks) I rfl hn q)
  | false =>
    cases hf : (Builtin.Str.occurrences z y 0 z.length (z.length + 1)).isEmpty with
    | true =>
      have es : Txt.split z y = [z] := (if_neg (ne_true_of_eq_false h1)).trans (if_pos hf)
      rw [es] at hn q
      exact call_meets F.slot_str_split (typeIs_str _ _ _) F.entry_str_split (F.args_str_split_2 _ _) (meets_str_split_not_found z y t t' h1 hy hf) (new_strs [(z, t)] (k := s.toks) I rfl hn q)
    | false =>
      have es : Txt.split z y = Builtin.Str.partsBetween z (Builtin.Str.occurrences z y 0 z.length (z.length + 1)) y.length := (if_neg (ne_true_of_eq_false h1)).trans (if_neg (ne_true_of_eq_false hf))
      rw [es] at hn q
      refine call_meets F.slot_str_split (typeIs_str _ _ _) F.entry_str_split (F.args_str_split_2 _ _) (meets_str_split_sep z y t t' h1 hy hf hz hn) ?_
      show wants _ _ _ { s with toks := _, heap := s.heap.push { cls := .type "list", data := .seq (strsFrom s.toks (Builtin.Str.partsBetween z (Builtin.Str.occurrences z y 0 z.length (z.length + 1)) y.length)).toArray } }
      rw [strsFrom_eq]
      exact new_strs (numbered s.toks _) I (numbered_texts _ _) hn q
/-- int(text) -/
theorem call_int_text : CallR X (.type "int") (fun xs H Q => ∃ z n, xs = [.str z] ∧ PySem.intText? z = some n ∧ z.length ≤ 640 ∧ Q (.int n) H) := by
  intro pins s σ H xs us Q I r h
  obtain ⟨z, n, e1, hn, hl, q⟩ := h
  subst e1
  obtain ⟨u, rfl, ry⟩ := vals1 r
  obtain ⟨t, rfl⟩ := ry
  exact PySem.W.KIN.call_text hn hl ⟨.int n, H, I.tok _, ⟨_, rfl⟩, q⟩
end
end L2
set_option Elab.async false
set_option linter.all false
set_option maxRecDepth 100000
/-! the law's draws -/
namespace L2
open PySem PySem.Spec PyProof.Rows
theorem But.upd {p : Addr} {H : Hp} {o : HO} : But p H (L2.upd H p o) := fun c u h n => by rw [L2.upd_ne n]; exact h
theorem But.same {p : Addr} {H H1 H2 : Hp} (a : But p H H1) (b : Same H1 H2) : But p H H2 := fun c o h n => b c o (a c o h n)
end L2
namespace Pr
open PySem L2 PyProof.Rows Ent
theorem atI_ints {S : List Int} {i : Int} (h0 : 0 ≤ i) (h1 : i < (S.length : Int)) : atI (S.map V.int) i = some (.int (S.getD i.toNat 0)) := by
  obtain ⟨n, rfl⟩ : ∃ n : Nat, i = n := ⟨i.toNat, by omega⟩
  refine atI_nat ?_
  rw [Int.toNat_natCast, List.getElem?_map, List.getElem?_eq_getElem (by omega), List.getD_eq_getElem?_getD, List.getElem?_eq_getElem (by omega)]
  rfl
/-- the law's pot of draws: a list of two ints -/
inductive PotAt (H : Hp) (p : Addr) : Prop
  | mk (x : Int) (y : Int) (h : H p = some (.lst [.int x, .int y])) : PotAt H p
theorem PotAt.ne {H : Hp} {p l : Addr} (h : PotAt H p) (hl : H l = none) : l ≠ p := by
  obtain ⟨x, y, h⟩ := h
  exact Ne.symm (ne_of_none h hl)
theorem PotAt.same {H H' : Hp} {p : Addr} (h : PotAt H p) (s : Same H H') : PotAt H' p := by
  obtain ⟨x, y, h⟩ := h
  exact ⟨x, y, s _ _ h⟩
theorem two_line : 2 ≤ sizeLine := line1000 (by decide)
theorem three_line : 3 ≤ sizeLine := line1000 (by decide)
section
variable {P : Program} {w : World} {K : PySem.W.Frag} {mg : Str → Option Value} {base : Heap} {C : Addr}
inductive sp_cell (K : PySem.W.Frag) (vs : List V) (H : Hp) (Q : VK) (E : XK) : Prop
  | mk (a : Addr) (ns : List Int) (k : Int) (e : vs = [.ref a, .int k]) (h : SqL K H a (ns.map V.int)) (hk : 0 ≤ k) (q : ∀ n, Q (.int n) H) : sp_cell K vs H Q E
theorem sc_cell : FnScope ["_law_script", "_law_k"] ["_law_script", "_law_k"] (defScope s_law_cell) := ⟨rfl, rfl, rfl, by decide +kernel, rfl, by decide +kernel, by decide +kernel⟩
theorem cell (T : Txt K mg C) : Can P w K mg base 1 "_law_cell" ["_law_script", "_law_k"] (sp_cell K) := by
  refine fn_can T.f_law_cell sc_cell (fun vs H Q E h => ?_) (fun f cdv A outer s H vs Q E hr h => ?_)
  · obtain ⟨a, ns, k, rfl, _⟩ := h
    rfl
  · obtain ⟨a, ns, k, rfl, ha, hk, q⟩ := h
    refine ⟨_, pss_cons (ps_if (pt_cmpR op_lt (pv 1) (pe_b (call_lenK K) T.b_len boot_len (pa1 (pv 0))) (nomark _)) (pss_one (ps_ret (pe_ix (ix_listK K) (pv 0) (pv 1) (fun _ _ => rfl)))) pss_nil) (pss_one (ps_ret pe_int)), ?_⟩
    refine ⟨_, rfl, _, rfl, a, _, rfl, .inl ha, _, _, rfl, rfl, _, rfl, ite2 (fun hc => ?_) (fun hc => q 0)⟩
    have hc' : k < ((ns.map V.int).length : Int) := of_decide_eq_true hc
    rw [List.length_map] at hc'
    exact ⟨_, rfl, _, rfl, a, _, _, _, rfl, rfl, ha, atI_ints hk hc', q _⟩
inductive sp_pot (vs : List V) (H : Hp) (Q : VK) (E : XK) : Prop
  | mk (c : Int) (e : vs = [.int c]) (q : ∀ p H', Same H H' → H p = none → PotAt H' p → Q (.ref p) H') : sp_pot vs H Q E
theorem sc_pot : FnScope ["_law_cell_here"] ["_law_cell_here"] (defScope s_law_pot) := ⟨rfl, rfl, rfl, by decide +kernel, rfl, by decide +kernel, by decide +kernel⟩
theorem pot (T : Txt K mg C) : Can P w K mg base 1 "_law_pot" ["_law_cell_here"] sp_pot := by
  refine fn_can T.f_law_pot sc_pot (fun vs H Q E h => ?_) (fun f cdv A outer s H vs Q E hr h => ?_)
  · obtain ⟨c, rfl, _⟩ := h
    rfl
  · obtain ⟨c, rfl, q⟩ := h
    refine ⟨_, pss_one (ps_ret (pe_lst (pa2 (pe_b (call_max2 rfl) T.b_max boot_max (pa2 pe_int (pe_op op_sub (pe_b call_abs T.b_abs boot_abs (pa1 (pv 0))) (pe_op op_pow pe_int pe_int))))
      (pe_op op_add (pe_op op_mod (pe_b call_abs T.b_abs boot_abs (pa1 (pv 0))) pe_int) pe_int)))), ?_⟩
    refine ⟨_, rfl, _, rfl, _, _, rfl, rfl, ⟨by decide +kernel, by decide +kernel, by decide +kernel⟩, _, _, rfl, rfl, _, _, rfl, _, rfl, _, rfl, _, _, rfl, rfl, (by show (0 : Int) < _; decide +kernel), _, _, rfl, rfl, two_line, fun p hp => ?_⟩
    exact q p _ (Same.upd hp) hp ⟨_, _, upd_same⟩
inductive sp_take (vs : List V) (H : Hp) (Q : VK) (E : XK) : Prop
  | mk (p : Addr) (many : Int) (e : vs = [.ref p, .int many]) (h1 : PotAt H p) (h2 : 0 < many) (h3 : many < 2 ^ 300) (q : ∀ d H', 0 ≤ d → d < many → But p H H' → PotAt H' p → Q (.int d) H') : sp_take vs H Q E
theorem sc_take : FnScope ["_law_pot_here", "_law_many", "_law_digit"] ["_law_pot_here", "_law_many"] (defScope s_law_take) := ⟨rfl, rfl, rfl, by decide +kernel, rfl, by decide +kernel, by decide +kernel⟩
theorem take (T : Txt K mg C) : Can P w K mg base 1 "_law_take" ["_law_pot_here", "_law_many"] sp_take := by
  refine fn_can T.f_law_take sc_take (fun vs H Q E h => ?_) (fun f cdv A outer s H vs Q E hr h => ?_)
  · obtain ⟨p, many, rfl, _⟩ := h
    rfl
  · obtain ⟨p, many, rfl, ⟨x, y, hp⟩, h0, h1, q⟩ := h
    refine ⟨_, pss_cons (ps_if (pt_cmpR op_gt (pe_ix (ix_listK K) (pv 0) pe_int (fun _ _ => rfl)) pe_int (nomark _))
        (pss_cons (ps_asg (pe_b call_divmodB T.b_divmod boot_divmod (pa2 (pe_ix (ix_listK K) (pv 0) pe_int (fun _ _ => rfl)) (pv 1))) (pg_tupK K rfl (pgs_cons (pg_sub (pv 0) pe_int set_list) (pgs_cons (pg_name (i := 2) sc_take.nd rfl (Or.inl rfl)) pgs_nil))))
        (pss_one (ps_ret (pv 2)))) pss_nil)
      (pss_cons (ps_asg (pe_op op_mod (pe_op op_add (pe_op op_mul (pe_ix (ix_listK K) (pv 0) pe_int (fun _ _ => rfl)) pe_int) pe_int) pe_int) (pg_sub (pv 0) pe_int set_list))
      (pss_one (ps_ret (pe_op op_mod (pe_op op_fdivB (pe_op op_mod (pe_op op_mul (pe_ix (ix_listK K) (pv 0) pe_int (fun _ _ => rfl)) (pe_ix (ix_listK K) (pv 0) pe_int (fun _ _ => rfl))) pe_int) pe_int) (pv 1))))), ?_⟩
    refine ⟨_, rfl, p, _, _, _, rfl, rfl, .of hp, rfl, _, _, rfl, rfl, _, rfl, ?_⟩
    refine ite2 (fun hc => ?_) (fun hc => ?_)
    · refine ⟨_, rfl, p, _, _, _, rfl, rfl, .of hp, rfl, _, rfl, _, _, rfl, ⟨h0, h1⟩, fun t ht => ?_⟩
      have ne : p ≠ t := ne_of_none hp ht
      have ht2 : Same H (upd H t (.tup [.int (x / many), .int (x % many)])) := Same.upd ht
      refine ⟨t, _, rfl, .of upd_same, rfl, _, _, rfl, _, rfl, p, _, _, _, rfl, rfl, ht2 _ _ hp, rfl, _, _, rfl, rfl, _, rfl, ?_⟩
      refine q _ _ (Int.emod_nonneg _ (by omega)) (Int.emod_lt_of_pos _ h0) (fun b o hb hn => ?_) ⟨_, _, upd_same⟩
      rw [upd_ne hn]
      exact ht2 _ _ hb
    · refine ⟨_, rfl, p, _, _, _, rfl, rfl, .of hp, rfl, _, _, rfl, rfl, .inr ⟨by decide +kernel, by decide +kernel⟩, _, _, rfl, rfl, _, _, rfl, rfl, (by show (0 : Int) < _; decide +kernel), _, rfl, p, _, _, _, rfl, rfl, hp, rfl, ?_⟩
      have hz0 : 0 ≤ (y * 39373 + 7919) % 2147483629 := Int.emod_nonneg _ (by omega)
      have hz1 : (y * 39373 + 7919) % 2147483629 < 2147483629 := Int.emod_lt_of_pos _ (by omega)
      refine ⟨_, rfl, p, _, _, _, rfl, rfl, .of upd_same, rfl, _, rfl, p, _, _, _, rfl, rfl, .of upd_same, rfl, _, _, rfl, rfl, .inl ⟨by omega, by omega⟩, _, _, rfl, rfl, (by show (0 : Int) < _; decide +kernel), _, _, rfl, rfl, ⟨by decide +kernel, by decide +kernel⟩, _, rfl, _, _, rfl, rfl, h0, ?_⟩
      exact q _ _ (Int.emod_nonneg _ (by omega)) (Int.emod_lt_of_pos _ h0) But.upd ⟨_, _, upd_same⟩
end
end Pr
set_option Elab.async false
set_option linter.all false
set_option maxRecDepth 100000
/-! things put one by one into order; words -/
namespace Srt
end Srt
namespace Ent
open PySem
/-! ### words -/
def ts (i : Int) : Str := Str.ofString (toString i)
def word (e : En) : Str := ts e.1 ++ "/" ++ e.2.1 ++ "/" ++ ts e.2.2
theorem ts_len {i : Int} (h : i.natAbs < 10 ^ 40) : (ts i).length ≤ 41 := by
  unfold ts
  rw [ofString_length]
  exact int_text_length_le10 (k := 40) (by decide) h
theorem ts_log {i : Int} (h : i.natAbs < 10 ^ 40) : i.natAbs.log2 < 1920 := PySem.Spec.log2_small (Nat.lt_trans h (by decide +kernel))
theorem slash_len : (("/" : String) : Str).length = 1 := by decide
theorem blank_len : ((" " : String) : Str).length = 1 := by decide
theorem word_len {e : En} (h : EnOk e) : (word e).length ≤ 92 := by
  have a := ts_len (le40 h.m)
  have b := ts_len (le40 h.v)
  have c : e.2.1.length ≤ 8 := h.k.1
  unfold word
  rw [strLen_append, strLen_append, strLen_append, strLen_append, slash_len]
  omega
theorem sum_le {α : Type} {f : α → Nat} {n : Nat} : ∀ {l : List α}, (∀ x ∈ l, f x ≤ n) → (l.map f).sum ≤ l.length * n
  | [], _ => by simp
  | a :: l, h => by
    have h1 := sum_le fun x hx => h x (List.mem_cons_of_mem a hx)
    have h2 := h a List.mem_cons_self
    rw [List.map_cons, List.sum_cons, List.length_cons, Nat.add_mul]
    omega
theorem joinOk_le {ws : List Str} {n : Nat} (h : ∀ x ∈ ws, x.length ≤ n) (hn : ws.length * n + ws.length ≤ 100000) : PySem.JoinOk " " ws = true := by
  refine PyProof.Rows.joinOk_of ?_
  have := sum_le (f := fun x : Str => x.length) h
  rw [blank_len, Nat.mul_one]
  omega
theorem join_le {ws : List Str} {n : Nat} (h : ∀ x ∈ ws, x.length ≤ n) : (Txt.join " " ws).length ≤ ws.length * n + ws.length := by
  have e : Txt.join " " ws = Str.join " " ws := StrLaws.glued_eq_join _ _
  rw [e]
  have h1 := StrLaws.join_length_le " " ws
  have h2 := sum_le (f := fun x : Str => x.length) h
  rw [blank_len, Nat.mul_one] at h1
  omega
end Ent
set_option Elab.async false
set_option linter.all false
set_option maxRecDepth 100000
/-! numbers as texts, texts taken apart -/
namespace Ent
open PySem PySem.NumText
def dg (n : Nat) : List Nat := (Nat.toDigits 10 n).map Char.toNat
theorem dg_small {n : Nat} (h : n < 10) : dg n = [48 + n] := by
  unfold dg
  rw [Nat.toDigits_of_lt_base h]
  have : ∀ d : Nat, d < 10 → (Nat.digitChar d).toNat = 48 + d := by decide
  simp [this n h]
theorem dg_step {n : Nat} (h : 10 ≤ n) : dg n = dg (n / 10) ++ [48 + n % 10] := by
  have hm : n % 10 < 10 := Nat.mod_lt n (by decide)
  have t : Nat.toDigits 10 (n / 10) ++ Nat.toDigits 10 (n % 10) = Nat.toDigits 10 (10 * (n / 10) + n % 10) := Nat.toDigits_append_toDigits (by decide) (by omega) hm
  rw [Nat.div_add_mod] at t
  have e := dg_small hm
  unfold dg at e ⊢
  rw [← t, List.map_append, e]
theorem dg_digits : ∀ n : Nat, AllDigits (dg n) ∧ dg n ≠ [] ∧ (n ≠ 0 → ∀ r, dg n ≠ 48 :: r) := by
  intro n
  induction n using Nat.strongRecOn with
  | _ n ih =>
    by_cases h : n < 10
    · rw [dg_small h]
      refine ⟨fun c hc => ?_, by simp, fun hn r e => ?_⟩
      · rw [List.mem_singleton.mp hc]; omega
      · have := (List.cons.inj e).1
        omega
    · obtain ⟨i1, i2, i3⟩ := ih (n / 10) (by omega)
      rw [dg_step (by omega)]
      refine ⟨fun c hc => ?_, by simp, fun _ r e => ?_⟩
      · rcases List.mem_append.mp hc with hc | hc
        · exact i1 c hc
        · rw [List.mem_singleton.mp hc]; omega
      · cases hd : dg (n / 10) with
        | nil => exact i2 hd
        | cons a b =>
          rw [hd] at e
          have := (List.cons.inj e).1
          exact i3 (by omega) b (by rw [hd, this])
theorem ts_nat (m : Nat) : (ts (m : Int)).cps.toList = dg m := PySem.W.KIN.signs_num m
theorem ts_neg (m : Nat) : (ts (Int.negSucc m)).cps.toList = 45 :: dg (m + 1) := by
  unfold ts dg
  rw [PyProof.Rows.signs_ofString]
  show ("-" ++ Nat.repr (m + 1)).toList.map Char.toNat = _
  rw [String.toList_append, List.map_append, Nat.toList_repr]
  rfl
theorem ts_signs (i : Int) : ∀ c ∈ (ts i).cps.toList, c = 45 ∨ (48 ≤ c ∧ c ≤ 57) := fun c hc => by
  cases i with
  | ofNat m =>
    have e : (ts (Int.ofNat m)).cps.toList = dg m := ts_nat m
    rw [e] at hc
    exact .inr ((dg_digits m).1 c hc)
  | negSucc m =>
    rw [ts_neg] at hc
    rcases List.mem_cons.mp hc with h | h
    · exact .inl h
    · exact .inr ((dg_digits _).1 c h)
theorem ts_reads {i : Int} (h : i.natAbs < 10 ^ 40) : intText? (ts i) = some i := by
  have hl := ts_len h
  cases i with
  | ofNat m =>
    have e : (ts (Int.ofNat m)).cps.toList = dg m := ts_nat m
    have z := intText_digits (x := ts (Int.ofNat m)) (by rw [e]; exact (dg_digits m).1) (by rw [e]; exact (dg_digits m).2.1) (by omega)
    rw [e] at z
    unfold dg at z
    rw [PySem.W.KIN.val_back] at z
    exact z
  | negSucc m =>
    have z := intText_neg (ts_neg m) (dg_digits _).1 (dg_digits _).2.1 (by omega)
    unfold dg at z
    rw [PySem.W.KIN.val_back] at z
    exact z
/-- the figures of a number -/
theorem figs (i : Int) : (Txt.removeprefix (ts i) "-").cps.toList = dg i.natAbs := by
  unfold Txt.removeprefix
  have hsub : Builtin.Str.subAt (ts i) "-" 0 = decide ((ts i).cps.toList.head? = some 45) := by
    unfold Builtin.Str.subAt
    rw [Bool.eq_iff_iff, beq_iff_eq, decide_eq_true_iff]
    have e : (("-" : String) : Str).cps = #[45] := by decide
    have e1 : (("-" : String) : Str).length = 1 := by decide
    rw [e, e1]
    constructor
    · intro h
      have h' := congrArg Array.toList h
      rw [Array.toList_extract] at h'
      cases hd : (ts i).cps.toList with
      | nil => rw [hd] at h'; simp at h'
      | cons a r =>
        rw [hd] at h'
        have : a = 45 := by simpa using h'
        rw [this]; rfl
    · intro h0
      obtain ⟨r, h⟩ : ∃ r, (ts i).cps.toList = 45 :: r := by
        cases hd : (ts i).cps.toList with
        | nil => rw [hd] at h0; cases h0
        | cons a r => rw [hd] at h0; exact ⟨r, by rw [Option.some.inj h0]⟩
      apply Array.toList_inj.mp
      rw [Array.toList_extract, h]
      simp
  rw [hsub]
  cases i with
  | ofNat m =>
    have e : (ts (Int.ofNat m)).cps.toList = dg m := ts_nat m
    have hn : ¬ (ts (Int.ofNat m)).cps.toList.head? = some 45 := by
      intro h
      rw [e] at h
      have := (dg_digits m).1 45 (List.mem_of_head? h)
      omega
    rw [decide_eq_false hn, if_neg Bool.false_ne_true]
    exact e
  | negSucc m =>
    rw [decide_eq_true (by rw [ts_neg]; rfl), if_pos rfl]
    have e1 : (("-" : String) : Str).length = 1 := by decide
    rw [e1]
    have hl : (ts (Int.negSucc m)).length = (dg (m + 1)).length + 1 := by
      show (ts (Int.negSucc m)).cps.size = _
      rw [← Array.length_toList, ts_neg, List.length_cons]
    show (Txt.affix _ (some (1, (ts (Int.negSucc m)).length))).cps.toList = dg (m + 1)
    show (if ((ts (Int.negSucc m)).length - 1 == (ts (Int.negSucc m)).length) = true then ts (Int.negSucc m) else Builtin.Str.strSub (ts (Int.negSucc m)) 1 (ts (Int.negSucc m)).length).cps.toList = dg (m + 1)
    rw [if_neg (by rw [beq_iff_eq]; omega)]
    unfold Builtin.Str.strSub
    rw [Array.toList_extract, ts_neg, hl]
    simp
theorem figs_len {i : Int} (h : i.natAbs < 10 ^ 30) : (Txt.removeprefix (ts i) "-").length ≤ 30 := by
  have e := figs i
  have h1 : (Txt.removeprefix (ts i) "-").length = (dg i.natAbs).length := by
    show (Txt.removeprefix (ts i) "-").cps.size = _
    rw [← Array.length_toList, e]
  rw [h1]
  unfold dg
  rw [List.length_map]
  have := (Nat.length_repr_le_iff (n := i.natAbs) (k := 30) (by decide)).mpr h
  rw [← String.length_toList, Nat.toList_repr] at this
  exact this
theorem figs_ascii (i : Int) : Txt.isascii (Txt.removeprefix (ts i) "-") = true := by
  unfold Txt.isascii
  rw [← Array.all_toList, figs, List.all_eq_true]
  intro c hc
  have := (dg_digits i.natAbs).1 c hc
  exact decide_eq_true (by omega)
theorem figs_digit (i : Int) : Txt.isdigit (Txt.removeprefix (ts i) "-") = true := by
  unfold Txt.isdigit
  have h0 : (Txt.removeprefix (ts i) "-").length > 0 := by
    show (Txt.removeprefix (ts i) "-").cps.size > 0
    rw [← Array.length_toList, figs]
    exact List.length_pos_iff.mpr (dg_digits _).2.1
  rw [decide_eq_true h0, Bool.true_and, ← Array.all_toList, figs, List.all_eq_true]
  intro c hc
  have h := (dg_digits i.natAbs).1 c hc
  have z : ∀ d : Nat, d < 10 → Unicode.isDigit (48 + d) = true := by decide +kernel
  have := z (c - 48) (by omega)
  rwa [show 48 + (c - 48) = c by omega] at this
/-! ### taken apart -/
theorem cut_one {c : Nat} : ∀ {a a' r r' : List Nat}, c ∉ a → c ∉ a' → a ++ c :: r = a' ++ c :: r' → a = a' ∧ r = r'
  | [], [], r, r', _, _, e => ⟨rfl, (List.cons.inj e).2⟩
  | [], x :: a', r, r', _, h', e => by
    have := (List.cons.inj e).1
    exact absurd (by rw [this]; exact List.mem_cons_self) h'
  | x :: a, [], r, r', h, _, e => by
    have := (List.cons.inj e).1
    exact absurd (by rw [← this]; exact List.mem_cons_self) h
  | x :: a, y :: a', r, r', h, h', e => by
    obtain ⟨e1, e2⟩ := List.cons.inj e
    obtain ⟨i1, i2⟩ := cut_one (fun z => h (List.mem_cons_of_mem _ z)) (fun z => h' (List.mem_cons_of_mem _ z)) e2
    exact ⟨by rw [e1, i1], i2⟩
theorem join_list2 (c : Nat) (x y : Str) (r : List Str) : (Str.join ⟨#[c]⟩ (x :: y :: r)).cps.toList = x.cps.toList ++ c :: (Str.join ⟨#[c]⟩ (y :: r)).cps.toList := by
  rw [PyProof.Rows.join_cons_cons]
  simp [Str.cps_append]
theorem str_ext {x y : Str} (h : x.cps.toList = y.cps.toList) : x = y := Str.ext' (Array.toList_inj.mp h)
theorem joins_one (c : Nat) : ∀ {ps ws : List Str}, ps ≠ [] → ws ≠ [] → (∀ p ∈ ps, c ∉ p.cps.toList) → (∀ p ∈ ws, c ∉ p.cps.toList) → Str.join ⟨#[c]⟩ ps = Str.join ⟨#[c]⟩ ws → ps = ws
  | [], _, h, _, _, _, _ => absurd rfl h
  | _ :: _, [], _, h, _, _, _ => absurd rfl h
  | [p], [w], _, _, _, _, e => by
    have : p = w := e
    rw [this]
  | [p], w :: w2 :: ws, _, _, hp, _, e => by
    have e' := congrArg (fun x : Str => x.cps.toList) e
    simp only [join_list2] at e'
    have : c ∈ p.cps.toList := by
      have e2 : p.cps.toList = w.cps.toList ++ c :: (Str.join ⟨#[c]⟩ (w2 :: ws)).cps.toList := e'
      rw [e2]
      simp
    exact absurd this (hp p List.mem_cons_self)
  | p :: p2 :: ps, [w], _, _, _, hw, e => by
    have e' := congrArg (fun x : Str => x.cps.toList) e
    simp only [join_list2] at e'
    have : c ∈ w.cps.toList := by
      have e2 : p.cps.toList ++ c :: (Str.join ⟨#[c]⟩ (p2 :: ps)).cps.toList = w.cps.toList := e'
      rw [← e2]
      simp
    exact absurd this (hw w List.mem_cons_self)
  | p :: p2 :: ps, w :: w2 :: ws, _, _, hp, hw, e => by
    have e' := congrArg (fun x : Str => x.cps.toList) e
    simp only [join_list2] at e'
    obtain ⟨e1, e2⟩ := cut_one (hp p List.mem_cons_self) (hw w List.mem_cons_self) e'
    have ih := joins_one c (ps := p2 :: ps) (ws := w2 :: ws) (by simp) (by simp) (fun q hq => hp q (List.mem_cons_of_mem _ hq)) (fun q hq => hw q (List.mem_cons_of_mem _ hq)) (str_ext e2)
    rw [str_ext e1, ih]
theorem split_join {c : Nat} {ws : List Str} (h : ws ≠ []) (hw : ∀ p ∈ ws, c ∉ p.cps.toList) : Txt.split (Txt.join ⟨#[c]⟩ ws) ⟨#[c]⟩ = ws := by
  have e : Txt.join ⟨#[c]⟩ ws = Str.join ⟨#[c]⟩ ws := StrLaws.glued_eq_join _ _
  rw [e]
  refine joins_one c ?_ h (StrLaws.split_free _ c) hw (StrLaws.join_split _ _)
  intro z
  have := PyProof.Rows.split_pos (Str.join ⟨#[c]⟩ ws) ⟨#[c]⟩
  rw [z] at this
  exact absurd this (by decide)
/-- a key of the signs that keys have -/
def KeyIs (k : Str) : Prop := 1 ≤ k.length ∧ ∀ c ∈ k.cps.toList, c ∈ (("abcdefghijklmnopqrstuvwxyz0123456789" : String) : Str).cps.toList
theorem sign_ok : ∀ c ∈ (("abcdefghijklmnopqrstuvwxyz0123456789" : String) : Str).cps.toList, 48 ≤ c ∧ c ≠ 47 ∧ c ≠ 32 := by decide +kernel
theorem blank_is : ((" " : String) : Str) = ⟨#[32]⟩ := by decide
theorem slash_is : (("/" : String) : Str) = ⟨#[47]⟩ := by decide
theorem word_split {e : En} (hk : KeyIs e.2.1) : Txt.split (word e) "/" = [ts e.1, e.2.1, ts e.2.2] := by
  have hw : word e = Txt.join "/" [ts e.1, e.2.1, ts e.2.2] := by
    have e' : Txt.join "/" [ts e.1, e.2.1, ts e.2.2] = Str.join "/" [ts e.1, e.2.1, ts e.2.2] := StrLaws.glued_eq_join _ _
    rw [e']
    unfold word
    simp only [PyProof.Rows.join_cons_cons, PyProof.Rows.join_one, Str.append_assoc]
  rw [hw, slash_is]
  refine split_join (by simp) fun p hp hc => ?_
  simp only [List.mem_cons, List.not_mem_nil, or_false] at hp
  rcases hp with rfl | rfl | rfl
  · have := ts_signs _ _ hc; omega
  · have := sign_ok _ (hk.2 _ hc); omega
  · have := ts_signs _ _ hc; omega
theorem word_free {e : En} (hk : KeyIs e.2.1) : 32 ∉ (word e).cps.toList := fun hc => by
  unfold word at hc
  rw [slash_is] at hc
  simp only [Str.cps_append, Array.toList_append, List.mem_append] at hc
  rcases hc with (((hc | hc) | hc) | hc) | hc
  · have := ts_signs _ _ hc; omega
  · simp at hc
  · have := sign_ok _ (hk.2 _ hc); omega
  · simp at hc
  · have := ts_signs _ _ hc; omega
theorem words_split {es : List En} (h : es ≠ []) (hk : ∀ e ∈ es, KeyIs e.2.1) : Txt.split (Txt.join " " (es.map word)) " " = es.map word := by
  rw [blank_is]
  refine split_join (by simpa using h) fun p hp => ?_
  obtain ⟨e, he, rfl⟩ := List.mem_map.mp hp
  exact word_free (hk e he)
end Ent
set_option Elab.async false
set_option linter.all false
set_option maxRecDepth 100000
namespace Pr
open PySem L2 PyProof.Rows Ent
theorem sum_ones (cs : List Nat) : (cs.map ((fun x : Str => x.length) ∘ fun c => (⟨#[c]⟩ : Str))).sum = cs.length := by
  induction cs with
  | nil => rfl
  | cons c r ih =>
    rw [List.map_cons, List.sum_cons, List.length_cons, ih]
    show 1 + r.length = _
    omega
theorem key_join {cs : List Nat} (h8 : cs.length ≤ 8) (hc : ∀ c ∈ cs, c < 128) : KeyOk (Txt.join "" (cs.map fun c => (⟨#[c]⟩ : Str))) := by
  have e : Txt.join "" (cs.map fun c => (⟨#[c]⟩ : Str)) = Str.join "" (cs.map fun c => (⟨#[c]⟩ : Str)) := StrLaws.glued_eq_join _ _
  rw [e]
  constructor
  · have h1 := StrLaws.join_length_le "" (cs.map fun c => (⟨#[c]⟩ : Str))
    rw [List.map_map] at h1
    rw [sum_ones] at h1
    have h3 : (("" : String) : Str).length = 0 := by decide
    rw [h3] at h1
    show (Str.join _ _).length ≤ 8
    omega
  · intro c hm
    rcases (mem_join "" c _).mp hm with ⟨t, ht, h2⟩ | ⟨_, h2⟩
    · obtain ⟨d, hd, rfl⟩ := List.mem_map.mp ht
      have : c = d := by simpa using h2
      rw [this]
      exact hc d hd
    · have e0 : (("" : String) : Str).cps.toList = [] := by decide
      rw [e0] at h2
      cases h2
theorem key_is {cs : List Nat} (h1 : 1 ≤ cs.length) (hc : ∀ c ∈ cs, c ∈ (("abcdefghijklmnopqrstuvwxyz0123456789" : String) : Str).cps.toList) : Ent.KeyIs (Txt.join "" (cs.map fun c => (⟨#[c]⟩ : Str))) := by
  have e : Txt.join "" (cs.map fun c => (⟨#[c]⟩ : Str)) = Str.join "" (cs.map fun c => (⟨#[c]⟩ : Str)) := StrLaws.glued_eq_join _ _
  rw [e]
  constructor
  · obtain ⟨c, hm⟩ := List.exists_mem_of_length_pos (show 0 < cs.length from h1)
    exact join_mem_le "" _ (⟨#[c]⟩ : Str) (List.mem_map.mpr ⟨c, hm, rfl⟩)
  · intro c hm
    rcases (mem_join "" c _).mp hm with ⟨t, ht, h2⟩ | ⟨_, h2⟩
    · obtain ⟨d, hd, rfl⟩ := List.mem_map.mp ht
      have : c = d := by simpa using h2
      rw [this]
      exact hc d hd
    · have e0 : (("" : String) : Str).cps.toList = [] := by decide
      rw [e0] at h2
      cases h2
theorem key_joinOk {cs : List Nat} (h8 : cs.length ≤ 8) : JoinOk "" (cs.map fun c => (⟨#[c]⟩ : Str)) = true := by
  refine joinOk_of ?_
  rw [List.map_map]
  rw [sum_ones]
  have h3 : (("" : String) : Str).length = 0 := by decide
  rw [h3]
  omega
theorem signs_at {i : Int} (h0 : 0 ≤ i) (h1 : i < 36) : ∃ c, atI (("abcdefghijklmnopqrstuvwxyz0123456789" : String) : Str).cps.toList i = some c ∧ c < 128 ∧ c ∈ (("abcdefghijklmnopqrstuvwxyz0123456789" : String) : Str).cps.toList := by
  obtain ⟨n, rfl⟩ : ∃ n : Nat, i = n := ⟨i.toNat, by omega⟩
  have hl : (("abcdefghijklmnopqrstuvwxyz0123456789" : String) : Str).cps.toList.length = 36 := by decide +kernel
  have ha : (("abcdefghijklmnopqrstuvwxyz0123456789" : String) : Str).cps.toList.all (fun c => decide (c < 128)) = true := by decide +kernel
  have hn : n < (("abcdefghijklmnopqrstuvwxyz0123456789" : String) : Str).cps.toList.length := by omega
  refine ⟨_, atI_nat (List.getElem?_eq_getElem hn), ?_, List.getElem_mem hn⟩
  exact of_decide_eq_true (List.all_eq_true.mp ha _ (List.getElem_mem hn))
section
variable {P : Program} {w : World} {K : PySem.W.Frag} {mg : Str → Option Value} {base : Heap} {C : Addr}
inductive sp_wide (vs : List V) (H : Hp) (Q : VK) (E : XK) : Prop
  | mk (p : Addr) (e : vs = [.ref p]) (h1 : PotAt H p) (q : ∀ d H', d.natAbs < 10 ^ 30 → But p H H' → PotAt H' p → Q (.int d) H') : sp_wide vs H Q E
theorem sc_wide : FnScope ["_law_pot_here", "_law_way"] ["_law_pot_here"] (defScope s_law_wide) := ⟨rfl, rfl, rfl, by decide +kernel, rfl, by decide +kernel, by decide +kernel⟩
set_option maxHeartbeats 4000000 in
theorem wide (T : Txt K mg C) : Can P w K mg base 2 "_law_wide" ["_law_pot_here"] sp_wide := by
  refine fn_can T.f_law_wide sc_wide (fun vs H Q E h => ?_) (fun f cdv A outer s H vs Q E hr h => ?_)
  · obtain ⟨p, rfl, _⟩ := h
    rfl
  · obtain ⟨p, rfl, hp, q⟩ := h
    refine ⟨_, pss_cons (ps_set (i := 1) sc_wide.nd rfl (Or.inl rfl) (pe_can (take T) hr (pa2 (pv 0) pe_int)))
      (pss_cons (ps_if (pt_cmpR op_eq (pv 1) pe_int (nomark _)) (pss_one (ps_ret (pe_op op_sub (pe_can (take T) hr (pa2 (pv 0) pe_int)) pe_int))) pss_nil)
      (pss_cons (ps_if (pt_cmpR op_eq (pv 1) pe_int (nomark _)) (pss_one (ps_ret (pe_op op_sub (pe_can (take T) hr (pa2 (pv 0) pe_int)) pe_int))) pss_nil)
      (pss_cons (ps_if (pt_cmpR op_eq (pv 1) pe_int (nomark _)) (pss_one (ps_ret (pe_op op_add (pe_op op_sub (pe_can (take T) hr (pa2 (pv 0) (pe_op op_sub (pe_op op_mul pe_int (pe_op op_pow pe_int pe_int)) pe_int))) (pe_op op_pow pe_int pe_int)) pe_int))) pss_nil)
      (pss_one (ps_ret (pe_op op_add (pe_ix (ix_listK K) (pe_lst (pa2 (pe_op op_sub (pe_op op_pow pe_int pe_int) pe_int) (pe_op op_sub pe_int (pe_op op_pow pe_int pe_int)))) (pe_op op_sub (pv 1) pe_int) (fun _ _ => rfl))
        (pe_op op_mul (pe_can (take T) hr (pa2 (pv 0) pe_int)) (pe_ix (ix_listK K) (pe_lst (pa2 (pe_un un_neg pe_int) pe_int)) (pe_op op_sub (pv 1) pe_int) (fun _ _ => rfl))))))))), ?_⟩
    have e30 : (10 : Int) ^ (30 : Int).toNat = 1000000000000000000000000000000 := by decide +kernel
    have n30 : (10 : Nat) ^ 30 = 1000000000000000000000000000000 := by decide +kernel
    refine ⟨_, rfl, p, _, rfl, hp, by decide +kernel, by decide +kernel, fun d1 H1 a1 b1 c1 hp1 => ?_⟩
    refine ⟨_, rfl, rfl, _, rfl, ite2 (fun hc => ?_) (fun hc1 => ?_)⟩
    · refine ⟨_, rfl, p, _, rfl, hp1, by decide +kernel, by decide +kernel, fun d H2 a b c hp2 => ⟨_, _, rfl, rfl, q _ _ ?_ (c1.trans c) hp2⟩⟩
      rw [n30]; omega
    refine ⟨_, rfl, rfl, _, rfl, ite2 (fun hc => ?_) (fun hc2 => ?_)⟩
    · refine ⟨_, rfl, p, _, rfl, hp1, by decide +kernel, by decide +kernel, fun d H2 a b c hp2 => ⟨_, _, rfl, rfl, q _ _ ?_ (c1.trans c) hp2⟩⟩
      rw [n30]; omega
    refine ⟨_, rfl, rfl, _, rfl, ite2 (fun hc => ?_) (fun hc3 => ?_)⟩
    · refine ⟨_, rfl, _, _, rfl, rfl, ⟨by decide +kernel, by decide +kernel, by decide +kernel⟩, _, _, rfl, rfl, .inl ⟨by decide +kernel, by decide +kernel⟩, _, _, rfl, rfl, p, _, rfl, hp1, by decide +kernel, by decide +kernel, fun d H2 a b c hp2 => ⟨_, _, rfl, rfl, ⟨by decide +kernel, by decide +kernel, by decide +kernel⟩, _, _, rfl, rfl, _, _, rfl, rfl, q _ _ ?_ (c1.trans c) hp2⟩⟩
      rw [e30] at b ⊢
      rw [n30]
      omega
    have hd : d1 = 3 ∨ d1 = 4 := by
      have z1 : d1 ≠ 0 := fun e => hc1 (by rw [e]; rfl)
      have z2 : d1 ≠ 1 := fun e => hc2 (by rw [e]; rfl)
      have z3 : d1 ≠ 2 := fun e => hc3 (by rw [e]; rfl)
      omega
    refine ⟨_, _, rfl, rfl, ⟨by decide +kernel, by decide +kernel, by decide +kernel⟩, _, _, rfl, rfl, _, _, rfl, rfl, ⟨by decide +kernel, by decide +kernel, by decide +kernel⟩, _, _, rfl, rfl, two_line, fun l1 hl1 => ?_⟩
    refine ⟨_, rfl, _, _, rfl, rfl, l1, _, _, _, rfl, rfl, .of upd_same, atI_ints (S := [10 ^ (30 : Int).toNat - 1, 1 - 10 ^ (30 : Int).toNat]) (by omega) (by show d1 - 3 < 2; omega), ?_⟩
    refine ⟨_, rfl, p, _, rfl, hp1.same (Same.upd hl1), by decide +kernel, by decide +kernel, fun d H2 a b c hp2 => ?_⟩
    refine ⟨_, rfl, two_line, fun l2 hl2 => ?_⟩
    refine ⟨_, rfl, _, _, rfl, rfl, l2, _, _, _, rfl, rfl, .of upd_same, atI_ints (S := [-1, 1]) (by omega) (by show d1 - 3 < 2; omega), ?_⟩
    refine ⟨_, _, rfl, rfl, .inl ⟨by omega, by omega⟩, _, _, rfl, rfl, q _ _ ?_ (((c1.same (Same.upd hl1)).trans c).same (Same.upd hl2)) (hp2.same (Same.upd hl2))⟩
    rw [e30, n30]
    rcases hd with rfl | rfl
    · show (((1000000000000000000000000000000 : Int) - 1) + d * -1).natAbs < _
      omega
    · show (((1 : Int) - 1000000000000000000000000000000) + d * 1).natAbs < _
      omega
inductive sp_key (vs : List V) (H : Hp) (Q : VK) (E : XK) : Prop
  | mk (p : Addr) (e : vs = [.ref p]) (h1 : PotAt H p) (q : ∀ k H', KeyOk k → Ent.KeyIs k → But p H H' → PotAt H' p → Q (.str k) H') : sp_key vs H Q E
theorem sc_key : FnScope ["_law_pot_here", "_law_many"] ["_law_pot_here"] (defScope s_law_key) := ⟨rfl, rfl, rfl, by decide +kernel, rfl, by decide +kernel, by decide +kernel⟩
set_option maxHeartbeats 4000000 in
theorem key (T : Txt K mg C) : Can P w K mg base 2 "_law_key" ["_law_pot_here"] sp_key := by
  refine fn_can T.f_law_key sc_key (fun vs H Q E h => ?_) (fun f cdv A outer s H vs Q E hr h => ?_)
  · obtain ⟨p, rfl, _⟩ := h
    rfl
  · obtain ⟨p, rfl, hp, q⟩ := h
    refine ⟨_, pss_cons (ps_set (i := 1) sc_key.nd rfl (Or.inl rfl) (pe_ix (ix_listK K) (pe_lst (pa3 pe_int pe_int (pe_op op_add pe_int (pe_can (take T) hr (pa2 (pv 0) pe_int))))) (pe_can (take T) hr (pa2 (pv 0) pe_int)) (fun _ _ => rfl)))
      (pss_one (ps_ret (pe_bmK K PySem.F.plainAttrs_str PySem.F.slot_str_join PySem.F.type_str_join mt_join pe_str (pa1 (pe_lc rfl (lcS sc_key) (pi_range1 rfl T.b_range (pa1 (pv 1))) (fun _ _ _ _ => pts_nil) (fun _ _ _ _ => pe_ix ix_str pe_str (pe_can (take T) hr (pa2 (pv 1) pe_int)) (fun _ _ => rfl))))))), ?_⟩
    refine ⟨_, rfl, p, _, rfl, hp, by decide +kernel, by decide +kernel, fun d1 H1 a1 b1 c1 hp1 => ?_⟩
    refine ⟨_, _, rfl, rfl, three_line, fun l1 hl1 => ?_⟩
    refine ⟨_, rfl, p, _, rfl, hp1.same (Same.upd hl1), by decide +kernel, by decide +kernel, fun d2 H2 a2 b2 c2 hp2 => ?_⟩
    have hl2 : H2 l1 = some (.lst ([1, 1, 1 + d1].map V.int)) := c2 _ _ upd_same (hp1.ne hl1)
    refine ⟨l1, _, _, _, rfl, rfl, .of hl2, atI_ints (S := [1, 1, 1 + d1]) a2 (by show d2 < 3; omega), ?_⟩
    have hm : 1 ≤ [1, 1, 1 + d1].getD d2.toNat 0 ∧ [1, 1, 1 + d1].getD d2.toNat 0 ≤ 8 := by
      have : d2 = 0 ∨ d2 = 1 ∨ d2 = 2 := by omega
      rcases this with rfl | rfl | rfl
      · show (1 : Int) ≤ 1 ∧ (1 : Int) ≤ 8
        decide
      · show (1 : Int) ≤ 1 ∧ (1 : Int) ≤ 8
        decide
      · show 1 ≤ 1 + d1 ∧ 1 + d1 ≤ 8
        omega
    generalize hmm : [1, 1, 1 + d1].getD d2.toNat 0 = many at hm
    have c12 : But p H H2 := (c1.same (Same.upd hl1)).trans c2
    refine ⟨rfl, _, rfl, _, rfl, by omega, by omega, fun D hD => ?_⟩
    refine lc_range (fun i ys H3 => H3 D = some (.lst ys) ∧ But p H2 H3 ∧ PotAt H3 p ∧ ∃ cs : List Nat, ys = cs.map (fun c => V.str ⟨#[c]⟩) ∧ cs.length = i ∧ (∀ c ∈ cs, c < 128) ∧ ∀ c ∈ cs, c ∈ (("abcdefghijklmnopqrstuvwxyz0123456789" : String) : Str).cps.toList) ⟨upd_same, (Same.upd hD).but, hp2.same (Same.upd hD), [], rfl, rfl, (fun _ h => nomatch h), fun _ h => nomatch h⟩ (fun i ys H3 h => h.1) (fun ys H3 h => ?_) fun i ys H3 hi h => ?_
    · obtain ⟨h1, h2, h3, cs, rfl, h5, h6, h7⟩ := h
      have e2 : cs.map (fun c => V.str ⟨#[c]⟩) = (cs.map fun c => (⟨#[c]⟩ : Str)).map V.str := by rw [List.map_map]; rfl
      rw [e2] at h1
      exact ⟨_, D, _, rfl, rfl, .of h1, key_joinOk (by omega), q _ _ (key_join (by omega) h6) (key_is (by omega) h7) (c12.trans h2) h3⟩
    · obtain ⟨h1, h2, h3, cs, rfl, h5, h6, h7⟩ := h
      refine yesI ⟨_, rfl, p, _, rfl, h3, by decide +kernel, by decide +kernel, fun d H4 a b c hp4 => ?_⟩
      obtain ⟨ch, hch, hlt, hab⟩ := signs_at a b
      have hDp : D ≠ p := hp2.ne hD
      refine ⟨_, _, _, rfl, rfl, by decide +kernel, hch, LcNx.mk hi (by omega) (by rw [List.length_map]; omega) (c _ _ h1 hDp) ⟨upd_same, ?_, ?_, cs ++ [ch], by rw [List.map_append]; rfl, by rw [List.length_append, h5]; rfl, fun z hz => ?_, fun z hz => ?_⟩⟩
      · intro b' o hb hn
        have hne : b' ≠ D := ne_of_none hb hD
        rw [upd_ne hne]
        exact c _ _ (h2 _ _ hb hn) hn
      · obtain ⟨x, y, hxy⟩ := hp4
        exact ⟨x, y, by rw [upd_ne (Ne.symm hDp)]; exact hxy⟩
      · rcases List.mem_append.mp hz with hz | hz
        · exact h6 z hz
        · rw [List.mem_singleton.mp hz]; exact hlt
      · rcases List.mem_append.mp hz with hz | hz
        · exact h7 z hz
        · rw [List.mem_singleton.mp hz]; exact hab
end
end Pr
set_option Elab.async false
set_option linter.all false
set_option maxRecDepth 100000
/-! enumerate of a list, walked by a for or a comprehension with a pair of names. -/
namespace L2
open PySem PySem.Spec PyProof.Rows
section
variable {X : Cx} {pins : List (Addr × Obj)} {σ : St} {H : Hp} {s : Shared}
end
section
variable {X : Cx}
end
end L2
set_option Elab.async false
set_option linter.all false
set_option maxRecDepth 100000
/-! x = [.. for a, b in ..]: a comprehension of several names, or with a name that hides one, stored at once. -/
namespace L2
open PySem PySem.Spec PyProof.Rows
section
variable {X : Cx} {xs Ns : List Str} {sc : Scope} {tg iter elt : Expr} {ifs : List Expr} {pos : Pos} {wi : TI} {g : TG} {tc : TT} {te : TE}
end
end L2
set_option Elab.async false
set_option linter.all false
set_option maxRecDepth 100000
/-! a, b, c = a list; f-strings -/
namespace L2
open PySem PySem.Spec PyProof.Rows
section
variable {prog : Program} {w : World} {A : Around} {E : Value → Shared → Prop} {s : Shared}
theorem draw_list {it t : Addr} {items : Array Value} (hne : t ≠ it) : ∀ (n i : Nat) (s : Shared) (Q : List Value → Shared → Prop), s.heap.IsListIter it t i → s.heap.IsList t items → i + n ≤ items.size →
    (∀ h', h'.IsListIter it t (i + n) → Heap.SameBut it s.heap h' → Q ((items.toList.drop i).take n) { s with heap := h' }) → wpAny (model prog w) A (draw (.ref it) n) Q E s
  | 0, i, s, Q, hit, _, _, hQ => by
    show wpAny _ _ (pure []) Q E s
    exact wpAny_pure (by simpa using hQ s.heap hit (Heap.SameBut.refl ..))
  | n + 1, i, s, Q, hit, ht, hle, hQ => by
    have hlt : i < items.size := by omega
    show wpAny _ _ (pyNext (.ref it) >>= _) Q E s
    refine wpAny_bind (wpAny_pyNext_list_item hit ht (x := items[i]) (by simp [hlt]) fun h₁ hit₁ hs₁ => ?_)
    refine wpAny_bind (wpAny_holding (draw_list hne n (i + 1) _ _ hit₁ (ht.extBut hs₁.extBut hne) (by omega) fun h₂ hit₂ hs₂ => wpAny_pure ?_))
    have hd : items.toList.drop i = items[i] :: items.toList.drop (i + 1) := by simp [List.drop_eq_getElem_cons, hlt]
    have := hQ h₂ (by rw [show i + (n + 1) = i + 1 + n by omega]; exact hit₂) (hs₁.trans hs₂)
    rw [hd, List.take_succ_cons] at this
    exact this
theorem unpackItems_list {t : Addr} {items : Array Value} {Q : List Value → Shared → Prop} (hh : A.handled = none) (ht : s.heap.IsList t items)
    (hQ : ∀ h', Heap.ExtBut s.heap.objs.size s.heap h' → Q items.toList { s with heap := h' }) : wpAny (model prog w) A (unpackItems (.ref t) items.size none) Q E s := by
  have hlt : t ≠ s.heap.objs.size := by obtain ⟨o, ho, _⟩ := ht; exact Nat.ne_of_lt (Heap.lt_size ho)
  unfold unpackItems
  refine wpAny_bind ?_
  · unfold notIterableAtAll
    refine wpAny_bind (wpAny_specialOf ht.typeIs slot_list_iter.lookup ?_)
    refine wpAny_pure ?_
    simp only [Bool.false_eq_true, if_false]
    refine wpAny_bind (wpAny_holding (wpAny_pyIter_list ht ?_))
    refine wpAny_bind (wpAny_holding (draw_list hlt items.size 0 _ _ ⟨_, Heap.get?_push_size _ rfl, rfl, rfl⟩ (ht.push _) (by omega) fun h₁ hit₁ hs₁ => ?_))
    have hall : List.take items.size (List.drop 0 items.toList) = items.toList := by
      rw [List.drop_zero]; exact List.take_of_length_le (by simp)
    rw [hall]
    rw [if_neg (by simp)]
    have ht₁ : h₁.IsList t items := (ht.push _).extBut hs₁.extBut hlt
    refine wpAny_bind (wpAny_holding (wpAny_pyNext_list_end hh hit₁ ht₁ (by simp) fun h₂ he₂ => ?_))
    simp only [Option.isSome_none, Bool.false_eq_true, if_false]
    refine wpAny_pure (hQ h₂ fun b o hb e => he₂ b o hb (hs₁.extBut b o hb (Heap.get?_push_of_some _ e)))
theorem assign_Tuple_list {env : Env} {elts : List Expr} {x1} {pos : Pos} {t : Addr} {items : Array Value} {Q : Unit → Shared → Prop} (hh : A.handled = none) (ht : s.heap.IsList t items)
    (hn : (assignEach elts env).length = items.size) (hstar : (assignEach elts env).findIdx? (·.1) = none)
    (h : ∀ h', Heap.ExtBut s.heap.objs.size s.heap h' → wpAny (model prog w) A (assignInOrder ((assignEach elts env).map (·.2)) items.toList) Q E { s with heap := h' }) :
    wpAny (model prog w) A (assign (.Tuple elts x1 pos) env (.ref t)) Q E s := by
  rw [assign_Tuple]
  refine wpAny_bind (wpAny_standAt ?_)
  unfold unpack
  rw [hn, hstar]
  exact wpAny_bind (wpAny_holding (unpackItems_list hh ht h))
end
section
variable {X : Cx} {pos : Pos}
/-- (a, b, ..) = a tuple or a list of that length -/
inductive gSeq (n : Nat) (t : TGs) (v : V) (σ : St) (H : Hp) (Q : St → Hp → Prop) : Prop
  | mk (a : Addr) (o : HO) (xs : List V) (e : v = .ref a) (h : H a = some o) (ob : Ob o xs) (l : xs.length = n) (q : t xs σ H Q) : gSeq n t v σ H Q
theorem pg_seq {es : List Expr} {k : Nat} {t : TGs} {n : Nat} (hc : X.calm = true) (h : PGs X es t)
    (hn : (assignEach es X.env).length = n := by rfl) (hst : (assignEach es X.env).findIdx? (·.1) = none := by rfl) : PG X (.Tuple es k pos) (gSeq n t) := by
  intro pins s σ H v u Q I r hw
  obtain ⟨a, o, xs, e1, ha, ho, hl, hw⟩ := hw
  subst e1
  cases r
  rcases ho with ho | ho
  · subst ho
    obtain ⟨its, rv, ht, hz⟩ := I.list (.of ha)
    refine assign_Tuple_list (I.ok.hd hc) ht.isList (by simp [hn, ← hl, rv.length]) hst fun h' hx => ?_
    have I1 : Inv X pins σ H { s with heap := h' } := I.kept (t' := s.toks) fun b o e => hx b o (Nat.ne_of_lt (Heap.lt_size e)) e
    exact h pins _ σ H xs _ Q I1 (by simpa using rv) hw
  · subst ho
    obtain ⟨its, rv, ht, hz⟩ := I.tuple (.of ha)
    refine assign_Tuple_tuple (I.ok.hd hc) ht (by simp [hn, ← hl, rv.length]) hst fun h' hx => ?_
    have I1 : Inv X pins σ H { s with heap := h' } := I.kept (t' := s.toks) fun b o e => hx b o (Nat.ne_of_lt (Heap.lt_size e)) e
    exact h pins _ σ H xs _ Q I1 (by simpa using rv) hw
/-! ### f-strings -/
end
end L2
set_option Elab.async false
set_option linter.all false
set_option maxRecDepth 100000
/-! the signs of a text, one by one; a statement that isn't come to -/
namespace L2
open PySem PySem.Spec PyProof.Rows
def Its (x : Str) : It := ⟨fun i _ => i < x.cps.size, fun i H v H' => H' = H ∧ ∃ c, x.cps.toList[i]? = some c ∧ v = .str ⟨#[c]⟩, fun i _ => x.cps.size ≤ i⟩
theorem turn_str {P : Program} {w : World} {K : PySem.W.Frag} {tg : Expr} (x : Str) (t : Tok) (it : Addr) : Turn P w K tg (Its x) [it] it (fun i h => h.IsStrIter it "str_ascii_iterator" x t i) where
  mem := by simp
  obj := fun i h st b hb => by
    have e : b = it := by simpa using hb
    subst e
    obtain ⟨o, e, c, d⟩ := st
    exact ⟨o, e, fun v z => by rw [d] at z; cases z⟩
  keep := fun i h h' st k => by
    obtain ⟨o, ho, r⟩ := st
    exact ⟨o, k it (by simp) o ho, r⟩
  item := by
    intro X hP hw hK hc i pins s σ H E I hf st hg
    subst hP hw hK
    have hi : i < x.cps.size := hg
    obtain ⟨f0, f1, f2, f3, f4, f5⟩ := hf it (by simp)
    refine wpAny_pyNext_ascii_item st (c := x.cps[i]) (by simp [hi]) fun h' st' sb => ?_
    have I1 : Inv X pins σ H { s with heap := h', toks := s.toks + 1 } := I.turned (t' := s.toks + 1) (fun b o hb e => (sb.2 b hb).trans e) f0 f1 f3 f4 f5
    obtain ⟨o, e, c, d⟩ := id st'
    exact ⟨_, rfl, go_of (s := { s with heap := h', toks := s.toks + 1 }) e c d (by decide) ⟨.str ⟨#[x.cps[i]]⟩, H, I1, ⟨_, rfl⟩, ⟨rfl, _, by simp [hi], rfl⟩, st', fun b hb => (hf b hb).1⟩⟩
  done := by
    intro X hP hw hK hc i pins s σ H E I hf st hg
    subst hP hw hK
    have hi : x.cps.size ≤ i := hg
    obtain ⟨f0, f1, f2, f3, f4, f5⟩ := hf it (by simp)
    exact wpAny_pyNext_ascii_end (I.ok.hd hc) st (by simp [hi]) fun h' eb => ⟨rfl, I.turned (t' := s.toks) (fun b o hb e => eb b o hb e) f0 f1 f3 f4 f5⟩
  self := fun _ _ _ _ _ st h => wpAny_pyIter_striter_ascii st h
section
variable {X : Cx} {tg : Expr}
def iStr (tl : TE) : TI := fun σ H R => tl σ H fun v H1 => ∃ x, v = .str x ∧ x.cps.all (· < 128) = true ∧ R (Its x) H1
theorem pi_str {l : Expr} {tl : TE} (hl : PE X l tl) : PI X tg l (iStr tl) := by
  intro pins s σ H R I h
  refine thn (hl pins s σ H _ I h) fun v s1 ⟨y, H1, I1, r1, q1⟩ => ?_
  obtain ⟨x, e, ha, q⟩ := q1
  subst e
  obtain ⟨t, rfl⟩ := r1
  refine wpAny_pyIter_ascii ha ?_
  refine ⟨s1.heap.objs.size, [s1.heap.objs.size], _, _, H1, rfl, I1.kept (t' := s1.toks) fun b o e => Heap.get?_push_of_some _ e, turn_str x t _, ⟨_, Heap.get?_push_size _ rfl, rfl, rfl⟩, fun b hb => ?_, q⟩
  have e : b = s1.heap.objs.size := by simpa using hb
  subst e
  exact I1.fpOk (Nat.le_refl _) (I1.hok.fresh (Nat.le_refl _))
end
end L2
set_option Elab.async false
set_option linter.all false
set_option maxRecDepth 100000
/-! what the bars' laws have, without their defs; written entries -/
namespace Pr
open PySem L2 PyProof.Rows Ent
end Pr
namespace Pr
open PySem L2 PyProof.Rows Ent
theorem datAll_of {H : Hp} {g : En → PyData} (hg : ∀ x e, EntT H x e → Dat H (g e) x) : ∀ {xs : List V} {es : List En}, Paired (EntT H) xs es → DatAll H (es.map g) xs
  | _, _, .nil => by unfold DatAll; rfl
  | _, _, .cons r t => by
    unfold DatAll
    exact ⟨_, _, rfl, hg _ _ r, datAll_of hg t⟩
theorem dat_list {H : Hp} {a : Addr} {xs : List V} {es : List En} (h : H a = some (.lst xs)) (p : Paired (EntT H) xs es) : Dat H (.list (es.map eD)) (.ref a) := by
  unfold Dat
  exact ⟨a, xs, rfl, h, datAll_of (fun _ _ z => z.dat) p⟩
theorem dat_nil {H : Hp} {a : Addr} (h : H a = some (.lst [])) : Dat H (.list []) (.ref a) := by
  unfold Dat
  exact ⟨a, [], rfl, h, by unfold DatAll; rfl⟩
theorem depth_eDs : ∀ (es : List En), PyData.depthAll (es.map eD) ≤ 1
  | [] => by simp [PyData.depthAll]
  | e :: es => by
    have h1 := depth_eDs es
    have h2 := depth_eD e
    rw [List.map_cons]
    simp only [PyData.depthAll]
    omega
end Pr
namespace L2
open PySem PySem.Spec PyProof.Rows
/-! data without a list in it -/
end L2
namespace Ent
open PySem
end Ent
namespace Pr
open PySem L2 PyProof.Rows Ent
end Pr
namespace L2
open PySem PySem.Spec PyProof.Rows
theorem len3 {α : Type} : ∀ {u : List α}, u.length = 3 → ∃ a b c, u = [a, b, c]
  | [a, b, c], _ => ⟨a, b, c, rfl⟩
end L2
namespace Pr
open PySem L2 PyProof.Rows Ent
end Pr
namespace Ent
open PySem
theorem bulk_eDs : ∀ {es : List En}, (∀ e ∈ es, EnOk e) → PyData.bulkAll (es.map eD) ≤ 12 * es.length
  | [], _ => by simp [PyData.bulkAll]
  | e :: es, h => by
    have h1 := bulk_eDs fun x hx => h x (List.mem_cons_of_mem e hx)
    have h2 := bulk_eD (h e List.mem_cons_self)
    rw [List.map_cons, List.length_cons]
    simp only [PyData.bulkAll]
    omega
theorem fit_eDs {es : List En} (hk : ∀ e ∈ es, EnOk e) (hn : es.length ≤ 1000) : L2.Fit (.list (es.map eD)) := by
  refine Lf.fit (lf_list fun d hd => ?_) ?_ ?_
  · obtain ⟨e, he, rfl⟩ := List.mem_map.mp hd
    exact lf_eD (hk e he)
  · have := bulk_eDs hk
    simp only [PyData.bulk]
    omega
  · have := Pr.depth_eDs es
    simp only [PyData.depth]
    omega
end Ent
set_option Elab.async false
set_option linter.all false
set_option maxRecDepth 100000
/-! words that are no entries, texts that are no entries' -/
namespace Ent
open PySem
theorem tj (c : Str) (l : List Str) : Txt.join c l = Str.join c l := StrLaws.glued_eq_join _ _
theorem join_app (c : Str) : ∀ {xs ys : List Str}, xs ≠ [] → ys ≠ [] → Str.join c (xs ++ ys) = Str.join c xs ++ c ++ Str.join c ys
  | [], _, h, _ => absurd rfl h
  | _, [], _, h => absurd rfl h
  | [x], y :: ys, _, _ => by rw [List.singleton_append, PyProof.Rows.join_cons_cons]; rfl
  | x :: x2 :: xs, y :: ys, _, _ => by
    rw [List.cons_append, List.cons_append, PyProof.Rows.join_cons_cons, ← List.cons_append, join_app c (xs := x2 :: xs) (ys := y :: ys) (by simp) (by simp), PyProof.Rows.join_cons_cons]
    simp only [Str.append_assoc]
theorem join_head (c m b : Str) : ∀ (ys : List Str), m ++ Str.join c (b :: ys) = Str.join c ((m ++ b) :: ys)
  | [] => rfl
  | y :: ys => by rw [PyProof.Rows.join_cons_cons, PyProof.Rows.join_cons_cons]; simp only [Str.append_assoc]
theorem join_tail (c m a : Str) : ∀ (xs : List Str), Str.join c (xs ++ [a]) ++ m = Str.join c (xs ++ [a ++ m])
  | [] => rfl
  | x :: xs => by rw [join_app c (by simp) (by simp), join_app c (by simp) (by simp), PyProof.Rows.join_one, PyProof.Rows.join_one, Str.append_assoc]
theorem join_glue (c m a b : Str) (xs ys : List Str) : Str.join c (xs ++ [a]) ++ m ++ Str.join c (b :: ys) = Str.join c (xs ++ (a ++ m ++ b) :: ys) := by
  rw [join_tail]
  cases xs with
  | nil =>
    rw [List.nil_append, PyProof.Rows.join_one, join_head, List.nil_append]
  | cons x xs =>
    rw [join_app c (xs := x :: xs) (by simp) (by simp), join_app c (xs := x :: xs) (ys := (a ++ m ++ b) :: ys) (by simp) (by simp), PyProof.Rows.join_one, Str.append_assoc, join_head]
theorem join_nest (c : Str) {ys : List Str} (hy : ys ≠ []) (xs zs : List Str) : Str.join c (xs ++ Str.join c ys :: zs) = Str.join c (xs ++ (ys ++ zs)) := by
  have key : Str.join c (Str.join c ys :: zs) = Str.join c (ys ++ zs) := by
    cases zs with
    | nil => rw [List.append_nil]; rfl
    | cons z zs => rw [PyProof.Rows.join_cons_cons, join_app c hy (by simp)]
  cases xs with
  | nil => exact key
  | cons x xs =>
    rw [join_app c (xs := x :: xs) (by simp) (by simp), key, join_app c (xs := x :: xs) (by simp) (by simpa using fun e => absurd e hy)]
/-! ### words -/
abbrev ABc : List Nat := (("abcdefghijklmnopqrstuvwxyz0123456789" : String) : Str).cps.toList
def okKey (k : Str) : Bool := decide (1 ≤ k.length) && decide (k.length ≤ 8) && k.cps.toList.all (fun c => decide (c ∈ ABc))
def badNum (w : Str) : Bool :=
  decide (30 < (Txt.removeprefix w "-").length) || !(Txt.isascii (Txt.removeprefix w "-") && Txt.isdigit (Txt.removeprefix w "-")) || ((Txt.removeprefix w "-").cps.toList.head? == some 48 && !(decide (w = "0")))
/-- a piece: no stroke, no blank, plain signs -/
def pc (w : Str) : Bool := w.cps.toList.all (fun c => decide (c ≠ 47 ∧ c ≠ 32 ∧ c < 128)) && decide (w.length ≤ 100)
inductive BadP (ps : List Str) : Prop
  | many (h : ps.length ≠ 3) : BadP ps
  | key (a b c : Str) (e : ps = [a, b, c]) (h : okKey b = false) : BadP ps
  | one (a b c : Str) (e : ps = [a, b, c]) (h : badNum a = true) : BadP ps
  | two (i : Int) (b c : Str) (e : ps = [ts i, b, c]) (hi : i.natAbs < 10 ^ 30) (h : badNum c = true) : BadP ps
inductive BadW (w : Str) : Prop
  | mk (ps : List Str) (h0 : ps ≠ []) (e : w = Str.join "/" ps) (hp : ∀ p ∈ ps, pc p = true) (hl : ps.length ≤ 6) (b : BadP ps) : BadW w
theorem pc_mem {w : Str} (h : pc w = true) : ∀ c ∈ w.cps.toList, c ≠ 47 ∧ c ≠ 32 ∧ c < 128 := fun c hc => by
  unfold pc at h
  rw [Bool.and_eq_true] at h
  exact of_decide_eq_true (List.all_eq_true.mp h.1 c hc)
theorem pc_len {w : Str} (h : pc w = true) : w.length ≤ 100 := by
  unfold pc at h
  rw [Bool.and_eq_true] at h
  exact of_decide_eq_true h.2
theorem pc_of {w : Str} (h : ∀ c ∈ w.cps.toList, c ≠ 47 ∧ c ≠ 32 ∧ c < 128) (hl : w.length ≤ 100) : pc w = true := by
  unfold pc
  rw [Bool.and_eq_true]
  exact ⟨List.all_eq_true.mpr fun c hc => decide_eq_true (h c hc), decide_eq_true hl⟩
theorem pc_ts {i : Int} (h : i.natAbs < 10 ^ 30) : pc (ts i) = true := pc_of (fun c hc => by have := ts_signs i c hc; omega) (Nat.le_trans (ts_len (le40 h)) (by decide))
theorem sign_lt : ∀ c ∈ ABc, c ≠ 47 ∧ c ≠ 32 ∧ c < 128 := by decide +kernel
theorem pc_key {k : Str} (h : KeyIs k) (h8 : k.length ≤ 8) : pc k = true := pc_of (fun c hc => sign_lt c (h.2 c hc)) (by omega)
theorem pc_app {a b : Str} (h : pc a = true) (h' : pc b = true) (hl : a.length + b.length ≤ 100) : pc (a ++ b) = true := by
  refine pc_of (fun c hc => ?_) (by rw [Str.length_append]; exact hl)
  rw [Str.cps_append, Array.toList_append] at hc
  rcases List.mem_append.mp hc with z | z
  · exact pc_mem h c z
  · exact pc_mem h' c z
theorem BadW.free {w : Str} (h : BadW w) : 32 ∉ w.cps.toList := fun hc => by
  obtain ⟨ps, h0, e, hp, hl, b⟩ := h
  subst e
  rcases (PyProof.Rows.mem_join _ _ _).mp hc with ⟨t, ht, z⟩ | ⟨_, z⟩
  · exact (pc_mem (hp t ht) _ z).2.1 rfl
  · have e0 : (("/" : String) : Str).cps.toList = [47] := by decide
    rw [e0] at z
    simp at z
theorem join_lenle (c : Str) {n : Nat} (hc : c.length ≤ 1) : ∀ {ps : List Str}, (∀ p ∈ ps, p.length ≤ n) → (Str.join c ps).length ≤ ps.length * (n + 1)
  | [], _ => Nat.zero_le _
  | [p], h => by rw [PyProof.Rows.join_one, List.length_singleton]; have := h p (by simp); omega
  | p :: q :: r, h => by
    rw [PyProof.Rows.join_cons_cons, Str.length_append, Str.length_append, List.length_cons]
    have h1 := h p (by simp)
    have h2 := join_lenle c hc (ps := q :: r) fun x hx => h x (List.mem_cons_of_mem _ hx)
    rw [Nat.add_mul]
    omega
theorem BadW.len {w : Str} (h : BadW w) : w.length ≤ 606 := by
  obtain ⟨ps, h0, e, hp, hl, b⟩ := h
  subst e
  have := join_lenle "/" (n := 100) (by decide) (fun p hq => pc_len (hp p hq))
  have : ps.length * (100 + 1) ≤ 6 * (100 + 1) := Nat.mul_le_mul_right _ hl
  omega
theorem BadW.split {w : Str} (h : BadW w) : ∃ ps, ps ≠ [] ∧ Txt.split w "/" = ps ∧ (∀ p ∈ ps, pc p = true) ∧ ps.length ≤ 6 ∧ BadP ps := by
  obtain ⟨ps, h0, e, hp, hl, b⟩ := h
  refine ⟨ps, h0, ?_, hp, hl, b⟩
  rw [e, ← tj, slash_is]
  exact split_join h0 fun p hq z => (pc_mem (hp p hq) _ z).1 rfl
/-- a word put in: perhaps with a blank in it -/
inductive BadB (w : Str) : Prop
  | mk (b : Str) (r : List Str) (e : w = Str.join " " (b :: r)) (hb : BadW b) (hr : ∀ x ∈ r, 32 ∉ x.cps.toList) (hl : r.length ≤ 1) (hw : w.length ≤ 1000) : BadB w
theorem BadW.b {w : Str} (h : BadW w) : BadB w := ⟨w, [], rfl, h, (fun _ z => nomatch z), by simp, Nat.le_trans h.len (by decide)⟩
/-- a text that is none of entries -/
inductive BadT (t : Str) : Prop
  | mk (gs : List En) (b : Str) (r : List Str) (e : t = Str.join " " (gs.map word ++ b :: r)) (hg : ∀ e ∈ gs, EnOk e ∧ KeyIs e.2.1) (hb : BadW b) (hr : ∀ x ∈ r, 32 ∉ x.cps.toList) (hl : gs.length + r.length ≤ 20) (hn : t ≠ "") (ht : t.length ≤ 6000) : BadT t
theorem BadT.split {t : Str} {gs : List En} {b : Str} {r : List Str} (e : t = Str.join " " (gs.map word ++ b :: r)) (hg : ∀ e ∈ gs, EnOk e ∧ KeyIs e.2.1) (hb : BadW b) (hr : ∀ x ∈ r, 32 ∉ x.cps.toList) : Txt.split t " " = gs.map word ++ b :: r := by
  rw [e, ← tj, blank_is]
  refine split_join (by simp) fun p hp => ?_
  rcases List.mem_append.mp hp with z | z
  · obtain ⟨x, hx, rfl⟩ := List.mem_map.mp z
    exact word_free (hg x hx).2
  · rcases List.mem_cons.mp z with rfl | z
    · exact hb.free
    · exact hr p z
/-! ### numbers that are none -/
theorem bad_sign {w : Str} {c : Nat} (hc : c ∈ w.cps.toList) (h1 : c ≠ 45) (h2 : Unicode.isDigit c = false) : badNum w = true := by
  have hm : c ∈ (Txt.removeprefix w "-").cps.toList := by
    rw [StrLaws.removeprefix_eq]
    split
    · rename_i hs
      rw [Bool.and_eq_true] at hs
      have hs2 := hs.2
      rw [StrLaws.subAt_eq] at hs2
      have e1 : (("-" : String) : Str).length = 1 := by decide
      have e2 : (("-" : String) : Str).cps.toList = [45] := by decide
      rw [e1, e2] at hs2
      rw [e1]
      cases hl : w.cps.toList with
      | nil => rw [hl] at hc; cases hc
      | cons a l =>
        rw [hl] at hs2 hc
        have ha : a = 45 := by simpa using hs2
        have hw : w.length = l.length + 1 := by
          show w.cps.size = _
          rw [← Array.length_toList, hl, List.length_cons]
        rcases List.mem_cons.mp hc with z | z
        · exact absurd (z.trans ha) h1
        · rw [hw]
          show c ∈ ((l.take (l.length + 1 - 1)).toArray).toList
          simpa using z
    · exact hc
  unfold badNum
  have : Txt.isdigit (Txt.removeprefix w "-") = false := by
    unfold Txt.isdigit
    rw [Bool.and_eq_false_iff]
    right
    rw [← Array.all_toList]
    rw [List.all_eq_false]
    exact ⟨c, hm, by rw [h2]; exact Bool.false_ne_true⟩
  rw [this]
  simp
theorem word_join (e : En) : word e = Str.join "/" [ts e.1, e.2.1, ts e.2.2] := by
  unfold word
  simp only [PyProof.Rows.join_cons_cons, PyProof.Rows.join_one, Str.append_assoc]
theorem pcs {ps : List Str} (h : ps.all pc = true) : ∀ p ∈ ps, pc p = true := List.all_eq_true.mp h
end Ent
set_option Elab.async false
set_option linter.all false
set_option maxRecDepth 100000
namespace Ent
open PySem
theorem e_app (a : Str) : (("" : String) : Str) ++ a = a := Str.empty_append a
theorem app_e (a : Str) : a ++ (("" : String) : Str) = a := Str.append_empty a
section
variable {e : En} (ok : EnOk e) (hk : KeyIs e.2.1)
include ok hk
theorem pcM : pc (ts e.1) = true := pc_ts ok.m
theorem pcV : pc (ts e.2.2) = true := pc_ts ok.v
theorem pcK : pc e.2.1 = true := pc_key hk ok.k.1
theorem bad0 : BadW "" := ⟨[""], by simp, rfl, pcs (by decide +kernel), by decide, .many (by decide)⟩
theorem bad1 : BadW "/" := ⟨["", ""], by simp, by decide +kernel, pcs (by decide +kernel), by decide, .many (by decide)⟩
theorem bad2 : BadW "//" := ⟨["", "", ""], by simp, by decide +kernel, pcs (by decide +kernel), by decide, .key _ _ _ rfl (by decide +kernel)⟩
theorem bad3 : BadW (ts e.1) := ⟨[ts e.1], by simp, rfl, fun p hp => by rw [List.mem_singleton.mp hp]; exact pcM ok hk, by simp, .many (by simp)⟩
theorem bad4 : BadW (ts e.1 ++ "/" ++ e.2.1) := ⟨[ts e.1, e.2.1], by simp, by simp only [PyProof.Rows.join_cons_cons, PyProof.Rows.join_one], pcs (by simp [pcM ok hk, pcK ok hk]), by simp, .many (by simp)⟩
theorem bad5 : BadW (ts e.1 ++ "/" ++ e.2.1 ++ "/") := ⟨[ts e.1, e.2.1, ""], by simp, by simp only [PyProof.Rows.join_cons_cons, PyProof.Rows.join_one, Str.append_assoc, app_e], pcs (by simp only [List.all_cons, pcM ok hk, pcK ok hk]; decide +kernel), by simp, .two e.1 _ _ rfl ok.m (by decide +kernel)⟩
theorem bad6 : BadW ((("/" : String) : Str) ++ e.2.1 ++ "/" ++ ts e.2.2) := ⟨["", e.2.1, ts e.2.2], by simp, by simp only [PyProof.Rows.join_cons_cons, PyProof.Rows.join_one, Str.append_assoc, e_app], pcs (by simp only [List.all_cons, pcV ok hk, pcK ok hk]; decide +kernel), by simp, .one _ _ _ rfl (by decide +kernel)⟩
theorem bad7 : BadW (ts e.1 ++ "//" ++ ts e.2.2) := ⟨[ts e.1, "", ts e.2.2], by simp, by
  have z : (("//" : String) : Str) = (("/" : String) : Str) ++ (("/" : String) : Str) := by decide +kernel
  simp only [PyProof.Rows.join_cons_cons, PyProof.Rows.join_one, Str.append_assoc, e_app, z], pcs (by simp only [List.all_cons, pcV ok hk, pcM ok hk]; decide +kernel), by simp, .key _ _ _ rfl (by decide +kernel)⟩
theorem bad8 : BadW (word e ++ "/") := ⟨[ts e.1, e.2.1, ts e.2.2, ""], by simp, by simp only [word, PyProof.Rows.join_cons_cons, PyProof.Rows.join_one, Str.append_assoc, app_e], pcs (by simp only [List.all_cons, pcV ok hk, pcM ok hk, pcK ok hk]; decide +kernel), by simp, .many (by simp)⟩
theorem bad9 : BadW ((("/" : String) : Str) ++ word e) := ⟨["", ts e.1, e.2.1, ts e.2.2], by simp, by simp only [word, PyProof.Rows.join_cons_cons, PyProof.Rows.join_one, Str.append_assoc, e_app], pcs (by simp only [List.all_cons, pcV ok hk, pcM ok hk, pcK ok hk]; decide +kernel), by simp, .many (by simp)⟩
theorem badN1 {n : Str} (h : badNum n = true) (hp : pc n = true) : BadW (n ++ "/" ++ e.2.1 ++ "/" ++ ts e.2.2) := ⟨[n, e.2.1, ts e.2.2], by simp, by simp only [PyProof.Rows.join_cons_cons, PyProof.Rows.join_one, Str.append_assoc], pcs (by simp only [List.all_cons, pcV ok hk, pcK ok hk, hp]; rfl), by simp, .one _ _ _ rfl h⟩
theorem badN2 {n : Str} (h : badNum n = true) (hp : pc n = true) : BadW (ts e.1 ++ "/" ++ e.2.1 ++ "/" ++ n) := ⟨[ts e.1, e.2.1, n], by simp, by simp only [PyProof.Rows.join_cons_cons, PyProof.Rows.join_one, Str.append_assoc], pcs (by simp only [List.all_cons, pcM ok hk, pcK ok hk, hp]; rfl), by simp, .two e.1 _ _ rfl ok.m h⟩
theorem badK {o : Str} (h : okKey o = false) (hp : pc o = true) : BadW (ts e.1 ++ "/" ++ o ++ "/" ++ ts e.2.2) := ⟨[ts e.1, o, ts e.2.2], by simp, by simp only [PyProof.Rows.join_cons_cons, PyProof.Rows.join_one, Str.append_assoc], pcs (by simp only [List.all_cons, pcM ok hk, pcV ok hk, hp]; rfl), by simp, .key _ _ _ rfl h⟩
theorem okKey_no {k : Str} {c : Nat} (hc : c ∈ k.cps.toList) (h : c ∉ ABc) : okKey k = false := by
  unfold okKey
  rw [Bool.and_eq_false_iff]
  right
  rw [List.all_eq_false]
  exact ⟨c, hc, by rw [decide_eq_false h]; exact Bool.false_ne_true⟩
/-- a key with a sign of no key put in -/
theorem badO {k1 k2 : Str} {c : Nat} (e1 : k1.cps.toList ++ k2.cps.toList = e.2.1.cps.toList) (hc : c < 128) (hn : c ∉ ABc) : BadB (ts e.1 ++ "/" ++ (k1 ++ (⟨#[c]⟩ : Str) ++ k2) ++ "/" ++ ts e.2.2) := by
  have h8 : k1.length + k2.length ≤ 8 := by
    have := congrArg List.length e1
    rw [List.length_append, Array.length_toList, Array.length_toList, Array.length_toList] at this
    have h := ok.k.1
    show k1.cps.size + k2.cps.size ≤ 8
    omega
  have p1 : pc k1 = true := pc_of (fun c hc => sign_lt c (hk.2 c (by rw [← e1]; exact List.mem_append_left _ hc))) (by omega)
  have p2 : pc k2 = true := pc_of (fun c hc => sign_lt c (hk.2 c (by rw [← e1]; exact List.mem_append_right _ hc))) (by omega)
  by_cases h47 : c = 47
  · subst h47
    refine BadW.b ⟨[ts e.1, k1, k2, ts e.2.2], by simp, ?_, pcs (by simp only [List.all_cons, pcV ok hk, pcM ok hk, p1, p2]; rfl), by simp, .many (by simp)⟩
    rw [← slash_is]
    simp only [PyProof.Rows.join_cons_cons, PyProof.Rows.join_one, Str.append_assoc]
  by_cases h32 : c = 32
  · subst h32
    refine ⟨ts e.1 ++ "/" ++ k1, [k2 ++ "/" ++ ts e.2.2], ?_, ⟨[ts e.1, k1], by simp, by simp only [PyProof.Rows.join_cons_cons, PyProof.Rows.join_one], pcs (by simp [pcM ok hk, p1]), by simp, .many (by simp)⟩, fun x hx => ?_, by simp, ?_⟩
    · rw [← blank_is]
      simp only [PyProof.Rows.join_cons_cons, PyProof.Rows.join_one, Str.append_assoc]
    · rw [List.mem_singleton.mp hx]
      intro hc
      rw [slash_is] at hc
      simp only [Str.cps_append, Array.toList_append, List.mem_append] at hc
      rcases hc with (hc | hc) | hc
      · exact (pc_mem p2 _ hc).2.1 rfl
      · simp at hc
      · exact (pc_mem (pcV ok hk) _ hc).2.1 rfl
    · have a1 := pc_len (pcM ok hk)
      have a2 := pc_len (pcV ok hk)
      have a3 : (("/" : String) : Str).length = 1 := by decide
      have a4 : (⟨#[32]⟩ : Str).length = 1 := rfl
      simp only [Str.length_append]
      omega
  · have h1 : (⟨#[c]⟩ : Str).length = 1 := rfl
    refine BadW.b (badK ok hk (okKey_no ok hk (c := c) ?_ hn) (pc_app (pc_app p1 (pc_of (fun d hd => ?_) (by rw [h1]; decide)) (by rw [h1]; omega)) p2 (by rw [Str.length_append, h1]; omega)))
    · simp [Str.cps_append]
    · have : d = c := by simpa using hd
      omega
end
/-! ### texts -/
theorem ne_of_len {t : Str} (h : 0 < t.length) : t ≠ "" := fun e => by
  rw [e] at h
  exact absurd h (by decide)
theorem word_pos (e : En) : 0 < (word e).length := by
  unfold word
  have a3 : (("/" : String) : Str).length = 1 := by decide
  simp only [Str.length_append]
  omega
section
variable {es : List En} (h0 : es ≠ []) (h3 : es.length ≤ 3) (ok : ∀ e ∈ es, EnOk e ∧ KeyIs e.2.1)
include h0 h3 ok
theorem wl {e : En} (he : e ∈ es) : (word e).length ≤ 92 := word_len (ok e he).1
theorem wsl : ∀ w ∈ es.map word, w.length ≤ 1000 := fun w hw => by
  obtain ⟨e, he, rfl⟩ := List.mem_map.mp hw
  exact Nat.le_trans (wl h0 h3 ok he) (by decide)
theorem wsf : ∀ w ∈ es.map word, 32 ∉ w.cps.toList := fun w hw => by
  obtain ⟨e, he, rfl⟩ := List.mem_map.mp hw
  exact word_free (ok e he).2
theorem txt_len : (Str.join " " (es.map word)).length ≤ 300 := by
  have := join_lenle " " (n := 92) (by decide) (ps := es.map word) fun p hp => by
    obtain ⟨e, he, rfl⟩ := List.mem_map.mp hp
    exact wl h0 h3 ok he
  rw [List.length_map] at this
  have : es.length * (92 + 1) ≤ 3 * (92 + 1) := Nat.mul_le_mul_right _ h3
  omega
theorem txt_pos : 0 < (Str.join " " (es.map word)).length := by
  cases es with
  | nil => exact absurd rfl h0
  | cons e r =>
    have := join_mem_le " " ((e :: r).map word) (word e) (by simp)
    have h := word_pos e
    omega
theorem t_rep {w : Str} {i : Nat} (hi : i < es.length) (hw : BadB w) (hn : w ≠ "") : BadT (Str.join " " ((es.map word).set i w)) := by
  obtain ⟨b, r, e, hb, hr, hl, hwl⟩ := hw
  have e1 : (es.map word).set i w = (es.take i).map word ++ w :: (es.drop (i + 1)).map word := by
    rw [List.set_eq_take_append_cons_drop, if_pos (by rw [List.length_map]; exact hi), List.map_take, List.map_drop]
  have hwp : 0 < w.length := by
    rcases Nat.eq_zero_or_pos w.length with z | z
    · exact absurd (Str.ext' (show w.cps = _ from by have : w.cps.size = 0 := z; rw [Array.size_eq_zero_iff.mp this]; rfl)) hn
    · exact z
  have hl1 := join_mem_le " " ((es.map word).set i w) w (List.mem_of_getElem? (i := i) (by rw [List.getElem?_set_self (by rw [List.length_map]; exact hi)]))
  have hl2 := join_lenle " " (n := 1000) (by decide) (ps := (es.map word).set i w) fun p hp => by
    rcases List.mem_or_eq_of_mem_set hp with z | z
    · exact wsl h0 h3 ok p z
    · rw [z]; exact hwl
  rw [List.length_set, List.length_map] at hl2
  have hl3 : es.length * (1000 + 1) ≤ 3 * (1000 + 1) := Nat.mul_le_mul_right _ h3
  refine ⟨es.take i, b, r ++ (es.drop (i + 1)).map word, ?_, fun e he => ok e (List.mem_of_mem_take he), hb, fun x hx => ?_, ?_, ne_of_len (by omega), by omega⟩
  · rw [e1, e, join_nest " " (by simp), List.cons_append]
  · rcases List.mem_append.mp hx with z | z
    · exact hr x z
    · exact wsf h0 h3 ok x (by
        obtain ⟨y, hy, rfl⟩ := List.mem_map.mp z
        exact List.mem_map.mpr ⟨y, List.mem_of_mem_drop hy, rfl⟩)
  · rw [List.length_append, List.length_map, List.length_take, List.length_drop]
    omega
theorem t_end : BadT (Str.join " " (es.map word) ++ " ") := by
  refine ⟨es, "", [], ?_, ok, bad0 (e := (0, "a", 0)) ⟨by decide, by decide, by decide, by decide +kernel⟩ ⟨by decide, by decide +kernel⟩, (fun _ z => nomatch z), by simp; omega, ne_of_len ?_, ?_⟩
  · rw [join_app " " (by simpa using h0) (by simp), PyProof.Rows.join_one, app_e]
  · rw [Str.length_append]; have := txt_pos h0 h3 ok; omega
  · rw [Str.length_append]; have := txt_len h0 h3 ok; have : ((" " : String) : Str).length = 1 := by decide
    omega
theorem t_front : BadT (((" " : String) : Str) ++ Str.join " " (es.map word)) := by
  refine ⟨[], "", es.map word, ?_, (fun _ z => nomatch z), bad0 (e := (0, "a", 0)) ⟨by decide, by decide, by decide, by decide +kernel⟩ ⟨by decide, by decide +kernel⟩, wsf h0 h3 ok, by simp; omega, ne_of_len ?_, ?_⟩
  · rw [List.map_nil, List.nil_append, show (("" : String) : Str) :: es.map word = [(("" : String) : Str)] ++ es.map word from rfl, join_app " " (by simp) (by simpa using h0), PyProof.Rows.join_one, e_app]
  · rw [Str.length_append]; have := txt_pos h0 h3 ok; omega
  · rw [Str.length_append]; have := txt_len h0 h3 ok; have : ((" " : String) : Str).length = 1 := by decide
    omega
theorem t_two : BadT (Str.join " " (es.map word) ++ "  " ++ Str.join " " (es.map word)) := by
  refine ⟨es, "", es.map word, ?_, ok, bad0 (e := (0, "a", 0)) ⟨by decide, by decide, by decide, by decide +kernel⟩ ⟨by decide, by decide +kernel⟩, wsf h0 h3 ok, by simp; omega, ne_of_len ?_, ?_⟩
  · have z : (("  " : String) : Str) = ((" " : String) : Str) ++ ((" " : String) : Str) := by decide +kernel
    rw [join_app " " (by simpa using h0) (by simp), show (("" : String) : Str) :: es.map word = [(("" : String) : Str)] ++ es.map word from rfl, join_app " " (by simp) (by simpa using h0), PyProof.Rows.join_one, e_app, z]
    simp only [Str.append_assoc]
  · rw [Str.length_append]; have := txt_pos h0 h3 ok; omega
  · rw [Str.length_append, Str.length_append]; have := txt_len h0 h3 ok; have : (("  " : String) : Str).length = 2 := by decide
    omega
theorem lastI : ∃ is l, es = is ++ [l] := ⟨es.dropLast, es.getLast h0, (List.dropLast_concat_getLast h0).symm⟩
theorem firstI : ∃ f r, es = f :: r := by
  cases es with
  | nil => exact absurd rfl h0
  | cons f r => exact ⟨f, r, rfl⟩
/-- with a sign between -/
theorem t_mid {m : Str} (hm : pc m = true) (h1 : m.length = 1) : BadT (Str.join " " (es.map word) ++ m ++ Str.join " " (es.map word)) := by
  obtain ⟨is, l, el⟩ := lastI h0 h3 ok
  obtain ⟨f, r, ef⟩ := firstI h0 h3 ok
  have okl := ok l (by rw [el]; simp)
  have okf := ok f (by rw [ef]; simp)
  refine ⟨is, word l ++ m ++ word f, r.map word, ?_, fun e he => ok e (by rw [el]; simp [he]), ⟨[ts l.1, l.2.1, ts l.2.2 ++ m ++ ts f.1, f.2.1, ts f.2.2], by simp, ?_, pcs ?_, by simp, .many (by simp)⟩, fun x hx => wsf h0 h3 ok x (by rw [ef]; simp only [List.map_cons]; exact List.mem_cons_of_mem _ hx), ?_, ne_of_len ?_, ?_⟩
  · have e1 : es.map word = is.map word ++ [word l] := by rw [el]; simp
    have e2 : es.map word = word f :: r.map word := by rw [ef]; simp
    rw [← join_glue, ← e1, ← e2]
  · rw [word_join, word_join]
    exact join_glue "/" m (ts l.2.2) (ts f.1) [ts l.1, l.2.1] [f.2.1, ts f.2.2]
  · have a1 := pc_len (pcV okl.1 okl.2)
    have b1 : (ts l.2.2).length ≤ 41 := ts_len (le40 okl.1.v)
    have b2 : (ts f.1).length ≤ 41 := ts_len (le40 okf.1.m)
    have hp : pc (ts l.2.2 ++ m ++ ts f.1) = true := pc_app (pc_app (pcV okl.1 okl.2) hm (by omega)) (pcM okf.1 okf.2) (by rw [Str.length_append]; omega)
    simp only [List.all_cons, pcM okl.1 okl.2, pcK okl.1 okl.2, hp, pcK okf.1 okf.2, pcV okf.1 okf.2]
    rfl
  · have := congrArg List.length el
    have := congrArg List.length ef
    simp only [List.length_append, List.length_cons, List.length_nil, List.length_map] at *
    omega
  · rw [Str.length_append]; have := txt_pos h0 h3 ok; omega
  · rw [Str.length_append, Str.length_append]; have := txt_len h0 h3 ok
    omega
theorem t_line : BadT (Str.join " " (es.map word) ++ "\n") := by
  obtain ⟨is, l, el⟩ := lastI h0 h3 ok
  have okl := ok l (by rw [el]; simp)
  have hp : pc (ts l.2.2 ++ "\n") = true := pc_app (pcV okl.1 okl.2) (by decide +kernel) (by have : (ts l.2.2).length ≤ 41 := ts_len (le40 okl.1.v); have : (("\n" : String) : Str).length = 1 := by decide
                                                                                             omega)
  refine ⟨is, word l ++ "\n", [], ?_, fun e he => ok e (by rw [el]; simp [he]), ⟨[ts l.1, l.2.1, ts l.2.2 ++ "\n"], by simp, ?_, pcs ?_, by simp, .two l.1 _ _ rfl okl.1.m (bad_sign (c := 10) ?_ (by decide) (by decide +kernel))⟩, (fun _ z => nomatch z), ?_, ne_of_len ?_, ?_⟩
  · have e1 : es.map word = is.map word ++ [word l] := by rw [el]; simp
    rw [e1, join_tail]
  · rw [word_join]
    exact join_tail "/" "\n" (ts l.2.2) [ts l.1, l.2.1]
  · simp only [List.all_cons, pcM okl.1 okl.2, pcK okl.1 okl.2, hp]
    rfl
  · rw [Str.cps_append, Array.toList_append]
    exact List.mem_append_right _ (by decide)
  · have := congrArg List.length el
    simp only [List.length_append, List.length_cons, List.length_nil] at *
    omega
  · rw [Str.length_append]; have := txt_pos h0 h3 ok; omega
  · rw [Str.length_append]; have := txt_len h0 h3 ok; have : (("\n" : String) : Str).length = 1 := by decide
    omega
theorem t_box : BadT ((("[" : String) : Str) ++ Str.join " " (es.map word) ++ "]") := by
  obtain ⟨f, r, ef⟩ := firstI h0 h3 ok
  have okf := ok f (by rw [ef]; simp)
  have b1 : (ts f.1).length ≤ 41 := ts_len (le40 okf.1.m)
  have b2 : (ts f.2.2).length ≤ 41 := ts_len (le40 okf.1.v)
  have l1 : (("[" : String) : Str).length = 1 := by decide
  have l2 : (("]" : String) : Str).length = 1 := by decide
  have hp : pc ((("[" : String) : Str) ++ ts f.1) = true := pc_app (by decide +kernel) (pcM okf.1 okf.2) (by omega)
  have hq : pc (ts f.2.2 ++ "]") = true := pc_app (pcV okf.1 okf.2) (by decide +kernel) (by omega)
  have hb : badNum ((("[" : String) : Str) ++ ts f.1) = true := bad_sign (c := 91) (by rw [Str.cps_append, Array.toList_append]; exact List.mem_append_left _ (by decide)) (by decide) (by decide +kernel)
  have hlen : 0 < ((("[" : String) : Str) ++ Str.join " " (es.map word) ++ "]").length ∧ ((("[" : String) : Str) ++ Str.join " " (es.map word) ++ "]").length ≤ 6000 := by
    rw [Str.length_append, Str.length_append]; have := txt_len h0 h3 ok
    omega
  cases r with
  | nil =>
    subst ef
    refine ⟨[], (("[" : String) : Str) ++ word f ++ "]", [], rfl, (fun _ z => nomatch z), ⟨[(("[" : String) : Str) ++ ts f.1, f.2.1, ts f.2.2 ++ "]"], by simp, ?_, pcs ?_, by simp, .one _ _ _ rfl hb⟩, (fun _ z => nomatch z), by simp, ne_of_len hlen.1, hlen.2⟩
    · rw [word_join, join_head]
      exact join_tail "/" "]" (ts f.2.2) [(("[" : String) : Str) ++ ts f.1, f.2.1]
    · simp only [List.all_cons, hp, pcK okf.1 okf.2, hq]
      rfl
  | cons g r =>
    obtain ⟨is, l, el⟩ := lastI (es := g :: r) (by simp) (by rw [ef] at h3; simp at h3 ⊢; omega) (fun e he => ok e (by rw [ef]; exact List.mem_cons_of_mem _ he))
    have okl := ok l (by rw [ef, el]; simp)
    have hm : es.map word = word f :: (is.map word ++ [word l]) := by rw [ef, el]; simp
    refine ⟨[], (("[" : String) : Str) ++ word f, is.map word ++ [word l ++ "]"], ?_, (fun _ z => nomatch z), ⟨[(("[" : String) : Str) ++ ts f.1, f.2.1, ts f.2.2], by simp, ?_, pcs ?_, by simp, .one _ _ _ rfl hb⟩, fun x hx => ?_, ?_, ne_of_len hlen.1, hlen.2⟩
    · rw [hm, join_head]
      exact join_tail " " "]" (word l) (((("[" : String) : Str) ++ word f) :: is.map word)
    · rw [word_join, join_head]
    · simp only [List.all_cons, hp, pcK okf.1 okf.2, pcV okf.1 okf.2]
      rfl
    · rcases List.mem_append.mp hx with z | z
      · exact wsf h0 h3 ok x (by rw [hm]; exact List.mem_cons_of_mem _ (List.mem_append_left _ z))
      · rw [List.mem_singleton.mp z]
        intro hc
        rw [Str.cps_append, Array.toList_append] at hc
        rcases List.mem_append.mp hc with hc | hc
        · exact word_free okl.2 hc
        · revert hc; decide
    · have := congrArg List.length el
      have := congrArg List.length ef
      simp only [List.length_append, List.length_cons, List.length_nil, List.length_map] at *
      omega
end
end Ent
set_option Elab.async false
set_option linter.all false
set_option maxRecDepth 100000
/-! repr of a list whose things are data or flat dicts, over the hand layer. -/
namespace L2
open PySem PySem.Spec PyProof.Rows
/-- a thing that is no object, as data -/
inductive Flat : Value → PyData → Prop
  | none : Flat .none .none
  | bool (b : Bool) : Flat (.bool b) (.bool b)
  | int (i : Int) (t : Tok) : Flat (.int i t) (.int i)
  | str (x : Str) (t : Tok) : Flat (.str x t) (.str x)
/-- a dict at a whose keys and values are no objects -/
def LitP (a : Addr) (kvs : List (PyData × PyData)) (h : Heap) : Prop :=
  (a == sysModules) = false ∧ ∃ o es n, h.get? a = some o ∧ o.cls = .type "dict" ∧ o.data = .dict es n ∧ Paired Flat (es.toList.map (·.key)) (kvs.map (·.1)) ∧ Paired Flat (es.toList.map (·.val)) (kvs.map (·.2))
def LitO (a : Addr) (kvs : List (PyData × PyData)) : HO := .ext (LitP a kvs)
section
variable {X : Cx} {pins : List (Addr × Obj)} {σ : St} {H : Hp} {s : Shared}
end
section
variable {X : Cx}
end
end L2
set_option Elab.async false
set_option linter.all false
set_option maxRecDepth 100000
/-! isinstance of None, texts and dicts, too, over the hand layer. -/
namespace L2
open PySem PySem.Spec PyProof.Rows
inductive TyW (H : Hp) : V → Value → Prop
  | s {x : V} {t : Value} (h : TyS H x t) : TyW H x t
  | non : TyW H .non (.type "NoneType")
  | str (x : Str) : TyW H (.str x) (.type "str")
  | dK {a : Addr} {kvs : List (Key × V)} (h : H a = some (.dK kvs)) : TyW H (.ref a) (.type "dict")
  | lit {a : Addr} {kvs : List (PyData × PyData)} (h : H a = some (LitO a kvs)) : TyW H (.ref a) (.type "dict")
section
variable {X : Cx}
theorem tyw_kit {pins : List (Addr × Obj)} {σ : St} {H : Hp} {s : Shared} {x : V} {u t : Value} (I : Inv X pins σ H s) (rx : RelV x u) (ty : TyW H x t) : ∃ Hx : Heap → Prop, PySem.W.KitX X.K u t Hx ∧ Hx s.heap ∧ u ≠ .builtin "__main__.__loader__#opaque" := by
  cases ty with
  | s h => exact ty_kit I rx h
  | non => cases (show u = Value.none from rx); exact ⟨_, PySem.W.kitx_none, True.intro, fun z => nomatch z⟩
  | str y => obtain ⟨t, q⟩ := (show ∃ t, u = Value.str y t from rx); cases q; exact ⟨_, PySem.W.kitx_str, True.intro, fun z => nomatch z⟩
  | @dK a kvs h =>
    cases (show u = Value.ref a from rx)
    obtain ⟨_, _, _, _, o, _, _, e, c, _⟩ := (show ObjOk X.prog X.w H s.heap a (.dK kvs) from I.hok a _ h)
    exact ⟨_, PySem.W.kitx_dict, ⟨o, e, c.1⟩, fun z => nomatch z⟩
  | @lit a kvs h =>
    cases (show u = Value.ref a from rx)
    obtain ⟨⟨_, o, _, _, e, c, _⟩, _⟩ := (show ObjOk X.prog X.w H s.heap a (LitO a kvs) from I.hok a _ h)
    exact ⟨_, PySem.W.kitx_dict, ⟨o, e, c⟩, fun z => nomatch z⟩
inductive cIsW (K : PySem.W.Frag) (xs : List V) (H : Hp) (Q : VK) : Prop
  | mk (x : V) (t : Value) (T : String) (b : Bool) (e : xs = [x, .ty T]) (h : TyW H x t) (k : PySem.W.kitOne K t (.type T) = some b) (q : Q (.bl b) H) : cIsW K xs H Q
theorem call_isiW (K : PySem.W.Frag) (ek : X.K = K := by rfl) : CallR X (.builtin "isinstance") (cIsW K) := by
  subst ek
  intro pins s σ H xs us Q I r h
  obtain ⟨x, t, T, b, rfl, ty, e, q⟩ := h
  obtain ⟨u, w', rfl, rx, rt⟩ := vals2 r
  cases rt
  obtain ⟨Hx, Z, p, hx⟩ := tyw_kit I rx ty
  exact PySem.W.kia_one Z I.kIn p e hx fun tk => ⟨.bl b, H, I.tok tk, rfl, q⟩
end
end L2
set_option Elab.async false
set_option linter.all false
set_option maxRecDepth 100000
/-! list comprehensions whose elements may raise -/
namespace L2
open PySem PySem.Spec PyProof.Rows
abbrev Cx.exC (X : Cx) (xe : Value → Shared → Prop) : Cx := { X with xe := xe }
section
variable {X : Cx} {pins : List (Addr × Obj)} {σ : St} {H : Hp} {s : Shared} {xe : Value → Shared → Prop}
theorem Inv.exC (I : Inv X pins σ H s) (xe : Value → Shared → Prop) : Inv (X.exC xe) pins σ H s :=
  ⟨⟨I.ok.mod, I.ok.kind, I.ok.glob, I.ok.blt, I.ok.above, I.ok.inj, I.ok.has, I.ok.cab, I.ok.hd, I.ok.frames, I.ok.stk, I.ok.exf, I.ok.bs, I.ok.bsz, I.ok.noex, I.ok.exfs, I.ok.funs, I.ok.frf⟩, I.os, I.bare, I.base, I.loc, I.cell, I.free, I.freeC, I.pin, I.hok, I.len⟩
theorem Inv.unexC (I : Inv (X.exC xe) pins σ H s) : Inv X pins σ H s :=
  ⟨⟨I.ok.mod, I.ok.kind, I.ok.glob, I.ok.blt, I.ok.above, I.ok.inj, I.ok.has, I.ok.cab, I.ok.hd, I.ok.frames, I.ok.stk, I.ok.exf, I.ok.bs, I.ok.bsz, I.ok.noex, I.ok.exfs, I.ok.funs, I.ok.frf⟩, I.os, I.bare, I.base, I.loc, I.cell, I.free, I.freeC, I.pin, I.hok, I.len⟩
end
theorem but_ex {h h' : Heap} {C : Addr} (ho : ∃ o, h.get? C = some o) : ∃ g, Heap.SameBut C h g ∧ g.get? C = h'.get? C := by
  obtain ⟨o, ho⟩ := ho
  cases q : h'.get? C with
  | some u =>
    exact ⟨h.update C fun _ => u, Heap.SameBut.update .., Heap.get?_update_self (fun _ => u) ho (Heap.get?_some_iff.mp q).2⟩
  | none =>
    refine ⟨h.update C fun o => { o with data := .freed }, Heap.SameBut.update .., ?_⟩
    cases z : (h.update C fun o => { o with data := .freed }).get? C with
    | none => rfl
    | some u =>
      obtain ⟨z1, z2⟩ := Heap.get?_some_iff.mp z
      obtain ⟨e1, _⟩ := Heap.get?_some_iff.mp ho
      have e3 : (h.update C fun o => { o with data := .freed }).objs[C]? = some { o with data := .freed } := by
        cases h; simp only [Heap.update, Array.getElem?_modify, if_true]; simp only at e1; rw [e1]; rfl
      rw [e3] at z1; cases z1; cases z2
section
variable {X : Cx} {pins : List (Addr × Obj)} {σ : St} {H H' : Hp} {s s₁ : Shared} {cls : Value} {a C : Addr} {new : Bool} {m : Str → Option Value} {cenv : Env} {E : XK} {use : Option (Value → Sem Unit)} {QQ : Value → Shared → Prop} {acc : Value}
/-- an error leaves a comprehension's block: its names go, it is passed on -/
theorem comp_err (W : Wish X E) (I : Inv X pins σ H s) (hst : X.stack = X.env :: X.outer) (hf : X.env.frame = some X.env.locals) (x : EX X.prog X.w X.stack H s new cls a H' s₁) (q : E cls none H') (hC : X.s₀.heap.objs.size ≤ C) (hn : H C = none) (hL : C ≠ X.env.locals) (hc : ∀ y c, X.env.cells.lookup y = some c → c ≠ C) (hp : ∀ p ∈ X.pn ++ pins, p.1 ≠ C)
    (hCf : C ∉ frs X.stack) (hN : s.heap.Ns C m) (hcf : cenv.frame = X.env.frame) : notedBy (model X.prog X.w) X.A cenv (fun e s' => compPost (model X.prog X.w) X.A X.xe use QQ acc C (.error e) s') (.ref a) s₁ := by
  refine note_fl I hst hf I.ok.frames hcf x fun h₃ x3 ⟨vs, oe, T, oT, ts, f, he, hd, h1, ht, hT, hdT, h3, hnT, hgT⟩ => ?_
  obtain ⟨oC, es, ep, hoC, rN⟩ := id hN
  have hC3 : h₃.get? C = some oC := x3.un.keep C oC hoC hn hCf (by simp)
  have aC : a ≠ C := fun z => by have := x3.rc.base.2; rw [z, hoC] at this; cases this
  have TC : T ≠ C := fun z => by rw [z, hoC] at hgT; cases hgT
  have key : ∃ m, h₃.Ns C m ∧ ∀ h', Heap.SameBut C h₃ h' → ∀ cenv : Env, cenv.locals = C → wpAny (model X.prog X.w) X.A (PySem.passOn "comprehension.variables-let-go" (.ref a) cenv : Sem Value) (fun _ _ => False) X.xe { s₁ with heap := h' } := by
    refine ⟨m, ⟨oC, es, ep, hC3, rN⟩, fun h' hs' cenv' _ => ?_⟩
    obtain ⟨g, hg, hgC⟩ := but_ex (h := s.heap) (h' := h') (C := C) ⟨oC, hoC⟩
    have Ig : Inv X pins σ H { s with heap := g } := I.butC hg hC hn hL hc hp
    have nC : H' C = none := x3.un.free C oC hoC hn (by simp)
    have xg : EX X.prog X.w X.stack H { s with heap := g } true cls a H' { s₁ with heap := h' } := by
      refine ⟨x3.os, x3.bare, ⟨fun b o e n hb hx => ?_, fun b o e n hb hx => ?_, fun b o e n hx => ?_, fun b o e hx => ?_, x3.un.tups, x3.un.frzs, x3.un.tbls⟩, fun b ob e => ?_, ?_⟩
      · by_cases hbC : b = C
        · subst hbC; exact hgC.symm.trans e
        · exact (hs'.2 b hbC).trans (x3.un.keep b o ((hg.2 b hbC).symm.trans e) n hb hx)
      · have hbC : b ≠ C := fun z => hCf (z ▸ hb)
        obtain ⟨sl, e1⟩ := x3.un.slot b o ((hg.2 b hbC).symm.trans e) n hb hx
        exact ⟨sl, (hs'.2 b hbC).trans e1⟩
      · by_cases hbC : b = C
        · subst hbC; exact nC
        · exact x3.un.free b o ((hg.2 b hbC).symm.trans e) n hx
      · by_cases hbC : b = C
        · subst hbC; exact ⟨o, hgC.symm.trans e⟩
        · obtain ⟨o', e1⟩ := x3.un.there b o ((hg.2 b hbC).symm.trans e) hx
          exact ⟨o', (hs'.2 b hbC).trans e1⟩
      · refine (x3.hok b ob e).stay (fun c u hc' z => (hs'.2 c fun zz => ?_).trans z) (fun _ z => z) fun _ _ z => z
        rcases hc' with rfl | hc'
        · rw [zz, nC] at e; cases e
        · rw [zz, nC] at hc'; cases hc'
      · cases x3.rc with
        | new oe' vs' he' hc' hd' hdi hn' hg' h1' => rw [he] at he'; cases he'; rw [hd] at hd'; cases hd'; rw [h1] at h1'; cases h1'
        | fl oe' vs' he' hc' hd' hdi hn' hg' T' oT' ts' h1' ht' hT' hdT' f' h3' hnT' hgT' =>
          have TC' : T' ≠ C := fun z => by rw [z, hoC] at hgT'; cases hgT'
          exact .fl oe' vs' ((hs'.2 a aC).trans he') hc' hd' hdi hn' ((hg.2 a aC).trans hg') T' oT' ts' h1' ht' ((hs'.2 T' TC').trans hT') hdT' f' h3' hnT' ((hg.2 T' TC').trans hgT')
    unfold PySem.passOn
    refine wpAny_bind (wpAny_field ((hs'.2 a aC).trans he) hd h1 ?_)
    rw [if_neg (show ¬ ((Value.ref T == Value.none) = true) by simp)]
    unfold setFlight
    refine wpAny_bind (wpAny_bind (wpAny_field ((hs'.2 a aC).trans he) hd h1 ?_))
    rw [if_pos (show (Value.ref T != Value.none) = true by simp)]
    refine wpAny_setField ((hs'.2 T TC).trans hT) hdT (Array.getElem?_eq_some_iff.mp h3).1 (wpAny_throw ?_)
    exact W.go pins σ H _ _ cls a H' _ Ig (xg.flight (fl := cenv'.frame) ((hs'.2 a aC).trans he) hd h1 ht ((hs'.2 T TC).trans hT) hdT h3 hnT ((hg.2 T TC).trans hgT)) q
  cases use with
  | none => exact key
  | some u => exact key
end
theorem compLoop_ownX {prog : Program} {w : World} {A : Around} {R : Result → Shared → Prop} {s : Shared} {elt target iter : Expr} {ifs : List Expr} {scope : Scope} {pos : Pos} {it acc : Value} {env : Env} (I : Nat → Shared → Prop)
    (turn : ∀ n s, I n s → wpAny (model prog w) A (pyNext it) (fun r s1 => match r with
      | none => R (.ok .next) s1
      | some v => wpAny (model prog w) A (letOwnedTupleGo target it v) (fun _ s1 => wpAny (model prog w) A (assign target env v) (fun _ s2 =>
          wpAny (model prog w) A (forIn ifs true fun c r => if r = true then do let ok ← isTrue c env (eval c env); pure (ForInStep.yield ok) else pure (ForInStep.yield r)) (fun ok s3 =>
            if ok = true then wpAny (model prog w) A (eval elt env) (fun x s4 =>
              wpAny (model prog w) A (call (.builtin "list.append") [acc, x]) (fun _ s5 => ∃ m, m < n ∧ I m s5) (fun _ _ => False) s4) (notedBy (model prog w) A env fun e s' => R (.error e) s') s3
            else ∃ m, m < n ∧ I m s3) (fun _ _ => False) s2) (fun _ _ => False) s1) (fun _ _ => False) s1) (fun _ _ => False) s)
    (n : Nat) (h : I n s) :
    codeAny (model prog w) A (.compLoop (.ListComp elt [⟨target, iter, ifs, 0⟩] scope pos) 0 it acc env) R s := by
  refine codeAny_loop rfl I (fun n s hI => ?_) n h
  show wpAny _ A ((compTurn (.ListComp elt [⟨target, iter, ifs, 0⟩] scope pos) 0 it acc env).onRaise (fun x => do noteFrame x env; theTreesLotGoes x)) _ _ s
  refine wpAny_noted ?_
  rw [compTurn_list]
  refine wpAny_bind (wpAny_standAt (wpAny_bind (wpAny_mono (turn n s hI) (fun r s1 h1 => ?_) fun _ _ h' => h'.elim)))
  cases r with
  | none => exact wpAny_pure h1
  | some v =>
    refine wpAny_bind (wpAny_mono h1 (fun _ s1 h1 => ?_) fun _ _ h' => h'.elim)
    refine wpAny_bind (wpAny_mono h1 (fun _ s2 h2 => wpAny_bind (wpAny_mono h2 (fun ok s3 h3 => ?_) fun _ _ h' => h'.elim)) fun _ _ h' => h'.elim)
    cases ok with
    | false => exact wpAny_pure ⟨rfl, h3⟩
    | true =>
      exact wpAny_bind (wpAny_bind (wpAny_mono h3 (fun x s4 h4 => wpAny_bind (wpAny_mono h4 (fun _ s5 h5 => wpAny_pure (wpAny_pure ⟨rfl, h5⟩)) fun _ _ h' => h'.elim)) fun _ _ h' => h'))
section
variable {X : Cx} {xs Ns : List Str} {sc : Scope} {elt iter tg : Expr} {ifs : List Expr} {pos : Pos} {wi : TI} {g : TG} {tc : TT} {te : TE}
theorem ln_blockX {pins : List (Addr × Obj)} {σ : St} {H : Hp} {s : Shared} {it : Addr} {fp : List Addr} {tn : Nat → Heap → Prop} {J : It} {Fin : Addr → Hp → Prop} {use : Option (Value → Sem Unit)} {QQ : Value → Shared → Prop} {E : XK}
    (W : Wish X E) (hst : X.stack = X.env :: X.outer) (hff : X.env.frame = some X.env.locals) (hc : X.calm = true) (S : LnScope X xs Ns sc) (I : Inv X pins σ H s) (T : Turn X.prog X.w X.K tg J fp it tn) (st : tn 0 s.heap) (hf : ∀ b ∈ fp, FpOk X pins H b) (hg : ∀ C s0 H0, PG (cxLN X xs Ns sc C fp s0 H0) tg g)
    (ht : ∀ C s0 H0, PTs (cxLN X xs Ns sc C fp s0 H0) ifs tc) (he : ∀ C s0 H0 xe, Wish ((cxLN X xs Ns sc C fp s0 H0).exC xe) E → PE ((cxLN X xs Ns sc C fp s0 H0).exC xe) elt te) (q : ∀ D, H D = none → lcGoN xs.length g tc te σ J D (Fin D) H)
    (hR : ∀ D C H2 s2 m, s.heap.objs.size ≤ C → Inv X pins σ H2 s2 → H2 C = none → s2.heap.Ns C m → Fin D H2 → compPost (model X.prog X.w) X.A X.xe use QQ (.ref D) C (.ok .next) s2) :
    wpAny (model X.prog X.w) X.A (newList []) (fun acc s3 => wpAny (model X.prog X.w) X.A (newFunctionEnv sc X.env.globals (clOf sc X.env.cells) [] X.env.qual none .none (some X.env)) (fun cenv s4 =>
      codeAny (model X.prog X.w) X.A (.compStart (.ListComp elt [⟨tg, iter, ifs, 0⟩] sc pos) 0 (.ref it) acc { cenv with scope := relabel sc X.env }) (compPost (model X.prog X.w) X.A X.xe use QQ acc cenv.locals) s4) X.xe s3) X.xe s := by
  have hlt : ∀ b ∈ fp, b < s.heap.objs.size := fun b hb => by
    obtain ⟨o, e, _⟩ := T.obj 0 _ st b hb
    exact Heap.lt_size e
  refine wpAny_newObj_type (wpAny_newFunctionEnv S.nocell (by intro y hy; simp at hy) (fun h1 hns1 hsb1 => ?_) S.kind)
  dsimp only at hns1 hsb1 ⊢
  generalize hH2 : s.heap.push { cls := .type "list", dict := none, data := .seq ([] : List Value).toArray } = G at hns1 hsb1 ⊢
  have hC : G.objs.size = s.heap.objs.size + 1 := by rw [← hH2, Heap.size_push]
  have hCle : s.heap.objs.size ≤ G.objs.size := by rw [hC]; exact Nat.le_succ _
  have hDC : G.objs.size ≠ s.heap.objs.size := by rw [hC]; exact Nat.succ_ne_self _
  have old : ∀ b o, s.heap.get? b = some o → h1.get? b = some o := fun b o e => hsb1.extBut b o (Nat.ne_of_lt (Nat.lt_of_lt_of_le (Heap.lt_size e) hCle)) (Heap.get?_push_of_some _ (hH2 ▸ Heap.get?_push_of_some _ e))
  have hacc : h1.get? s.heap.objs.size = some { cls := .type "list", data := .seq ([] : List Value).toArray 0 } := hsb1.extBut _ _ (Ne.symm hDC) (Heap.get?_push_of_some _ (hH2 ▸ Heap.get?_push_size _ rfl))
  have hDn : H s.heap.objs.size = none := I.hok.fresh (Nat.le_refl _)
  obtain ⟨Wv, ⟨m0, w0⟩, turn⟩ := q s.heap.objs.size hDn
  have st1 : tn 0 h1 := T.keep _ _ _ st fun b _ o e => old b o e
  have I1 := fun tk => I.startLN (tk := tk) (w := xs.map fun _ => none) S hf hlt rfl rfl hCle hDC old hns1 hacc
  have fr1 : ∀ b ∈ fp, upd H s.heap.objs.size (.lst []) b = none := fun b hb => by rw [upd_ne (Nat.ne_of_lt (hlt b hb))]; exact (hf b hb).1
  have loop : ∀ s3 : Shared, s3 = { s with heap := h1, toks := s.toks + ([] : List (Str × Value)).length } →
      codeAny (model X.prog X.w) X.A (.compLoop (.ListComp elt [⟨tg, iter, ifs, 0⟩] sc pos) 0 (.ref it) (.ref s.heap.objs.size) (compEnvC sc (clOf sc X.env.cells) G.objs.size X.env))
        (compPost (model X.prog X.w) X.A X.xe use QQ (.ref s.heap.objs.size) G.objs.size) s3 := by
    rintro s3 rfl
    have fpk : ∀ {H' : Hp}, (∀ b ∈ fp, H' b = none) → ∀ b ∈ fp, FpOk (cxLN X xs Ns sc G.objs.size fp s H) [] H' b := fun hn b hb =>
      ⟨hn b hb, Nat.ne_of_lt (Nat.lt_of_lt_of_le (hlt b hb) hCle), (I.okLN (C := G.objs.size) S hCle hf hlt).exfs b hb, .inl hb, fun y c e => (hf b hb).2.2.2.2.1 y c (clOf_sub sc X.env.cells e), fun p hp => absurd (show p ∈ ([] : List (Addr × Obj)) from hp) (by simp)⟩
    refine compLoop_ownX (fun n s' => ∃ i w ys H', w.length = xs.length ∧ Inv (cxLN X xs Ns sc G.objs.size fp s H) [] (w ++ σ) H' s' ∧ tn i s'.heap ∧ (∀ b ∈ fp, H' b = none) ∧ Wv i n ys H') ?_ m0 ⟨0, _, [], _, List.length_map _, I1 _, st1, fr1, w0⟩
    rintro n s3 ⟨i, v0, ys, H3, hv0, I3, st3, fr3, w3⟩
    obtain ⟨hD3, turn3⟩ := turn i n ys H3 w3
    rcases turn3 with ⟨stop, fin⟩ | ⟨go, step⟩
    · refine thn (T.done (cxLN X xs Ns sc G.objs.size fp s H) rfl rfl rfl hc i [] s3 _ H3 _ I3 (fpk fr3) st3 stop) fun r s4 ⟨hr, I4⟩ => ?_
      subst hr
      obtain ⟨m4, hn4, _⟩ := I4.loc
      exact hR _ _ H3 s4 m4 hCle (I.endLN I4 hf) I4.free hn4 fin
    · refine thn (T.item (cxLN X xs Ns sc G.objs.size fp s H) rfl rfl rfl hc i [] s3 _ H3 _ I3 (fpk fr3) st3 go) fun r s4 ⟨u, hr, h4⟩ => ?_
      subst hr
      refine thn h4 fun _ s5 ⟨y, H5, I5, r5, y5, st5, fr5⟩ => ?_
      have I5' := I5.pinned (fpk fr5) (T.obj _ _ st5)
      refine thn (hg G.objs.size s H _ s5 _ H5 y u _ I5' r5 (step y H5 v0 hv0 y5)) fun _ s6 ⟨σ6, H6, I6, ⟨w6, hw6, e6⟩, q6⟩ => ?_
      subst e6
      refine thn (ht G.objs.size s H _ s6 _ H6 _ I6 q6) fun ok s7 ⟨H7, I7, q7⟩ => ?_
      have again : ∀ {H8 : Hp} {s8 : Shared} {zs : List V}, Inv (cxLN X xs Ns sc G.objs.size fp s H) ([] ++ pinsAt fp s5.heap) (w6 ++ σ) H8 s8 → (∃ m', m' < n ∧ Wv (i + 1) m' zs H8) → ∃ m, m < n ∧ ∃ i w ys H', w.length = xs.length ∧ Inv (cxLN X xs Ns sc G.objs.size fp s H) [] (w ++ σ) H' s8 ∧ tn i s8.heap ∧ (∀ b ∈ fp, H' b = none) ∧ Wv i m ys H' := fun {H8 s8 zs} I8 ⟨m', hm, w8⟩ => by
        refine ⟨m', hm, i + 1, w6, zs, H8, hw6, I8.unpinned, T.keep _ _ _ st5 fun b hb o e => (I8.pin (b, o) (List.mem_append_right _ (List.mem_append_right _ (mem_pinsAt hb e)))).1, fun b hb => ?_, w8⟩
        obtain ⟨o, e, d⟩ := T.obj _ _ st5 b hb
        exact (I8.pin (b, o) (List.mem_append_right _ (List.mem_append_right _ (mem_pinsAt hb e)))).2.1
      cases ok with
      | false =>
        rw [if_neg Bool.false_ne_true] at q7 ⊢
        exact again I7 q7
      | true =>
        rw [if_pos rfl] at q7 ⊢
        refine wpAny_mono (he G.objs.size s H (notedBy (model X.prog X.w) X.A (compEnvC sc (clOf sc X.env.cells) G.objs.size X.env) fun e s' => compPost (model X.prog X.w) X.A X.xe use QQ (.ref s.heap.objs.size) G.objs.size (.error e) s') ⟨fun pl σl Hl sl new cls a H' s₁ Jl x qe => ?_⟩ _ s7 _ H7 _ (I7.exC _) q7) (fun z s8 ⟨zv, H8, I8x, r8, hD8, hz8, w8⟩ => ?_) fun _ _ y => y
        · have J := Jl.unexC
          have I9 := I.endLN J hf
          obtain ⟨m9, hn9, _⟩ := id J.loc
          refine comp_err W I9 hst hff x qe (Nat.le_trans I.sz hCle) J.free (Nat.ne_of_gt (Nat.lt_of_lt_of_le I.lt hCle)) (fun y c e => ?_) (fun p hp => ?_) (fun hm => ?_) hn9 rfl
          · obtain ⟨v, z⟩ := I.cell y c e
            exact Nat.ne_of_lt (Nat.lt_of_lt_of_le z.lt hCle)
          · exact Nat.ne_of_lt (Nat.lt_of_lt_of_le (Heap.lt_size (I.pin p hp).1) hCle)
          · obtain ⟨_, o, ho, _⟩ := I.stack.mem hm
            exact Nat.ne_of_lt (Nat.lt_of_lt_of_le (Heap.lt_size ho) hCle) rfl
        have I8 := I8x.unexC
        refine wpAny_mono (mt_append (X := cxLN X xs Ns sc G.objs.size fp s H) _ s8 _ H8 (.ref s.heap.objs.size) [zv] (.ref s.heap.objs.size) [z] (fun _ H9 => ∃ m', m' < n ∧ Wv (i + 1) m' (ys ++ [zv]) H9) I8 rfl (.cons r8 .nil) ⟨_, ys, zv, rfl, rfl, hD8, hz8, w8⟩) (fun _ s9 ⟨_, H9, I9, _, w9⟩ => ?_) fun _ _ y => y.elim
        exact again I9 w9
  exact codeAny_compStart_list (loop _ rfl) (T.self X.A 0 _ _ _ st1 (loop _ rfl))
theorem pe_lnX {E : XK} (W : Wish X E) (hc : X.calm = true) (S : LnScope X xs Ns sc) (hi : PI X tg iter wi) (hg : ∀ C fp s0 H0, PG (cxLN X xs Ns sc C fp s0 H0) tg g) (ht : ∀ C fp s0 H0, PTs (cxLN X xs Ns sc C fp s0 H0) ifs tc) (he : ∀ C fp s0 H0 xe, Wish ((cxLN X xs Ns sc C fp s0 H0).exC xe) E → PE ((cxLN X xs Ns sc C fp s0 H0).exC xe) elt te)
    (hs : ∀ v, foldedSetIterable iter X.env v = pure v := by intro _; rfl) (hst : X.stack = X.env :: X.outer := by rfl) (hff : X.env.frame = some X.env.locals := by rfl) : PE X (.ListComp elt [⟨tg, iter, ifs, 0⟩] sc pos) (tLN xs.length wi g tc te) := by
  refine ⟨?_⟩
  intro pins s σ H Q I h
  rw [eval_ListComp]
  refine wpAny_comprehension_free (use := none) rfl hs (closure_eq (S.cells I.ok)) S.kind S.names (thn (hi pins s σ H _ I h) fun v s1 h1 => thn h1 fun itv s2 h2 => ?_)
  obtain ⟨it, fp, tn, J, H2, e, I2, T, st2, f2, q2⟩ := h2
  subst e
  refine ln_blockX (use := none) (QQ := EP X pins σ Q) (Fin := fun D H3 => Q (.ref D) H3) W hst hff hc S I2 T st2 f2 (fun C s0 H0 => hg C fp s0 H0) (fun C s0 H0 => ht C fp s0 H0) (fun C s0 H0 => he C fp s0 H0) q2 ?_
  intro D C H3 s3 m hC I3 hn hN q3
  refine ⟨m, hN, fun h' hs' => ⟨.ref D, H3, I3.butC hs' (Nat.le_trans I2.sz hC) hn (Nat.ne_of_gt (Nat.lt_of_lt_of_le I2.lt hC)) (fun y c e => ?_) (fun p hp => ?_), rfl, q3⟩⟩
  · obtain ⟨v, z⟩ := I2.cell y c e
    exact Nat.ne_of_lt (Nat.lt_of_lt_of_le z.lt hC)
  · exact Nat.ne_of_lt (Nat.lt_of_lt_of_le (Heap.lt_size (I2.pin p hp).1) hC)
end
end L2
set_option Elab.async false
set_option linter.all false
set_option maxRecDepth 100000
/-! texts: x * n, x[lo:hi] -/
namespace L2
open PySem PySem.Spec PyProof.Rows
section
variable {X : Cx}
/-- x * n -/
inductive rMulS (x y : V) (H : Hp) (Q : VK) : Prop
  | mk (z : Str) (n : Int) (e1 : x = .str z) (e2 : y = .int n) (h1 : -1000000 < n) (h2 : n < 1000000) (h3 : z.length * n.toNat ≤ 100000) (q : Q (.str (Txt.mul z n)) H) : rMulS x y H Q
theorem op_mulS : OpR X (binaryOp .Mult) rMulS := by
  intro pins s σ H x y v u Q I rx ry h
  obtain ⟨z, n, rfl, rfl, h1, h2, h3, q⟩ := h
  obtain ⟨t, rfl⟩ := rx
  obtain ⟨t', rfl⟩ := ry
  refine SB.mul ⟨?_, fun a b => ?_, fun a b => ?_⟩ fun t' k => ⟨.str (Txt.mul z n), H, I.tok _, ⟨_, rfl⟩, q⟩
  · rw [Bool.or_eq_false_iff]
    exact ⟨decide_eq_false (by omega), decide_eq_false (by omega)⟩
  · have hn : 0 < n.toNat := by omega
    have : z.length ≤ 100000 := Nat.le_trans (Nat.le_mul_of_pos_right _ hn) h3
    have h4 : (9223372036854 : Int) ≤ (2 ^ 63 - 1) / n := by
      rw [Int.le_ediv_iff_mul_le (by omega)]
      have : (9223372036854 : Int) * n ≤ 9223372036854 * 1000000 := Int.mul_le_mul_of_nonneg_left (by omega) (by decide)
      omega
    omega
  · show decide _ = false
    refine decide_eq_false ?_
    have := sizeLine_eq
    omega
/-- x[lo:hi] of a text -/
inductive rSlS (x : V) (lo hi : Option Int) (H : Hp) (Q : VK) : Prop
  | mk (z : Str) (e1 : x = .str z) (h : (StrLaws.sliceText z lo hi).length ≤ 100000) (q : Q (.str (StrLaws.sliceText z lo hi)) H) : rSlS x lo hi H Q
theorem part_of {v : Value} {o : Option Int} (h : IsPart v o) : ∃ p : Option (Int × Tok), v = partValue p ∧ o = p.map (·.1) := by
  cases h with
  | none => exact ⟨none, rfl, rfl⟩
  | int i t => exact ⟨some (i, t), rfl, rfl⟩
theorem sl_str : SlR X rSlS := by
  intro pins s σ H x v vl vu lo hi sl Q I rx hs pl pu h
  obtain ⟨z, rfl, hz, q⟩ := h
  obtain ⟨t, rfl⟩ := rx
  obtain ⟨p, rfl, rfl⟩ := part_of pl
  obtain ⟨p', rfl, rfl⟩ := part_of pu
  refine ⟨"str", _, F.slot_str_getitem.lookup, typeIs_str _ _ _, ?_⟩
  refine wpAny_getItem_str_slice (l := p) (u := p') (st := none) hs rfl ?_
  unfold StrLaws.sliceText at q hz
  unfold sliceMade slicePicked
  split
  · rename_i hc
    have hc' : ((1 : Int) == 1 && (Builtin.Str.strSliceIndices (p.map (·.1)) (p'.map (·.1)) 1 z.length).length == z.length) = true := hc
    rw [if_pos hc'] at q
    exact ⟨.str z, H, I, ⟨_, rfl⟩, q⟩
  · rename_i hc
    have hc' : ¬ ((1 : Int) == 1 && (Builtin.Str.strSliceIndices (p.map (·.1)) (p'.map (·.1)) 1 z.length).length == z.length) = true := hc
    rw [if_neg hc'] at q hz
    refine ⟨?_, ⟨.str _, H, I.tok _, ⟨_, rfl⟩, q⟩⟩
    have := sizeLine_eq
    exact Nat.le_trans hz (by omega)
end
theorem slice_to {z : Str} {j : Int} (h0 : 0 ≤ j) (h1 : j ≤ z.length) : StrLaws.sliceText z none (some j) = ⟨(z.cps.toList.take j.toNat).toArray⟩ := by
  rw [StrLaws.sliceText_to ⟨h0, by rw [Array.length_toList]; exact h1⟩]
  simp
theorem slice_from {z : Str} {j : Int} (h0 : 0 ≤ j) (h1 : j ≤ z.length) : StrLaws.sliceText z (some j) none = ⟨(z.cps.toList.drop j.toNat).toArray⟩ := by
  rw [StrLaws.sliceText_from ⟨h0, by rw [Array.length_toList]; exact h1⟩]
  congr 2
  rw [List.take_of_length_le]
  rw [List.length_drop]
  omega
end L2
set_option Elab.async false
set_option linter.all false
set_option maxRecDepth 100000
/-! words and numbers read, good and bad -/
namespace L2
open PySem PySem.Spec PyProof.Rows
section
variable {X : Cx} {x : Str} {pos : Pos}
theorem pe_gs {z : Str} (h : ∃ t, X.mg x = some (.str z t)) (hg : Gl X x := by rfl) (hd : (x == ("__debug__" : Str)) = false := by decide) : PE X (.Name x pos) (tC (.str z)) := by
  obtain ⟨t, h⟩ := h
  exact pe_glob hg h ⟨t, rfl⟩ hd
end
end L2
namespace Pr
open PySem L2 PyProof.Rows Ent
theorem kit_str1 (K : PySem.W.Frag) : PySem.W.kitOne K (.type "str") (.type "str") = some true := by rfl
theorem iteC {b : Bool} {A B : Prop} (hb : b = true) (h : A) : if b = true then A else B := by rw [if_pos hb]; exact h
theorem iteD {b : Bool} {A B : Prop} (hb : b = false) (h : B) : if b = true then A else B := by rw [if_neg (by rw [hb]; exact Bool.false_ne_true)]; exact h
theorem one_line : 1 ≤ sizeLine := by decide
abbrev AB : Str := (("abcdefghijklmnopqrstuvwxyz0123456789" : String) : Str)
section
variable {P : Program} {w : World} {K : PySem.W.Frag} {mg : Str → Option Value} {base : Heap} {C : Addr}
inductive sp_is_word (vs : List V) (H : Hp) (Q : VK) (E : XK) : Prop
  | mk (k : Str) (e : vs = [.str k, .str AB, .int 8]) (hl : k.length ≤ 100) (ha : ∀ c ∈ k.cps.toList, c < 128) (q : ∀ H', Same H H' → Q (.bl (okKey k)) H') : sp_is_word vs H Q E
theorem sc_is_word : FnScope ["value", "signs", "most"] ["value", "signs", "most"] (defScope s_is_word) := ⟨rfl, rfl, rfl, by decide +kernel, rfl, by decide +kernel, by decide +kernel⟩
set_option maxHeartbeats 2000000 in
theorem is_word (T : Txt K mg C) : Can P w K mg base 1 "is_word" ["value", "signs", "most"] sp_is_word := by
  refine fn_can T.f_is_word sc_is_word (fun vs H Q E h => ?_) (fun f cdv A outer s H vs Q E hr h => ?_)
  · obtain ⟨k, rfl, _⟩ := h
    rfl
  · obtain ⟨k, rfl, hl, ha, q⟩ := h
    refine ⟨_, pss_one (ps_ret (pe_and (pe_b (call_isiW K) T.b_isinstance boot_isinstance (pa2 (pv 0) (pe_ty rfl T.b_str boot_str))) (pe_and (pe_chain op_le op_le pe_int (pe_b call_len_str T.b_len boot_len (pa1 (pv 0))) (pv 2)) (pe_one (pe_b (call_all_seqK K rfl) T.b_all boot_all (pa1 (pe_lc rfl (lcS sc_is_word) (pi_str (pv 0)) (fun _ _ _ _ => pts_nil) (fun _ _ _ _ => pe_cmpR op_in_str (pv 0) (pv 2) rfl)))))))), ?_⟩
    have hal : k.cps.all (· < 128) = true := by
      rw [← Array.all_toList, List.all_eq_true]
      exact fun c hc => decide_eq_true (ha c hc)
    refine ⟨_, rfl, .mk _ _ _ _ rfl (.str k) (kit_str1 _) ⟨_, rfl, iteT ?_⟩⟩
    refine ⟨_, rfl, _, rfl, line1000 (by omega), _, _, rfl, rfl, _, rfl, ?_⟩
    have q' : ∀ H', Same H H' → ∀ b, okKey k = b → Q (.bl b) H' := fun H' s b e => e ▸ q H' s
    by_cases h1 : (1 : Int) ≤ (k.length : Int)
    · rw [decide_eq_true h1]
      refine iteT ⟨_, rfl, _, _, rfl, rfl, _, rfl, ?_⟩
      by_cases h2 : (k.length : Int) ≤ 8
      · rw [decide_eq_true h2]
        refine iteT ⟨_, rfl, k, rfl, hal, fun D hD => ?_⟩
        refine lc_go (n := k.cps.size) (fun i ys H1 => H1 D = some (.lst ys) ∧ Same H H1 ∧ ys = ((k.cps.toList.take i).map fun c => decide (c ∈ ABc)).map V.bl) ⟨upd_same, Same.upd hD, rfl⟩ (fun i ys H1 h => h.1) (fun ys H1 h => ⟨Nat.le_refl _, ?_⟩) fun i ys H1 hi h => ⟨hi, fun x H' y => ?_⟩
        · obtain ⟨h1', h2', rfl⟩ := h
          refine ⟨D, _, rfl, .of h1', ?_⟩
          refine q' _ h2' _ ?_
          unfold okKey
          rw [decide_eq_true (by omega), decide_eq_true (by omega), Bool.true_and, List.take_of_length_le (by rw [Array.length_toList]; exact Nat.le_refl _), List.all_map]
          rfl
        · obtain ⟨h1', h2', rfl⟩ := h
          obtain ⟨e1, c, hc, e2⟩ := y
          subst e1 e2
          refine yesI ⟨_, rfl, _, rfl, _, _, rfl, rfl, ?_⟩
          have hf : (!(Builtin.Str.occurrences AB ⟨#[c]⟩ 0 AB.length 1).isEmpty) = decide (c ∈ ABc) := StrLaws.found_one _ _
          rw [hf]
          have hk8 : k.cps.size ≤ 100 := hl
          refine LcNx.mk hi (by omega) (by rw [List.length_map, List.length_map, List.length_take]; omega) h1' ⟨upd_same, h2'.but_ne hD, ?_⟩
          rw [List.take_add_one, hc]
          simp
      · rw [decide_eq_false h2]
        exact iteF (q' _ (Same.refl _) _ (by unfold okKey; rw [decide_eq_false (p := k.length ≤ 8) (by omega)]; simp))
    · rw [decide_eq_false h1]
      exact iteF ⟨_, rfl, iteF (q' _ (Same.refl _) _ (by unfold okKey; rw [decide_eq_false (p := 1 ≤ k.length) (by omega)]; simp))⟩
inductive sp_is_key (vs : List V) (H : Hp) (Q : VK) (E : XK) : Prop
  | mk (k : Str) (e : vs = [.str k]) (hl : k.length ≤ 100) (ha : ∀ c ∈ k.cps.toList, c < 128) (q : ∀ H', Same H H' → Q (.bl (okKey k)) H') : sp_is_key vs H Q E
theorem sc_is_key : FnScope ["value"] ["value"] (defScope s_is_key) := ⟨rfl, rfl, rfl, by decide +kernel, rfl, by decide +kernel, by decide +kernel⟩
theorem is_key (T : Txt K mg C) : Can P w K mg base 2 "is_key" ["value"] sp_is_key := by
  refine fn_can T.f_is_key sc_is_key (fun vs H Q E h => ?_) (fun f cdv A outer s H vs Q E hr h => ?_)
  · obtain ⟨k, rfl, _⟩ := h
    rfl
  · obtain ⟨k, rfl, hl, ha, q⟩ := h
    refine ⟨_, pss_one (ps_ret (pe_can (is_word T) hr (pa3 (pv 0) (pe_gs T.c_KEY_SIGNS) (pe_gi T.c_MOST_KEY_SIGNS)))), ?_⟩
    exact ⟨_, rfl, k, rfl, hl, ha, q⟩
inductive sp_need (K : PySem.W.Frag) (mg : Str → Option Value) (vs : List V) (H : Hp) (Q : VK) (E : XK) : Prop
  | ok (z : Str) (e : vs = [.str z]) (q : Q .non H) : sp_need K mg vs H Q E
  | no (v : V) (t : Value) (e : vs = [v]) (h : TyW H v t) (k : PySem.W.kitOne K t (.type "str") = some false) (x : E (.ref (cOf mg "NoText")) none H) : sp_need K mg vs H Q E
theorem sc_need : FnScope ["value"] ["value"] (defScope s_need_text) := ⟨rfl, rfl, rfl, by decide +kernel, rfl, by decide +kernel, by decide +kernel⟩
theorem need_text (T : Txt K mg C) : CanX P w K mg base 1 "need_text" ["value"] (sp_need K mg) := by
  refine fn_canX T.f_need_text sc_need (fun vs H Q E h => ?_) (fun f cdv A outer s H vs Q E hr W h => ?_)
  · cases h with
    | ok z e => subst e; rfl
    | no v t e => subst e; rfl
  · refine ⟨_, pss_one (ps_if (pt_not (pt_val (pe_b (call_isiW K) T.b_isinstance boot_isinstance (pa2 (pv 0) (pe_ty rfl T.b_str boot_str))))) (pss_one (ps_raise W rfl T.x_NoText.cls (pa1 pe_str))) pss_nil), ?_⟩
    cases h with
    | ok z e q => subst e; exact ⟨_, rfl, .mk _ _ _ _ rfl (.str z) (kit_str1 _) ⟨_, rfl, iteF q⟩⟩
    | no v t e h k x => subst e; exact ⟨_, rfl, .mk _ _ _ _ rfl h k ⟨_, rfl, iteT ⟨⟨one_line, x⟩⟩⟩⟩
theorem rp_len (w : Str) : (Txt.removeprefix w "-").length ≤ w.length := by
  rw [StrLaws.removeprefix_eq]
  split
  · show ((w.cps.toList.drop _).take _).toArray.size ≤ w.cps.size
    rw [List.size_toArray, List.length_take, List.length_drop, Array.length_toList]
    omega
  · exact Nat.le_refl _
inductive sp_whole_of (vs : List V) (H : Hp) (Q : VK) (E : XK) : Prop
  | good (i : Int) (e : vs = [.str (ts i), .int 30]) (h : i.natAbs < 10 ^ 30) (q : Q (.int i) H) : sp_whole_of vs H Q E
  | bad (z : Str) (e : vs = [.str z, .int 30]) (h : badNum z = true) (hl : z.length ≤ 100) (q : Q .non H) : sp_whole_of vs H Q E
theorem sc_whole_of : FnScope ["word", "most", "figures"] ["word", "most"] (defScope s_whole_of) := ⟨rfl, rfl, rfl, by decide +kernel, rfl, by decide +kernel, by decide +kernel⟩
set_option maxHeartbeats 2000000 in
theorem whole_of (T : Txt K mg C) : Can P w K mg base 1 "whole_of" ["word", "most"] sp_whole_of := by
  refine fn_can T.f_whole_of sc_whole_of (fun vs H Q E h => ?_) (fun f cdv A outer s H vs Q E hr h => ?_)
  · cases h with
    | good i e => subst e; rfl
    | bad z e => subst e; rfl
  · refine ⟨_, (pss_cons (ps_set (i := 2) sc_whole_of.nd rfl (Or.inl rfl) (pe_bmK K PySem.F.plainAttrs_str PySem.F.slot_str_removeprefix PySem.F.type_str_removeprefix mt_removeprefix (pv 0) (pa1 pe_str)))
        (pss_cons (ps_if (pt_cmpR op_gt (pe_b call_len_str T.b_len boot_len (pa1 (pv 2))) (pv 1) (nomark _)) (pss_one (ps_ret pe_non)) pss_nil)
        (pss_cons (ps_if (pt_not (PW.pt (pw_and (pt_val (pe_bm0 PySem.F.plainAttrs_str PySem.F.slot_str_isascii PySem.F.type_str_isascii mt_isascii (pv 2))) (pw_and1 (pt_val (pe_bm0 PySem.F.plainAttrs_str PySem.F.slot_str_isdigit PySem.F.type_str_isdigit mt_isdigit (pv 2))))))) (pss_one (ps_ret pe_non)) pss_nil)
        (pss_cons (ps_if (PW.pt (pw_and (pt_cmpR op_eq (pe_ix ix_str (pv 2) pe_int (fun _ _ => rfl)) pe_str (nomark _)) (pw_and1 (pt_cmpR op_ne (pv 0) pe_str (nomark _))))) (pss_one (ps_ret pe_non)) pss_nil)
        (pss_one (ps_ret (pe_t call_int_text T.b_int boot_int (pa1 (pv 0))))))))), ?_⟩
    cases h with
    | bad z e hb hl q =>
      subst e
      have hfl := rp_len z
      refine ⟨_, rfl, rfl, _, _, rfl, rfl, line1000 (by omega), ?_⟩
      unfold badNum at hb
      generalize Txt.removeprefix z "-" = fg at hfl hb ⊢
      refine ⟨_, rfl, _, rfl, line1000 (by omega), _, rfl, _, _, rfl, rfl, _, rfl, ?_⟩
      by_cases d1 : (30 : Int) < (fg.length : Int)
      · rw [decide_eq_true d1]
        exact iteT q
      rw [decide_eq_false d1]
      rw [decide_eq_false (p := 30 < fg.length) (by omega), Bool.false_or] at hb
      refine iteF ⟨_, rfl, rfl, _, rfl, rfl, _, rfl, ?_⟩
      cases ha : Txt.isascii fg with
      | false => exact iteF (iteT q)
      | true =>
        refine iteT ⟨_, rfl, rfl, _, rfl, rfl, _, rfl, ?_⟩
        rw [ha, Bool.true_and] at hb
        cases hd : Txt.isdigit fg with
        | false => exact iteT q
        | true =>
          rw [hd] at hb
          have hb' : (fg.cps.toList.head? == some 48 && !(decide (z = "0"))) = true := by simpa using hb
          rw [Bool.and_eq_true] at hb'
          obtain ⟨hb1, hb2⟩ := hb'
          refine iteF ?_
          obtain ⟨r, hcr⟩ : ∃ r, fg.cps.toList = 48 :: r := by
            cases hq : fg.cps.toList with
            | nil => rw [hq] at hb1; cases hb1
            | cons c r => rw [hq] at hb1; exact ⟨r, by have : c = 48 := by simpa using hb1
                                                       rw [this]⟩
          refine ⟨_, rfl, _, _, 48, rfl, rfl, line1000 (by omega), atI_nat (j := 0) (by rw [hcr]; rfl), rfl, _, rfl, ?_⟩
          have z0 : decide (V.str (⟨#[48]⟩ : Str) = V.str "0") = true := by decide
          refine iteC z0 ⟨_, rfl, rfl, _, rfl, ?_⟩
          have d3 : (!decide (V.str z = V.str "0")) = true := by
            have : ¬ z = "0" := by simpa using hb2
            rw [decide_eq_false fun e => this (V.str.inj e)]
            rfl
          rw [d3]
          exact iteT q
    | good i e hi q =>
      subst e
      have hl : (ts i).length ≤ 41 := ts_len (le40 hi)
      have hf := figs i
      have hfl := figs_len hi
      have fa := figs_ascii i
      have fd' := figs_digit i
      refine ⟨_, rfl, rfl, _, _, rfl, rfl, line1000 (by omega), ?_⟩
      generalize Txt.removeprefix (ts i) "-" = fg at hf hfl fa fd' ⊢
      have d1 : decide ((30 : Int) < (fg.length : Int)) = false := decide_eq_false (by omega)
      obtain ⟨g1, g2, g3⟩ := dg_digits i.natAbs
      refine ⟨_, rfl, _, rfl, line1000 (by omega), _, rfl, _, _, rfl, rfl, _, rfl, ?_⟩
      rw [d1]
      refine iteF ⟨_, rfl, rfl, _, rfl, rfl, _, rfl, ?_⟩
      rw [fa]
      refine iteT ⟨_, rfl, rfl, _, rfl, rfl, _, rfl, ?_⟩
      rw [fd']
      refine iteF ?_
      obtain ⟨c, r, hcr⟩ : ∃ c r, fg.cps.toList = c :: r := by
        cases hd : fg.cps.toList with
        | nil => rw [hf] at hd; exact absurd hd g2
        | cons c r => exact ⟨c, r, rfl⟩
      refine ⟨_, rfl, _, _, c, rfl, rfl, line1000 (by omega), atI_nat (j := 0) (by rw [hcr]; rfl), rfl, _, rfl, ?_⟩
      refine ite2 (fun hc => ?_) (fun hc => ?_)
      · have hc48 : c = 48 := by
          have := of_decide_eq_true hc
          have e1 := V.str.inj this
          have e2 := congrArg (fun x : Str => x.cps.toList) e1
          have e3 : (("0" : String) : Str).cps.toList = [48] := by decide
          rw [e3] at e2
          exact (List.cons.inj e2).1
        have hz : i.natAbs = 0 := by
          rcases Nat.eq_zero_or_pos i.natAbs with z | z
          · exact z
          · exact absurd (by rw [← hf, hcr, hc48]) (g3 (by omega) r)
        have hi0 : i = 0 := by omega
        have ht : ts i = "0" := by rw [hi0]; rfl
        refine ⟨_, rfl, rfl, _, rfl, ?_⟩
        have d3 : (!decide (V.str (ts i) = V.str "0")) = false := by rw [ht]; simp
        rw [d3]
        exact iteF ⟨_, rfl, _, i, rfl, ts_reads (le40 hi), by omega, q⟩
      · exact iteF ⟨_, rfl, _, i, rfl, ts_reads (le40 hi), by omega, q⟩
end
end Pr
set_option Elab.async false
set_option linter.all false
set_option maxRecDepth 100000
/-! entries read, good and bad -/
namespace Ent
open PySem
theorem line6 {n : Nat} (h : n ≤ 100000) : n ≤ sizeLine := by rw [sizeLine_eq]; omega
theorem join_none {es : List En} (h : Txt.join " " (es.map word) = "") : es = [] := by
  cases es with
  | nil => rfl
  | cons e r =>
    rw [tj] at h
    have h1 := join_mem_le " " ((e :: r).map word) (word e) (by simp)
    rw [h] at h1
    have h2 : (("" : String) : Str).length = 0 := by decide
    have h3 := word_pos e
    omega
theorem join_words {es : List En} (h : ∀ e ∈ es, EnOk e) (hl : es.length ≤ 60) : (Txt.join " " (es.map word)).length ≤ 6000 := by
  have := join_le (ws := es.map word) (n := 92) fun x hx => by
    obtain ⟨e, he, rfl⟩ := List.mem_map.mp hx
    exact word_len (h e he)
  rw [List.length_map] at this
  omega
theorem okKey_of {k : Str} (h : KeyIs k) (h8 : k.length ≤ 8) : okKey k = true := by
  unfold okKey
  rw [decide_eq_true h.1, decide_eq_true h8]
  exact List.all_eq_true.mpr fun c hc => decide_eq_true (h.2 c hc)
end Ent
namespace Pr
open PySem L2 PyProof.Rows Ent
section
variable {P : Program} {w : World} {K : PySem.W.Frag} {mg : Str → Option Value} {base : Heap} {C : Addr}
inductive sp_read_wide (mg : Str → Option Value) (vs : List V) (H : Hp) (Q : VK) (E : XK) : Prop
  | good (i : Int) (e : vs = [.str (ts i)]) (h : i.natAbs < 10 ^ 30) (q : Q (.int i) H) : sp_read_wide mg vs H Q E
  | bad (z : Str) (e : vs = [.str z]) (h : badNum z = true) (hl : z.length ≤ 100) (x : E (.ref (cOf mg "NoText")) none H) : sp_read_wide mg vs H Q E
theorem sc_read_wide : FnScope ["word", "number"] ["word"] (defScope s_read_wide) := ⟨rfl, rfl, rfl, by decide +kernel, rfl, by decide +kernel, by decide +kernel⟩
theorem read_wide (T : Txt K mg C) : CanX P w K mg base 2 "read_wide" ["word"] (sp_read_wide mg) := by
  refine fn_canX T.f_read_wide sc_read_wide (fun vs H Q E h => ?_) (fun f cdv A outer s H vs Q E hr W h => ?_)
  · cases h with
    | good i e => subst e; rfl
    | bad z e => subst e; rfl
  · refine ⟨_, (pss_cons (ps_set (i := 1) sc_read_wide.nd rfl (Or.inl rfl) (pe_can (whole_of T) hr (pa2 (pv 0) (pe_gi T.c_WIDE_FIGURES))))
        (pss_cons (ps_if (pt_cmpR op_isN (pv 1) pe_non (nomark _)) (pss_one (ps_raise W rfl T.x_NoText.cls (pa1 pe_str))) pss_nil)
        (pss_one (ps_ret (pv 1))))), ?_⟩
    cases h with
    | good i e hi q =>
      subst e
      refine ⟨_, rfl, .good i rfl hi ?_⟩
      refine ⟨_, rfl, rfl, _, rfl, ?_⟩
      have d : decide (V.int i = V.non) = false := decide_eq_false (by intro z; cases z)
      exact iteD d ⟨_, rfl, q⟩
    | bad z e hb hl x =>
      subst e
      refine ⟨_, rfl, .bad z rfl hb hl ?_⟩
      exact ⟨_, rfl, rfl, _, rfl, iteC (by decide) ⟨⟨one_line, x⟩⟩⟩
inductive sp_read_entry (mg : Str → Option Value) (vs : List V) (H : Hp) (Q : VK) (E : XK) : Prop
  | good (e : En) (h0 : vs = [.str (word e)]) (ok : EnOk e) (hk : KeyIs e.2.1) (q : ∀ t H', Same H H' → H t = none → H' t = some (.tup (three e)) → Q (.ref t) H') : sp_read_entry mg vs H Q E
  | bad (z : Str) (h0 : vs = [.str z]) (hb : BadW z) (x : ∀ H', Same H H' → E (.ref (cOf mg "NoText")) none H') : sp_read_entry mg vs H Q E
theorem sc_read_entry : FnScope ["word", "pieces"] ["word"] (defScope s_read_entry) := ⟨rfl, rfl, rfl, by decide +kernel, rfl, by decide +kernel, by decide +kernel⟩
theorem len3x {α : Type} {l : List α} (h : l.length = 3) : ∃ a b c, l = [a, b, c] := len3 h
set_option maxHeartbeats 2000000 in
theorem read_entry (T : Txt K mg C) : CanX P w K mg base 3 "read_entry" ["word"] (sp_read_entry mg) := by
  refine fn_canX T.f_read_entry sc_read_entry (fun vs H Q E h => ?_) (fun f cdv A outer s H vs Q E hr W h => ?_)
  · cases h with
    | good e h0 => subst h0; rfl
    | bad z h0 => subst h0; rfl
  · refine ⟨_, (pss_cons (ps_set (i := 1) sc_read_entry.nd rfl (Or.inl rfl) (pe_bmK K PySem.F.plainAttrs_str PySem.F.slot_str_split PySem.F.type_str_split mt_split (pv 0) (pa1 pe_str)))
        (pss_cons (ps_if (PW.pt (pw_or (pt_cmpR op_ne (pe_b (call_lenK K) T.b_len boot_len (pa1 (pv 1))) pe_int (nomark _)) (pw_or1 (pt_not (pt_val (pe_can (is_key T) hr (pa1 (pe_ix (ix_listK K) (pv 1) pe_int (fun _ _ => rfl))))))))) (pss_one (ps_raise W rfl T.x_NoText.cls (pa1 pe_str))) pss_nil)
        (pss_one (ps_ret (pe_tup (pa3 (pe_canX (read_wide T) W hr (pa1 (pe_ix (ix_listK K) (pv 1) pe_int (fun _ _ => rfl)))) (pe_ix (ix_listK K) (pv 1) pe_int (fun _ _ => rfl)) (pe_canX (read_wide T) W hr (pa1 (pe_ix (ix_listK K) (pv 1) pe_int (fun _ _ => rfl)))))))))), ?_⟩
    cases h with
    | good e h0 ok hk q =>
      subst h0
      have hw := word_len ok
      have hs := word_split hk
      refine ⟨_, rfl, rfl, _, _, rfl, rfl, by decide, line1000 (by omega), by rw [hs]; exact three_line, fun D hD => ?_⟩
      rw [hs]
      have sD : Same H (upd H D (.lst ([ts e.1, e.2.1, ts e.2.2].map V.str))) := Same.upd hD
      refine ⟨_, rfl, D, _, rfl, .inl (.of upd_same), rfl, _, rfl, ?_⟩
      refine iteF ⟨_, rfl, D, _, _, _, rfl, rfl, .of upd_same, atI_nat (j := 1) rfl, _, rfl, Nat.le_trans ok.k.1 (by decide), ok.k.2, fun H2 s2 => ⟨_, rfl, ?_⟩⟩
      rw [okKey_of hk ok.k.1]
      refine iteF ?_
      have hD2 := s2 _ _ (upd_same (H := H) (a := D) (o := .lst ([ts e.1, e.2.1, ts e.2.2].map V.str)))
      refine ⟨_, rfl, D, _, _, _, rfl, rfl, .of hD2, atI_nat (j := 0) rfl, .good e.1 rfl ok.m ?_⟩
      refine ⟨_, rfl, D, _, _, _, rfl, rfl, .of hD2, atI_nat (j := 1) rfl, _, rfl, D, _, _, _, rfl, rfl, .of hD2, atI_nat (j := 2) rfl, .good e.2.2 rfl ok.v ⟨three_line, fun t ht => ?_⟩⟩
      exact q t _ (sD.trans (s2.trans (Same.upd ht))) ((sD.trans s2).free ht) upd_same
    | bad z h0 hb x =>
      subst h0
      have hzl := hb.len
      obtain ⟨ps, hne, hs, hp, hl, hB⟩ := hb.split
      refine ⟨_, rfl, rfl, _, _, rfl, rfl, by decide, line1000 (by omega), by rw [hs]; exact line1000 (by omega), fun D hD => ?_⟩
      rw [hs]
      have sD : Same H (upd H D (.lst (ps.map V.str))) := Same.upd hD
      refine ⟨_, rfl, D, _, rfl, .inl (.of upd_same), rfl, _, rfl, ?_⟩
      by_cases h3 : ps.length = 3
      · obtain ⟨a, b, c, rfl⟩ := len3x h3
        have pa := hp a (by simp)
        have pb := hp b (by simp)
        have pcc := hp c (by simp)
        refine iteF ⟨_, rfl, D, _, _, _, rfl, rfl, .of upd_same, atI_nat (j := 1) rfl, _, rfl, pc_len pb, fun c hc => (pc_mem pb c hc).2.2, fun H2 s2 => ⟨_, rfl, ?_⟩⟩
        cases hkb : okKey b with
        | false => exact iteT ⟨⟨one_line, x _ (sD.trans s2)⟩⟩
        | true =>
          refine iteF ?_
          have hD2 := s2 _ _ (upd_same (H := H) (a := D) (o := .lst ([a, b, c].map V.str)))
          refine ⟨_, rfl, D, _, _, _, rfl, rfl, .of hD2, atI_nat (j := 0) rfl, ?_⟩
          cases hB with
          | many h => exact absurd h3 h
          | key a' b' c' e h => cases e; rw [hkb] at h; cases h
          | one a' b' c' e h => cases e; exact .bad _ rfl h (pc_len pa) (x _ (sD.trans s2))
          | two i b' c' e hi h =>
            cases e
            refine .good i rfl hi ?_
            exact ⟨_, rfl, D, _, _, _, rfl, rfl, .of hD2, atI_nat (j := 1) rfl, _, rfl, D, _, _, _, rfl, rfl, .of hD2, atI_nat (j := 2) rfl, .bad _ rfl h (pc_len pcc) (x _ (sD.trans s2))⟩
      · refine iteC ?_ ⟨⟨one_line, x _ sD⟩⟩
        rw [List.length_map]
        have : ¬ V.int (ps.length : Int) = V.int 3 := fun e => h3 (by have := V.int.inj e; omega)
        rw [decide_eq_false this]
        rfl
inductive sp_read_entries (K : PySem.W.Frag) (mg : Str → Option Value) (vs : List V) (H : Hp) (Q : VK) (E : XK) : Prop
  | good (es : List En) (h0 : vs = [.str (Txt.join " " (es.map word))]) (ok : ∀ e ∈ es, EnOk e) (hk : ∀ e ∈ es, KeyIs e.2.1) (hl : es.length ≤ 60)
      (q : ∀ D H' ys, Same H H' → H D = none → H' D = some (.lst ys) → Paired (EntT H') ys es → Q (.ref D) H') : sp_read_entries K mg vs H Q E
  | bad (z : Str) (h0 : vs = [.str z]) (hb : BadT z) (x : ∀ H', Same H H' → E (.ref (cOf mg "NoText")) none H') : sp_read_entries K mg vs H Q E
  | no (v : V) (t : Value) (e : vs = [v]) (h : TyW H v t) (k : PySem.W.kitOne K t (.type "str") = some false) (x : E (.ref (cOf mg "NoText")) none H) : sp_read_entries K mg vs H Q E
theorem sc_read_entries : FnScope ["text"] ["text"] (defScope s_read_entries) := ⟨rfl, rfl, rfl, by decide +kernel, rfl, by decide +kernel, by decide +kernel⟩
set_option maxHeartbeats 2000000 in
theorem read_entries (T : Txt K mg C) : CanX P w K mg base 4 "read_entries" ["text"] (sp_read_entries K mg) := by
  refine fn_canX T.f_read_entries sc_read_entries (fun vs H Q E h => ?_) (fun f cdv A outer s H vs Q E hr W h => ?_)
  · cases h with
    | good es h0 => subst h0; rfl
    | bad z h0 => subst h0; rfl
    | no v t e => subst e; rfl
  · refine ⟨_, (pss_cons (ps_expr (pe_canX (need_text T) W hr (pa1 (pv 0))))
      (pss_cons (ps_if (pt_cmpR op_eq (pv 0) pe_str (nomark _))
        (pss_one (ps_ret (pe_lst pa_nil)))
        pss_nil)
      (pss_one (ps_ret (pe_lnX (xs := ["word"]) (Ns := ["text"]) W rfl (lnS _ sc_read_entries) (pi_listK K (pe_bmK K PySem.F.plainAttrs_str PySem.F.slot_str_split PySem.F.type_str_split mt_split (pv 0) (pa1 pe_str))) (pg_one (lnS _ sc_read_entries)) (fun _ _ _ _ => pts_nil) (fun _ _ _ _ _ W' => (pe_canX (read_entry T) W' hr (pa1 (pv 0))))))))), ?_⟩
    cases h with
    | no v t e h k x => subst e; exact ⟨_, rfl, .no v t rfl h k x⟩
    | good es h0 ok hk hl q =>
      subst h0
      have hjl := join_words ok hl
      refine ⟨_, rfl, .ok _ rfl ⟨_, rfl, rfl, _, rfl, ?_⟩⟩
      by_cases hn : Txt.join " " (es.map word) = ""
      · have e0 := join_none hn
        subst e0
        exact iteC (by rw [hn]; decide) ⟨Nat.zero_le _, fun D hD => q D _ [] (Same.upd hD) hD upd_same .nil⟩
      · refine iteD (decide_eq_false fun e => hn (V.str.inj e)) ?_
        have hne : es ≠ [] := fun e => hn (by rw [e]; rfl)
        have hs := words_split hne hk
        refine ⟨_, rfl, rfl, _, _, rfl, rfl, by decide, line6 (by omega), by rw [hs, List.length_map]; exact line1000 (by omega), fun L hL => ?_⟩
        rw [hs]
        refine ⟨L, rfl, ⟨_, .of upd_same⟩, fun D hD => ?_⟩
        have hDL : D ≠ L := fun z => by rw [z, upd_same] at hD; cases hD
        have hD0 : H D = none := by rw [upd_ne hDL] at hD; exact hD
        refine lcN_list (xs := (es.map word).map V.str) (fun i ys H1 => H1 D = some (.lst ys) ∧ Same (upd H L (.lst ((es.map word).map V.str))) H1 ∧ Paired (EntT H1) ys (es.take i)) ⟨upd_same, Same.upd hD, .nil⟩ (fun i ys H1 h => ⟨h.1, .of (h.2.1 _ _ upd_same)⟩) (fun ys H1 h => ?_) fun i x ys H1 u hu hi hx h => ?_
        · obtain ⟨h1, h2, h3⟩ := h
          rw [List.length_map, List.length_map, List.take_length] at h3
          exact q D H1 ys ((Same.upd hL).trans h2) hD0 h1 h3
        · obtain ⟨h1, h2, h3⟩ := h
          obtain ⟨u1, rfl⟩ := len1 hu
          rw [List.length_map, List.length_map] at hi
          have he : es[i]? = some es[i] := List.getElem?_eq_getElem hi
          have ex : x = V.str (word es[i]) := by
            rw [List.getElem?_map, List.getElem?_map, he] at hx
            exact (Option.some.inj hx).symm
          subst ex
          have hm := List.mem_of_getElem? he
          have hyl : ys.length = i := by rw [h3.length, List.length_take]; omega
          refine ⟨⟨[some (.str (word es[i]))], rfl, rfl⟩, yesI ⟨_, rfl, .good es[i] rfl (ok _ hm) (hk _ hm) fun t H2 s2 ht ht2 => ?_⟩⟩
          refine LcNx.mk (by rw [List.length_map, List.length_map]; exact hi) (by rw [List.length_map, List.length_map]; omega) (by omega) (s2 _ _ h1) ⟨upd_same, (h2.trans s2).but_ne hD, ?_⟩
          rw [List.take_add_one, he]
          have hDt : t ≠ D := fun z => by rw [z, h1] at ht; cases ht
          refine Paired.snoc ⟨t, rfl, by rw [upd_ne hDt]; exact ht2⟩ ?_
          exact Paired.mono2 (fun _ _ z => (EntT.same s2 z).wr (s2 _ _ h1)) h3
    | bad z h0 hb x =>
      subst h0
      obtain ⟨gs, b, r, e, hg, hbw, hr', hl, hn, ht⟩ := hb
      have hs := BadT.split e hg hbw hr'
      refine ⟨_, rfl, .ok _ rfl ⟨_, rfl, rfl, _, rfl, ?_⟩⟩
      refine iteD (decide_eq_false fun e => hn (V.str.inj e)) ?_
      have hll : (gs.map word ++ b :: r).length ≤ 21 := by rw [List.length_append, List.length_map, List.length_cons]; omega
      refine ⟨_, rfl, rfl, _, _, rfl, rfl, by decide, line6 (by omega), by rw [hs]; exact line1000 (by omega), fun L hL => ?_⟩
      rw [hs]
      refine ⟨L, rfl, ⟨_, .of upd_same⟩, fun D hD => ?_⟩
      have hDL : D ≠ L := fun z => by rw [z, upd_same] at hD; cases hD
      refine lcN_list (xs := (gs.map word ++ b :: r).map V.str) (fun i ys H1 => H1 D = some (.lst ys) ∧ Same (upd H L (.lst ((gs.map word ++ b :: r).map V.str))) H1 ∧ ys.length = i ∧ i ≤ gs.length) ⟨upd_same, Same.upd hD, rfl, Nat.zero_le _⟩ (fun i ys H1 h => ⟨h.1, .of (h.2.1 _ _ upd_same)⟩) (fun ys H1 h => ?_) fun i x' ys H1 u hu hi hx h => ?_
      · obtain ⟨h1, h2, h3, h4⟩ := h
        rw [List.length_map, List.length_append, List.length_map, List.length_cons] at h4
        omega
      · obtain ⟨h1, h2, h3, h4⟩ := h
        obtain ⟨u1, rfl⟩ := len1 hu
        rw [List.getElem?_map] at hx
        rcases Nat.lt_or_ge i gs.length with hi4 | hi4
        · have he : gs[i]? = some gs[i] := List.getElem?_eq_getElem hi4
          rw [List.getElem?_append_left (by rw [List.length_map]; exact hi4), List.getElem?_map, he] at hx
          have ex := (Option.some.inj hx).symm
          subst ex
          have hm := List.mem_of_getElem? he
          refine ⟨⟨[some (.str (word gs[i]))], rfl, rfl⟩, yesI ⟨_, rfl, .good gs[i] rfl (hg _ hm).1 (hg _ hm).2 fun t H2 s2 ht ht2 => ?_⟩⟩
          exact LcNx.mk (by exact hi) (by rw [List.length_map]; omega) (by omega) (s2 _ _ h1) ⟨upd_same, (h2.trans s2).but_ne hD, by rw [List.length_append, h3]; rfl, hi4⟩
        · have ei : i = gs.length := by omega
          rw [List.getElem?_append_right (by rw [List.length_map]; omega), List.length_map, ei, Nat.sub_self] at hx
          have ex : V.str b = x' := Option.some.inj hx
          subst ex
          exact ⟨⟨[some (.str b)], rfl, rfl⟩, yesI ⟨_, rfl, .bad b rfl hbw fun H2 s2 => x _ (((Same.upd hL).trans h2).trans s2)⟩⟩
end
end Pr
set_option Elab.async false
set_option linter.all false
set_option maxRecDepth 100000
/-! the law's entries, words, bad words -/
namespace Pr
open PySem L2 PyProof.Rows Ent
section
variable {P : Program} {w : World} {K : PySem.W.Frag} {mg : Str → Option Value} {base : Heap} {C : Addr}
inductive sp_entry (vs : List V) (H : Hp) (Q : VK) (E : XK) : Prop
  | mk (p : Addr) (e : vs = [.ref p]) (h1 : PotAt H p) (q : ∀ t e H', EnOk e → KeyIs e.2.1 → But p H H' → H t = none → H' t = some (.tup (three e)) → PotAt H' p → Q (.ref t) H') : sp_entry vs H Q E
theorem sc_entry : FnScope ["_law_pot_here"] ["_law_pot_here"] (defScope s_law_entry) := ⟨rfl, rfl, rfl, by decide +kernel, rfl, by decide +kernel, by decide +kernel⟩
theorem But.none {p t : Addr} {H H' : Hp} (b : But p H H') (n : H' t = .none) (hp : PotAt H p) (hp' : PotAt H' p) : H t = .none := by
  cases q : H t with
  | none => rfl
  | some o =>
    have ne : t ≠ p := fun z => by
      obtain ⟨x, y, h⟩ := hp'
      rw [z, h] at n; cases n
    rw [b _ _ q ne] at n
    cases n
theorem entry (T : Txt K mg C) : Can P w K mg base 4 "_law_entry" ["_law_pot_here"] sp_entry := by
  refine fn_can T.f_law_entry sc_entry (fun vs H Q E h => ?_) (fun f cdv A outer s H vs Q E hr h => ?_)
  · obtain ⟨p, rfl, _⟩ := h
    rfl
  · obtain ⟨p, rfl, hp, q⟩ := h
    refine ⟨_, (pss_one (ps_ret (pe_tup (pa3 (pe_can (wide T) hr (pa1 (pv 0))) (pe_can (key T) hr (pa1 (pv 0))) (pe_can (wide T) hr (pa1 (pv 0))))))), ?_⟩
    refine ⟨_, rfl, p, rfl, hp, fun m H1 hm b1 p1 => ?_⟩
    refine ⟨_, rfl, p, rfl, p1, fun k H2 hk hk' b2 p2 => ?_⟩
    refine ⟨_, rfl, p, rfl, p2, fun v H3 hv b3 p3 => ⟨three_line, fun t ht => ?_⟩⟩
    have ht0 := But.none ((b1.trans b2).trans b3) ht hp p3
    exact q t (m, k, v) _ ⟨hm, hv, hk⟩ hk' (((b1.trans b2).trans b3).same (Same.upd ht)) ht0 upd_same (p3.same (Same.upd ht))
inductive sp_word (vs : List V) (H : Hp) (Q : VK) (E : XK) : Prop
  | mk (t : Addr) (e : En) (h0 : vs = [.ref t]) (h : H t = some (.tup (three e))) (ok : EnOk e) (q : Q (.str (word e)) H) : sp_word vs H Q E
theorem sc_word : FnScope ["_law_entry_here"] ["_law_entry_here"] (defScope s_law_word) := ⟨rfl, rfl, rfl, by decide +kernel, rfl, by decide +kernel, by decide +kernel⟩
theorem wordL (T : Txt K mg C) : Can P w K mg base 1 "_law_word" ["_law_entry_here"] sp_word := by
  refine fn_can T.f_law_word sc_word (fun vs H Q E h => ?_) (fun f cdv A outer s H vs Q E hr h => ?_)
  · obtain ⟨t, e, rfl, _⟩ := h
    rfl
  · obtain ⟨t, e, rfl, ht, ok, q⟩ := h
    refine ⟨_, (pss_one (ps_ret (pe_op op_add_str (pe_op op_add_str (pe_op op_add_str (pe_op op_add_str (pe_t call_str_int T.b_str boot_str (pa1 (pe_ix (ix_tupK K) (pv 0) pe_int (fun _ _ => rfl)))) pe_str) (pe_ix (ix_tupK K) (pv 0) pe_int (fun _ _ => rfl))) pe_str) (pe_t call_str_int T.b_str boot_str (pa1 (pe_ix (ix_tupK K) (pv 0) pe_int (fun _ _ => rfl))))))), ?_⟩
    have l1 : (Str.ofString (toString e.1)).length ≤ 41 := ts_len (le40 ok.m)
    have l2 : (Str.ofString (toString e.2.2)).length ≤ 41 := ts_len (le40 ok.v)
    have l3 : e.2.1.length ≤ 8 := ok.k.1
    have l4 : (Str.ofString "/").length = 1 := slash_len
    refine ⟨_, rfl, t, _, _, _, rfl, rfl, .of ht, rfl, _, rfl, ts_log (le40 ok.m), _, _, rfl, rfl, line1000 (by omega), _, rfl, t, _, _, _, rfl, rfl, .of ht, rfl, _, _, rfl, rfl, line1000 (by simp only [Str.length_append]; omega), _, _, rfl, rfl, line1000 (by simp only [Str.length_append]; omega), _, rfl, t, _, _, _, rfl, rfl, .of ht, rfl, _, rfl, ts_log (le40 ok.v), _, _, rfl, rfl, line1000 (by simp only [Str.length_append]; omega), ?_⟩
    exact q
end
end Pr
set_option Elab.async false
set_option linter.all false
set_option maxRecDepth 100000
namespace Pr
open PySem L2 PyProof.Rows Ent
def numsB : List Str := ["-", "-0", "00", "01", "-01", "+1", "1_0", "1.0", (("1" : String) : Str) ++ Txt.mul "0" 30, (("-1" : String) : Str) ++ Txt.mul "0" 30, "\t1", "1e3", "a"]
def keysB : List Str := ["abcdefghi", "A", "a-b", "a_b", "a.b", "a:", "{"]
theorem nums_bad : numsB.all (fun n => badNum n && pc n && decide (n.length ≤ 40)) = true := by decide +kernel
theorem keys_bad : keysB.all (fun n => !okKey n && pc n && decide (n.length ≤ 40)) = true := by decide +kernel
theorem nums_at {i : Nat} {n : Str} (h : numsB[i]? = some n) : badNum n = true ∧ pc n = true ∧ n.length ≤ 40 := by
  have := List.all_eq_true.mp nums_bad n (List.mem_of_getElem? h)
  simp only [Bool.and_eq_true, decide_eq_true_eq] at this
  exact ⟨this.1.1, this.1.2, this.2⟩
theorem keys_at {i : Nat} {n : Str} (h : keysB[i]? = some n) : okKey n = false ∧ pc n = true ∧ n.length ≤ 40 := by
  have := List.all_eq_true.mp keys_bad n (List.mem_of_getElem? h)
  simp only [Bool.and_eq_true, decide_eq_true_eq, Bool.not_eq_true'] at this
  exact ⟨this.1.1, this.1.2, this.2⟩
section
variable {P : Program} {w : World} {K : PySem.W.Frag} {mg : Str → Option Value} {base : Heap} {C : Addr}
inductive sp_bad_words (vs : List V) (H : Hp) (Q : VK) (E : XK) : Prop
  | mk (t : Addr) (e : En) (h0 : vs = [.ref t]) (h : H t = some (.tup (three e))) (ok : EnOk e) (hk : KeyIs e.2.1) (q : ∀ D H' (ws : List Str), Same H H' → H' D = some (.lst (ws.map V.str)) → (∀ x ∈ ws, BadB x) → ws.length = 43 → Q (.ref D) H') : sp_bad_words vs H Q E
theorem sc_bad_words : FnScope ["_law_entry_here", "_law_moment", "_law_key_here", "_law_value", "_law_found", "_law_numbers", "_law_number", "_law_other"] ["_law_entry_here"] (defScope s_law_bad_words) := ⟨rfl, rfl, rfl, by decide +kernel, rfl, by decide +kernel, by decide +kernel⟩
set_option maxHeartbeats 4000000 in
theorem bad_words (T : Txt K mg C) : Can P w K mg base 2 "_law_bad_words" ["_law_entry_here"] sp_bad_words := by
  refine fn_can T.f_law_bad_words sc_bad_words (fun vs H Q E h => ?_) (fun f cdv A outer s H vs Q E hr h => ?_)
  · obtain ⟨t, e, rfl, _⟩ := h
    rfl
  · obtain ⟨t, e, rfl, ht, ok, hk, q⟩ := h
    refine ⟨_, (pss_cons (ps_asg (pe_lst (pa3 (pe_t call_str_int T.b_str boot_str (pa1 (pe_ix (ix_tupK K) (pv 0) pe_int (fun _ _ => rfl)))) (pe_ix (ix_tupK K) (pv 0) pe_int (fun _ _ => rfl)) (pe_t call_str_int T.b_str boot_str (pa1 (pe_ix (ix_tupK K) (pv 0) pe_int (fun _ _ => rfl)))))) (pg_seq rfl (pgs_cons (pg_name (i := 1) sc_bad_words.nd rfl (Or.inl rfl)) (pgs_cons (pg_name (i := 2) sc_bad_words.nd rfl (Or.inl rfl)) (pgs_cons (pg_name (i := 3) sc_bad_words.nd rfl (Or.inl rfl)) pgs_nil)))))
      (pss_cons (ps_set (i := 4) sc_bad_words.nd rfl (Or.inl rfl) (pe_lst (pa_cons pe_str (pa_cons pe_str (pa_cons pe_str (pa_cons (pv 1) (pa3 (pe_op op_add_str (pe_op op_add_str (pv 1) pe_str) (pv 2)) (pe_op op_add_str (pe_op op_add_str (pe_op op_add_str (pv 1) pe_str) (pv 2)) pe_str) (pe_op op_add_str (pe_op op_add_str (pe_op op_add_str pe_str (pv 2)) pe_str) (pv 3)))))))))
      (pss_cons (ps_set (i := 4) sc_bad_words.nd rfl (Or.inl rfl) (pe_op op_cat (pv 4) (pe_lst (pa3 (pe_op op_add_str (pe_op op_add_str (pv 1) pe_str) (pv 3)) (pe_op op_add_str (pe_can (wordL T) hr (pa1 (pv 0))) pe_str) (pe_op op_add_str pe_str (pe_can (wordL T) hr (pa1 (pv 0))))))))
      (pss_cons (ps_set (i := 5) sc_bad_words.nd rfl (Or.inl rfl) (pe_lst (pa_cons pe_str (pa_cons pe_str (pa_cons pe_str (pa_cons pe_str (pa_cons pe_str (pa_cons pe_str (pa_cons pe_str (pa_cons pe_str (pa_cons (pe_op op_add_str pe_str (pe_op op_mulS pe_str pe_int)) (pa_cons (pe_op op_add_str pe_str (pe_op op_mulS pe_str pe_int)) (pa3 pe_str pe_str pe_str)))))))))))))
      (pss_cons (ps_for PassesOwn.never rfl (pi_listK K (pv 5)) (pg_name (i := 6) sc_bad_words.nd rfl (Or.inl rfl))
        (pss_cons (ps_expr (pe_bmK K PySem.F.plainAttrs_list PySem.F.slot_list_append PySem.F.type_list_append mt_append (pv 4) (pa1 (pe_op op_add_str (pe_op op_add_str (pe_op op_add_str (pe_op op_add_str (pv 6) pe_str) (pv 2)) pe_str) (pv 3)))))
        (pss_one (ps_expr (pe_bmK K PySem.F.plainAttrs_list PySem.F.slot_list_append PySem.F.type_list_append mt_append (pv 4) (pa1 (pe_op op_add_str (pe_op op_add_str (pe_op op_add_str (pe_op op_add_str (pv 1) pe_str) (pv 2)) pe_str) (pv 6))))))))
      (pss_cons (ps_for PassesOwn.never rfl (pi_listK K (pe_lst (pa_cons pe_str (pa_cons pe_str (pa_cons pe_str (pa_cons pe_str (pa3 pe_str pe_str pe_str))))))) (pg_name (i := 7) sc_bad_words.nd rfl (Or.inl rfl))
        (pss_one (ps_expr (pe_bmK K PySem.F.plainAttrs_list PySem.F.slot_list_append PySem.F.type_list_append mt_append (pv 4) (pa1 (pe_op op_add_str (pe_op op_add_str (pe_op op_add_str (pe_op op_add_str (pv 1) pe_str) (pv 7)) pe_str) (pv 3)))))))
      (pss_one (ps_ret (pv 4))))))))), ?_⟩
    have l1 : (Str.ofString (toString e.1)).length ≤ 41 := ts_len (le40 ok.m)
    have l2 : (Str.ofString (toString e.2.2)).length ≤ 41 := ts_len (le40 ok.v)
    have l3 : e.2.1.length ≤ 8 := ok.k.1
    have l4 : (Str.ofString "/").length = 1 := slash_len
    have l5 : (Str.ofString "//").length = 2 := by decide
    have l6 : (word e).length ≤ 92 := word_len ok
    refine ⟨_, rfl, t, _, _, _, rfl, rfl, .of ht, rfl, _, rfl, ts_log (le40 ok.m), _, rfl, t, _, _, _, rfl, rfl, .of ht, rfl, _, rfl, t, _, _, _, rfl, rfl, .of ht, rfl, _, rfl, ts_log (le40 ok.v), three_line, fun p0 hp0 => ?_⟩
    refine .mk p0 _ _ rfl upd_same (.inl rfl) rfl ⟨_, _, rfl, _, _, rfl, _, _, rfl, rfl, ?_⟩
    have s0 : Same H (upd H p0 (.lst [.str (Str.ofString (toString e.1)), .str e.2.1, .str (Str.ofString (toString e.2.2))])) := Same.upd hp0
    generalize upd H p0 (.lst [.str (Str.ofString (toString e.1)), .str e.2.1, .str (Str.ofString (toString e.2.2))]) = H0 at s0 ⊢
    refine ⟨_, rfl, _, rfl, _, _, rfl, rfl, line1000 (by omega), _, rfl, _, _, rfl, rfl, line1000 (by simp only [Str.length_append]; omega), _, rfl, _, _, rfl, rfl, line1000 (by omega), _, rfl, _, _, rfl, rfl, line1000 (by simp only [Str.length_append]; omega), _, _, rfl, rfl, line1000 (by simp only [Str.length_append]; omega), _, rfl, _, _, rfl, rfl, line1000 (by omega), _, _, rfl, rfl, line1000 (by simp only [Str.length_append]; omega), _, rfl, _, _, rfl, rfl, line1000 (by simp only [Str.length_append]; omega), line1000 (by simp), fun p1 hp1 => ?_⟩
    refine ⟨_, rfl, _, rfl, _, _, rfl, rfl, line1000 (by omega), _, rfl, _, _, rfl, rfl, line1000 (by simp only [Str.length_append]; omega), _, rfl, t, e, rfl, (s0.trans (Same.upd hp1)) _ _ ht, ok, _, _, rfl, rfl, line1000 (by omega), _, rfl, t, e, rfl, (s0.trans (Same.upd hp1)) _ _ ht, ok, _, _, rfl, rfl, line1000 (by omega), three_line, fun p2 hp2 => ?_⟩
    refine ⟨p1, p2, _, _, rfl, rfl, (Same.upd hp2) _ _ upd_same, upd_same, line1000 (by simp), fun D hD => ?_⟩
    obtain ⟨ws0, hws0, hb0, hl0⟩ : ∃ ws0 : List Str, ([(("" : String) : Str), "/", "//", ts e.1, ts e.1 ++ "/" ++ e.2.1, ts e.1 ++ "/" ++ e.2.1 ++ "/", (("/" : String) : Str) ++ e.2.1 ++ "/" ++ ts e.2.2, ts e.1 ++ "//" ++ ts e.2.2, word e ++ "/", (("/" : String) : Str) ++ word e].map V.str) = ws0.map V.str ∧ (∀ x ∈ ws0, BadB x) ∧ ws0.length = 10 := by
      refine ⟨_, rfl, fun x hx => BadW.b ?_, rfl⟩
      simp only [List.mem_cons, List.not_mem_nil, or_false] at hx
      rcases hx with rfl | rfl | rfl | rfl | rfl | rfl | rfl | rfl | rfl | rfl
      · exact bad0 ok hk
      · exact bad1 ok hk
      · exact bad2 ok hk
      · exact bad3 ok hk
      · exact bad4 ok hk
      · exact bad5 ok hk
      · exact bad6 ok hk
      · exact bad7 ok hk
      · exact bad8 ok hk
      · exact bad9 ok hk
    have hDn : H D = none := (s0.trans ((Same.upd hp1).trans (Same.upd hp2))).free hD
    generalize hH2 : upd _ D (HO.lst _) = H2
    have sD : Same H H2 := by rw [← hH2]; exact s0.trans ((Same.upd hp1).trans ((Same.upd hp2).trans (Same.upd hD)))
    have hD2 : H2 D = some (.lst (ws0.map V.str)) := by rw [← hws0, ← hH2]; exact upd_same
    clear hH2 hws0 hD hp2 hp1 s0
    refine ⟨_, _, rfl, rfl, by decide, by decide, by decide, _, _, rfl, rfl, line1000 (by decide +kernel), _, _, rfl, rfl, by decide, by decide, by decide, _, _, rfl, rfl, line1000 (by decide +kernel), line1000 (by decide), fun L hL => ?_⟩
    generalize hH3 : upd H2 L _ = H3
    have s3 : Same H2 H3 := by rw [← hH3]; exact Same.upd hL
    have hL3 : H3 L = some (.lst (numsB.map V.str)) := by rw [← hH3]; exact upd_same
    clear hH3
    have hLD : L ≠ D := fun z => by rw [z, hD2] at hL; cases hL
    refine ⟨_, rfl, L, rfl, ⟨_, .of hL3⟩, for_list (xs := numsB.map V.str) (fun i σ H4 => ∃ ws v6 v7, σ = [some (.ref t), some (.str (ts e.1)), some (.str e.2.1), some (.str (ts e.2.2)), some (.ref D), some (.ref L), v6, v7] ∧ Same H H4 ∧ H4 L = some (.lst (numsB.map V.str)) ∧ H4 D = some (.lst (ws.map V.str)) ∧ (∀ x ∈ ws, BadB x) ∧ ws.length = 10 + 2 * i) ⟨ws0, none, none, rfl, sD.trans s3, hL3, s3 _ _ hD2, hb0, hl0⟩ (fun i σ H4 hi h => ?_) (fun i x σ H4 hx h => ?_) (fun σ H4 h => ?_)⟩
    · obtain ⟨ws, v6, v7, rfl, a1, a2, a3, a4, a5⟩ := h
      exact .of a2
    · obtain ⟨ws, v6, v7, rfl, a1, a2, a3, a4, a5⟩ := h
      rw [List.getElem?_map] at hx
      cases hn : numsB[i]? with
      | none => rw [hn] at hx; cases hx
      | some n =>
        rw [hn] at hx
        have ex : V.str n = x := Option.some.inj hx
        subst ex
        obtain ⟨n1, n2, n3⟩ := nums_at hn
        have hi : i < 13 := (List.getElem?_eq_some_iff.mp hn).1
        refine ⟨_, rfl, .inl ⟨rfl, _, .of a3⟩, _, rfl, _, _, rfl, rfl, line1000 (by omega), _, rfl, _, _, rfl, rfl, line1000 (by simp only [Str.length_append]; omega), _, _, rfl, rfl, line1000 (by simp only [Str.length_append]; omega), _, rfl, _, _, rfl, rfl, line1000 (by simp only [Str.length_append, ts]; omega), D, _, _, rfl, rfl, a3, small1000 (by rw [List.length_map]; omega), ?_⟩
        have e5 : ws.map V.str ++ [V.str (n ++ "/" ++ e.2.1 ++ "/" ++ ts e.2.2)] = (ws ++ [n ++ "/" ++ e.2.1 ++ "/" ++ ts e.2.2]).map V.str := by simp
        generalize hH5 : upd H4 D _ = H5
        have b1 : Same H H5 := by rw [← hH5]; exact a1.but_ne hDn
        have b2 : H5 L = some (.lst (numsB.map V.str)) := by rw [← hH5, upd_ne hLD]; exact a2
        have b3 : H5 D = some (.lst ((ws ++ [n ++ "/" ++ e.2.1 ++ "/" ++ ts e.2.2]).map V.str)) := by rw [← e5, ← hH5]; exact upd_same
        clear hH5
        refine ⟨_, rfl, .inl ⟨rfl, _, .of b3⟩, _, rfl, _, _, rfl, rfl, line1000 (by simp only [ts]; omega), _, rfl, _, _, rfl, rfl, line1000 (by simp only [Str.length_append, ts]; omega), _, _, rfl, rfl, line1000 (by simp only [Str.length_append, ts]; omega), _, rfl, _, _, rfl, rfl, line1000 (by simp only [Str.length_append, ts]; omega), D, _, _, rfl, rfl, b3, small1000 (by rw [List.length_map, List.length_append]; simp; omega), ?_⟩
        refine ⟨ws ++ [n ++ "/" ++ e.2.1 ++ "/" ++ ts e.2.2] ++ [ts e.1 ++ "/" ++ e.2.1 ++ "/" ++ n], _, _, rfl, b1.but_ne hDn, by rw [upd_ne hLD]; exact b2, by rw [upd_same]; simp, fun x hx => ?_, by rw [List.length_append, List.length_append, a5]; simp; omega⟩
        rcases List.mem_append.mp hx with hx | hx
        · rcases List.mem_append.mp hx with hx | hx
          · exact a4 x hx
          · rw [List.mem_singleton.mp hx]; exact (badN1 ok hk n1 n2).b
        · rw [List.mem_singleton.mp hx]; exact (badN2 ok hk n1 n2).b
    · obtain ⟨ws1, v6, v7, rfl, a1, a2, a3, a4, a5⟩ := h
      refine ⟨line1000 (by decide), fun L2 hL2 => ?_⟩
      generalize hH3 : upd H4 L2 _ = H6
      have s6 : Same H4 H6 := by rw [← hH3]; exact Same.upd hL2
      have hL6 : H6 L2 = some (.lst (keysB.map V.str)) := by rw [← hH3]; exact upd_same
      clear hH3
      have hLD2 : L2 ≠ D := fun z => by rw [z, a3] at hL2; cases hL2
      refine ⟨L2, rfl, ⟨_, .of hL6⟩, for_list (xs := keysB.map V.str) (fun i σ H7 => ∃ ws v6 v7, σ = [some (.ref t), some (.str (ts e.1)), some (.str e.2.1), some (.str (ts e.2.2)), some (.ref D), some (.ref L), v6, v7] ∧ Same H H7 ∧ H7 L2 = some (.lst (keysB.map V.str)) ∧ H7 D = some (.lst (ws.map V.str)) ∧ (∀ x ∈ ws, BadB x) ∧ ws.length = 36 + i) ⟨ws1, v6, v7, rfl, a1.trans s6, hL6, s6 _ _ a3, a4, a5⟩ (fun i σ H7 hi h => ?_) (fun i x σ H7 hx h => ?_) (fun σ H7 h => ?_)⟩
      · obtain ⟨ws, v6, v7, rfl, c1, c2, c3, c4, c5⟩ := h
        exact .of c2
      · obtain ⟨ws, v6, v7, rfl, c1, c2, c3, c4, c5⟩ := h
        rw [List.getElem?_map] at hx
        cases hn : keysB[i]? with
        | none => rw [hn] at hx; cases hx
        | some n =>
          rw [hn] at hx
          have ex : V.str n = x := Option.some.inj hx
          subst ex
          obtain ⟨n1, n2, n3⟩ := keys_at hn
          have hi : i < 7 := (List.getElem?_eq_some_iff.mp hn).1
          refine ⟨_, rfl, .inl ⟨rfl, _, .of c3⟩, _, rfl, _, _, rfl, rfl, line1000 (by simp only [ts]; omega), _, rfl, _, _, rfl, rfl, line1000 (by simp only [Str.length_append, ts]; omega), _, _, rfl, rfl, line1000 (by simp only [Str.length_append, ts]; omega), _, rfl, _, _, rfl, rfl, line1000 (by simp only [Str.length_append, ts]; omega), D, _, _, rfl, rfl, c3, small1000 (by rw [List.length_map]; omega), ?_⟩
          refine ⟨ws ++ [ts e.1 ++ "/" ++ n ++ "/" ++ ts e.2.2], _, _, rfl, c1.but_ne hDn, by rw [upd_ne hLD2]; exact c2, by rw [upd_same]; simp, fun x hx => ?_, by rw [List.length_append, c5]; simp; omega⟩
          rcases List.mem_append.mp hx with hx | hx
          · exact c4 x hx
          · rw [List.mem_singleton.mp hx]; exact (badK ok hk n1 n2).b
      · obtain ⟨ws, v6, v7, rfl, c1, c2, c3, c4, c5⟩ := h
        exact ⟨_, rfl, q D _ ws c1 c3 c4 c5⟩
/-- a key with a sign of no key in it -/
abbrev oddS : Str := (" !\"#$&'()*+,-./:;<=>?@ABCDEFGHIJKLMNOPQRSTUVWXYZ[\\]^_`{|}~" : String)
theorem odd_len : oddS.length = 58 := by decide +kernel
theorem odd_no : oddS.cps.toList.all (fun c => decide (c < 128 ∧ c ∉ ABc)) = true := by decide +kernel
inductive sp_odd_key (vs : List V) (H : Hp) (Q : VK) (E : XK) : Prop
  | mk (p t : Addr) (e : En) (h0 : vs = [.ref p, .ref t]) (hp : PotAt H p) (h : H t = some (.tup (three e))) (ok : EnOk e) (hk : KeyIs e.2.1) (q : ∀ H' x, But p H H' → PotAt H' p → BadB x → x ≠ "" → Q (.str x) H') : sp_odd_key vs H Q E
theorem sc_odd_key : FnScope ["_law_pot_here", "_law_entry_here", "_law_signs", "_law_sign", "_law_at", "_law_moment", "_law_key_here", "_law_value", "_law_odd"] ["_law_pot_here", "_law_entry_here"] (defScope s_law_odd_key) := ⟨rfl, rfl, rfl, by decide +kernel, rfl, by decide +kernel, by decide +kernel⟩
set_option maxHeartbeats 4000000 in
theorem odd_key (T : Txt K mg C) : Can P w K mg base 2 "_law_odd_key" ["_law_pot_here", "_law_entry_here"] sp_odd_key := by
  refine fn_can T.f_law_odd_key sc_odd_key (fun vs H Q E h => ?_) (fun f cdv A outer s H vs Q E hr h => ?_)
  · obtain ⟨p, t, e, rfl, _⟩ := h
    rfl
  · obtain ⟨p, t, e, rfl, hp, ht, ok, hk, q⟩ := h
    refine ⟨_, (pss_cons (ps_set (i := 2) sc_odd_key.nd rfl (Or.inl rfl) pe_str)
      (pss_cons (ps_set (i := 3) sc_odd_key.nd rfl (Or.inl rfl) (pe_ix ix_str (pv 2) (pe_can (take T) hr (pa2 (pv 0) (pe_b call_len_str T.b_len boot_len (pa1 (pv 2))))) (fun _ _ => rfl)))
      (pss_cons (ps_set (i := 4) sc_odd_key.nd rfl (Or.inl rfl) (pe_can (take T) hr (pa2 (pv 0) (pe_op op_add (pe_b call_len_str T.b_len boot_len (pa1 (pe_ix (ix_tupK K) (pv 1) pe_int (fun _ _ => rfl)))) pe_int))))
      (pss_cons (ps_asg (pv 1) (pg_tupK K rfl (pgs_cons (pg_name (i := 5) sc_odd_key.nd rfl (Or.inl rfl)) (pgs_cons (pg_name (i := 6) sc_odd_key.nd rfl (Or.inl rfl)) (pgs_cons (pg_name (i := 7) sc_odd_key.nd rfl (Or.inl rfl)) pgs_nil)))))
      (pss_cons (ps_set (i := 8) sc_odd_key.nd rfl (Or.inl rfl) (pe_op op_add_str (pe_op op_add_str (pe_slice sl_str (pv 6) po_none (po_some (pv 4))) (pv 3)) (pe_slice sl_str (pv 6) (po_some (pv 4)) po_none)))
      (pss_one (ps_ret (pe_op op_add_str (pe_op op_add_str (pe_op op_add_str (pe_op op_add_str (pe_t call_str_int T.b_str boot_str (pa1 (pv 5))) pe_str) (pv 8)) pe_str) (pe_t call_str_int T.b_str boot_str (pa1 (pv 7))))))))))), ?_⟩
    have l1 : (Str.ofString (toString e.1)).length ≤ 41 := ts_len (le40 ok.m)
    have l2 : (Str.ofString (toString e.2.2)).length ≤ 41 := ts_len (le40 ok.v)
    have l3 : e.2.1.length ≤ 8 := ok.k.1
    have l4 : (Str.ofString "/").length = 1 := slash_len
    have ol := odd_len
    have htp : t ≠ p := fun z => by
      obtain ⟨x, y, h⟩ := hp
      rw [z, h] at ht; cases ht
    refine ⟨_, rfl, _, rfl, _, rfl, _, rfl, line1000 (by decide +kernel), p, _, rfl, hp, by show (0 : Int) < (oddS.length : Int); rw [ol]; decide, by show (oddS.length : Int) < _; rw [ol]; decide +kernel, fun d H1 d0 d1 b1 p1 => ?_⟩
    have d1' : d < 58 := by have : d < (oddS.length : Int) := d1; omega
    obtain ⟨c, hc, hc1, hc2⟩ : ∃ c, atI oddS.cps.toList d = some c ∧ c < 128 ∧ c ∉ ABc := by
      obtain ⟨n, rfl⟩ : ∃ n : Nat, d = n := ⟨d.toNat, by omega⟩
      have hn : n < oddS.cps.toList.length := by rw [Array.length_toList]; show n < oddS.length; omega
      have := of_decide_eq_true (List.all_eq_true.mp odd_no _ (List.getElem_mem hn))
      exact ⟨_, atI_nat (List.getElem?_eq_getElem hn), this⟩
    refine ⟨_, _, c, rfl, rfl, line1000 (by decide +kernel), hc, ?_⟩
    have ht1 := b1 _ _ ht htp
    refine ⟨_, rfl, _, rfl, t, _, _, _, rfl, rfl, .of ht1, rfl, _, rfl, line1000 (by omega), _, _, rfl, rfl, p, _, rfl, p1, by omega, by omega, fun d2 H2 e0 e1 b2 p2 => ?_⟩
    have ht2 := b2 _ _ ht1 htp
    refine ⟨_, rfl, t, _, rfl, .of ht2, rfl, _, _, rfl, _, _, rfl, _, _, rfl, rfl, ?_⟩
    have s1 := slice_to (z := e.2.1) (j := d2) e0 (by omega)
    have s2 := slice_from (z := e.2.1) (j := d2) e0 (by omega)
    have z1 : (StrLaws.sliceText e.2.1 none (some d2)).length ≤ 8 := by
      rw [s1]
      show (e.2.1.cps.toList.take d2.toNat).toArray.size ≤ 8
      have : e.2.1.cps.size ≤ 8 := ok.k.1
      rw [List.size_toArray, List.length_take, Array.length_toList]
      omega
    have z2 : (StrLaws.sliceText e.2.1 (some d2) none).length ≤ 8 := by
      rw [s2]
      show (e.2.1.cps.toList.drop d2.toNat).toArray.size ≤ 8
      have : e.2.1.cps.size ≤ 8 := ok.k.1
      rw [List.size_toArray, List.length_drop, Array.length_toList]
      omega
    have z3 : (⟨#[c]⟩ : Str).length = 1 := rfl
    refine ⟨_, rfl, _, rfl, _, rfl, _, rfl, by omega, _, rfl, _, _, rfl, rfl, line1000 (by omega), _, rfl, _, rfl, _, rfl, _, rfl, by omega, _, _, rfl, rfl, line1000 (by simp only [Str.length_append]; omega), ?_⟩
    refine ⟨_, rfl, _, rfl, ts_log (le40 ok.m), _, _, rfl, rfl, line1000 (by omega), _, rfl, _, _, rfl, rfl, line1000 (by simp only [Str.length_append]; omega), _, _, rfl, rfl, line1000 (by simp only [Str.length_append]; omega), _, rfl, _, rfl, ts_log (le40 ok.v), _, _, rfl, rfl, line1000 (by simp only [Str.length_append]; omega), ?_⟩
    refine q _ _ (b1.trans b2) p2 (badO ok hk (c := c) ?_ hc1 hc2) (ne_of_len (by simp only [Str.length_append]; omega))
    rw [s1, s2]
    simp
end
end Pr
set_option Elab.async false
set_option linter.all false
set_option maxRecDepth 100000
namespace L2
open PySem PySem.Spec PyProof.Rows

/-! ### lists of pairs as tables -/
section
variable {κ : Type} [DecidableEq κ]



end


/-! ### a tracked dict, its keys ints and texts or tuples of these -/


section
variable {P : Program} {w : World} {H : Hp} {h : Heap} {a : Addr}
end



section
variable {X : Cx} {pins : List (Addr × Obj)} {σ : St} {H : Hp} {s : Shared} {a : Addr} {y v : V} {u r : Value} {o : Option V} {A : Around} {E : Value → Shared → Prop}

theorem Inv.big (I : Inv X pins σ H s) : sysModules < s.heap.objs.size := by
  have h : mainGlobals < s.heap.objs.size := (I.mod.glob.keeps I.bk).lt
  exact Nat.lt_trans (by decide) h

end

section
variable {X : Cx} {pins : List (Addr × Obj)} {σ : St} {H : Hp} {s : Shared} {a : Addr} {kvs : List (Key × V)} {k : Key} {u : Value} {A : Around} {E : Value → Shared → Prop}
end


/-! ### readings and rules -/



section
variable {X : Cx} {o i e value : Expr} {pos pos' tpos : Pos} {td ty tv : TE}
end


/-! ### displays -/
theorem dk_empty {P : Program} {w : World} {H : Hp} (h : Heap) (hb : sysModules < h.objs.size) : ObjOk P w H (h.push { cls := .type "dict", data := .dict #[] }) h.objs.size (.dK []) :=
  ⟨Nat.zero_le _, beq_eq_false_iff_ne.mpr (Ne.symm (Nat.ne_of_lt hb)), [], .nil, Heap.DictOf.new h⟩
/-- {}, to be a dict of the kind that is wanted -/
def tDNewK : TE := fun _ H Q => ∀ p, H p = none → Q (.ref p) (upd H p (.dK []))
section
variable {X : Cx} {pos : Pos}
theorem pe_dnewK : PE X (.Dict [] [] pos) tDNewK := .mk fun pins s σ H Q I h =>
  wpAny_Dict_empty ⟨.ref s.heap.objs.size, _, I.laid (a := s.heap.objs.size) (o := .dK []) (t' := s.toks) (fun _ _ q => Heap.get?_push_of_some _ q) (Nat.le_refl _) (dk_empty s.heap I.big), rfl, h _ (I.hok.fresh (Nat.le_refl _))⟩
end




/-! ### methods -/


section
variable {X : Cx} {pins : List (Addr × Obj)} {σ : St} {H : Hp} {s : Shared} {a : Addr} {y d : V} {u r : Value} {o : Option V} {A : Around} {E : Value → Shared → Prop}
end

section
variable {X : Cx} {o e f : Expr} {apos cpos : Pos} {td ty tx : TE}
end

/-! ### dict(d): a copy -/
section
variable {X : Cx} {pins : List (Addr × Obj)} {σ : St} {H : Hp} {s : Shared} {a : Addr} {kvs : List (Key × V)} {A : Around} {E : Value → Shared → Prop}
end


section
variable {X : Cx} {pins : List (Addr × Obj)} {σ : St} {H : Hp} {s : Shared} {a : Addr} {y : V} {u : Value} {A : Around} {E : Value → Shared → Prop}
end
end L2
set_option Elab.async false
set_option linter.all false
set_option maxRecDepth 100000
namespace Pr
open PySem L2 PyProof.Rows Ent
theorem atI_mem {xs : List V} {n : Int} (h0 : 0 ≤ n) (h1 : n < xs.length) : ∃ x, x ∈ xs ∧ atI xs n = some x := by
  obtain ⟨k, rfl⟩ : ∃ k : Nat, n = k := ⟨n.toNat, by omega⟩
  have hk : k < xs.length := by omega
  exact ⟨_, List.getElem_mem hk, atI_nat (List.getElem?_eq_getElem hk)⟩
/-- what is no text of entries -/
inductive BadV (K : PySem.W.Frag) (H : Hp) (v : V) : Prop
  | txt (z : Str) (e : v = .str z) (h : BadT z) : BadV K H v
  | no (t : Value) (h : TyW H v t) (k : PySem.W.kitOne K t (.type "str") = some false) : BadV K H v
theorem kit_non (K : PySem.W.Frag) : PySem.W.kitOne K (.type "NoneType") (.type "str") = some false := by rfl
theorem kit_int (K : PySem.W.Frag) : PySem.W.kitOne K (.type "int") (.type "str") = some false := by rfl
theorem kit_bool (K : PySem.W.Frag) : PySem.W.kitOne K (.type "bool") (.type "str") = some false := by rfl
theorem kit_lst (K : PySem.W.Frag) : PySem.W.kitOne K (.type "list") (.type "str") = some false := by rfl
theorem kit_tup (K : PySem.W.Frag) : PySem.W.kitOne K (.type "tuple") (.type "str") = some false := by rfl
theorem kit_dict (K : PySem.W.Frag) : PySem.W.kitOne K (.type "dict") (.type "str") = some false := by rfl
theorem ixN_in {n : Nat} {d : Int} (h0 : 0 ≤ d) (h1 : d < n) : ixN n d = some d.toNat := by
  unfold ixN
  rw [if_pos h0, if_pos h1]
section
variable {P : Program} {w : World} {K : PySem.W.Frag} {mg : Str → Option Value} {base : Heap} {C : Addr}
inductive sp_bad (K : PySem.W.Frag) (vs : List V) (H : Hp) (Q : VK) (E : XK) : Prop
  | mk (p a : Addr) (ys : List V) (es : List En) (h0 : vs = [.ref p, .ref a]) (hp : PotAt H p) (ha : H a = some (.lst ys)) (he : Paired (EntT H) ys es) (hn : es ≠ []) (hl : es.length ≤ 3) (ok : ∀ e ∈ es, EnOk e ∧ KeyIs e.2.1)
    (q : ∀ v H', But p H H' → PotAt H' p → BadV K H' v → Q v H') : sp_bad K vs H Q E
theorem sc_bad : FnScope ["_law_pot_here", "_law_entries", "_law_words", "_law_text", "_law_some", "_law_bad_here", "_law_found"] ["_law_pot_here", "_law_entries"] (defScope s_law_bad) := ⟨rfl, rfl, rfl, by decide +kernel, rfl, by decide +kernel, by decide +kernel⟩
set_option maxHeartbeats 4000000 in
theorem bad (T : Txt K mg C) : Can P w K mg base 3 "_law_bad" ["_law_pot_here", "_law_entries"] (sp_bad K) := by
  refine fn_can T.f_law_bad sc_bad (fun vs H Q E h => ?_) (fun f cdv A outer s H vs Q E hr h => ?_)
  · obtain ⟨p, a, ys, es, rfl, _⟩ := h
    rfl
  · obtain ⟨p, a, ys, es, rfl, hp, ha, he, hn, hl, ok, q⟩ := h
    refine ⟨_, (pss_cons (ps_setLC (i := 2) rfl rfl rfl (lcS sc_bad) (pi_listK K (pv 1)) (fun _ _ _ _ => pts_nil) (fun _ _ _ _ => (pe_can (wordL T) hr (pa1 (pv 0)))))
      (pss_cons (ps_set (i := 3) sc_bad.nd rfl (Or.inl rfl) (pe_bmK K PySem.F.plainAttrs_str PySem.F.slot_str_join PySem.F.type_str_join mt_join pe_str (pa1 (pv 2))))
      (pss_cons (ps_set (i := 4) sc_bad.nd rfl (Or.inl rfl) (pe_can (bad_words T) hr (pa1 (pe_ix (ix_listK K) (pv 1) pe_int (fun _ _ => rfl)))))
      (pss_cons (ps_set (i := 5) sc_bad.nd rfl (Or.inl rfl) (pe_ix (ix_listK K) (pv 4) (pe_can (take T) hr (pa2 (pv 0) (pe_b (call_lenK K) T.b_len boot_len (pa1 (pv 4))))) (fun _ _ => rfl)))
      (pss_cut (ps_if (pt_cmpR op_eq (pe_can (take T) hr (pa2 (pv 0) pe_int)) pe_int (nomark _))
        (pss_one (ps_set (i := 5) sc_bad.nd rfl (Or.inl rfl) (pe_can (odd_key T) hr (pa2 (pv 0) (pe_ix (ix_listK K) (pv 1) pe_int (fun _ _ => rfl))))))
        pss_nil)
      (pss_cut (ps_if (pt_cmpR op_ne (pv 5) pe_str (nomark _))
        (pss_one (ps_asg (pv 5) (pg_sub (pv 2) (pe_can (take T) hr (pa2 (pv 0) (pe_b (call_lenK K) T.b_len boot_len (pa1 (pv 2))))) set_list)))
        pss_nil)
      (pss_cut (ps_set (i := 6) sc_bad.nd rfl (Or.inl rfl) (pe_op op_cat (pe_op op_rep (pe_lst (pa1 (pe_bmK K PySem.F.plainAttrs_str PySem.F.slot_str_join PySem.F.type_str_join mt_join pe_str (pa1 (pv 2))))) (pe_t call_int1 T.b_int boot_int (pa1 (pe_cmpR op_ne (pv 5) pe_str (nomark _))))) (pe_lst (pa_cons (pe_op op_add_str (pv 3) pe_str) (pa3 (pe_op op_add_str pe_str (pv 3)) (pe_op op_add_str (pe_op op_add_str (pv 3) pe_str) (pv 3)) (pe_op op_add_str (pe_op op_add_str (pv 3) pe_str) (pv 3)))))))
      (pss_cons (ps_set (i := 6) sc_bad.nd rfl (Or.inl rfl) (pe_op op_cat (pv 6) (pe_lst (pa_cons (pe_op op_add_str (pv 3) pe_str) (pa_cons (pe_op op_add_str (pe_op op_add_str (pv 3) pe_str) (pv 3)) (pa_cons (pe_op op_add_str (pe_op op_add_str pe_str (pv 3)) pe_str) (pa_cons pe_non (pa_cons pe_int (pa_cons (pe_lst (pa1 (pv 3))) (pa_cons (pe_tup (pa1 (pv 3))) (pa_cons pe_dnewK (pa3 pe_bl (pe_lst pa_nil) pe_int))))))))))))
      (pss_one (ps_ret (pe_ix (ix_listK K) (pv 6) (pe_op op_mul (pe_can (take T) hr (pa2 (pv 0) (pe_b (call_lenK K) T.b_len boot_len (pa1 (pv 6))))) (pe_t call_int1 T.b_int boot_int (pa1 (pe_cmpR op_eq (pe_can (take T) hr (pa2 (pv 0) pe_int)) pe_int (nomark _))))) (fun _ _ => rfl)))))))))))), ?_⟩
    have hyl : ys.length = es.length := he.length
    have hap : a ≠ p := fun z => by
      obtain ⟨x, y, h⟩ := hp
      rw [z, h] at ha
      have e0 : ys = [V.int x, .int y] := by cases ha; rfl
      subst e0
      cases he with
      | cons r _ =>
        obtain ⟨b, h, _⟩ := r
        cases h
    refine ⟨_, rfl, a, rfl, ⟨ys, .of ha⟩, fun L hL => ?_⟩
    have hLp : L ≠ p := hp.ne hL
    have hLa : L ≠ a := fun z => by rw [z, ha] at hL; cases hL
    refine lc_list (xs := ys) (fun i zs H1 => H1 L = some (.lst zs) ∧ Same H H1 ∧ zs = ((es.take i).map word).map V.str) ⟨upd_same, Same.upd hL, rfl⟩ (fun i zs H1 h => ⟨h.1, .of (h.2.1 _ _ ha)⟩) (fun zs H1 h => ?_) fun i x zs H1 hi hx h => ?_
    · obtain ⟨h1, s1, rfl⟩ := h
      rw [hyl, List.take_length] at h1
      have tl := txt_len hn hl ok
      rw [← tj] at tl
      refine ⟨rfl, _, rfl, _, L, _, rfl, rfl, .of h1, joinOk_le (n := 92) (fun t ht => ?_) (by rw [List.length_map]; omega), ?_⟩
      · obtain ⟨e, he', rfl⟩ := List.mem_map.mp ht
        exact word_len (ok e he').1
      obtain ⟨e0, er, ees⟩ : ∃ e0 er, es = e0 :: er := by
        cases es with
        | nil => exact absurd rfl hn
        | cons e r => exact ⟨e, r, rfl⟩
      obtain ⟨t0, tr, eys, ht0⟩ : ∃ t0 tr, ys = V.ref t0 :: tr ∧ H t0 = some (.tup (three e0)) := by
        subst ees
        cases he with
        | cons r _ =>
          obtain ⟨b, rfl, h⟩ := r
          exact ⟨b, _, rfl, h⟩
      have ok0 := ok e0 (by rw [ees]; simp)
      have ht0p : t0 ≠ p := fun z => by
        obtain ⟨x, y, h⟩ := hp
        rw [z, h] at ht0; cases ht0
      refine ⟨_, rfl, a, _, _, _, rfl, rfl, .of (s1 _ _ ha), atI_nat (j := 0) (by rw [eys]; rfl), t0, e0, rfl, s1 _ _ ht0, ok0.1, ok0.2, fun D H2 ws s2 hD hws hwl => ?_⟩
      have s12 := s1.trans s2
      have p2 := hp.same s12
      refine ⟨_, rfl, _, rfl, _, rfl, D, _, rfl, .inl (.of hD), p, _, rfl, p2, by rw [List.length_map]; omega, by rw [List.length_map, hwl]; decide +kernel, fun d H3 d0 d1 b3 p3 => ?_⟩
      have hDp : D ≠ p := fun z => by
        obtain ⟨x, y, h⟩ := p2
        rw [z, h] at hD
        have : ([V.int x, .int y] : List V) = ws.map V.str := HO.lst.inj (Option.some.inj hD)
        have := congrArg List.length this
        rw [List.length_map, hwl] at this
        cases this
      have hD3 := b3 _ _ hD hDp
      obtain ⟨x, hx, ex⟩ := atI_mem (xs := ws.map V.str) d0 d1
      obtain ⟨b, hb, rfl⟩ := List.mem_map.mp hx
      refine ⟨D, _, _, _, rfl, rfl, .of hD3, ex, ?_⟩
      have bt3 : But p H H3 := fun c o hc hcp => b3 _ _ (s12 _ _ hc) hcp
      have hL3 : H3 L = some (.lst ((es.map word).map V.str)) := b3 _ _ (s2 _ _ h1) hLp
      refine ⟨fun σ H4 => ∃ b v4 v6, σ = [some (.ref p), some (.ref a), some (.ref L), some (.str (Txt.join " " (es.map word))), v4, some (.str b), v6] ∧ But p H H4 ∧ PotAt H4 p ∧ H4 L = some (.lst ((es.map word).map V.str)) ∧ BadB b, ?_, fun σ H4 h4 => ?_⟩
      · refine ⟨_, rfl, p, _, rfl, p3, by decide, by decide +kernel, fun d2 H4 d20 d21 b4 p4 => ⟨rfl, _, rfl, ite2 (fun hc => ?_) (fun hc => ?_)⟩⟩
        · refine ⟨_, rfl, _, rfl, a, _, _, _, rfl, rfl, .of (b4 _ _ (bt3 _ _ ha hap) hap), atI_nat (j := 0) (by rw [eys]; rfl), p, t0, e0, rfl, p4, b4 _ _ (bt3 _ _ ht0 ht0p) ht0p, ok0.1, ok0.2, fun H5 x b5 p5 hx _ => ?_⟩
          exact ⟨x, _, _, rfl, (bt3.trans b4).trans b5, p5, b5 _ _ (b4 _ _ hL3 hLp) hLp, hx⟩
        · exact ⟨b, _, _, rfl, bt3.trans b4, p4, b4 _ _ hL3 hLp, hws b hb⟩
      obtain ⟨b', v4, v6, rfl, bt4, p4, hL4, hb4⟩ := h4
      refine ⟨fun σ H5 => ∃ v4 v6 ws', σ = [some (.ref p), some (.ref a), some (.ref L), some (.str (Txt.join " " (es.map word))), v4, some (.str b'), v6] ∧ But p H H5 ∧ PotAt H5 p ∧ H5 L = some (.lst (ws'.map V.str)) ∧ ws'.length ≤ 3 ∧ (∀ x ∈ ws', x.length ≤ 1000) ∧ (b' ≠ "" → BadT (Txt.join " " ws')), ?_, fun σ H5 h5 => ?_⟩
      · refine ⟨_, rfl, rfl, _, rfl, ite2 (fun hc => ?_) (fun hc => ?_)⟩
        · have hb' : b' ≠ "" := fun z => by rw [z] at hc; simp at hc
          refine ⟨_, rfl, _, rfl, _, rfl, _, rfl, L, _, rfl, .inl (.of hL4), p, _, rfl, p4, by rw [List.length_map, List.length_map]; have := List.length_pos_iff.mpr hn; omega, by rw [List.length_map, List.length_map]; omega, fun d H6 d0 d1 b6 p6 => ?_⟩
          rw [List.length_map, List.length_map] at d1
          refine ⟨L, _, _, d.toNat, rfl, rfl, b6 _ _ hL4 hLp, ixN_in d0 (by rw [List.length_map, List.length_map]; exact d1), ?_⟩
          refine ⟨_, _, (es.map word).set d.toNat b', rfl, ?_, ?_, ?_, by rw [List.length_set, List.length_map]; exact hl, fun x hx => ?_, fun _ => by rw [tj]; exact t_rep hn hl ok (by omega) hb4 hb'⟩
          · exact fun c o hc hcp => by rw [upd_ne (ne_of_none hc hL)]; exact b6 _ _ (bt4 _ _ hc hcp) hcp
          · obtain ⟨x, y, h⟩ := p6
            exact ⟨x, y, by rw [upd_ne (Ne.symm hLp)]; exact h⟩
          · rw [upd_same, ← List.map_set]
          · rcases List.mem_or_eq_of_mem_set hx with z | z
            · exact wsl hn hl ok x z
            · rw [z]; obtain ⟨_, _, _, _, _, _, hw⟩ := hb4; exact hw
        · have hb' : b' = "" := by
            rcases Classical.em (b' = "") with z | z
            · exact z
            · exact absurd (by rw [decide_eq_false (fun e => z (V.str.inj e))]; rfl) hc
          exact ⟨_, _, es.map word, rfl, bt4, p4, hL4, by rw [List.length_map]; exact hl, wsl hn hl ok, fun z => absurd hb' z⟩
      obtain ⟨v4, v6, ws', rfl, bt5, p5, hL5, hw3, hw1, hbt⟩ := h5
      have bl : ∀ {c : Str}, c = "" ∨ c = " " ∨ c = "  " ∨ c = "\t" ∨ c = "\n" ∨ c = "," ∨ c = "[" ∨ c = "]" → c.length ≤ 2 := fun h => by
        rcases h with rfl | rfl | rfl | rfl | rfl | rfl | rfl | rfl <;> decide
      have k1 := bl (c := " ") (by simp)
      have k2 := bl (c := "  ") (by simp)
      have k3 := bl (c := "\t") (by simp)
      have k4 := bl (c := "\n") (by simp)
      have k5 := bl (c := ",") (by simp)
      have k6 := bl (c := "[") (by simp)
      have k7 := bl (c := "]") (by simp)
      have jn : JoinOk " " ws' = true := joinOk_le (n := 1000) hw1 (by omega)
      have f1 := t_end hn hl ok
      have f2 := t_front hn hl ok
      have f3 := t_two hn hl ok
      have f4 := t_mid hn hl ok (m := "\t") (by decide +kernel) (by decide)
      have f5 := t_line hn hl ok
      have f6 := t_mid hn hl ok (m := ",") (by decide +kernel) (by decide)
      have f7 := t_box hn hl ok
      rw [← tj] at f1 f2 f3 f4 f5 f6 f7
      generalize Txt.join " " (es.map word) = tx at tl f1 f2 f3 f4 f5 f6 f7 ⊢
      refine ⟨fun σ H6 => ∃ v2 v4 v5 F, ∃ ts : List Str, σ = [some (.ref p), some (.ref a), v2, some (.str tx), v4, v5, some (.ref F)] ∧ But p H H6 ∧ PotAt H6 p ∧ H6 F = some (.lst (ts.map V.str)) ∧ (∀ t ∈ ts, BadT t) ∧ 4 ≤ ts.length ∧ ts.length ≤ 5, ?_, fun σ H6 h6 => ?_⟩
      · have rest : ∀ (l1 : Addr) (H6 : Hp) (ts : List Str), Same H5 H6 → H6 l1 = some (.lst (ts.map V.str)) → (∀ t ∈ ts, BadT t) → ts.length ≤ 1 → ∀ F H7, H7 F = some (.lst (ts.map V.str ++ [V.str (tx ++ " "), .str (((" " : String) : Str) ++ tx), .str (tx ++ "  " ++ tx), .str (tx ++ "\t" ++ tx)])) → Same H5 H7 →
            ∃ v2 u4 v5 F', ∃ ts : List Str, [some (V.ref p), some (.ref a), some (.ref L), some (.str tx), v4, some (.str b'), some (.ref F)] = [some (.ref p), some (.ref a), v2, some (.str tx), u4, v5, some (.ref F')] ∧ But p H H7 ∧ PotAt H7 p ∧ H7 F' = some (.lst (ts.map V.str)) ∧ (∀ t ∈ ts, BadT t) ∧ 4 ≤ ts.length ∧ ts.length ≤ 5 := by
          intro l1 H6 ts _ _ hts htl F H7 hF s7
          refine ⟨_, _, _, F, ts ++ [tx ++ " ", ((" " : String) : Str) ++ tx, tx ++ "  " ++ tx, tx ++ "\t" ++ tx], rfl, bt5.same s7, p5.same s7, by rw [hF]; simp, fun t ht => ?_, by simp, by simp; omega⟩
          rcases List.mem_append.mp ht with z | z
          · exact hts t z
          · simp only [List.mem_cons, List.not_mem_nil, or_false] at z
            rcases z with rfl | rfl | rfl | rfl
            · exact f1
            · exact f2
            · exact f3
            · exact f4
        refine ⟨rfl, _, rfl, _, L, _, rfl, rfl, .of hL5, jn, one_line, fun l1 hl1 => ?_⟩
        have sl1 := Same.upd (H := H5) (o := .lst [V.str (Txt.join " " ws')]) hl1
        refine ⟨_, rfl, rfl, .inr ⟨_, rfl, ?_⟩⟩
        by_cases hb' : b' = ""
        · have d0 : (!decide (V.str b' = V.str "")) = false := by rw [hb']; simp
          rw [d0]
          refine ⟨l1, _, _, rfl, rfl, upd_same, by decide, by decide, by simp, fun l2 hl2 => ?_⟩
          have sl2 := sl1.trans (Same.upd (o := .lst []) hl2)
          refine ⟨_, rfl, _, _, rfl, rfl, line1000 (by omega), _, rfl, _, _, rfl, rfl, line1000 (by omega), _, rfl, _, _, rfl, rfl, line1000 (by omega), _, rfl, _, _, rfl, rfl, line1000 (by simp only [Str.length_append]; omega), _, rfl, _, _, rfl, rfl, line1000 (by omega), _, rfl, _, _, rfl, rfl, line1000 (by simp only [Str.length_append]; omega), line1000 (by simp), fun l3 hl3 => ?_⟩
          refine ⟨l2, l3, [], _, rfl, rfl, (Same.upd hl3) _ _ upd_same, upd_same, line1000 (by simp), fun F hF => ?_⟩
          exact rest l2 _ [] sl2 upd_same (fun _ z => nomatch z) (by simp) F _ upd_same (sl2.trans ((Same.upd hl3).trans (Same.upd hF)))
        · have d0 : (!decide (V.str b' = V.str "")) = true := by rw [decide_eq_false (fun e => hb' (V.str.inj e))]; rfl
          rw [d0]
          refine ⟨l1, _, _, rfl, rfl, upd_same, by decide, by decide, by simp; exact one_line, fun l2 hl2 => ?_⟩
          have sl2 := sl1.trans (Same.upd (o := .lst [V.str (Txt.join " " ws')]) hl2)
          refine ⟨_, rfl, _, _, rfl, rfl, line1000 (by omega), _, rfl, _, _, rfl, rfl, line1000 (by omega), _, rfl, _, _, rfl, rfl, line1000 (by omega), _, rfl, _, _, rfl, rfl, line1000 (by simp only [Str.length_append]; omega), _, rfl, _, _, rfl, rfl, line1000 (by omega), _, rfl, _, _, rfl, rfl, line1000 (by simp only [Str.length_append]; omega), line1000 (by simp), fun l3 hl3 => ?_⟩
          refine ⟨l2, l3, [V.str (Txt.join " " ws')], _, rfl, rfl, (Same.upd hl3) _ _ upd_same, upd_same, line1000 (by simp), fun F hF => ?_⟩
          exact rest l2 _ [Txt.join " " ws'] sl2 upd_same (fun t ht => by rw [List.mem_singleton.mp ht]; exact hbt hb') (by simp) F _ upd_same (sl2.trans ((Same.upd hl3).trans (Same.upd hF)))
      obtain ⟨v2, v4, v5, F, ts, rfl, bt6, p6, hF6, hts, hl4, hl5⟩ := h6
      refine ⟨_, rfl, _, rfl, _, _, rfl, rfl, line1000 (by omega), _, rfl, _, _, rfl, rfl, line1000 (by omega), _, rfl, _, _, rfl, rfl, line1000 (by simp only [Str.length_append]; omega), _, rfl, _, _, rfl, rfl, line1000 (by omega), _, _, rfl, rfl, line1000 (by simp only [Str.length_append]; omega), _, rfl, one_line, fun g1 hg1 => ⟨_, rfl, one_line, fun g2 hg2 => fun g3 hg3 => ⟨Nat.zero_le _, fun g4 hg4 => ⟨line1000 (by simp), fun g5 hg5 => ?_⟩⟩⟩⟩
      have S1 := Same.upd (H := H6) (o := .lst [V.str tx]) hg1
      have S2 := S1.trans (Same.upd (o := .tup [V.str tx]) hg2)
      have S3 := S2.trans (Same.upd (o := .dK []) hg3)
      have S4 := S3.trans (Same.upd (o := .lst []) hg4)
      have r1 := (Same.upd (o := .lst []) hg4) _ _ ((Same.upd (o := .dK []) hg3) _ _ ((Same.upd (o := .tup [V.str tx]) hg2) _ _ (upd_same (H := H6) (a := g1) (o := .lst [V.str tx]))))
      have r2 := (Same.upd (o := .lst []) hg4) _ _ ((Same.upd (o := .dK []) hg3) _ _ (upd_same (H := upd H6 g1 (.lst [V.str tx])) (a := g2) (o := .tup [V.str tx])))
      have r3 := (Same.upd (o := .lst []) hg4) _ _ (upd_same (H := upd (upd H6 g1 (.lst [V.str tx])) g2 (.tup [V.str tx])) (a := g3) (o := .dK []))
      have r4 := upd_same (H := upd (upd (upd H6 g1 (.lst [V.str tx])) g2 (.tup [V.str tx])) g3 (.dK [])) (a := g4) (o := .lst [])
      have n1 := p6.ne hg1
      have n2 := (p6.same S1).ne hg2
      have n3 := (p6.same S2).ne hg3
      have n4 := (p6.same S3).ne hg4
      generalize upd (upd (upd (upd H6 g1 (.lst [V.str tx])) g2 (.tup [V.str tx])) g3 (.dK [])) g4 (.lst []) = H7 at hg5 S4 r1 r2 r3 r4 ⊢
      refine ⟨F, g5, _, _, rfl, rfl, (Same.upd hg5) _ _ (S4 _ _ hF6), upd_same, line1000 (by simp; omega), fun F2 hF2 => ?_⟩
      have S5 := (Same.upd (o := .lst [V.str (tx ++ "\n"), .str (tx ++ "," ++ tx), .str ((("[" : String) : Str) ++ tx ++ "]"), .non, .int 5, .ref g1, .ref g2, .ref g3, .bl true, .ref g4, .int 0]) hg5).trans (Same.upd (o := .lst (ts.map V.str ++ [V.str (tx ++ "\n"), .str (tx ++ "," ++ tx), .str ((("[" : String) : Str) ++ tx ++ "]"), .non, .int 5, .ref g1, .ref g2, .ref g3, .bl true, .ref g4, .int 0])) hF2)
      have S6 := S4.trans S5
      have rF := upd_same (H := upd H7 g5 (.lst [V.str (tx ++ "\n"), .str (tx ++ "," ++ tx), .str ((("[" : String) : Str) ++ tx ++ "]"), .non, .int 5, .ref g1, .ref g2, .ref g3, .bl true, .ref g4, .int 0])) (a := F2) (o := .lst (ts.map V.str ++ [V.str (tx ++ "\n"), .str (tx ++ "," ++ tx), .str ((("[" : String) : Str) ++ tx ++ "]"), .non, .int 5, .ref g1, .ref g2, .ref g3, .bl true, .ref g4, .int 0]))
      have r1' := S5 _ _ r1
      have r2' := S5 _ _ r2
      have r3' := S5 _ _ r3
      have r4' := S5 _ _ r4
      have bt7 := bt6.same S6
      have p7 := p6.same S6
      have hF2p : F2 ≠ p := PotAt.ne (p6.same (S4.trans (Same.upd hg5))) hF2
      generalize hxs : ts.map V.str ++ [V.str (tx ++ "\n"), .str (tx ++ "," ++ tx), .str ((("[" : String) : Str) ++ tx ++ "]"), .non, .int 5, .ref g1, .ref g2, .ref g3, .bl true, .ref g4, .int 0] = xs at rF r1' r2' r3' r4' bt7 p7 S5 S6 ⊢
      have hxl : xs.length = ts.length + 11 := by rw [← hxs]; simp
      have hall : ∀ H8, (∀ b o, b ≠ p → (upd (upd H7 g5 (.lst [V.str (tx ++ "\n"), .str (tx ++ "," ++ tx), .str ((("[" : String) : Str) ++ tx ++ "]"), .non, .int 5, .ref g1, .ref g2, .ref g3, .bl true, .ref g4, .int 0])) F2 (.lst xs)) b = some o → H8 b = some o) → ∀ x ∈ xs, BadV K H8 x := by
        intro H8 k8 x hx
        rw [← hxs] at hx
        rcases List.mem_append.mp hx with z | z
        · obtain ⟨t, ht, rfl⟩ := List.mem_map.mp z
          exact .txt t rfl (hts t ht)
        · simp only [List.mem_cons, List.not_mem_nil, or_false] at z
          rcases z with rfl | rfl | rfl | rfl | rfl | rfl | rfl | rfl | rfl | rfl | rfl
          · exact .txt _ rfl f5
          · exact .txt _ rfl f6
          · exact .txt _ rfl f7
          · exact .no _ .non (kit_non _)
          · exact .no _ (.s (.int _)) (kit_int _)
          · exact .no _ (.s (.lst (k8 _ _ n1 r1'))) (kit_lst _)
          · exact .no _ (.s (.tup (k8 _ _ n2 r2'))) (kit_tup _)
          · exact .no _ (.dK (k8 _ _ n3 r3')) (kit_dict _)
          · exact .no _ (.s (.bl _)) (kit_bool _)
          · exact .no _ (.s (.lst (k8 _ _ n4 r4'))) (kit_lst _)
          · exact .no _ (.s (.int _)) (kit_int _)
      generalize upd (upd H7 g5 (.lst [V.str (tx ++ "\n"), .str (tx ++ "," ++ tx), .str ((("[" : String) : Str) ++ tx ++ "]"), .non, .int 5, .ref g1, .ref g2, .ref g3, .bl true, .ref g4, .int 0])) F2 (.lst xs) = H9 at rF r1' r2' r3' r4' bt7 p7 hall S5 S6 ⊢
      refine ⟨_, rfl, _, rfl, _, rfl, F2, _, rfl, .inl (.of rF), p, _, rfl, p7, by omega, by omega, fun d HA d0 d1 bA pA => ?_⟩
      refine ⟨_, rfl, p, _, rfl, pA, by decide, by decide +kernel, fun d2 HB d20 d21 bB pB => ⟨rfl, .inr ⟨_, rfl, ?_⟩⟩⟩
      have hFB := bB _ _ (bA _ _ rF hF2p) hF2p
      have hin : ∀ n : Int, 0 ≤ n → n < xs.length → ∃ x, atI xs n = some x ∧ BadV K HB x := fun n n0 n1 => by
        obtain ⟨x, hx, ex⟩ := atI_mem n0 n1
        exact ⟨x, ex, hall HB (fun b o hbp hb => bB _ _ (bA _ _ hb hbp) hbp) x hx⟩
      have hk : ∀ k : Bool, 0 ≤ d * (if k = true then 1 else 0) ∧ d * (if k = true then 1 else 0) < xs.length := fun k => by
        cases k
        · simp; omega
        · simp; exact ⟨d0, d1⟩
      obtain ⟨h1', h2'⟩ := hk (decide (V.int d2 = V.int 0))
      obtain ⟨x, ex, hb⟩ := hin _ h1' h2'
      have hb1 : ∀ k : Bool, (if k = true then (1 : Int) else 0).natAbs ≤ 1 := fun k => by cases k <;> simp
      refine ⟨_, _, rfl, rfl, .inl ⟨by omega, by omega⟩, F2, _, _, _, rfl, rfl, .of hFB, ex, ?_⟩
      exact q _ _ ((bt7.trans bA).trans bB) pB hb
    · obtain ⟨h1, s1, rfl⟩ := h
      obtain ⟨e, he', b, rfl, hb⟩ := Paired.get he hx
      refine yesI ⟨_, rfl, b, e, rfl, s1 _ _ hb, (ok e (List.mem_of_getElem? he')).1, LcNx.mk hi (by omega) (by rw [List.length_map, List.length_map, List.length_take]; omega) h1 ⟨upd_same, s1.but_ne hL, ?_⟩⟩
      rw [List.take_add_one, he']
      simp
end
end Pr
set_option Elab.async false
set_option linter.all false
set_option maxRecDepth 100000
/-! methods from which errors may leave -/
namespace L2
open PySem PySem.Spec PyProof.Rows
section
variable {P : Program} {w : World} {K : PySem.W.Frag} {mg : Str → Option Value} {base : Heap}
end
section
variable {X : Cx} {k k' : Nat} {x m : Str} {ps : List Str} {sp : Sp} {p pos apos : Pos} {e o : Expr} {es : List Expr} {ta : TE} {t : TA} {C : Addr} {E : XK}
end
end L2
set_option Elab.async false
set_option linter.all false
set_option maxRecDepth 100000
/-! isinstance of an error with two classes; any; a def that may raise, where it doesn't -/
namespace L2
open PySem PySem.Spec PyProof.Rows
theorem wish0 {X : Cx} : Wish X E0 := ⟨fun _ _ _ _ _ _ _ _ _ _ _ q => q.elim⟩
section
variable {X : Cx}
end
end L2
set_option Elab.async false
set_option linter.all false
set_option maxRecDepth 100000
namespace Pr
open PySem L2 PyProof.Rows Ent
theorem boot_ValueError : bootBuiltins "ValueError" = some (.type "ValueError") := by rfl
theorem four_line : 4 ≤ sizeLine := by decide
section
variable {P : Program} {w : World} {K : PySem.W.Frag} {mg : Str → Option Value} {base : Heap} {C : Addr}
inductive sp_ita (K : PySem.W.Frag) (mg : Str → Option Value) (vs : List V) (H : Hp) (Q : VK) (E : XK) : Prop
  | mk (a : Addr) (oe : Obj) (e : vs = [.ref a]) (h : H a = some (XO a oe)) (x : XErr K oe (cOf mg "NoText")) (q : ∀ H', Same H H' → Q (.bl true) H') : sp_ita K mg vs H Q E
theorem sc_ita : FnScope ["_law_e", "_law_others"] ["_law_e"] (defScope s_law_is_text_alone) := ⟨rfl, rfl, rfl, by decide +kernel, rfl, by decide +kernel, by decide +kernel⟩
theorem is_text_alone (T : Txt K mg C) : CanN P w K mg base 1 "_law_is_text_alone" ["_law_e"] (sp_ita K mg) := by
  refine fn_canN T.f_law_is_text_alone sc_ita (fun vs H Q E h => ?_) (fun f cdv A outer s H vs Q E hr h => ?_)
  · obtain ⟨a, oe, rfl, _⟩ := h
    rfl
  · obtain ⟨a, oe, rfl, h, x, q⟩ := h
    refine ⟨_, (pss_cons (ps_set (i := 1) sc_ita.nd rfl (Or.inl rfl) (pe_lst (pa_cons (pe_b (call_isE K) T.b_isinstance boot_isinstance (pa2 (pv 0) (pe_glob (v := .ref _) rfl T.x_Gone.m rfl))) (pa3 (pe_b (call_isE K) T.b_isinstance boot_isinstance (pa2 (pv 0) (pe_glob (v := .ref _) rfl T.x_Held.m rfl))) (pe_b (call_isE K) T.b_isinstance boot_isinstance (pa2 (pv 0) (pe_glob (v := .ref _) rfl T.x_NoBounds.m rfl))) (pe_b (call_isE K) T.b_isinstance boot_isinstance (pa2 (pv 0) (pe_glob (v := .ref _) rfl T.x_NoMoment.m rfl)))))))
      (pss_cons (ps_set (i := 1) sc_ita.nd rfl (Or.inl rfl) (pe_op op_cat (pv 1) (pe_lst (pa2 (pe_b (call_isE K) T.b_isinstance boot_isinstance (pa2 (pv 0) (pe_glob (v := .ref _) rfl T.x_NoNumber.m rfl))) (pe_b (call_isE K) T.b_isinstance boot_isinstance (pa2 (pv 0) (pe_glob (v := .ref _) rfl T.x_NoRow.m rfl)))))))
      (pss_one (ps_ret (pe_and (pe_b (call_isE K) T.b_isinstance boot_isinstance (pa2 (pv 0) (pe_glob (v := .ref _) rfl T.x_NoText.m rfl))) (pe_and (pe_b (call_isE K) T.b_isinstance boot_isinstance (pa2 (pv 0) (pe_ty rfl T.b_ValueError boot_ValueError))) (pe_one (pe_cmpR op_notIn_seq pe_bl (pv 1) (by rfl))))))))), ?_⟩
    refine ⟨_, rfl, .own a oe _ _ _ rfl h x T.k_NoText_Gone ⟨_, rfl, .own a oe _ _ _ rfl h x T.k_NoText_Held ⟨_, rfl, .own a oe _ _ _ rfl h x T.k_NoText_NoBounds ⟨_, rfl, .own a oe _ _ _ rfl h x T.k_NoText_NoMoment ⟨four_line, fun p1 hp1 => ?_⟩⟩⟩⟩⟩
    have s1 := Same.upd (H := H) (o := .lst [.bl false, .bl false, .bl false, .bl false]) hp1
    have h1 := s1 _ _ h
    refine ⟨_, rfl, _, rfl, .own a oe _ _ _ rfl h1 x T.k_NoText_NoNumber ⟨_, rfl, .own a oe _ _ _ rfl h1 x T.k_NoText_NoRow ⟨two_line, fun p2 hp2 => ?_⟩⟩⟩
    refine ⟨p1, p2, _, _, rfl, rfl, (Same.upd hp2) _ _ upd_same, upd_same, line1000 (by decide), fun p3 hp3 => ?_⟩
    have s3 := s1.trans ((Same.upd (o := .lst [.bl false, .bl false]) hp2).trans (Same.upd (o := .lst ([.bl false, .bl false, .bl false, .bl false] ++ [.bl false, .bl false])) hp3))
    have h3 := s3 _ _ h
    refine ⟨_, rfl, .own a oe _ _ _ rfl h3 x T.k_NoText_NoText ⟨_, rfl, iteT ⟨_, rfl, .ty a oe _ _ _ rfl h3 x T.kv_NoText ⟨_, rfl, iteT ⟨_, rfl, p3, _, rfl, .inl (.of upd_same), rfl, rfl, ?_⟩⟩⟩⟩⟩
    exact q _ s3
inductive sp_tried (K : PySem.W.Frag) (vs : List V) (H : Hp) (Q : VK) (E : XK) : Prop
  | mk (v : V) (e : vs = [v]) (h : BadV K H v) (q : ∀ H', Same H H' → Q (.str "text") H') : sp_tried K vs H Q E
theorem sc_tried : FnScope ["_law_thing", "_law_name", "_law_e"] ["_law_thing"] (defScope s_law_tried) := ⟨rfl, rfl, rfl, by decide +kernel, rfl, by decide +kernel, by decide +kernel⟩
theorem tried (T : Txt K mg C) : Can P w K mg base 5 "_law_tried" ["_law_thing"] (sp_tried K) := by
  refine fn_can T.f_law_tried sc_tried (fun vs H Q E h => ?_) (fun f cdv A outer s H vs Q E hr h => ?_)
  · obtain ⟨v, rfl, _⟩ := h
    rfl
  · obtain ⟨v, rfl, hb, q⟩ := h
    refine ⟨_, (pss_cons (ps_set (i := 1) sc_tried.nd rfl (Or.inl rfl) pe_str)
      (pss_cons (ps_try (n := 3) (fun pn xe E W => (pss_one (ps_expr (pe_canX (read_entries T) W hr (pa1 (pv 0))))))
        (phN (i := 2) T.x_PeakError.m sc_tried.nd rfl rfl (fun a => (pss_one (ps_set (i := 1) sc_tried.nd rfl (Or.inl rfl) (pe_ix (ix_listK K) (pe_lst (pa2 pe_str pe_str)) (pe_t call_int1 T.b_int boot_int (pa1 (pe_canN (is_text_alone T) (hr.n _) (pa1 (pv 2))))) (fun _ _ => rfl))))) ph_nil))
      (pss_one (ps_ret (pv 1))))), ?_⟩
    cases hb with
    | txt z e h =>
      subst e
      refine ⟨_, rfl, .bad z rfl h fun H' s => ?_⟩
      intro σ' hσ
      match σ', hσ with
      | [t0, t1, t2], _ =>
        refine .mk true T.e_NoText_PeakError (iteT fun b oe hb' hc hd hf => ?_)
        refine ⟨two_line, fun l hl => ?_⟩
        refine ⟨_, rfl, b, oe, rfl, (Same.upd hl) _ _ upd_same, T.x_NoText.err hc hd hf, fun H2 s2 => ?_⟩
        refine .inr ⟨true, rfl, l, _, _, _, rfl, rfl, .of (s2 _ _ upd_same), rfl, ⟨_, rfl, ?_⟩⟩
        exact q H2 (s.trans ((Same.upd hb').trans ((Same.upd hl).trans s2)))
    | no t h k =>
      refine ⟨_, rfl, .no v t rfl h k ?_⟩
      have s := Same.refl H
      intro σ' hσ
      match σ', hσ with
      | [t0, t1, t2], _ =>
        refine .mk true T.e_NoText_PeakError (iteT fun b oe hb' hc hd hf => ?_)
        refine ⟨two_line, fun l hl => ?_⟩
        refine ⟨_, rfl, b, oe, rfl, (Same.upd hl) _ _ upd_same, T.x_NoText.err hc hd hf, fun H2 s2 => ?_⟩
        refine .inr ⟨true, rfl, l, _, _, _, rfl, rfl, .of (s2 _ _ upd_same), rfl, ⟨_, rfl, ?_⟩⟩
        exact q H2 (s.trans ((Same.upd hb').trans ((Same.upd hl).trans s2)))
end
end Pr
set_option Elab.async false
set_option linter.all false
set_option maxRecDepth 100000
namespace Pr
open PySem L2 PyProof.Rows Ent
section
variable {P : Program} {w : World} {K : PySem.W.Frag} {mg : Str → Option Value} {base : Heap} {C : Addr}
inductive sp_law (K : PySem.W.Frag) (vs : List V) (H : Hp) (Q : VK) (E : XK) : Prop
  | mk (a : Addr) (ns : List Int) (e : vs = [.ref a]) (h : SqL K H a (ns.map V.int)) (hl : ns.length ≤ 63) (q : ∀ H', Q (.bl true) H') : sp_law K vs H Q E
theorem sc_law : FnScope ["_law_script", "_law_k", "_law_pot_here", "_law_entries", "_law_text", "_law_turn"] ["_law_script"] (defScope s_law) := ⟨rfl, rfl, rfl, by decide +kernel, rfl, by decide +kernel, by decide +kernel⟩
theorem shown_nil : (PyData.list []).shown = "[]" := by decide +kernel
set_option maxHeartbeats 4000000 in
theorem law_ok (T : Txt K mg C) {f : Addr} {fd : FuncData} (F : Fun K "law" "law" s_law f fd) : FnOk P w K mg base CX0 8 f fd ["_law_script"] (sp_law K) := by
  refine F.ok sc_law (fun vs H Q E h => ?_) (fun cdv A outer s H vs Q E hr h => ?_)
  · obtain ⟨a, ns, rfl, _⟩ := h
    rfl
  · obtain ⟨a, ns, rfl, ha, hl, q⟩ := h
    refine ⟨_, (pss_cons (ps_for PassesOwn.never rfl (pi_range1 rfl T.b_range (pa1 (pe_b (call_max2 rfl) T.b_max boot_max (pa2 pe_int (pe_b (call_min2 rfl) T.b_min boot_min (pa2 (pe_b (call_lenK K) T.b_len boot_len (pa1 (pv 0))) pe_int)))))) (pg_name (i := 1) sc_law.nd rfl (Or.inl rfl))
        (pss_cons (ps_set (i := 2) sc_law.nd rfl (Or.inr rfl) (pe_can (pot T) hr (pa1 (pe_op op_add (pe_can (cell T) hr (pa2 (pv 0) (pv 1))) (pv 1)))))
        (pss_cons (ps_setLC (i := 3) rfl rfl rfl (lcS sc_law) (pi_range1 rfl T.b_range (pa1 (pe_op op_add pe_int (pe_can (take T) hr (pa2 (pv 2) pe_int))))) (fun _ _ _ _ => pts_nil) (fun _ _ _ _ => (pe_can (entry T) hr (pa1 (pv 3)))))
        (pss_cons (ps_set (i := 4) sc_law.nd rfl (Or.inl rfl) (pe_bmK K PySem.F.plainAttrs_str PySem.F.slot_str_join PySem.F.type_str_join mt_join pe_str (pa1 (pe_lc rfl (lcS sc_law) (pi_listK K (pv 3)) (fun _ _ _ _ => pts_nil) (fun _ _ _ _ => (pe_can (wordL T) hr (pa1 (pv 0))))))))
        (pss_one (ps_for PassesOwn.never rfl (pi_range1 rfl T.b_range (pa1 pe_int)) (pg_name (i := 5) sc_law.nd rfl (Or.inl rfl))
          (pss_cons (ps_if (pt_cmpR op_ne (pe_b (call_repr hr) T.b_repr boot_repr (pa1 (pe_canX (read_entries T) wish0 hr (pa1 (pv 4))))) (pe_b (call_repr hr) T.b_repr boot_repr (pa1 (pv 3))) (nomark _))
            (pss_one (ps_ret pe_bl))
            pss_nil)
          (pss_one (ps_if (pt_cmpR op_ne (pe_can (tried T) hr (pa1 (pe_can (bad T) hr (pa2 (pv 2) (pv 3))))) pe_str (nomark _))
            (pss_one (ps_ret pe_bl))
            pss_nil)))))))))
      (pss_one (ps_ret (pe_cmpR op_eq (pe_b (call_repr hr) T.b_repr boot_repr (pa1 (pe_canX (read_entries T) wish0 hr (pa1 pe_str)))) pe_str (nomark _))))), ?_⟩
    have hlen : ((ns.map V.int).length : Int) = ns.length := by rw [List.length_map]
    refine ⟨_, rfl, a, _, rfl, .inl ha, _, _, rfl, _, _, rfl, _, rfl, by rw [hlen]; omega, by rw [hlen]; omega, ?_⟩
    refine for_range (fun i σ H1 => ∃ v1 v2 v3 v4 v5, σ = [some (.ref a), v1, v2, v3, v4, v5] ∧ Same H H1) ⟨_, _, _, _, _, rfl, Same.refl _⟩ (fun i σ H1 hi h => ?_) (fun σ H1 h => ?_)
    · obtain ⟨v1, v2, v3, v4, v5, rfl, s1⟩ := h
      have ha1 : SqL K H1 a (ns.map V.int) := s1.seq ha
      refine ⟨_, rfl, _, rfl, a, ns, _, rfl, ha1, by omega, fun n => ⟨_, rfl, _, _, rfl, rfl, _, rfl, fun p H2 s2 hp hP2 => ?_⟩⟩
      have hP := hP2
      refine ⟨_, rfl, p, _, rfl, hP, by decide, by decide +kernel, fun d H3 d0 d1 b3 p3 => ?_⟩
      refine ⟨_, _, rfl, rfl, _, rfl, by omega, by omega, fun D hD => ?_⟩
      have hDp : D ≠ p := p3.ne hD
      have s3 : Same H1 H3 := fun c o hc => b3 _ _ (s2 _ _ hc) (ne_of_none hc hp)
      refine lc_range (fun i ys H4 => H4 D = some (.lst ys) ∧ Same H1 H4 ∧ PotAt H4 p ∧ ∃ es : List En, Paired (EntT H4) ys es ∧ es.length = i ∧ (∀ e ∈ es, EnOk e ∧ KeyIs e.2.1)) ⟨upd_same, s3.trans (Same.upd hD), p3.same (Same.upd hD), [], .nil, rfl, fun _ z => nomatch z⟩ (fun i ys H4 h => h.1) (fun ys H4 h => ?_) fun i ys H4 hi h => ?_
      · obtain ⟨hD4, s4, p4, es, pe, el, ok⟩ := h
        have hn : es ≠ [] := fun z => by rw [z] at el; simp at el; omega
        have hl3 : es.length ≤ 3 := by rw [el]; omega
        have hyl : ys.length = es.length := pe.length
        refine ⟨rfl, _, rfl, D, rfl, ⟨ys, .of hD4⟩, fun L hL => ?_⟩
        refine lc_list (xs := ys) (fun i zs H5 => H5 L = some (.lst zs) ∧ Same H4 H5 ∧ zs = ((es.take i).map word).map V.str) ⟨upd_same, Same.upd hL, rfl⟩ (fun i zs H5 h => ⟨h.1, .of (h.2.1 _ _ hD4)⟩) (fun zs H5 h => ?_) fun i x zs H5 hi' hx h => ?_
        · obtain ⟨hL5, s5, rfl⟩ := h
          rw [hyl, List.take_length] at hL5
          refine ⟨_, L, _, rfl, rfl, .of hL5, joinOk_le (n := 92) (fun t ht => ?_) (by rw [List.length_map]; omega), ?_⟩
          · obtain ⟨e, he', rfl⟩ := List.mem_map.mp ht
            exact word_len (ok e he').1
          have s15 : Same H1 H5 := s4.trans s5
          have hfit : Fit (.list (es.map eD)) := fit_eDs (fun e he => (ok e he).1) (by omega)
          refine ⟨2, rfl, by decide, by decide, for_range (fun i σ H6 => ∃ v1 v5, σ = [some (.ref a), v1, some (.ref p), some (.ref D), some (.str (Txt.join " " (es.map word))), v5] ∧ Same H1 H6 ∧ PotAt H6 p ∧ H6 D = some (.lst ys) ∧ Paired (EntT H6) ys es) ⟨_, _, rfl, s15, p4.same s5, s5 _ _ hD4, Paired.mono2 (fun _ _ z => EntT.same s5 z) pe⟩ (fun i σ H6 hi h => ?_) (fun σ H6 h => ?_)⟩
          · obtain ⟨v1, v5, rfl, s6, p6, hD6, pe6⟩ := h
            refine ⟨_, rfl, .good es rfl (fun e he => (ok e he).1) (fun e he => (ok e he).2) (by omega) fun D7 H7 y7 s7 hD7 hy7 pe7 => ?_⟩
            refine ⟨D7, _, rfl, dat_list hy7 pe7, hfit, _, rfl, D, _, rfl, dat_list (s7 _ _ hD6) (Paired.mono2 (fun _ _ z => EntT.same s7 z) pe6), hfit, rfl, _, rfl, ?_⟩
            simp only [decide_true, Bool.not_true]
            refine iteF ?_
            refine ⟨_, rfl, _, rfl, p, D, ys, es, rfl, p6.same s7, s7 _ _ hD6, Paired.mono2 (fun _ _ z => EntT.same s7 z) pe6, hn, hl3, ok, fun v H8 b8 p8 hb => ?_⟩
            refine ⟨v, rfl, hb, fun H9 s9 => ⟨rfl, _, rfl, ?_⟩⟩
            have d0 : (!decide (V.str "text" = V.str "text")) = false := by decide
            refine iteF ?_
            have b9 : But p H6 H9 := fun c o hc hcp => s9 _ _ (b8 _ _ (s7 _ _ hc) hcp)
            refine ⟨_, _, rfl, fun c o hc => b9 _ _ (s6 _ _ hc) (ne_of_none hc hp), p8.same s9, b9 _ _ hD6 hDp, ?_⟩
            refine Paired.mono2 (fun x e z => ?_) pe6
            obtain ⟨b, e1, e2⟩ := z
            refine ⟨b, e1, b9 _ _ e2 fun zz => ?_⟩
            obtain ⟨x', y', hxy⟩ := p6
            rw [zz, hxy] at e2; cases e2
          · obtain ⟨v1, v5, rfl, s6, p6, hD6, pe6⟩ := h
            exact ⟨_, _, _, _, _, rfl, s1.trans s6⟩
        · obtain ⟨hL5, s5, rfl⟩ := h
          obtain ⟨e, he', b, rfl, hb⟩ := Paired.get pe hx
          refine yesI ⟨_, rfl, b, e, rfl, s5 _ _ hb, (ok e (List.mem_of_getElem? he')).1, LcNx.mk hi' (by omega) (by rw [List.length_map, List.length_map, List.length_take]; omega) hL5 ⟨upd_same, s5.but_ne hL, ?_⟩⟩
          rw [List.take_add_one, he']
          simp
      · obtain ⟨hD4, s4, p4, es, pe, el, ok⟩ := h
        refine yesI ⟨_, rfl, p, rfl, p4, fun t e H5 eo ek b5 ht ht5 p5 => ?_⟩
        have hyl : ys.length = es.length := pe.length
        have hD5 := b5 _ _ hD4 hDp
        have tD : t ≠ D := fun z => by rw [z, hD4] at ht; cases ht
        have hDn : H1 D = none := s3.free hD
        refine LcNx.mk hi (by omega) (by omega) hD5 ⟨upd_same, ?_, ?_, es ++ [e], ?_, by rw [List.length_append, el]; rfl, fun x hx => ?_⟩
        · exact fun c o hc => by rw [upd_ne (ne_of_none hc hDn)]; exact b5 _ _ (s4 _ _ hc) (ne_of_none hc hp)
        · obtain ⟨x, y, h⟩ := p5
          exact ⟨x, y, by rw [upd_ne (Ne.symm hDp)]; exact h⟩
        · refine Paired.snoc ⟨t, rfl, by rw [upd_ne tD]; exact ht5⟩ ?_
          refine Paired.mono2 (fun x e' z => ?_) pe
          obtain ⟨c, e1, e2⟩ := z
          have cp : c ≠ p := fun zz => by
            obtain ⟨x', y', hxy⟩ := p4
            rw [zz, hxy] at e2; cases e2
          have cD : c ≠ D := fun zz => by rw [zz, hD4] at e2; cases e2
          exact ⟨c, e1, by rw [upd_ne cD]; exact b5 _ _ e2 cp⟩
        · rcases List.mem_append.mp hx with z | z
          · exact ok x z
          · rw [List.mem_singleton.mp z]; exact ⟨eo, ek⟩
    · obtain ⟨v1, v2, v3, v4, v5, rfl, s1⟩ := h
      refine .good [] (by rfl) (fun _ z => nomatch z) (fun _ z => nomatch z) (by decide) fun D H2 ys s2 _ hD pe => ?_
      have e0 : ys = [] := List.eq_nil_of_length_eq_zero pe.length
      subst e0
      refine ⟨D, _, rfl, dat_nil hD, fit_eDs (es := []) (fun _ z => nomatch z) (by decide), rfl, ?_⟩
      rw [shown_nil]
      exact q _
theorem law_all (T : Txt K mg C) {fa : Addr} (hmg : mg "law" = some (.ref fa)) :
    ∃ fd : FuncData, (∀ (s : Shared) (u : Value), BindsTo s fd ⟨[u], []⟩ [("_law_script", u)]) ∧ ∀ base : Heap, K.In base → base.Ns mainGlobals mg → FnOk P w K mg base CX0 8 fa fd ["_law_script"] (sp_law K) := by
  obtain ⟨f, fd, F⟩ := T.f_law
  have e := hmg.symm.trans F.m
  cases e
  obtain ⟨oc, od, kV, doc, pm, an, cdv, ct, osl, rfl, lk, hcd⟩ := F.fn.ex
  exact ⟨_, fun s u => .of_eq rfl, fun base _ _ => law_ok T F.fn⟩
end
theorem walk {l : PySem.W.OpenLaw} {q : Program} {loose : List Str} {XP : (Str → Option Value) → Heap → Prop} {YP : World → Heap → Prop} {d : DefRec} {K : Params → PySem.W.Frag} (hn : l.most = some 63) (hdf : d.params.defaults = [])
    (hY : ∀ (w : World) (h : Heap), YP w h → (K w.params).In h)
    (F : ∀ (w : World) (mg : Str → Option Value) (fa : Addr) (h : Heap), (K w.params).In h → h.Ns mainGlobals mg → mg d.name = some (.ref fa) →
      ∃ fd : FuncData, (∀ (s : Shared) (u : Value), BindsTo s fd ⟨[u], []⟩ [("_law_script", u)]) ∧ ∀ base : Heap, (K w.params).In base → base.Ns mainGlobals mg → FnOk l.prog w (K w.params) mg base CX0 8 fa fd ["_law_script"] (sp_law (K w.params))) :
    PySem.W.WalkO q loose XP YP l.row.toRowW d [] (fun f vs => PySem.call f vs) :=
  L2.walk_of (n := 63) (k := 8) (x := "_law_script") (CX := fun _ => CX0) (sp := fun w => sp_law (K w.params)) hn (by decide) hdf ⟨rfl, by decide, by decide, rfl⟩ hY F (fun _ _ a ns hl _ hS => ⟨a, ns, rfl, hS, hl, fun _ => rfl⟩) fun _ _ _ _ _ z => z
end Pr
set_option Elab.async false
set_option linter.all false
set_option maxRecDepth 100000
namespace L2
open PySem PyProof.Rows
variable {K : PySem.W.Frag} {x qual : Str} {st : Stmt} {g : Addr} {fd : FuncData} {p q r s t u v : Str}
end L2
set_option Elab.async false
set_option linter.all false
set_option maxRecDepth 100000
/-! what the head must show of a def, of a method: one fact each -/
namespace L2
open PySem PyProof.Rows
inductive FE (K : PySem.W.Frag) (x : Str) (st : Stmt) : Prop
  | mk {f : Addr} {od an : Option Addr} {sl : Array (Option Value)} {oc kV dc pm cd ct : Value} (a : PySem.W.nsIn K mainGlobals x = some (some (.ref f))) (l : K.lookup f = some ⟨oc, od, .func (PySem.W.fnOf x x (defArgs st) (defBody st) (defScope st) .none kV dc pm an cd ct), sl⟩) (c : PySem.W.codeIn K cd x = true) (k : PySem.W.keepIn K (.ref f) = true) : FE K x st
variable {K : PySem.W.Frag} {h : Heap} {mg : Str → Option Value} {x q : Str} {st : Stmt} {ps : List Str} {C : Addr}
theorem FE.fn (X : K.In h) (G : h.Ns mainGlobals mg) (e : FE K x st) (b : ∀ f fd, Fun K x x st f fd → Binds K fd ps []) : ∃ f fd, Fn K mg x st ps f fd := by
  obtain ⟨a, l, c, k⟩ := e
  exact ⟨_, _, fun_mk l c k, PySem.W.mg_of X G a, b _ _ (fun_mk l c k)⟩
end L2
set_option Elab.async false
set_option linter.all false
set_option maxRecDepth 100000
namespace Pr
open PySem L2 PyProof.Rows
set_option maxHeartbeats 0 in
theorem txt_mk {K : PySem.W.Frag} {h : Heap} {mg : Str → Option Value} {C : Addr} (X : K.In h) (G : h.Ns mainGlobals mg) {t_LETTERS : Tok} {t_KEY_SIGNS : Tok} {t_MOST_KEY_SIGNS : Tok} {t_WIDE_FIGURES : Tok} {c_PeakError : Addr} {cd_PeakError : ClassData} {c_NoMoment : Addr} {cd_NoMoment : ClassData} {c_NoNumber : Addr} {cd_NoNumber : ClassData} {c_NoText : Addr} {cd_NoText : ClassData} {c_NoBounds : Addr} {cd_NoBounds : ClassData} {c_Gone : Addr} {cd_Gone : ClassData} {c_NoRow : Addr} {cd_NoRow : ClassData} {c_Held : Addr} {cd_Held : ClassData}
    (a1 : FE K "is_word" s_is_word)
    (a2 : FE K "is_key" s_is_key)
    (a3 : FE K "need_text" s_need_text)
    (a4 : FE K "whole_of" s_whole_of)
    (a5 : FE K "read_wide" s_read_wide)
    (a6 : FE K "read_entries" s_read_entries)
    (a7 : FE K "read_entry" s_read_entry)
    (a8 : FE K "_law_cell" s_law_cell)
    (a9 : FE K "_law_pot" s_law_pot)
    (a10 : FE K "_law_take" s_law_take)
    (a11 : FE K "_law_wide" s_law_wide)
    (a12 : FE K "_law_key" s_law_key)
    (a13 : FE K "_law_entry" s_law_entry)
    (a14 : FE K "_law_word" s_law_word)
    (a15 : FE K "_law_bad_words" s_law_bad_words)
    (a16 : FE K "_law_odd_key" s_law_odd_key)
    (a17 : FE K "_law_bad" s_law_bad)
    (a18 : FE K "_law_is_text_alone" s_law_is_text_alone)
    (a19 : FE K "_law_tried" s_law_tried)
    (a20 : FE K "law" s_law)
    (c_LETTERS : PySem.W.nsIn K mainGlobals "LETTERS" = some (some (.str "abcdefghijklmnopqrstuvwxyz" t_LETTERS)))
    (c_KEY_SIGNS : PySem.W.nsIn K mainGlobals "KEY_SIGNS" = some (some (.str "abcdefghijklmnopqrstuvwxyz0123456789" t_KEY_SIGNS)))
    (c_MOST_KEY_SIGNS : PySem.W.nsIn K mainGlobals "MOST_KEY_SIGNS" = some (some (.int 8 t_MOST_KEY_SIGNS)))
    (c_WIDE_FIGURES : PySem.W.nsIn K mainGlobals "WIDE_FIGURES" = some (some (.int 30 t_WIDE_FIGURES)))
    (b_ValueError : PySem.W.nsIn K mainGlobals "ValueError" = some none)
    (b_abs : PySem.W.nsIn K mainGlobals "abs" = some none)
    (b_all : PySem.W.nsIn K mainGlobals "all" = some none)
    (b_divmod : PySem.W.nsIn K mainGlobals "divmod" = some none)
    (b_int : PySem.W.nsIn K mainGlobals "int" = some none)
    (b_isinstance : PySem.W.nsIn K mainGlobals "isinstance" = some none)
    (b_len : PySem.W.nsIn K mainGlobals "len" = some none)
    (b_max : PySem.W.nsIn K mainGlobals "max" = some none)
    (b_min : PySem.W.nsIn K mainGlobals "min" = some none)
    (b_range : PySem.W.nsIn K mainGlobals "range" = some none)
    (b_repr : PySem.W.nsIn K mainGlobals "repr" = some none)
    (b_str : PySem.W.nsIn K mainGlobals "str" = some none)
    (esp : PySem.W.specialIn K (.builtin "object.__class__") "__get__" = some (some (.builtin "getset_descriptor.__get__")))
    (etk : PySem.W.takesIn K (.builtin "object.__class__") = some true)
    (ea_PeakError : PySem.W.nsIn K mainGlobals "PeakError" = some (some (.ref c_PeakError)))
    (eo_PeakError : PySem.W.excIn K c_PeakError bmV "ValueError.__new__" = true)
    (eg_PeakError : PySem.W.findIn K (.ref c_PeakError) "__getattribute__" = some (some (.builtin "BaseException.__getattribute__")))
    (en_PeakError : PySem.W.findIn K (.ref c_PeakError) "__getattr__" = some none)
    (ef_PeakError : PySem.W.findIn K (.ref c_PeakError) "__class__" = some (some (.builtin "object.__class__")))
    (em_PeakError : PySem.W.mroIn K c_PeakError (.type "object") = some true)
    (es_PeakError : PySem.W.subIn K (.ref c_PeakError) (.type "BaseException") = some true)
    (ec_PeakError : PySem.W.clsIn K c_PeakError = some cd_PeakError)
    (ea_NoMoment : PySem.W.nsIn K mainGlobals "NoMoment" = some (some (.ref c_NoMoment)))
    (eo_NoMoment : PySem.W.excIn K c_NoMoment bmV "ValueError.__new__" = true)
    (eg_NoMoment : PySem.W.findIn K (.ref c_NoMoment) "__getattribute__" = some (some (.builtin "BaseException.__getattribute__")))
    (en_NoMoment : PySem.W.findIn K (.ref c_NoMoment) "__getattr__" = some none)
    (ef_NoMoment : PySem.W.findIn K (.ref c_NoMoment) "__class__" = some (some (.builtin "object.__class__")))
    (em_NoMoment : PySem.W.mroIn K c_NoMoment (.type "object") = some true)
    (es_NoMoment : PySem.W.subIn K (.ref c_NoMoment) (.type "BaseException") = some true)
    (ec_NoMoment : PySem.W.clsIn K c_NoMoment = some cd_NoMoment)
    (ea_NoNumber : PySem.W.nsIn K mainGlobals "NoNumber" = some (some (.ref c_NoNumber)))
    (eo_NoNumber : PySem.W.excIn K c_NoNumber bmV "ValueError.__new__" = true)
    (eg_NoNumber : PySem.W.findIn K (.ref c_NoNumber) "__getattribute__" = some (some (.builtin "BaseException.__getattribute__")))
    (en_NoNumber : PySem.W.findIn K (.ref c_NoNumber) "__getattr__" = some none)
    (ef_NoNumber : PySem.W.findIn K (.ref c_NoNumber) "__class__" = some (some (.builtin "object.__class__")))
    (em_NoNumber : PySem.W.mroIn K c_NoNumber (.type "object") = some true)
    (es_NoNumber : PySem.W.subIn K (.ref c_NoNumber) (.type "BaseException") = some true)
    (ec_NoNumber : PySem.W.clsIn K c_NoNumber = some cd_NoNumber)
    (ea_NoText : PySem.W.nsIn K mainGlobals "NoText" = some (some (.ref c_NoText)))
    (eo_NoText : PySem.W.excIn K c_NoText bmV "ValueError.__new__" = true)
    (eg_NoText : PySem.W.findIn K (.ref c_NoText) "__getattribute__" = some (some (.builtin "BaseException.__getattribute__")))
    (en_NoText : PySem.W.findIn K (.ref c_NoText) "__getattr__" = some none)
    (ef_NoText : PySem.W.findIn K (.ref c_NoText) "__class__" = some (some (.builtin "object.__class__")))
    (em_NoText : PySem.W.mroIn K c_NoText (.type "object") = some true)
    (es_NoText : PySem.W.subIn K (.ref c_NoText) (.type "BaseException") = some true)
    (ec_NoText : PySem.W.clsIn K c_NoText = some cd_NoText)
    (ea_NoBounds : PySem.W.nsIn K mainGlobals "NoBounds" = some (some (.ref c_NoBounds)))
    (eo_NoBounds : PySem.W.excIn K c_NoBounds bmV "ValueError.__new__" = true)
    (eg_NoBounds : PySem.W.findIn K (.ref c_NoBounds) "__getattribute__" = some (some (.builtin "BaseException.__getattribute__")))
    (en_NoBounds : PySem.W.findIn K (.ref c_NoBounds) "__getattr__" = some none)
    (ef_NoBounds : PySem.W.findIn K (.ref c_NoBounds) "__class__" = some (some (.builtin "object.__class__")))
    (em_NoBounds : PySem.W.mroIn K c_NoBounds (.type "object") = some true)
    (es_NoBounds : PySem.W.subIn K (.ref c_NoBounds) (.type "BaseException") = some true)
    (ec_NoBounds : PySem.W.clsIn K c_NoBounds = some cd_NoBounds)
    (ea_Gone : PySem.W.nsIn K mainGlobals "Gone" = some (some (.ref c_Gone)))
    (eo_Gone : PySem.W.excIn K c_Gone bmV "ValueError.__new__" = true)
    (eg_Gone : PySem.W.findIn K (.ref c_Gone) "__getattribute__" = some (some (.builtin "BaseException.__getattribute__")))
    (en_Gone : PySem.W.findIn K (.ref c_Gone) "__getattr__" = some none)
    (ef_Gone : PySem.W.findIn K (.ref c_Gone) "__class__" = some (some (.builtin "object.__class__")))
    (em_Gone : PySem.W.mroIn K c_Gone (.type "object") = some true)
    (es_Gone : PySem.W.subIn K (.ref c_Gone) (.type "BaseException") = some true)
    (ec_Gone : PySem.W.clsIn K c_Gone = some cd_Gone)
    (ea_NoRow : PySem.W.nsIn K mainGlobals "NoRow" = some (some (.ref c_NoRow)))
    (eo_NoRow : PySem.W.excIn K c_NoRow bmV "ValueError.__new__" = true)
    (eg_NoRow : PySem.W.findIn K (.ref c_NoRow) "__getattribute__" = some (some (.builtin "BaseException.__getattribute__")))
    (en_NoRow : PySem.W.findIn K (.ref c_NoRow) "__getattr__" = some none)
    (ef_NoRow : PySem.W.findIn K (.ref c_NoRow) "__class__" = some (some (.builtin "object.__class__")))
    (em_NoRow : PySem.W.mroIn K c_NoRow (.type "object") = some true)
    (es_NoRow : PySem.W.subIn K (.ref c_NoRow) (.type "BaseException") = some true)
    (ec_NoRow : PySem.W.clsIn K c_NoRow = some cd_NoRow)
    (ea_Held : PySem.W.nsIn K mainGlobals "Held" = some (some (.ref c_Held)))
    (eo_Held : PySem.W.excIn K c_Held bmV "ValueError.__new__" = true)
    (eg_Held : PySem.W.findIn K (.ref c_Held) "__getattribute__" = some (some (.builtin "BaseException.__getattribute__")))
    (en_Held : PySem.W.findIn K (.ref c_Held) "__getattr__" = some none)
    (ef_Held : PySem.W.findIn K (.ref c_Held) "__class__" = some (some (.builtin "object.__class__")))
    (em_Held : PySem.W.mroIn K c_Held (.type "object") = some true)
    (es_Held : PySem.W.subIn K (.ref c_Held) (.type "BaseException") = some true)
    (ec_Held : PySem.W.clsIn K c_Held = some cd_Held)
    (kv_NoText : PySem.W.kitOne K (.ref c_NoText) (.type "ValueError") = some true)
    (e_NoText_PeakError : PySem.W.exmOne K (.ref c_NoText) (.ref c_PeakError) = some true)
    (k_NoText_NoMoment : PySem.W.kitOne K (.ref c_NoText) (.ref c_NoMoment) = some false)
    (k_NoText_NoNumber : PySem.W.kitOne K (.ref c_NoText) (.ref c_NoNumber) = some false)
    (k_NoText_NoText : PySem.W.kitOne K (.ref c_NoText) (.ref c_NoText) = some true)
    (k_NoText_NoBounds : PySem.W.kitOne K (.ref c_NoText) (.ref c_NoBounds) = some false)
    (k_NoText_Gone : PySem.W.kitOne K (.ref c_NoText) (.ref c_Gone) = some false)
    (k_NoText_NoRow : PySem.W.kitOne K (.ref c_NoText) (.ref c_NoRow) = some false)
    (k_NoText_Held : PySem.W.kitOne K (.ref c_NoText) (.ref c_Held) = some false) : Txt K mg C :=
  ⟨a1.fn X G fun _ _ F => F.b3 (by intros; rfl),
   a2.fn X G fun _ _ F => F.b1 (by intros; rfl),
   a3.fn X G fun _ _ F => F.b1 (by intros; rfl),
   a4.fn X G fun _ _ F => F.b2 (by intros; rfl),
   a5.fn X G fun _ _ F => F.b1 (by intros; rfl),
   a6.fn X G fun _ _ F => F.b1 (by intros; rfl),
   a7.fn X G fun _ _ F => F.b1 (by intros; rfl),
   a8.fn X G fun _ _ F => F.b2 (by intros; rfl),
   a9.fn X G fun _ _ F => F.b1 (by intros; rfl),
   a10.fn X G fun _ _ F => F.b2 (by intros; rfl),
   a11.fn X G fun _ _ F => F.b1 (by intros; rfl),
   a12.fn X G fun _ _ F => F.b1 (by intros; rfl),
   a13.fn X G fun _ _ F => F.b1 (by intros; rfl),
   a14.fn X G fun _ _ F => F.b1 (by intros; rfl),
   a15.fn X G fun _ _ F => F.b1 (by intros; rfl),
   a16.fn X G fun _ _ F => F.b2 (by intros; rfl),
   a17.fn X G fun _ _ F => F.b2 (by intros; rfl),
   a18.fn X G fun _ _ F => F.b1 (by intros; rfl),
   a19.fn X G fun _ _ F => F.b1 (by intros; rfl),
   a20.fn X G fun _ _ F => F.b1 (by intros; rfl),
   ⟨_, PySem.W.mg_of X G c_LETTERS⟩,
   ⟨_, PySem.W.mg_of X G c_KEY_SIGNS⟩,
   ⟨_, PySem.W.mg_of X G c_MOST_KEY_SIGNS⟩,
   ⟨_, PySem.W.mg_of X G c_WIDE_FIGURES⟩,
   PySem.W.mg_none_of X G b_ValueError,
   PySem.W.mg_none_of X G b_abs,
   PySem.W.mg_none_of X G b_all,
   PySem.W.mg_none_of X G b_divmod,
   PySem.W.mg_none_of X G b_int,
   PySem.W.mg_none_of X G b_isinstance,
   PySem.W.mg_none_of X G b_len,
   PySem.W.mg_none_of X G b_max,
   PySem.W.mg_none_of X G b_min,
   PySem.W.mg_none_of X G b_range,
   PySem.W.mg_none_of X G b_repr,
   PySem.W.mg_none_of X G b_str,
   xc_mk (PySem.W.mg_of X G ea_PeakError) eo_PeakError eg_PeakError en_PeakError ef_PeakError esp etk em_PeakError es_PeakError ec_PeakError,
   xc_mk (PySem.W.mg_of X G ea_NoMoment) eo_NoMoment eg_NoMoment en_NoMoment ef_NoMoment esp etk em_NoMoment es_NoMoment ec_NoMoment,
   xc_mk (PySem.W.mg_of X G ea_NoNumber) eo_NoNumber eg_NoNumber en_NoNumber ef_NoNumber esp etk em_NoNumber es_NoNumber ec_NoNumber,
   xc_mk (PySem.W.mg_of X G ea_NoText) eo_NoText eg_NoText en_NoText ef_NoText esp etk em_NoText es_NoText ec_NoText,
   xc_mk (PySem.W.mg_of X G ea_NoBounds) eo_NoBounds eg_NoBounds en_NoBounds ef_NoBounds esp etk em_NoBounds es_NoBounds ec_NoBounds,
   xc_mk (PySem.W.mg_of X G ea_Gone) eo_Gone eg_Gone en_Gone ef_Gone esp etk em_Gone es_Gone ec_Gone,
   xc_mk (PySem.W.mg_of X G ea_NoRow) eo_NoRow eg_NoRow en_NoRow ef_NoRow esp etk em_NoRow es_NoRow ec_NoRow,
   xc_mk (PySem.W.mg_of X G ea_Held) eo_Held eg_Held en_Held ef_Held esp etk em_Held es_Held ec_Held,
   (by rw [cOf_eq (PySem.W.mg_of X G ea_NoText)]; exact kv_NoText),
   (by rw [cOf_eq (PySem.W.mg_of X G ea_NoText), cOf_eq (PySem.W.mg_of X G ea_PeakError)]; exact e_NoText_PeakError),
   (by rw [cOf_eq (PySem.W.mg_of X G ea_NoText), cOf_eq (PySem.W.mg_of X G ea_NoMoment)]; exact k_NoText_NoMoment),
   (by rw [cOf_eq (PySem.W.mg_of X G ea_NoText), cOf_eq (PySem.W.mg_of X G ea_NoNumber)]; exact k_NoText_NoNumber),
   (by rw [cOf_eq (PySem.W.mg_of X G ea_NoText)]; exact k_NoText_NoText),
   (by rw [cOf_eq (PySem.W.mg_of X G ea_NoText), cOf_eq (PySem.W.mg_of X G ea_NoBounds)]; exact k_NoText_NoBounds),
   (by rw [cOf_eq (PySem.W.mg_of X G ea_NoText), cOf_eq (PySem.W.mg_of X G ea_Gone)]; exact k_NoText_Gone),
   (by rw [cOf_eq (PySem.W.mg_of X G ea_NoText), cOf_eq (PySem.W.mg_of X G ea_NoRow)]; exact k_NoText_NoRow),
   (by rw [cOf_eq (PySem.W.mg_of X G ea_NoText), cOf_eq (PySem.W.mg_of X G ea_Held)]; exact k_NoText_Held)⟩
end Pr
set_option Elab.async false
set_option linter.all false
set_option maxRecDepth 100000
open PySem PySem.W PyProof.Rows
def PySem.W.Fast.tw861502493610598483 : Nat := 0
def PySem.W.Fast.tw11337920880029341357 : Nat := 0
def PySem.W.Fast.tw7774113678449685934 : Nat := 0
def PySem.W.Fast.tw5720953745727125496 : Nat := 0
def PySem.W.Fast.tw2343285291557775378 : Nat := 0
def PySem.W.Fast.tw7893645736953833228 : Nat := 0
def PySem.W.Fast.tw690982183779967211 : Nat := 0
def PySem.W.Fast.tw17059841922676754641 : Nat := 0
def PySem.W.Fast.tw14382375192886884664 : Nat := 0
def PySem.W.Fast.tw1478030337931831861 : Nat := 0
def PySem.W.Fast.tw9592521066531166775 : Nat := 0
def PySem.W.Fast.tw2786648768249225349 : Nat := 0
def PySem.W.Fast.tw17483705464198625004 : Nat := 0
def PySem.W.Fast.tw6968137755033780318 : Nat := 0
def PySem.W.Fast.tw13469501207593853456 : Nat := 0
def PySem.W.Fast.tw8002303944043701648 : Nat := 0
def PySem.W.Fast.tw15438627641174518403 : Nat := 0
def PySem.W.Fast.tw12903330217458380548 : Nat := 0
def PySem.W.Fast.tw5459702643516471331 : Nat := 0
def PySem.W.Fast.tw5072417060200589145 : Nat := 0
def PySem.W.Fast.tw15163409612377130007 : Nat := 0
def PySem.W.Fast.tw17653592248189364939 : Nat := 0
def PySem.W.Fast.tw2135409205425526673 : Nat := 0
def PySem.W.Fast.tw13055953723892786844 : Nat := 0
def PySem.W.Fast.tw2314633323536394700 : Nat := 0
def PySem.W.Fast.tw13114645530532618160 : Nat := 0
set_option maxHeartbeats 0 in
open_top hd for PySem.Challenge.rw_peakroll_k24_no_entries_text
set_option maxHeartbeats 0 in
theorem PySem.Challenge.cw_peakroll_k24_no_entries_text_holds : PySem.Challenge.rw_peakroll_k24_no_entries_text.Holds := by
  refine hd ?_
  k_fill
  refine Pr.walk (l := PySem.Challenge.rw_peakroll_k24_no_entries_text) rfl rfl (fun w h Y => PySem.W.kIn_of Y) ?F
  case F =>
    intro w mg fa h KX G hmg
    have T : ∃ C, Pr.Txt (L2.KOf KX) mg C := by
      dsimp only [L2.KOf]
      refine' ⟨0, Pr.txt_mk (C := 0) KX G ?a1 ?a2 ?a3 ?a4 ?a5 ?a6 ?a7 ?a8 ?a9 ?a10 ?a11 ?a12 ?a13 ?a14 ?a15 ?a16 ?a17 ?a18 ?a19 ?a20 ?c_LETTERS ?c_KEY_SIGNS ?c_MOST_KEY_SIGNS ?c_WIDE_FIGURES ?b_ValueError ?b_abs ?b_all ?b_divmod ?b_int ?b_isinstance ?b_len ?b_max ?b_min ?b_range ?b_repr ?b_str ?esp ?etk ?ea_PeakError ?eo_PeakError ?eg_PeakError ?en_PeakError ?ef_PeakError ?em_PeakError ?es_PeakError ?ec_PeakError ?ea_NoMoment ?eo_NoMoment ?eg_NoMoment ?en_NoMoment ?ef_NoMoment ?em_NoMoment ?es_NoMoment ?ec_NoMoment ?ea_NoNumber ?eo_NoNumber ?eg_NoNumber ?en_NoNumber ?ef_NoNumber ?em_NoNumber ?es_NoNumber ?ec_NoNumber ?ea_NoText ?eo_NoText ?eg_NoText ?en_NoText ?ef_NoText ?em_NoText ?es_NoText ?ec_NoText ?ea_NoBounds ?eo_NoBounds ?eg_NoBounds ?en_NoBounds ?ef_NoBounds ?em_NoBounds ?es_NoBounds ?ec_NoBounds ?ea_Gone ?eo_Gone ?eg_Gone ?en_Gone ?ef_Gone ?em_Gone ?es_Gone ?ec_Gone ?ea_NoRow ?eo_NoRow ?eg_NoRow ?en_NoRow ?ef_NoRow ?em_NoRow ?es_NoRow ?ec_NoRow ?ea_Held ?eo_Held ?eg_Held ?en_Held ?ef_Held ?em_Held ?es_Held ?ec_Held ?kv_NoText ?e_NoText_PeakError ?k_NoText_NoMoment ?k_NoText_NoNumber ?k_NoText_NoText ?k_NoText_NoBounds ?k_NoText_Gone ?k_NoText_NoRow ?k_NoText_Held⟩
      (case a1 | a2 | a3 | a4 | a5 | a6 | a7 | a8 | a9 | a10 | a11 | a12 | a13 | a14 | a15 | a16 | a17 | a18 | a19 | a20 => apply L2.FE.mk; k_is; k_is; k_is; k_is)
      (case c_LETTERS | c_KEY_SIGNS | c_MOST_KEY_SIGNS | c_WIDE_FIGURES | b_ValueError | b_abs | b_all | b_divmod | b_int | b_isinstance | b_len | b_max | b_min | b_range | b_repr | b_str | esp | etk => k_is)
      (case ea_PeakError => k_is)
      (case eo_PeakError => k_exc)
      (case eg_PeakError => k_is)
      (case en_PeakError => k_is)
      (case ef_PeakError => k_is)
      (case em_PeakError => k_is)
      (case es_PeakError => k_is)
      (case ec_PeakError => k_is)
      (case ea_NoMoment => k_is)
      (case eo_NoMoment => k_exc)
      (case eg_NoMoment => k_is)
      (case en_NoMoment => k_is)
      (case ef_NoMoment => k_is)
      (case em_NoMoment => k_is)
      (case es_NoMoment => k_is)
      (case ec_NoMoment => k_is)
      (case ea_NoNumber => k_is)
      (case eo_NoNumber => k_exc)
      (case eg_NoNumber => k_is)
      (case en_NoNumber => k_is)
      (case ef_NoNumber => k_is)
      (case em_NoNumber => k_is)
      (case es_NoNumber => k_is)
      (case ec_NoNumber => k_is)
      (case ea_NoText => k_is)
      (case eo_NoText => k_exc)
      (case eg_NoText => k_is)
      (case en_NoText => k_is)
      (case ef_NoText => k_is)
      (case em_NoText => k_is)
      (case es_NoText => k_is)
      (case ec_NoText => k_is)
      (case ea_NoBounds => k_is)
      (case eo_NoBounds => k_exc)
      (case eg_NoBounds => k_is)
      (case en_NoBounds => k_is)
      (case ef_NoBounds => k_is)
      (case em_NoBounds => k_is)
      (case es_NoBounds => k_is)
      (case ec_NoBounds => k_is)
      (case ea_Gone => k_is)
      (case eo_Gone => k_exc)
      (case eg_Gone => k_is)
      (case en_Gone => k_is)
      (case ef_Gone => k_is)
      (case em_Gone => k_is)
      (case es_Gone => k_is)
      (case ec_Gone => k_is)
      (case ea_NoRow => k_is)
      (case eo_NoRow => k_exc)
      (case eg_NoRow => k_is)
      (case en_NoRow => k_is)
      (case ef_NoRow => k_is)
      (case em_NoRow => k_is)
      (case es_NoRow => k_is)
      (case ec_NoRow => k_is)
      (case ea_Held => k_is)
      (case eo_Held => k_exc)
      (case eg_Held => k_is)
      (case en_Held => k_is)
      (case ef_Held => k_is)
      (case em_Held => k_is)
      (case es_Held => k_is)
      (case ec_Held => k_is)
      (case kv_NoText => kit_is)
      (case e_NoText_PeakError => kts_exm)
      (case k_NoText_NoMoment => kit_is)
      (case k_NoText_NoNumber => kit_is)
      (case k_NoText_NoText => kit_is)
      (case k_NoText_NoBounds => kit_is)
      (case k_NoText_Gone => kit_is)
      (case k_NoText_NoRow => kit_is)
      (case k_NoText_Held => kit_is)
    obtain ⟨C, T⟩ := T
    exact Pr.law_all T hmg
