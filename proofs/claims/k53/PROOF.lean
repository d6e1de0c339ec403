import PyProof.Rows.All
import Wide.All
import OpenK.AllK
import Wide.FinOn
import Lean
import PyProof.EqAt
import PyProof.EqKinds
import PyProof.TupleCall
import KE.KTryMore
import PyProof.RaisesMany
import PyProof.RulesAs
import PyProof.ExcBaseAll.ValueError
import PyProof.NsDelKeeps
import KE.KIsNot
import PyProof.ExcArgs
import KE.RegKIsAll
import KE.RegKTryMore
import KE.KSortTup
import PyProof.SetRoads
import PyProof.CollectWalk
import PyProof.Walks
import PyProof.Rows.SortShell
import KE.KDictSum
import PyProof.Rows.SortWalk
import KE.KDictList
import PyProof.DictRoadsH
import KE.KSortAsk
import PyProof.TupleOfSeq
import PyProof.Rows.SetFrom
import PyProof.WalksMore
import PyProof.FactsAll.NoneType_1
import PySem.Challenge.RW_peakroll_k53_no_spans
set_option Elab.async false
set_option linter.all false
set_option maxRecDepth 100000
namespace L2
open PySem PySem.Spec PyProof.Rows
abbrev Key:=Sum Int Str
def keyIs:Key→Value→Bool
  | .inl k,v=>Value.isInt k v
  | .inr x,v=>Value.isStrOf x v
def keyH (w:World):Key→Int
  | .inl k=>hashInt k
  | .inr x=>hashStr w x
theorem keyIs_shape:∀ {k:Key} {v:Value},keyIs k v=true→(∃ i t,k=Sum.inl i∧v=Value.int i t)∨(∃ x t,k=Sum.inr x∧v=Value.str x t)
  | .inl i,v,h=>by
    obtain ⟨t,e⟩:=Value.isInt_shape (k:=i) (v:=v) h
    exact .inl ⟨i,t,rfl,e⟩
  | .inr x,v,h=>by
    obtain ⟨t,e⟩:=Value.isStrOf_shape (x:=x) (v:=v) h
    exact .inr ⟨x,t,rfl,e⟩
theorem keyIs_int (i:Int) (t:Tok):keyIs (.inl i) (.int i t)=true:=by simp [keyIs,Value.isInt]
theorem keyIs_str (x:Str) (t:Tok):keyIs (.inr x) (.str x t)=true:=by simp [keyIs,Value.isStrOf]
theorem key_ll (a b:Int):decide ((Sum.inl a:Key)=Sum.inl b)=(a == b):=by
  by_cases e:a=b
  · subst e; simp
  · have h:¬ (Sum.inl a:Key)=Sum.inl b:=fun q=>e (Sum.inl.inj q)
    rw [decide_eq_false h]
    exact (beq_eq_false_iff_ne.mpr e).symm
theorem key_rr (a b:Str):decide ((Sum.inr a:Key)=Sum.inr b)=decide (a=b):=by
  by_cases e:a=b
  · subst e; simp
  · have h:¬ (Sum.inr a:Key)=Sum.inr b:=fun q=>e (Sum.inr.inj q)
    rw [decide_eq_false h,decide_eq_false e]
theorem key_lr (a:Int) (b:Str):decide ((Sum.inl a:Key)=Sum.inr b)=false:=decide_eq_false (fun q=>nomatch q)
theorem key_rl (a:Str) (b:Int):decide ((Sum.inr a:Key)=Sum.inl b)=false:=decide_eq_false (fun q=>nomatch q)
def mixKind (prog:Program) (w:World):PySem.KeyKind prog w Key where
  is:=keyIs
  hash:=keyH w
  inj:=fun v a b ha hb=>by
    rcases keyIs_shape ha with ⟨i,t,rfl,rfl⟩ | ⟨x,t,rfl,rfl⟩
    · rcases keyIs_shape hb with ⟨j,u,rfl,e⟩ | ⟨y,u,rfl,e⟩
      · injection e with e1 _; rw [e1]
      · exact nomatch e
    · rcases keyIs_shape hb with ⟨j,u,rfl,e⟩ | ⟨y,u,rfl,e⟩
      · exact nomatch e
      · injection e with e1 _; rw [e1]
  byValue:=fun k v h=>by
    rcases keyIs_shape h with ⟨i,t,rfl,rfl⟩ | ⟨x,t,rfl,rfl⟩ <;> rfl
  pyHash:=fun hv h=>by
    rcases keyIs_shape hv with ⟨i,t,rfl,rfl⟩ | ⟨x,t,rfl,rfl⟩
    · exact wpAny_pyHash_int h
    · exact wpAny_pyHash_str h
  eqBool:=fun hu hv h=>by
    rcases keyIs_shape hu with ⟨i,t,rfl,rfl⟩ | ⟨x,t,rfl,rfl⟩
    · rcases keyIs_shape hv with ⟨j,u,rfl,rfl⟩ | ⟨y,u,rfl,rfl⟩
      · rw [key_ll] at h; exact wpAny_eqBool_int h
      · rw [key_lr] at h; exact SeqAt.EqAt.int_str i t y u _ _ _ _ h
    · rcases keyIs_shape hv with ⟨j,u,rfl,rfl⟩ | ⟨y,u,rfl,rfl⟩
      · rw [key_rl] at h; exact SeqAt.EqAt.str_int x t j u _ _ _ _ h
      · rw [key_rr] at h; exact wpAny_eqBool_str h
  «strs»:=fun k x t v h=>by
    rcases keyIs_shape h with ⟨i,u,rfl,e⟩ | ⟨y,u,rfl,e⟩
    · exact nomatch e
    · injection e with e1 _
      subst e1
      cases v <;> rfl
theorem mixKind_int (prog:Program) (w:World) (i:Int) (t:Tok):(mixKind prog w).is (.inl i) (.int i t)=true:=keyIs_int i t
theorem mixKind_str (prog:Program) (w:World) (x:Str) (t:Tok):(mixKind prog w).is (.inr x) (.str x t)=true:=keyIs_str x t
end L2
namespace L2
open PySem PySem.Spec PyProof.Rows
inductive V where
  | non | bl (b:Bool) | int (i:Int) | str (x:Str) | byt (b:Array UInt8) | flt (b:UInt64) | ref (a:Addr) | ty (n:String)
  deriving DecidableEq
def RelV:V→Value→Prop
  | .non,u=>u=Value.none
  | .bl b,u=>u=Value.bool b
  | .int i,u=>∃ t,u=Value.int i t
  | .str x,u=>∃ t,u=Value.str x t
  | .byt b,u=>∃ t,u=Value.bytes b t
  | .flt b,u=>∃ t,u=Value.float b t
  | .ref a,u=>u=Value.ref a
  | .ty n,u=>u=Value.type n
abbrev Vals:List V→List Value→Prop:=Paired RelV
theorem Vals.length {xs:List V} {us:List Value} (r:Vals xs us):xs.length=us.length:=Paired.length r
theorem Vals.get:∀ {xs:List V} {us:List Value} {i:Nat} {x:V},Vals xs us→xs[i]?=some x→∃ u,us[i]?=some u∧RelV x u
  | _,_,_,_,.nil,e=>by simp at e
  | _,_,0,_,.cons r _,e=>by simp at e; subst e; exact ⟨_,rfl,r⟩
  | _,_,i + 1,x,.cons _ t,e=>by
    obtain ⟨u,h1,h2⟩:=Vals.get (i:=i) (x:=x) t (by simpa using e)
    exact ⟨u,by simpa using h1,h2⟩
theorem Vals.set {x:V} {u:Value} (r:RelV x u):∀ {xs:List V} {us:List Value} (i:Nat),Vals xs us→Vals (xs.set i x) (us.set i u)
  | _,_,_,.nil=>.nil
  | _,_,0,.cons _ t=>.cons r t
  | _,_,i + 1,.cons q t=>.cons q (Vals.set r i t)
theorem Vals.append:∀ {xs ys:List V} {us ws:List Value},Vals xs us→Vals ys ws→Vals (xs++ys) (us++ws)
  | _,_,_,_,.nil,s=>s
  | _,_,_,_,.cons r t,s=>.cons r (Vals.append t s)
theorem Vals.take:∀ {xs:List V} {us:List Value} (n:Nat),Vals xs us→Vals (xs.take n) (us.take n)
  | _,_,0,_=>.nil
  | _,_,_ + 1,.nil=>.nil
  | _,_,n + 1,.cons r t=>.cons r (Vals.take n t)
theorem Vals.drop:∀ {xs:List V} {us:List Value} (n:Nat),Vals xs us→Vals (xs.drop n) (us.drop n)
  | _,_,0,r=>r
  | _,_,_ + 1,.nil=>.nil
  | _,_,n + 1,.cons _ t=>Vals.drop n t
def RelO:Option V→Option Value→Prop
  | some v,some u=>RelV v u
  | none,none=>True
  | _,_=>False
def KV {κ:Type}:List (κ × V)→List (κ × Value)→Prop:=Paired fun (p:κ × V) (q:κ × Value)=>p.1=q.1∧RelV p.2 q.2
def kV:Key→V
  | .inl i=>.int i
  | .inr x=>.str x
inductive HO where
  | lst (xs:List V)
  | tup (xs:List V)
  | dK (kvs:List (Key × V)) | dT (kvs:List (List Key × V))
  | set (S:Int→Bool) (n:Nat)
  | ins (C dx:Addr) (fs:List (Str × V))
  | own (x:Addr)
  | xd (fs:List (Str × V))
  | met (f x:Addr)
  | rng (lo hi:Int)
  | frz (o:Obj) (u:HO)
  | tbl (ps:Array Value)
  | ext (φ:Heap→Prop)
abbrev Hp:=Addr→Option HO
def upd (H:Hp) (a:Addr) (o:HO):Hp:=fun b=>if b=a then some o else H b
theorem upd_same {H:Hp} {a:Addr} {o:HO}:upd H a o a=some o:=by unfold upd; rw [if_pos rfl]
theorem upd_ne {H:Hp} {a b:Addr} {o:HO} (h:b≠a):upd H a o b=H b:=by unfold upd; rw [if_neg h]
theorem upd_upd {H:Hp} {a:Addr} {o u:HO}:upd (upd H a o) a u=upd H a u:=by
  funext b; unfold upd; split <;> rfl
theorem ne_of {H:Hp} {a b:Addr} {o u:HO} (h:H a=some o) (h':H b=some u) (d:o≠u):a≠b:=by
  intro e; subst e; rw [h] at h'; exact d (Option.some.inj h')
theorem ne_of_none {H:Hp} {a b:Addr} {o:HO} (h:H a=some o) (h':H b=none):a≠b:=by
  intro e; subst e; rw [h] at h'; cases h'
section
variable (P:Program) (w:World)
def ObjOk (H:Hp) (h:Heap) (a:Addr):HO→Prop
  | .lst xs=>xs.length≤sizeLine∧∃ (its:List Value) (n:Nat),Vals xs its∧h.get? a=some { cls:=.type "list",data:=.seq its.toArray n }
  | .tup xs=>xs.length≤sizeLine∧∃ its:List Value,Vals xs its∧IsTup h a its.toArray
  | .dK kvs=>kvs.length≤sizeLine∧(a == sysModules)=false∧∃ vs,KV kvs vs∧h.DictOf (mixKind P w) a vs
  | .dT kvs=>kvs.length≤sizeLine∧(a == sysModules)=false∧∃ xs:List (List Key × Addr × Value),
      Paired (fun (p:List Key × V) (q:List Key × Addr × Value)=>p.1=q.1∧H q.2.1=some (.tup (p.1.map kV))∧RelV p.2 q.2.2) kvs xs ∧
      ∃ o es ep,h.get? a=some o∧o.ExactDict∧o.data=.dict es ep∧es.toList=xs.map (entryOfKey (tupleKind (mixKind P w)))∧(xs.map (·.1)).Nodup
  | .set S n=>h.SetOf (intKind P w) a S n
  | .ins C dx fs=>H dx=some (.own a)∧fs.length≤1000∧dx≠a∧h.get? a=some (PySem.W.instObj C dx) ∧
      ∃ mA,h.Ns1 dx mA∧(∀ f,RelO (fs.lookup f) (mA f))∧PySem.Within mA (fs.map (·.1))
  | .own _=>∃ o,h.get? a=some o
  | .xd fs=>∃ mA,h.Ns1 a mA∧∀ f,RelO (fs.lookup f) (mA f)
  | .rng lo hi=>∃ t u v,h.get? a=some { cls:=.type "range",data:=.fields #[.int lo t,.int hi u,.int 1 v] }
  | .frz o u=>h.get? a=some o∧ObjOk H h a u
  | .tbl ps=>h.get? a=some { cls:=.none,data:=.fields ps }
  | .met f x=>h.get? a=some (PySem.W.methodObj (.ref f) (.ref x))
  | .ext φ=>φ h∧(∃ o,h.get? a=some o)∧∀ h1 h2:Heap,φ h1→(∀ o,h1.get? a=some o→h2.get? a=some o)→φ h2
def HOk (H:Hp) (h:Heap):Prop:=∀ a o,H a=some o→ObjOk P w H h a o
end
section
variable {P:Program} {w:World} {H H':Hp} {h h':Heap} {a:Addr} {o:HO}
theorem ObjOk.lt (x:ObjOk P w H h a o):a < h.objs.size:=by
  cases o with
  | lst xs=>obtain ⟨_,_,_,_,e⟩:=x; exact Heap.lt_size e
  | tup xs=>obtain ⟨_,_,_,p⟩:=x; exact p.lt
  | dK kvs=>obtain ⟨_,_,_,_,o,_,_,e,_⟩:=x; exact Heap.lt_size e
  | dT kvs=>obtain ⟨_,_,_,_,o,_,_,e,_⟩:=x; exact Heap.lt_size e
  | set S n=>obtain ⟨o,_,_,_,e,_⟩:=x; exact Heap.lt_size e
  | ins C dx fs=>obtain ⟨_,_,_,e,_⟩:=x; exact Heap.lt_size e
  | own y=>obtain ⟨_,e⟩:=x; exact Heap.lt_size e
  | xd fs=>obtain ⟨_,⟨_,_,_,e,_⟩,_⟩:=x; exact Heap.lt_size e
  | rng lo hi=>obtain ⟨_,_,_,e⟩:=x; exact Heap.lt_size e
  | frz ob u=>obtain ⟨e,_⟩:=x; exact Heap.lt_size e
  | tbl ps=>exact Heap.lt_size (show h.get? a=some _ from x)
  | met f y=>exact Heap.lt_size (show h.get? a=some _ from x)
  | ext φ=>obtain ⟨_,⟨_,e⟩,_⟩:=x; exact Heap.lt_size e
theorem Paired.mapP {α β:Type} {F G:α→β→Prop}:∀ {l₁:List α} {l₂:List β},Paired F l₁ l₂→(∀ a b,F a b→G a b)→Paired G l₁ l₂
  | _,_,.nil,_=>.nil
  | _,_,.cons r t,f=>.cons (f _ _ r) (Paired.mapP t f)
theorem ObjOk.stay (x:ObjOk P w H h a o) (k:∀ b u,(b=a∨H b=some (.own a))→h.get? b=some u→h'.get? b=some u)
    (ho:∀ b,H b=some (.own a)→H' b=some (.own a)) (ht:∀ b xs,H b=some (.tup xs)→H' b=some (.tup xs)):ObjOk P w H' h' a o:=by
  induction o with
  | lst xs=>obtain ⟨z,its,n,r,e⟩:=x; exact ⟨z,its,n,r,k _ _ (.inl rfl) e⟩
  | tup xs=>obtain ⟨z,its,r,ob,e,c⟩:=x; exact ⟨z,its,r,ob,k _ _ (.inl rfl) e,c⟩
  | dK kvs=>obtain ⟨z,y,vs,r,ob,es,ep,e,c⟩:=x; exact ⟨z,y,vs,r,ob,es,ep,k _ _ (.inl rfl) e,c⟩
  | dT kvs =>
    obtain ⟨z,y,xs,r,ob,es,ep,e,c⟩:=x
    exact ⟨z,y,xs,Paired.mapP r fun p q z=>⟨z.1,ht _ _ z.2.1,z.2.2⟩,ob,es,ep,k _ _ (.inl rfl) e,c⟩
  | set S n=>obtain ⟨ob,es,ep,t,e,c⟩:=x; exact ⟨ob,es,ep,t,k _ _ (.inl rfl) e,c⟩
  | ins C dx fs =>
    obtain ⟨d,z,ne,e,mA,⟨od,es,ep,e2,c⟩,r⟩:=x
    exact ⟨ho _ d,z,ne,k _ _ (.inl rfl) e,mA,⟨od,es,ep,k _ _ (.inr d) e2,c⟩,r⟩
  | own y=>obtain ⟨ob,e⟩:=x; exact ⟨ob,k _ _ (.inl rfl) e⟩
  | xd fs=>obtain ⟨mA,⟨od,es,ep,e,c⟩,r⟩:=x; exact ⟨mA,⟨od,es,ep,k _ _ (.inl rfl) e,c⟩,r⟩
  | rng lo hi=>obtain ⟨t,u,v,e⟩:=x; exact ⟨t,u,v,k _ _ (.inl rfl) e⟩
  | frz ob u ih=>obtain ⟨e,q⟩:=x; exact ⟨k _ _ (.inl rfl) e,ih q⟩
  | tbl ps =>
    have e:h.get? a=some { cls:=.none,data:=.fields ps }:=x
    show h'.get? a=some { cls:=.none,data:=.fields ps }
    exact k a _ (.inl rfl) e
  | met f y =>
    have e:h.get? a=some (PySem.W.methodObj (.ref f) (.ref y)):=x
    show h'.get? a=some (PySem.W.methodObj (.ref f) (.ref y))
    exact k a _ (.inl rfl) e
  | ext φ=>obtain ⟨p,⟨o,e⟩,st⟩:=x; exact ⟨st _ _ p fun o q=>k _ _ (.inl rfl) q,⟨o,k _ _ (.inl rfl) e⟩,st⟩
theorem HOk.lt (x:HOk P w H h) (e:H a=some o):a < h.objs.size:=(x a o e).lt
theorem HOk.fresh (x:HOk P w H h) (e:h.objs.size≤a):H a=none:=by
  cases q:H a with
  | none=>rfl
  | some u=>exact absurd (Nat.lt_of_lt_of_le (x.lt q) e) (Nat.lt_irrefl _)
theorem HOk.kept (x:HOk P w H h) (k:∀ b u,h.get? b=some u→h'.get? b=some u):HOk P w H h':=fun a o e =>
  (x a o e).stay (fun b u _ q=>k b u q) (fun _ q=>q) fun _ _ q=>q
theorem HOk.laid (x:HOk P w H h) (k:∀ b u,h.get? b=some u→h'.get? b=some u) (hp:h.objs.size≤a) (new:ObjOk P w (upd H a o) h' a o):HOk P w (upd H a o) h':=fun b u e=>by
  have hn:=x.fresh hp
  by_cases hb:b=a
  · subst hb; rw [upd_same] at e; cases e; exact new
  · rw [upd_ne hb] at e
    exact (x b u e).stay (fun c v _ q=>k c v q) (fun c q=>by rw [upd_ne (ne_of_none q hn)]; exact q) fun c xs q=>by rw [upd_ne (ne_of_none q hn)]; exact q
end
def Rd (H:Hp) (a:Addr) (u:HO):Prop:=H a=some u∨∃ o,H a=some (.frz o u)
theorem Rd.ok {P:Program} {w:World} {H:Hp} {h:Heap} {a:Addr} {u:HO} (r:Rd H a u) (x:HOk P w H h):ObjOk P w H h a u:=by
  rcases r with r | ⟨o,r⟩
  · exact x a u r
  · obtain ⟨_,q⟩:=x a _ r
    exact q
def Mut:Option HO→Prop
  | some (.lst _)=>True
  | some (.dK _)=>True
  | some (.dT _)=>True
  | some (.set _ _)=>True
  | some (.ins _ _ _)=>True
  | some (.ext _)=>True
  | _=>False
section
variable {P:Program} {w:World} {H:Hp} {h h':Heap} {x e:Addr} {o':HO}
theorem HOk.write (ok:HOk P w H h) (mu:Mut (H x)) (he:e=x∨H e=some (.own x)) (k:∀ b u,b≠e→h.get? b=some u→h'.get? b=some u) (heo:∃ u,h'.get? e=some u)
    (new:ObjOk P w (upd H x o') h' x o'):HOk P w (upd H x o') h':=fun b u q=>by
  have nown:∀ c y,H c=some (.own y)→c≠x:=fun c y r z=>by subst z; rw [r] at mu; exact mu
  have ntup:∀ c xs,H c=some (.tup xs)→c≠x:=fun c xs r z=>by subst z; rw [r] at mu; exact mu
  by_cases hb:b=x
  · subst hb; rw [upd_same] at q; cases q; exact new
  · rw [upd_ne hb] at q
    by_cases hbe:b=e
    · have q':H b=some (.own x):=by
        rcases he with z | z
        · exact absurd (hbe.trans z) hb
        · rw [hbe]; exact z
      rw [q] at q'; cases q'
      obtain ⟨v,hv⟩:=heo
      exact ⟨v,by rw [hbe]; exact hv⟩
    · refine (ok b u q).stay (fun c v hc r=>k c v ?_ r) (fun c r=>by rw [upd_ne (nown c b r)]; exact r) fun c xs r=>by rw [upd_ne (ntup c xs r)]; exact r
      rcases hc with rfl | hc
      · exact hbe
      · rintro rfl
        rcases he with z | z
        · exact nown c b hc z
        · rw [hc] at z; cases z; exact hb rfl
end
structure Un (fs ex:List Addr) (H H':Hp) (h h':Heap):Prop where
  keep:∀ b o,h.get? b=some o→H b=none→b ∉ fs→b ∉ ex→h'.get? b=some o
  slot:∀ b o,h.get? b=some o→H b=none→b ∈ fs→b ∉ ex→∃ sl,h'.get? b=some { o with slots:=sl }
  free:∀ b o,h.get? b=some o→H b=none→b ∉ ex→H' b=none
  there:∀ b o,h.get? b=some o→b ∉ ex→∃ o',h'.get? b=some o'
  tups:∀ b xs,H b=some (.tup xs)→H' b=some (.tup xs)
  frzs:∀ b o u,H b=some (.frz o u)→H' b=some (.frz o u)
  tbls:∀ b ps,H b=some (.tbl ps)→∃ more,H' b=some (.tbl (ps++more))
section
variable {fs fs' ex ex':List Addr} {H H1 H2:Hp} {h h1 h2 h':Heap} {a x e:Addr} {o:HO}
theorem Un.any (u:Un fs ex H H1 h h1) {b:Addr} {ob:Obj} (q:h.get? b=some ob) (n:H b=none) (hx:b ∉ ex):∃ sl,h1.get? b=some { ob with slots:=sl }:=by
  by_cases hb:b ∈ fs
  · exact u.slot b ob q n hb hx
  · exact ⟨ob.slots,u.keep b ob q n hb hx⟩
theorem Un.kept (k:∀ b u,h.get? b=some u→h'.get? b=some u):Un fs ex H H h h' :=
  ⟨fun b ob q _ _ _=>k b ob q,fun b ob q _ _ _=>⟨ob.slots,k b ob q⟩,fun _ _ _ n _=>n,fun b ob q _=>⟨ob,k b ob q⟩,fun _ _ q=>q,fun _ _ _ q=>q,fun _ ps q=>⟨#[],by rw [q]; simp⟩⟩
theorem Un.refl:Un fs ex H H h h:=Un.kept fun _ _ q=>q
theorem Un.laid (k:∀ b u,h.get? b=some u→h'.get? b=some u) (hp:h.objs.size≤a) (hn:H a=none):Un fs ex H (upd H a o) h h' where
  keep:=fun b u q _ _ _=>k b u q
  slot:=fun b u q _ _ _=>⟨u.slots,k b u q⟩
  free:=fun b u q n _=>by rw [upd_ne (Nat.ne_of_lt (Nat.lt_of_lt_of_le (Heap.lt_size q) hp))]; exact n
  there:=fun b u q _=>⟨u,k b u q⟩
  tups:=fun b xs q=>by rw [upd_ne (ne_of_none q hn)]; exact q
  frzs:=fun b u xs q=>by rw [upd_ne (ne_of_none q hn)]; exact q
  tbls:=fun b ps q=>⟨#[],by rw [upd_ne (ne_of_none q hn),q]; simp⟩
theorem Un.write (mu:Mut (H x)) (he:e=x∨H e=some (.own x)) (k:∀ b u,b≠e→h.get? b=some u→h'.get? b=some u) (heo:∃ u,h'.get? e=some u):Un fs ex H (upd H x o) h h':=by
  have hx:∀ b,H b=none→b≠x:=fun b n z=>by subst z; rw [n] at mu; exact mu
  have hb:∀ b,H b=none→b≠e:=fun b n z=>by
    subst z
    rcases he with r | r
    · exact hx b n r
    · rw [n] at r; cases r
  have hm:∀ b u,H b=some u→¬ Mut (some u)→b≠x:=fun b u q nm z=>by subst z; rw [q] at mu; exact nm mu
  refine ⟨fun b u q n _ _=>k b u (hb b n) q,fun b u q n _ _=>⟨u.slots,k b u (hb b n) q⟩,fun b u q n _=>by rw [upd_ne (hx b n)]; exact n,fun b u q _=>?_,
    fun b xs q=>by rw [upd_ne (hm b _ q fun z=>z)]; exact q,fun b u xs q=>by rw [upd_ne (hm b _ q fun z=>z)]; exact q,fun b ps q=>⟨#[],by rw [upd_ne (hm b _ q fun z=>z),q]; simp⟩⟩
  by_cases hbe:b=e
  · subst hbe; exact heo
  · exact ⟨u,k b u hbe q⟩
end
def trk (h:Heap) (H:Hp):List Addr:=(List.range h.objs.size).filter fun a=>(H a).isSome
def hidT (h:Heap) (H:Hp):Heap:=PySem.W.hideAll h (trk h H)
theorem hidT_size (h:Heap) (H:Hp):(hidT h H).objs.size=h.objs.size:=PySem.W.hideAll_size _ _
theorem hidT_get {h:Heap} {H:Hp} {b:Addr} {o:Obj} (e:h.get? b=some o) (n:H b=none):(hidT h H).get? b=some o :=
  PySem.W.hideAll_get _ e fun hm=>by
    have q:(H b).isSome=true:=(List.mem_filter.mp hm).2
    rw [n] at q; simp at q
theorem of_hidT {h:Heap} {H:Hp} {b:Addr} {o:Obj} (e:(hidT h H).get? b=some o):h.get? b=some o∧H b=none:=by
  have e':h.get? b=some o:=PySem.W.of_hideAll (trk h H) e
  refine ⟨e',?_⟩
  cases q:H b with
  | none=>rfl
  | some x =>
    have hm:b ∈ trk h H:=List.mem_filter.mpr ⟨List.mem_range.mpr (Heap.lt_size e'),by simp [q]⟩
    have z:(hidT h H).get? b=none:=PySem.W.hideAll_none (trk h H) hm
    rw [z] at e; cases e
end L2
namespace L2
open PySem PySem.Spec PyProof.Rows
structure Mod (K:PySem.W.Frag) (mg:Str→Option Value) (base:Heap):Prop where
  kin:K.In base
  glob:base.Ns mainGlobals mg
  blt:∃ mb,base.Ns builtinsNs mb∧∀ x:Str,x≠"__name__"→mb x=bootBuiltins x
  nolimit:base.NoLimit
structure Cx where
  prog:Program
  w:World
  K:PySem.W.Frag
  mg:Str→Option Value
  base:Heap
  A:Around
  N:List Str
  s₀:Shared
  H₀:Hp
  env:Env
  outer:List Env
  stack:List Env
  ex:List Addr
  fn:Str→Bool
  calm:Bool
  pn:List (Addr × Obj)
  xe:Value→Shared→Prop
def frs (l:List Env):List Addr:=l.filterMap (·.frame)
abbrev Cx.fs (X:Cx):List Addr:=frs X.outer
def Vis (sc:Scope) (x:Str):Prop:=sc.names.lookup x=some .local∨sc.names.lookup x=some .cell∨sc.names.lookup x=some .free
def Loc (sc:Scope) (x:Str):Prop:=sc.names.lookup x=some .local∨sc.names.lookup x=some .cell
def Look (env:Env) (h:Heap) (m:Str→Option Value) (x:Str) (u:Value):Prop :=
  (env.kindOf x=some .local∧m x=some u)∨((env.kindOf x=some .cell∨env.kindOf x=some .free)∧∃ c,env.cells.lookup x=some c∧h.IsCell c (some u))
structure Cx.Ok (X:Cx):Prop where
  mod:Mod X.K X.mg X.base
  kind:X.env.scope.kind=.function
  glob:X.env.globals=mainGlobals
  blt:X.env.builtins=builtinsNs
  above:X.s₀.heap.objs.size≤X.env.locals
  inj:∀ x y c,X.env.cells.lookup x=some c→X.env.cells.lookup y=some c→x=y
  has:∀ x,(X.env.kindOf x=some .cell∨X.env.kindOf x=some .free)→∃ c,X.env.cells.lookup x=some c
  cab:∀ x c,X.fn x=true→X.env.cells.lookup x=some c→X.s₀.heap.objs.size≤c
  hd:X.calm=true→X.A.handled=none
  frames:X.A.frames=some X.stack
  stk:X.stack=X.outer∨(X.stack=X.env::X.outer∧X.env.frame=some X.env.locals)
  exf:∀ b ∈ X.ex,b≠X.env.locals∧∀ x c,X.env.cells.lookup x=some c→c≠b
  bs:∀ b o,X.base.get? b=some o→X.s₀.heap.get? b=some o∧X.H₀ b=none
  bsz:X.base.objs.size≤X.s₀.heap.objs.size
  noex:∀ b o,X.base.get? b=some o→b ∉ X.ex
  exfs:∀ b ∈ X.ex,b ∉ X.fs
  funs:X.s₀.heap.FunFrames X.base X.outer
  frf:∀ b ∈ X.fs,X.H₀ b=none
structure Inv (X:Cx) (pins:List (Addr × Obj)) (σ:List (Option V)) (H:Hp) (s:Shared):Prop where
  ok:X.Ok
  os:s.os=X.s₀.os
  bare:AllBare s.gens
  base:Un X.fs X.ex X.H₀ H X.s₀.heap s.heap
  loc:∃ m,s.heap.Ns X.env.locals m∧∀ (i:Nat) (x:Str) (v:V),X.N[i]?=some x→σ[i]?=some (some v)→Vis X.env.scope x→∃ u,RelV v u∧Look X.env s.heap m x u
  cell:∀ x c,X.env.cells.lookup x=some c→∃ v,s.heap.IsCell c v
  free:H X.env.locals=none
  freeC:∀ x c,X.env.cells.lookup x=some c→H c=none
  pin:∀ p ∈ X.pn++pins,s.heap.get? p.1=some p.2∧H p.1=none∧p.1≠X.env.locals∧p.1 ∉ X.fs∧∀ v,p.2.data≠.cell v
  hok:HOk X.prog X.w H s.heap
  len:σ.length=X.N.length
section
variable {X:Cx} {pins:List (Addr × Obj)} {σ:List (Option V)} {H H':Hp} {s:Shared} {h':Heap}
theorem Cx.Ok.nofr (ok:X.Ok) {b:Addr} {o:Obj} (e:X.base.get? b=some o):b ∉ X.fs:=fun hb=>by
  have:=(ok.funs.mem hb).1
  rw [e] at this; cases this
theorem Inv.bs (I:Inv X pins σ H s):∀ b o,X.base.get? b=some o→s.heap.get? b=some o∧H b=none:=fun b o e =>
  ⟨I.base.keep b o (I.ok.bs b o e).1 (I.ok.bs b o e).2 (I.ok.nofr e) (I.ok.noex b o e),I.base.free b o (I.ok.bs b o e).1 (I.ok.bs b o e).2 (I.ok.noex b o e)⟩
theorem Inv.bk (I:Inv X pins σ H s):∀ b o,X.base.get? b=some o→s.heap.get? b=some o:=fun b o e=>(I.bs b o e).1
theorem Inv.mod (I:Inv X pins σ H s):Mod X.K X.mg X.base:=I.ok.mod
theorem Inv.kIn (I:Inv X pins σ H s):X.K.In s.heap:=I.ok.mod.kin.keeps I.bk
theorem Inv.lt (I:Inv X pins σ H s):X.env.locals < s.heap.objs.size:=let ⟨_,hn,_⟩:=I.loc; hn.lt
theorem Inv.sz (I:Inv X pins σ H s):X.s₀.heap.objs.size≤s.heap.objs.size:=Nat.le_trans I.ok.above (Nat.le_of_lt I.lt)
theorem Inv.nofs (I:Inv X pins σ H s) {a:Addr} (h:s.heap.objs.size≤a):a ∉ X.fs:=fun hb=>by
  obtain ⟨_,o,ho,_⟩:=I.ok.funs.mem hb
  exact absurd (Nat.lt_of_lt_of_le (Heap.lt_size ho) (Nat.le_trans I.sz h)) (Nat.lt_irrefl _)
theorem Inv.cne (I:Inv X pins σ H s):∀ x c,X.env.cells.lookup x=some c→c≠X.env.locals:=fun x c e z=>by
  obtain ⟨v,o,ho,hd⟩:=I.cell x c e
  obtain ⟨m,⟨o',es,ep,ho',hd',_⟩,_⟩:=I.loc
  rw [z,ho'] at ho; cases ho; rw [hd'] at hd; cases hd
theorem Inv.funs (I:Inv X pins σ H s):s.heap.FunFrames X.base X.outer:=by
  have all:∀ (l:List Env),(∀ b ∈ frs l,b ∈ X.fs)→X.s₀.heap.FunFrames X.base l→s.heap.FunFrames X.base l:=by
    intro l
    induction l with
    | nil=>intro _ _; trivial
    | cons env r ih =>
      intro hs hl
      obtain ⟨hk,⟨L,o,hf,hn,ho,hd⟩,hr⟩:=hl
      have hL:L ∈ X.fs:=hs L (by unfold frs; rw [List.filterMap_cons,hf]; exact List.mem_cons_self)
      obtain ⟨sl,e⟩:=I.base.slot L o ho (I.ok.frf L hL) hL fun z=>I.ok.exfs L z hL
      exact ⟨hk,⟨L,_,hf,hn,e,hd⟩,ih (fun b hb=>hs b (by unfold frs; rw [List.filterMap_cons,hf]; exact List.mem_cons_of_mem _ hb)) hr⟩
  exact all X.outer (fun _ hb=>hb) I.ok.funs
theorem Inv.stack (I:Inv X pins σ H s):s.heap.FunFrames X.base X.stack:=by
  rcases I.ok.stk with e | ⟨e,hf⟩
  · rw [e]; exact I.funs
  · rw [e]
    obtain ⟨m,hn,_⟩:=I.loc
    refine .cons (by rw [I.ok.kind]; decide) hf hn ?_ I.funs
    exact Heap.get?_none_of_le (Nat.le_trans I.ok.bsz I.ok.above)
theorem Inv.stkSub (I:Inv X pins σ H s):∀ b ∈ frs X.stack,b ∈ X.env.locals::X.fs:=fun b hb=>by
  rcases I.ok.stk with e | ⟨e,hf⟩
  · rw [e] at hb; exact List.mem_cons_of_mem _ hb
  · rw [e] at hb
    unfold frs at hb
    rw [List.filterMap_cons,hf] at hb
    exact hb
theorem Inv.stkFree (I:Inv X pins σ H s):∀ b ∈ frs X.stack,H b=none:=fun b hb=>by
  rcases List.mem_cons.mp (I.stkSub b hb) with e | hb
  · rw [e]; exact I.free
  · obtain ⟨_,o,ho,_⟩:=I.ok.funs.mem hb
    exact I.base.free b o ho (I.ok.frf b hb) fun z=>I.ok.exfs b z hb
theorem Inv.step {g':Array GenState} {t':Nat} {d':Drawn} {ch:List Addr} (I:Inv X pins σ H s)
    (hch:∀ b ∈ ch,(b ∈ X.ex∨X.s₀.heap.objs.size≤b)∧b≠X.env.locals∧(∀ x c,X.env.cells.lookup x=some c→c≠b)∧∀ p ∈ X.pn++pins,p.1≠b)
    (keep:∀ b o,b≠X.env.locals→b ∉ X.fs→b ∉ ch→s.heap.get? b=some o→H b=none→h'.get? b=some o)
    (slot:∀ b o,b≠X.env.locals→b ∈ X.fs→b ∉ ch→s.heap.get? b=some o→H b=none→∃ sl,h'.get? b=some { o with slots:=sl }) (free:∀ b o,b ∉ ch→s.heap.get? b=some o→H b=none→H' b=none)
    (there:∀ b o,b ∉ ch→s.heap.get? b=some o→∃ o',h'.get? b=some o')
    (tups:∀ b xs,H b=some (.tup xs)→H' b=some (.tup xs)) (frzs:∀ b o u,H b=some (.frz o u)→H' b=some (.frz o u)) (tbls:∀ b ps,H b=some (.tbl ps)→∃ more,H' b=some (.tbl (ps++more)))
    (ns:∀ m,s.heap.Ns X.env.locals m→h'.Ns X.env.locals m) (hok:HOk X.prog X.w H' h') (hg:AllBare g') :
    Inv X pins σ H' { s with heap:=h',gens:=g',drawn:=d',toks:=t' }:=by
  have neL:∀ b o,X.s₀.heap.get? b=some o→b≠X.env.locals:=fun b o e=>Nat.ne_of_lt (Nat.lt_of_lt_of_le (Heap.lt_size e) I.ok.above)
  have neC:∀ b o,X.s₀.heap.get? b=some o→b ∉ X.ex→b ∉ ch:=fun b o e hx hb=>by
    rcases (hch b hb).1 with z | z
    · exact hx z
    · exact absurd (Nat.lt_of_lt_of_le (Heap.lt_size e) z) (Nat.lt_irrefl _)
  have cellK:∀ x c,X.env.cells.lookup x=some c→∀ v,s.heap.IsCell c v→h'.IsCell c v:=fun x c e v ⟨o,ho,hd⟩=>by
    have nch:c ∉ ch:=fun z=>(hch c z).2.2.1 x c e rfl
    by_cases hc:c ∈ X.fs
    · obtain ⟨sl,q⟩:=slot c o (I.cne x c e) hc nch ho (I.freeC x c e)
      exact ⟨_,q,hd⟩
    · exact ⟨o,keep c o (I.cne x c e) hc nch ho (I.freeC x c e),hd⟩
  refine ⟨I.ok,I.os,hg,⟨fun b o e n hb hx=>?_,fun b o e n hb hx=>?_,fun b o e n hx=>?_,fun b o e hx=>?_,fun b xs e=>tups b xs (I.base.tups b xs e),fun b o xs e=>frzs b o xs (I.base.frzs b o xs e),fun b ps e=>?_⟩,?_,fun x c e=>?_,?_,fun x c e=>?_,fun p hp=>?_,hok,I.len⟩
  · exact keep b o (neL b o e) hb (neC b o e hx) (I.base.keep b o e n hb hx) (I.base.free b o e n hx)
  · obtain ⟨sl,e1⟩:=I.base.slot b o e n hb hx
    obtain ⟨sl',e2⟩:=slot b _ (neL b o e) hb (neC b o e hx) e1 (I.base.free b o e n hx)
    exact ⟨sl',e2⟩
  · obtain ⟨o',e1⟩:=I.base.there b o e hx
    exact free b o' (neC b o e hx) e1 (I.base.free b o e n hx)
  · obtain ⟨o',e1⟩:=I.base.there b o e hx
    exact there b o' (neC b o e hx) e1
  · obtain ⟨m1,e1⟩:=I.base.tbls b ps e
    obtain ⟨m2,e2⟩:=tbls b _ e1
    exact ⟨m1++m2,by rw [e2,Array.append_assoc]⟩
  · obtain ⟨m,hn,hl⟩:=I.loc
    refine ⟨m,ns m hn,fun i x v e1 e2 e3=>?_⟩
    obtain ⟨u,r,l⟩:=hl i x v e1 e2 e3
    refine ⟨u,r,?_⟩
    rcases l with l | ⟨k,c,e,z⟩
    · exact .inl l
    · exact .inr ⟨k,c,e,cellK x c e _ z⟩
  · obtain ⟨v,z⟩:=I.cell x c e
    exact ⟨v,cellK x c e v z⟩
  · obtain ⟨m,⟨o,_,_,ho,_⟩,_⟩:=I.loc
    exact free _ o (fun z=>(hch _ z).2.1 rfl) ho I.free
  · obtain ⟨v,o,ho,hd⟩:=I.cell x c e
    exact free c o (fun z=>(hch c z).2.2.1 x c e rfl) ho (I.freeC x c e)
  · obtain ⟨e,n,ne,nf,d⟩:=I.pin p hp
    have nch:p.1 ∉ ch:=fun z=>(hch p.1 z).2.2.2 p hp rfl
    exact ⟨keep p.1 p.2 ne nf nch e n,free p.1 p.2 nch e n,ne,nf,d⟩
theorem Inv.un {t':Nat} (I:Inv X pins σ H s) (u:Un X.fs [] H H' s.heap h') (hok:HOk X.prog X.w H' h'):Inv X pins σ H' { s with heap:=h',toks:=t' }:=by
  obtain ⟨m,⟨o,es,ep,ho,r⟩,_⟩:=id I.loc
  obtain ⟨sl,hL⟩:=u.any ho I.free (by simp)
  exact I.step (g':=s.gens) (d':=s.drawn) (ch:=[]) (fun _ z=>nomatch z) (fun b o _ hb _ e n=>u.keep b o e n hb (by simp)) (fun b o _ hb _ e n=>u.slot b o e n hb (by simp)) (fun b o _ e n=>u.free b o e n (by simp)) (fun b o _ e=>u.there b o e (by simp)) u.tups u.frzs u.tbls (fun m' hm=>by
    obtain ⟨o',es',ep',ho',r'⟩:=hm
    rw [ho] at ho'; cases ho'
    exact ⟨_,es',ep',hL,r'⟩) hok I.bare
theorem Inv.call {g':Array GenState} {t':Nat} {d':Drawn} {ch:List Addr} (I:Inv X pins σ H s) (u:Un (frs X.stack) ch H H' s.heap h') (hok:HOk X.prog X.w H' h') (hg:AllBare g')
    (hch:∀ b ∈ ch,(b ∈ X.ex∨X.s₀.heap.objs.size≤b)∧b≠X.env.locals∧(∀ x c,X.env.cells.lookup x=some c→c≠b)∧∀ p ∈ X.pn++pins,p.1≠b) :
    Inv X pins σ H' { s with heap:=h',gens:=g',drawn:=d',toks:=t' }:=by
  obtain ⟨m,⟨o,es,ep,ho,r⟩,_⟩:=id I.loc
  obtain ⟨sl,hL⟩:=u.any ho I.free fun z=>(hch _ z).2.1 rfl
  exact I.step (ch:=ch) hch (fun b o hL hb hc e n=>u.keep b o e n (fun z=>(List.mem_cons.mp (I.stkSub b z)).elim hL hb) hc) (fun b o _ _ hc e n=>u.any e n hc) (fun b o hc e n=>u.free b o e n hc) (fun b o hc e=>u.there b o e hc) u.tups u.frzs u.tbls (fun m' hm=>by
    obtain ⟨o',es',ep',ho',r'⟩:=hm
    rw [ho] at ho'; cases ho'
    exact ⟨_,es',ep',hL,r'⟩) hok hg
theorem Inv.turned {t':Nat} {it:Addr} (I:Inv X pins σ H s) (k:∀ b o,b≠it→s.heap.get? b=some o→h'.get? b=some o) (hn:H it=none) (hL:it≠X.env.locals)
    (h1:it ∈ X.ex∨X.s₀.heap.objs.size≤it) (h2:∀ x c,X.env.cells.lookup x=some c→c≠it) (h3:∀ p ∈ X.pn++pins,p.1≠it):Inv X pins σ H { s with heap:=h',toks:=t' }:=by
  have nit:∀ b u,H b=some u→b≠it:=fun b u e z=>by rw [z,hn] at e; cases e
  refine I.step (g':=s.gens) (d':=s.drawn) (ch:=[it]) (fun b hb=>?_) (fun b o _ _ hc e _=>k b o (fun z=>hc (by simp [z])) e) (fun b o _ _ hc e _=>⟨o.slots,k b o (fun z=>hc (by simp [z])) e⟩) (fun _ _ _ _ n=>n)
    (fun b o hc e=>⟨o,k b o (fun z=>hc (by simp [z])) e⟩) (fun _ _ e=>e) (fun _ _ _ e=>e) (fun b ps e=>⟨#[],by rw [e]; simp⟩) (fun m hm=>?_) (fun b u e=>?_) I.bare
  · have e:b=it:=by simpa using hb
    subst e
    exact ⟨h1,hL,h2,h3⟩
  · obtain ⟨o,es,ep,ho,r⟩:=hm
    exact ⟨o,es,ep,k _ o (Ne.symm hL) ho,r⟩
  · refine (I.hok b u e).stay (fun c v hc q=>k c v ?_ q) (fun _ q=>q) fun _ _ q=>q
    rcases hc with z | z
    · rw [z]; exact nit b u e
    · exact nit c _ z
theorem Inv.tok (I:Inv X pins σ H s) (t:Nat):Inv X pins σ H { s with toks:=t }:=I.un (h':=s.heap) (t':=t) Un.refl I.hok
theorem Inv.kept {t':Nat} (I:Inv X pins σ H s) (k:∀ b u,s.heap.get? b=some u→h'.get? b=some u):Inv X pins σ H { s with heap:=h',toks:=t' }:=I.un (Un.kept k) (I.hok.kept k)
theorem Inv.laid {a:Addr} {o:HO} {t':Nat} (I:Inv X pins σ H s) (k:∀ b u,s.heap.get? b=some u→h'.get? b=some u) (hp:s.heap.objs.size≤a) (new:ObjOk X.prog X.w (upd H a o) h' a o) :
    Inv X pins σ (upd H a o) { s with heap:=h',toks:=t' }:=I.un (Un.laid k hp (I.hok.fresh hp)) (I.hok.laid k hp new)
theorem Inv.write {x e:Addr} {o:HO} {t':Nat} (I:Inv X pins σ H s) (mu:Mut (H x)) (he:e=x∨H e=some (.own x)) (k:∀ b u,b≠e→s.heap.get? b=some u→h'.get? b=some u) (heo:∃ u,h'.get? e=some u)
    (new:ObjOk X.prog X.w (upd H x o) h' x o):Inv X pins σ (upd H x o) { s with heap:=h',toks:=t' }:=I.un (Un.write mu he k heo) (I.hok.write mu he k heo new)
theorem Inv.pins_of {pins':List (Addr × Obj)} (I:Inv X pins σ H s) (h:∀ p ∈ pins',s.heap.get? p.1=some p.2∧H p.1=none∧p.1≠X.env.locals∧p.1 ∉ X.fs∧∀ v,p.2.data≠.cell v):Inv X pins' σ H s :=
  ⟨I.ok,I.os,I.bare,I.base,I.loc,I.cell,I.free,I.freeC,fun p hp=>(List.mem_append.mp hp).elim (fun z=>I.pin p (List.mem_append_left _ z)) (h p),I.hok,I.len⟩
theorem nodup_ix {N:List Str} (hN:N.Nodup) {i j:Nat} {x:Str} (a:N[i]?=some x) (b:N[j]?=some x):i=j:=by
  obtain ⟨h1,e1⟩:=List.getElem?_eq_some_iff.mp a
  obtain ⟨h2,e2⟩:=List.getElem?_eq_some_iff.mp b
  exact (List.getElem_inj hN).mp (e1.trans e2.symm)
theorem store_ok2 {M:Model} {A:Around} {E:Value→Shared→Prop} {i:Nat} {x:Str} {v:V} {u:Value} {Q:Unit→Shared→Prop} (I:Inv X pins σ H s) (hN:X.N.Nodup) (hi:X.N[i]?=some x) (hx:Loc X.env.scope x) (r:RelV v u)
    (h:∀ s',Inv X pins (σ.set i (some v)) H s'→(∃ a,Heap.SameBut a s.heap s'.heap∧(a=X.env.locals∨X.env.cells.lookup x=some a))→Q () s') (hf:X.fn x=true∨X.env.scope.names.lookup x=some .local:=by first | exact .inl rfl | exact .inr rfl | assumption):wpAny M A (storeName X.env x u) Q E s:=by
  obtain ⟨m,hn,hl⟩:=id I.loc
  have hcls:(X.env.scope.kind == .class || (X.env.scope.kind == .module && X.env.locals != X.env.globals))=false:=by rw [I.ok.kind]; rfl
  have hiσ:i < σ.length:=by rw [I.len]; exact (List.getElem?_eq_some_iff.mp hi).1
  have cne:=I.cne
  have tracked:∀ {a:Addr} {h':Heap},(∃ o,s.heap.get? a=some o∧H a=none)→Heap.SameBut a s.heap h'→HOk X.prog X.w H h':=fun {a h'} ha hs b ob e=>by
    obtain ⟨_,_,hfree⟩:=ha
    refine (I.hok b ob e).stay (fun c w' hc q=>(hs.2 c ?_).trans q) (fun _ q=>q) fun _ _ q=>q
    rintro rfl
    rcases hc with rfl | hc
    · rw [hfree] at e; cases e
    · rw [hfree] at hc; cases hc
  rcases hx with hk | hk
  · refine wpAny_storeName_local hk hn (fun h' hn' hs=>?_) hcls
    obtain ⟨oL,_,_,hoL,_⟩:=id hn
    refine h _ ⟨I.ok,I.os,I.bare,⟨fun b o e n hb hx=>?_,fun b o e n hb hx=>?_,I.base.free,fun b o e hx=>?_,I.base.tups,I.base.frzs,I.base.tbls⟩,⟨_,hn',fun j y v' e1 e2 e3=>?_⟩,fun y c e=>?_,I.free,I.freeC,fun p hp=>?_,tracked ⟨oL,hoL,I.free⟩ hs,by simpa using I.len⟩ ⟨_,hs,.inl rfl⟩
    · exact (hs.2 b (Nat.ne_of_lt (Nat.lt_of_lt_of_le (Heap.lt_size e) I.ok.above))).trans (I.base.keep b o e n hb hx)
    · obtain ⟨sl,e1⟩:=I.base.slot b o e n hb hx
      exact ⟨sl,(hs.2 b (Nat.ne_of_lt (Nat.lt_of_lt_of_le (Heap.lt_size e) I.ok.above))).trans e1⟩
    · obtain ⟨o',e1⟩:=I.base.there b o e hx
      exact ⟨o',(hs.2 b (Nat.ne_of_lt (Nat.lt_of_lt_of_le (Heap.lt_size e) I.ok.above))).trans e1⟩
    · by_cases hj:j=i
      · subst hj
        rw [hi] at e1; cases e1
        rw [List.getElem?_set_self hiσ] at e2
        cases e2
        exact ⟨u,r,.inl ⟨hk,by simp⟩⟩
      · rw [List.getElem?_set_ne (Ne.symm hj)] at e2
        obtain ⟨u',r',q⟩:=hl j y v' e1 e2 e3
        refine ⟨u',r',?_⟩
        rcases q with ⟨k,e⟩ | ⟨k,c,e,z⟩
        · refine .inl ⟨k,?_⟩
          have:y≠x:=fun e=>hj (nodup_ix hN e1 (e ▸ hi))
          simp [this,e]
        · exact .inr ⟨k,c,e,z.sameBut hs (cne y c e)⟩
    · obtain ⟨w',z⟩:=I.cell y c e
      exact ⟨w',z.sameBut hs (cne y c e)⟩
    · obtain ⟨e,n,ne,nf,d⟩:=I.pin p hp
      exact ⟨(hs.2 p.1 ne).trans e,n,ne,nf,d⟩
  · have hfn:X.fn x=true:=by
      rcases hf with z | z
      · exact z
      · rw [z] at hk; cases hk
    obtain ⟨c,hc⟩:=I.ok.has x (.inl hk)
    obtain ⟨w',z⟩:=I.cell x c hc
    refine wpAny_storeName_cell I.ok.kind hk hc z (fun h' hc' hs=>?_)
    obtain ⟨oc,hoc,hocd⟩:=id z
    refine h { s with heap:=h' } ⟨I.ok,I.os,I.bare,⟨fun b o e n hb hx=>?_,fun b o e n hb hx=>?_,I.base.free,fun b o e hx=>?_,I.base.tups,I.base.frzs,I.base.tbls⟩,⟨m,hn.sameBut hs (Ne.symm (cne x c hc)),fun j y v' e1 e2 e3=>?_⟩,fun y c' e=>?_,I.free,I.freeC,fun p hp=>?_,tracked ⟨oc,hoc,I.freeC x c hc⟩ hs,by simpa using I.len⟩ ⟨c,hs,.inr hc⟩
    · exact (hs.2 b (Nat.ne_of_lt (Nat.lt_of_lt_of_le (Heap.lt_size e) (I.ok.cab x c hfn hc)))).trans (I.base.keep b o e n hb hx)
    · obtain ⟨sl,e1⟩:=I.base.slot b o e n hb hx
      exact ⟨sl,(hs.2 b (Nat.ne_of_lt (Nat.lt_of_lt_of_le (Heap.lt_size e) (I.ok.cab x c hfn hc)))).trans e1⟩
    · obtain ⟨o',e1⟩:=I.base.there b o e hx
      exact ⟨o',(hs.2 b (Nat.ne_of_lt (Nat.lt_of_lt_of_le (Heap.lt_size e) (I.ok.cab x c hfn hc)))).trans e1⟩
    · by_cases hj:j=i
      · subst hj
        rw [hi] at e1; cases e1
        rw [List.getElem?_set_self hiσ] at e2
        cases e2
        exact ⟨u,r,.inr ⟨.inl hk,c,hc,hc'⟩⟩
      · rw [List.getElem?_set_ne (Ne.symm hj)] at e2
        obtain ⟨u',r',q⟩:=hl j y v' e1 e2 e3
        refine ⟨u',r',?_⟩
        rcases q with q | ⟨k,c',e,z'⟩
        · exact .inl q
        · refine .inr ⟨k,c',e,z'.sameBut hs ?_⟩
          rintro rfl
          exact hj (nodup_ix hN e1 (I.ok.inj _ _ _ e hc ▸ hi))
    · by_cases hcc:c'=c
      · subst hcc; exact ⟨_,hc'⟩
      · obtain ⟨w2,z2⟩:=I.cell y c' e
        exact ⟨w2,z2.sameBut hs hcc⟩
    · obtain ⟨e,n,ne,nf,d⟩:=I.pin p hp
      refine ⟨(hs.2 p.1 ?_).trans e,n,ne,nf,d⟩
      intro q
      rw [q,hoc] at e
      have q':oc=p.2:=Option.some.inj e
      exact d w' (by rw [← q']; exact hocd)
theorem store_ok {M:Model} {A:Around} {E:Value→Shared→Prop} {i:Nat} {x:Str} {v:V} {u:Value} {Q:Unit→Shared→Prop} (I:Inv X pins σ H s) (hN:X.N.Nodup) (hi:X.N[i]?=some x) (hx:Loc X.env.scope x) (r:RelV v u)
    (h:∀ s',Inv X pins (σ.set i (some v)) H s'→Q () s') (hf:X.fn x=true∨X.env.scope.names.lookup x=some .local:=by first | exact .inl rfl | exact .inr rfl | assumption):wpAny M A (storeName X.env x u) Q E s :=
  store_ok2 I hN hi hx r (fun s' I' _=>h s' I') hf
theorem Inv.call' {s':Shared} {ch:List Addr} (I:Inv X pins σ H s) (ho:s'.os=s.os) (u:Un (frs X.stack) ch H H' s.heap s'.heap) (hok:HOk X.prog X.w H' s'.heap) (hg:AllBare s'.gens)
    (hch:∀ b ∈ ch,(b ∈ X.ex∨X.s₀.heap.objs.size≤b)∧b≠X.env.locals∧(∀ x c,X.env.cells.lookup x=some c→c≠b)∧∀ p ∈ X.pn++pins,p.1≠b):Inv X pins σ H' s':=by
  obtain ⟨h',g',d',t',o'⟩:=s'
  have e:o'=s.os:=ho
  subst e
  exact I.call (g':=g') (t':=t') (d':=d') u hok hg hch
end
abbrev XK:=Value→Option Addr→Hp→Prop
abbrev St:=List (Option V)
abbrev VK:=V→Hp→Prop
abbrev TE:=St→Hp→VK→Prop
abbrev TT:=St→Hp→(Bool→Hp→Prop)→Prop
abbrev TA:=St→Hp→(List V→Hp→Prop)→Prop
structure Ends where
  nx:St→Hp→Prop
  rt:VK
  bk:St→Hp→Prop:=fun _ _=>False
  ct:St→Hp→Prop:=fun _ _=>False
abbrev TS:=Ends→St→Hp→Prop
def EP (X:Cx) (pins:List (Addr × Obj)) (σ:St) (Q:VK) (u:Value) (s':Shared):Prop:=∃ v H',Inv X pins σ H' s'∧RelV v u∧Q v H'
def TP (X:Cx) (pins:List (Addr × Obj)) (σ:St) (Q:Bool→Hp→Prop) (b:Bool) (s':Shared):Prop:=∃ H',Inv X pins σ H' s'∧Q b H'
def AP (X:Cx) (pins:List (Addr × Obj)) (σ:St) (Q:List V→Hp→Prop) (us:List Value) (s':Shared):Prop:=∃ vs H',Inv X pins σ H' s'∧Vals vs us∧Q vs H'
def SP (X:Cx) (pins:List (Addr × Obj)) (D:Ends) (f:Flow) (s':Shared):Prop :=
  match f with
  | .next=>∃ σ' H',Inv X pins σ' H' s'∧D.nx σ' H'
  | .brk=>∃ σ' H',Inv X pins σ' H' s'∧D.bk σ' H'
  | .cont=>∃ σ' H',Inv X pins σ' H' s'∧D.ct σ' H'
  | .ret u=>∃ v σ' H',Inv X pins σ' H' s'∧RelV v u∧D.rt v H'
structure PE (X:Cx) (e:Expr) (t:TE):Prop where
  go:∀ (pins:List (Addr × Obj)) (s:Shared) (σ:St) (H:Hp) (Q:VK),Inv X pins σ H s→t σ H Q→wpAny (model X.prog X.w) X.A (eval e X.env) (EP X pins σ Q) X.xe s
instance {X:Cx} {e:Expr} {t:TE}:CoeFun (PE X e t) (fun _=>∀ (pins:List (Addr × Obj)) (s:Shared) (σ:St) (H:Hp) (Q:VK),Inv X pins σ H s→t σ H Q→wpAny (model X.prog X.w) X.A (eval e X.env) (EP X pins σ Q) X.xe s):=⟨PE.go⟩
structure PT (X:Cx) (e:Expr) (t:TT):Prop where
  go:∀ (pins:List (Addr × Obj)) (s:Shared) (σ:St) (H:Hp) (Q:Bool→Hp→Prop),Inv X pins σ H s→t σ H Q→wpAny (model X.prog X.w) X.A (isTrue e X.env (eval e X.env)) (TP X pins σ Q) X.xe s
instance {X:Cx} {e:Expr} {t:TT}:CoeFun (PT X e t) (fun _=>∀ (pins:List (Addr × Obj)) (s:Shared) (σ:St) (H:Hp) (Q:Bool→Hp→Prop),Inv X pins σ H s→t σ H Q→wpAny (model X.prog X.w) X.A (isTrue e X.env (eval e X.env)) (TP X pins σ Q) X.xe s):=⟨PT.go⟩
structure PW (X:Cx) (e:Expr) (t:TT):Prop where
  go:∀ (whole:Sem Value) (pins:List (Addr × Obj)) (s:Shared) (σ:St) (H:Hp) (Q:Bool→Hp→Prop),Inv X pins σ H s→t σ H Q→wpAny (model X.prog X.w) X.A (isTrue e X.env whole) (TP X pins σ Q) X.xe s
instance {X:Cx} {e:Expr} {t:TT}:CoeFun (PW X e t) (fun _=>∀ (whole:Sem Value) (pins:List (Addr × Obj)) (s:Shared) (σ:St) (H:Hp) (Q:Bool→Hp→Prop),Inv X pins σ H s→t σ H Q→wpAny (model X.prog X.w) X.A (isTrue e X.env whole) (TP X pins σ Q) X.xe s):=⟨PW.go⟩
theorem PW.pt {X:Cx} {e:Expr} {t:TT} (h:PW X e t):PT X e t:=.mk (h _)
structure PA (X:Cx) (es:List Expr) (t:TA):Prop where
  go:∀ (pos:Pos) (pins:List (Addr × Obj)) (s:Shared) (σ:St) (H:Hp) (Q:List V→Hp→Prop),Inv X pins σ H s→t σ H Q→wpAny (model X.prog X.w) X.A (spliced (backTo pos (starEach es X.env))) (AP X pins σ Q) X.xe s
instance {X:Cx} {es:List Expr} {t:TA}:CoeFun (PA X es t) (fun _=>∀ (pos:Pos) (pins:List (Addr × Obj)) (s:Shared) (σ:St) (H:Hp) (Q:List V→Hp→Prop),Inv X pins σ H s→t σ H Q→wpAny (model X.prog X.w) X.A (spliced (backTo pos (starEach es X.env))) (AP X pins σ Q) X.xe s):=⟨PA.go⟩
structure PS (X:Cx) (st:Stmt) (t:TS):Prop where
  go:∀ (pins:List (Addr × Obj)) (s:Shared) (σ:St) (H:Hp) (D:Ends),Inv X pins σ H s→t D σ H→wpAny (model X.prog X.w) X.A (exec st X.env) (SP X pins D) X.xe s
instance {X:Cx} {st:Stmt} {t:TS}:CoeFun (PS X st t) (fun _=>∀ (pins:List (Addr × Obj)) (s:Shared) (σ:St) (H:Hp) (D:Ends),Inv X pins σ H s→t D σ H→wpAny (model X.prog X.w) X.A (exec st X.env) (SP X pins D) X.xe s):=⟨PS.go⟩
structure PSs (X:Cx) (st:List Stmt) (t:TS):Prop where
  go:∀ (pins:List (Addr × Obj)) (s:Shared) (σ:St) (H:Hp) (D:Ends),Inv X pins σ H s→t D σ H→wpAny (model X.prog X.w) X.A (execs st X.env) (SP X pins D) X.xe s
instance {X:Cx} {st:List Stmt} {t:TS}:CoeFun (PSs X st t) (fun _=>∀ (pins:List (Addr × Obj)) (s:Shared) (σ:St) (H:Hp) (D:Ends),Inv X pins σ H s→t D σ H→wpAny (model X.prog X.w) X.A (execs st X.env) (SP X pins D) X.xe s):=⟨PSs.go⟩
theorem thn {α:Type} {t:Sem α} {Q Q':α→Shared→Prop} {M:Model} {A:Around} {E:Value→Shared→Prop} {s:Shared} (h:wpAny M A t Q E s) (hQ:∀ a s,Q a s→Q' a s):wpAny M A t Q' E s:=wpAny_mono h hQ fun _ _ x=>x
end L2
namespace L2
open PySem PySem.Spec PyProof.Rows
section
variable {X:Cx}
inductive tVar (i:Nat) (σ:St) (H:Hp) (Q:VK):Prop
  | mk (v:V) (e:σ[i]?=some (some v)) (q:Q v H):tVar i σ H Q
abbrev tC (v:V):TE:=fun _ H Q=>Q v H
theorem pe_var {i:Nat} {x:Str} {pos:Pos} (hN:X.N[i]?=some x) (hv:Vis X.env.scope x) (hd:(x == ("__debug__" : Str))=false:=by decide) (hcd:(x == ("__classdict__" : Str))=false:=by decide):PE X (.Name x pos) (tVar i):=by
  refine ⟨?_⟩
  intro pins s σ H Q I h
  obtain ⟨v,e,h⟩:=h
  obtain ⟨m,hn,hl⟩:=I.loc
  obtain ⟨u,r,l⟩:=hl i x v hN e hv
  have fin:EP X pins σ Q u s:=⟨v,H,I,r,h⟩
  rcases l with ⟨hk,hm⟩ | ⟨hk,c,hc,hcell⟩
  · exact wpAny_Name (wpAny_loadName_local I.ok.kind hk hn hm fin) hd
  · rcases hk with hk | hk
    · exact wpAny_Name (wpAny_loadName_cell I.ok.kind hk hc hcell fin) hd
    · exact wpAny_Name (wpAny_loadName_free I.ok.kind hk hc hcell fin hcd) hd
theorem pe_int {i j pos}:PE X (.Constant (.int i) j pos) (tC (.int i)):=.mk fun _ _ _ H _ I h=>wpAny_Constant_int ⟨.int i,H,I.tok _,⟨_,rfl⟩,h⟩
theorem pe_bl {b j pos}:PE X (.Constant (.bool b) j pos) (tC (.bl b)):=.mk fun _ _ _ H _ I h=>Constant_bool ⟨.bl b,H,I,rfl,h⟩
theorem pe_non {j pos}:PE X (.Constant .none j pos) (tC .non):=.mk fun _ _ _ H _ I h=>Constant_none ⟨.non,H,I,rfl,h⟩
theorem pe_str {x j pos}:PE X (.Constant (.str x) j pos) (tC (.str x)):=.mk fun _ _ _ H _ I h=>Calls.Constant_str ⟨.str x,H,I.tok _,⟨_,rfl⟩,h⟩
def Gl (X:Cx) (x:Str):Prop:=X.env.kindOf x=some .globalImplicit
theorem ld_glob {E:Value→Shared→Prop} {pins:List (Addr × Obj)} {s:Shared} {σ:St} {H:Hp} {x:Str} {u:Value} {pos:Pos} {Q:Value→Shared→Prop} (I:Inv X pins σ H s) (hg:Gl X x) (hm:X.mg x=some u) (h:Q u s)
    (hd:(x == ("__debug__" : Str))=false:=by decide):wpAny (model X.prog X.w) X.A (eval (.Name x pos) X.env) Q E s :=
  Calls.Name_function_global I.ok.kind hg (Calls.loadGlobal_global (by rw [I.ok.glob]; exact I.mod.glob.keeps I.bk) hm h) hd
theorem ld_blt {E:Value→Shared→Prop} {pins:List (Addr × Obj)} {s:Shared} {σ:St} {H:Hp} {x:Str} {u:Value} {pos:Pos} {Q:Value→Shared→Prop} (I:Inv X pins σ H s) (hg:Gl X x) (hm:X.mg x=none) (hv:bootBuiltins x=some u) (h:Q u s)
    (hn:x≠"__name__":=by decide) (hd:(x == ("__debug__" : Str))=false:=by decide):wpAny (model X.prog X.w) X.A (eval (.Name x pos) X.env) Q E s:=by
  obtain ⟨mb,h1,h2⟩:=I.mod.blt
  exact Calls.Name_function_global I.ok.kind hg (Calls.loadGlobal_builtin (by rw [I.ok.glob]; exact I.mod.glob.keeps I.bk) hm (by rw [I.ok.blt]; exact h1.keeps I.bk) ((h2 x hn).trans hv) h) hd
theorem pe_glob {x:Str} {v:V} {u:Value} {pos:Pos} (hg:Gl X x) (hm:X.mg x=some u) (r:RelV v u) (hd:(x == ("__debug__" : Str))=false:=by decide):PE X (.Name x pos) (tC v):=.mk
  fun _ _ _ H _ I h=>ld_glob I hg hm ⟨v,H,I,r,h⟩ hd
theorem pe_bltn {x:Str} {v:V} {u:Value} {pos:Pos} (hg:Gl X x) (hm:X.mg x=none) (hv:bootBuiltins x=some u) (r:RelV v u) (hn:x≠"__name__":=by decide) (hd:(x == ("__debug__" : Str))=false:=by decide):PE X (.Name x pos) (tC v):=.mk
  fun _ _ _ H _ I h=>ld_blt I hg hm hv ⟨v,H,I,r,h⟩ hn hd
variable {a b:Expr} {ta tb:TE} {pos:Pos}
inductive tBx (x:V) (H1:Hp) (Q:Bool→Hp→Prop):Prop
  | mk (c:Bool) (e:x=.bl c) (q:Q c H1):tBx x H1 Q
def tB (t:TE):TT:=fun σ H Q=>t σ H fun x H1=>tBx x H1 Q
theorem pt_val {e:Expr} {t:TE} (h:PE X e t) (he:∀ whole,isTrue e X.env whole=(do let v ← whole; standAt e.pos; holding [v] (truthy v)):=by intro _; rfl):PT X e (tB t):=by
  refine ⟨?_⟩
  intro pins s σ H Q I hw
  refine isTrue_plain (thn (h pins s σ H _ I hw) fun v s1 ⟨x,H1,I1,r1,q1⟩=>?_) (he _)
  obtain ⟨d,rfl,q⟩:=q1
  cases r1
  exact wpAny_truthy_bool ⟨H1,I1,q⟩
variable {tA tB':TT} {rest:List Expr}
def tAnd (t u:TT):TT:=fun σ H Q=>t σ H fun c H1=>if c=true then u σ H1 Q else Q false H1
def tOr (t u:TT):TT:=fun σ H Q=>t σ H fun c H1=>if c=true then Q true H1 else u σ H1 Q
def tNot (t:TT):TT:=fun σ H Q=>t σ H fun c H1=>Q (!c) H1
theorem pw_and1 (ha:PT X a tA):PW X (.BoolOp .And [a] pos) tA:=by
  refine ⟨?_⟩
  intro wh pins s σ H Q I h
  refine isTrue_and (thn (ha pins s σ H Q I h) fun c s1 e=>?_)
  cases c with
  | true=>exact isTrue_and_nil e
  | false=>exact e
theorem pw_or1 (ha:PT X a tA):PW X (.BoolOp .Or [a] pos) tA:=by
  refine ⟨?_⟩
  intro wh pins s σ H Q I h
  refine isTrue_or (thn (ha pins s σ H Q I h) fun c s1 e=>?_)
  cases c with
  | false=>exact isTrue_or_nil e
  | true=>exact e
theorem pw_and (ha:PT X a tA) (hb:PW X (.BoolOp .And (b::rest) pos) tB'):PW X (.BoolOp .And (a::b::rest) pos) (tAnd tA tB'):=by
  refine ⟨?_⟩
  intro wh pins s σ H Q I h
  refine isTrue_and (thn (ha pins s σ H _ I h) fun c s1 ⟨H1,I1,q1⟩=>?_)
  cases c with
  | true=>exact hb wh pins s1 σ H1 Q I1 q1
  | false=>exact ⟨H1,I1,q1⟩
theorem pw_or (ha:PT X a tA) (hb:PW X (.BoolOp .Or (b::rest) pos) tB'):PW X (.BoolOp .Or (a::b::rest) pos) (tOr tA tB'):=by
  refine ⟨?_⟩
  intro wh pins s σ H Q I h
  refine isTrue_or (thn (ha pins s σ H _ I h) fun c s1 ⟨H1,I1,q1⟩=>?_)
  cases c with
  | true=>exact ⟨H1,I1,q1⟩
  | false=>exact hb wh pins s1 σ H1 Q I1 q1
theorem pt_not (ha:PT X a tA):PT X (.UnaryOp .Not a pos) (tNot tA):=by
  refine ⟨?_⟩
  intro pins s σ H Q I h
  exact isTrue_not (ha pins s σ H (fun c H1=>Q (!c) H1) I h)
inductive tAndX (tb:TE) (σ:St) (x:V) (H1:Hp) (Q:VK):Prop
  | mk (c:Bool) (e:x=.bl c) (q:if c=true then tb σ H1 Q else Q (.bl false) H1):tAndX tb σ x H1 Q
def tAndV (ta tb:TE):TE:=fun σ H Q=>ta σ H fun x H1=>tAndX tb σ x H1 Q
def tNotV (ta:TE):TE:=fun σ H Q=>ta σ H fun x H1=>∃ c,x=.bl c∧Q (.bl (!c)) H1
theorem pe_one {op} {t:TE} (h:PE X a t):PE X (.BoolOp op [a] pos) t:=.mk fun pins s σ H Q I hw=>BoolOp_one (h pins s σ H Q I hw)
theorem pe_and (ha:PE X a ta) (hb:PE X (.BoolOp .And (b::rest) pos) tb):PE X (.BoolOp .And (a::b::rest) pos) (tAndV ta tb):=by
  refine ⟨?_⟩
  intro pins s σ H Q I h
  refine BoolOp_and (thn (ha pins s σ H _ I h) fun v s1 ⟨x,H1,I1,r1,q1⟩=>?_)
  obtain ⟨c,rfl,q1⟩:=q1
  cases r1
  refine wpAny_truthy_bool ?_
  cases c with
  | true=>exact hb pins s1 σ H1 Q I1 q1
  | false=>exact ⟨.bl false,H1,I1,rfl,q1⟩
theorem pe_not (ha:PE X a ta):PE X (.UnaryOp .Not a pos) (tNotV ta):=by
  refine ⟨?_⟩
  intro pins s σ H Q I h
  refine UnaryOp_ (thn (ha pins s σ H _ I h) fun v s1 ⟨x,H1,I1,r1,q1⟩=>?_)
  obtain ⟨c,rfl,q1⟩:=q1
  cases r1
  exact not_of (wpAny_truthy_bool ⟨.bl (!c),H1,I1,rfl,q1⟩)
end
end L2
namespace L2
open PySem PySem.Spec PyProof.Rows
def SqL (K:PySem.W.Frag) (H:Hp) (a:Addr) (xs:List V):Prop :=
  Rd H a (.lst xs) ∨
    ∃ (o:Obj) (its:Array Value) (n:Nat),K.lookup a=some o∧o.cls=.type "list"∧o.dict=none∧o.data=.seq its n∧its.size≤sizeLine∧Vals xs its.toList
def SqT (K:PySem.W.Frag) (H:Hp) (a:Addr) (xs:List V):Prop :=
  Rd H a (.tup xs) ∨
    ∃ (o:Obj) (its:Array Value) (n:Nat),K.lookup a=some o∧o.cls=.type "tuple"∧o.data=.seq its n∧its.size≤sizeLine∧Vals xs its.toList
def absV:Value→Option V
  | .none=>some .non
  | .bool b=>some (.bl b)
  | .int i _=>some (.int i)
  | .str x _=>some (.str x)
  | .bytes b _=>some (.byt b)
  | .float b _=>some (.flt b)
  | .ref a=>some (.ref a)
  | .type n=>some (.ty n)
  | _=>none
theorem RelV.abs {x:V} {u:Value} (r:RelV x u):absV u=some x:=by
  cases x with
  | non=>cases r; rfl
  | bl _=>cases r; rfl
  | int _=>obtain ⟨t,rfl⟩:=r; rfl
  | str _=>obtain ⟨t,rfl⟩:=r; rfl
  | byt _=>obtain ⟨t,rfl⟩:=r; rfl
  | flt _=>obtain ⟨t,rfl⟩:=r; rfl
  | ref _=>cases r; rfl
  | ty _=>cases r; rfl
theorem RelV.inj {x y:V} {u:Value} (r:RelV x u) (q:RelV y u):x=y:=Option.some.inj (r.abs.symm.trans q.abs)
theorem Vals.inj:∀ {xs ys:List V} {us:List Value},Vals xs us→Vals ys us→xs=ys
  | _,_,_,.nil,.nil=>rfl
  | _,_,_,.cons r t,.cons r' t'=>by rw [r.inj r',Vals.inj t t']
section
variable {X:Cx} {pins:List (Addr × Obj)} {σ:St} {H:Hp} {s:Shared} {a:Addr} {xs ys:List V}
theorem SqL.of {K:PySem.W.Frag} (h:H a=some (.lst xs)):SqL K H a xs:=.inl (.inl h)
theorem SqT.of {K:PySem.W.Frag} (h:H a=some (.tup xs)):SqT K H a xs:=.inl (.inl h)
theorem Inv.list (I:Inv X pins σ H s) (h:SqL X.K H a xs):∃ its:List Value,Vals xs its∧PlainL s.heap a its.toArray∧xs.length≤sizeLine:=by
  rcases h with h | ⟨o,its,n,hk,hc,hd,hs,hz,r⟩
  · obtain ⟨z,its,n,r,e⟩:=h.ok I.hok
    exact ⟨its,r,⟨_,n,e,rfl,rfl,rfl⟩,z⟩
  · refine ⟨its.toList,r,⟨o,n,I.kIn a o hk,hc,hd,by simpa using hs⟩,?_⟩
    have e:=r.length
    simp only [Array.length_toList] at e
    omega
theorem Inv.tuple (I:Inv X pins σ H s) (h:SqT X.K H a xs):∃ its:List Value,Vals xs its∧IsTup s.heap a its.toArray∧xs.length≤sizeLine:=by
  rcases h with h | ⟨o,its,n,hk,hc,hs,hz,r⟩
  · obtain ⟨z,its,r,p⟩:=h.ok I.hok
    exact ⟨its,r,p,z⟩
  · refine ⟨its.toList,r,⟨o,I.kIn a o hk,hc,n,by simpa using hs⟩,?_⟩
    have e:=r.length
    simp only [Array.length_toList] at e
    omega
theorem Inv.list_inj (I:Inv X pins σ H s) (h:SqL X.K H a xs) (h':SqL X.K H a ys):xs=ys:=by
  obtain ⟨its,r,⟨o,n,e,_,_,d⟩,_⟩:=I.list h
  obtain ⟨its',r',⟨o',n',e',_,_,d'⟩,_⟩:=I.list h'
  rw [e] at e'; cases e'
  rw [d] at d'
  injection d' with d1 _
  have:its=its':=by simpa using congrArg Array.toList d1
  subst this
  exact r.inj r'
theorem Inv.tuple_inj (I:Inv X pins σ H s) (h:SqT X.K H a xs) (h':SqT X.K H a ys):xs=ys:=by
  obtain ⟨its,r,⟨o,e,_,n,d⟩,_⟩:=I.tuple h
  obtain ⟨its',r',⟨o',e',_,n',d'⟩,_⟩:=I.tuple h'
  rw [e] at e'; cases e'
  rw [d] at d'
  injection d' with d1 _
  have:its=its':=by simpa using congrArg Array.toList d1
  subst this
  exact r.inj r'
end
abbrev Cx.wish (X:Cx) (E:Value→Shared→Prop):Cx:={ X with xe:=E }
abbrev Cx.nox (X:Cx):Cx:=X.wish fun _ _=>False
theorem Cx.Ok.wish {X:Cx} (ok:X.Ok) (E:Value→Shared→Prop):(X.wish E).Ok :=
  ⟨ok.mod,ok.kind,ok.glob,ok.blt,ok.above,ok.inj,ok.has,ok.cab,ok.hd,ok.frames,ok.stk,ok.exf,ok.bs,ok.bsz,ok.noex,ok.exfs,ok.funs,ok.frf⟩
theorem Cx.Ok.unwish {X:Cx} {E:Value→Shared→Prop} (ok:(X.wish E).Ok):X.Ok :=
  ⟨ok.mod,ok.kind,ok.glob,ok.blt,ok.above,ok.inj,ok.has,ok.cab,ok.hd,ok.frames,ok.stk,ok.exf,ok.bs,ok.bsz,ok.noex,ok.exfs,ok.funs,ok.frf⟩
section
variable {X:Cx} {pins:List (Addr × Obj)} {σ:St} {H:Hp} {s:Shared} {E:Value→Shared→Prop}
theorem Inv.wish (I:Inv X pins σ H s) (E:Value→Shared→Prop):Inv (X.wish E) pins σ H s:=⟨I.ok.wish E,I.os,I.bare,I.base,I.loc,I.cell,I.free,I.freeC,I.pin,I.hok,I.len⟩
theorem Inv.unwish (I:Inv (X.wish E) pins σ H s):Inv X pins σ H s:=⟨I.ok.unwish,I.os,I.bare,I.base,I.loc,I.cell,I.free,I.freeC,I.pin,I.hok,I.len⟩
theorem SP.unwish {D:Ends} {f:Flow} {s':Shared} (h:SP (X.wish E) pins D f s'):SP X pins D f s':=by
  cases f with
  | next=>obtain ⟨σ',H',I,q⟩:=h; exact ⟨σ',H',I.unwish,q⟩
  | brk=>obtain ⟨σ',H',I,q⟩:=h; exact ⟨σ',H',I.unwish,q⟩
  | cont=>obtain ⟨σ',H',I,q⟩:=h; exact ⟨σ',H',I.unwish,q⟩
  | ret u=>obtain ⟨v,σ',H',I,r,q⟩:=h; exact ⟨v,σ',H',I.unwish,r,q⟩
theorem PSs.nox {st:List Stmt} {t:TS} (h:PSs X.nox st t):PSs X st t:=.mk fun pins s σ H D I hw =>
  wpAny_mono (h pins s σ H D (I.wish _) hw) (fun _ _ q=>q.unwish) fun _ _ z=>False.elim z
end
section
variable {X:Cx} {st:Stmt} {rest:List Stmt} {t u:TS} {e:Expr} {te:TE} {pos:Pos}
def tNext:TS:=fun D σ H=>D.nx σ H
def tSeq (t u:TS):TS:=fun D σ H=>t { D with nx:=u D } σ H
theorem pss_nil:PSs X [] tNext:=.mk fun _ _ σ H _ I h=>wpAny_execs_nil ⟨σ,H,I,h⟩
theorem pss_cons (h1:PS X st t) (h2:PSs X rest u):PSs X (st::rest) (tSeq t u):=by
  refine ⟨?_⟩
  intro pins s σ H D I h
  refine wpAny_execs_cons (thn (h1 pins s σ H { D with nx:=u D } I h) fun f s1 q=>?_)
  cases f with
  | next =>
    obtain ⟨σ',H',I',q⟩:=q
    exact h2 pins s1 σ' H' D I' q
  | ret v=>exact q
  | brk=>exact q
  | cont=>exact q
theorem pss_one (h1:PS X st t):PSs X [st] t:=by
  refine ⟨?_⟩
  intro pins s σ H D I h
  refine wpAny_execs_cons (thn (h1 pins s σ H D I h) fun f s1 q=>?_)
  cases f with
  | next=>exact wpAny_execs_nil q
  | ret v=>exact q
  | brk=>exact q
  | cont=>exact q
theorem Inv.quiet {pins:List (Addr × Obj)} {σ:St} {H:Hp} {s:Shared} (I:Inv X pins σ H s):interactive X.env=false:=by simp [interactive,I.ok.kind]
def tDrop (te:TE):TS:=fun D σ H=>te σ H fun _ H1=>D.nx σ H1
theorem ps_expr (he:PE X e te) (hs:swapsWith e none pos.line X.env=pure false:=by rfl):PS X (.Expr e pos) (tDrop te):=by
  refine ⟨?_⟩
  intro pins s σ H D I h
  exact wpAny_Expr_any (thn (he pins s σ H _ I h) fun v s1 ⟨x,H1,I1,r1,q1⟩=>⟨σ,H1,I1,q1⟩) I.quiet hs
def tRet (te:TE):TS:=fun D σ H=>te σ H D.rt
theorem ps_ret (he:PE X e te):PS X (.Return (some e) pos) (tRet te):=by
  refine ⟨?_⟩
  intro pins s σ H D I h
  exact wpAny_Return_some (thn (he pins s σ H _ I h) fun v s1 ⟨x,H1,I1,r1,q1⟩=>⟨x,σ,H1,I1,r1,q1⟩)
def tIfS (c:TT) (t u:TS):TS:=fun D σ H=>c σ H fun b H1=>if b=true then t D σ H1 else u D σ H1
theorem ps_if {c:Expr} {a b:List Stmt} {tc:TT} (hc:PT X c tc) (ha:PSs X a t) (hb:PSs X b u):PS X (.If c a b pos) (tIfS tc t u):=by
  refine ⟨?_⟩
  intro pins s σ H D I h
  refine wpAny_If (thn (hc pins s σ H _ I h) fun d s1 ⟨H1,I1,q1⟩=>?_)
  cases d with
  | true=>exact ha pins s1 σ H1 D I1 q1
  | false=>exact hb pins s1 σ H1 D I1 q1
def tNever:TS:=fun _ _ _=>False
theorem pss_never {sts:List Stmt}:PSs X sts tNever:=.mk fun _ _ _ _ _ _ h=>h.elim
end
abbrev TG:=V→St→Hp→(St→Hp→Prop)→Prop
abbrev TGs:=List V→St→Hp→(St→Hp→Prop)→Prop
def PG (X:Cx) (target:Expr) (t:TG):Prop :=
  ∀ (pins:List (Addr × Obj)) (s:Shared) (σ:St) (H:Hp) (v:V) (u:Value) (Q:St→Hp→Prop),Inv X pins σ H s→RelV v u→t v σ H Q →
    wpAny (model X.prog X.w) X.A (assign target X.env u) (fun _ s'=>∃ σ' H',Inv X pins σ' H' s'∧Q σ' H') X.xe s
def PGs (X:Cx) (ts:List Expr) (t:TGs):Prop :=
  ∀ (pins:List (Addr × Obj)) (s:Shared) (σ:St) (H:Hp) (vs:List V) (us:List Value) (Q:St→Hp→Prop),Inv X pins σ H s→Vals vs us→t vs σ H Q →
    wpAny (model X.prog X.w) X.A (assignInOrder ((assignEach ts X.env).map (·.2)) us) (fun _ s'=>∃ σ' H',Inv X pins σ' H' s'∧Q σ' H') X.xe s
abbrev TSet:=V→V→V→Hp→(Hp→Prop)→Prop
def PSet (X:Cx) (t:TSet):Prop :=
  ∀ (pins:List (Addr × Obj)) (s:Shared) (σ:St) (H:Hp) (o i v:V) (ov iv u:Value) (Q:Hp→Prop),Inv X pins σ H s→RelV o ov→RelV i iv→RelV v u→t o i v H Q →
    wpAny (model X.prog X.w) X.A (setItem ov iv u) (fun _ s'=>∃ H',Inv X pins σ H' s'∧Q H') X.xe s
abbrev TIp:=V→V→Hp→VK→Prop
def PIp (X:Cx) (op:Operator) (t:TIp):Prop :=
  ∀ (pins:List (Addr × Obj)) (s:Shared) (σ:St) (H:Hp) (x y:V) (v u:Value) (Q:VK),Inv X pins σ H s→RelV x v→RelV y u→t x y H Q →
    wpAny (model X.prog X.w) X.A (inplaceOp op v u) (EP X pins σ Q) X.xe s
section
variable {X:Cx} {pos:Pos}
def gName (i:Nat):TG:=fun v σ H Q=>Q (σ.set i (some v)) H
theorem pg_name {i:Nat} {x:Str} (hN:X.N.Nodup) (hi:X.N[i]?=some x) (hx:Loc X.env.scope x) (hf:X.fn x=true∨X.env.scope.names.lookup x=some .local:=by first | exact .inl rfl | exact .inr rfl | assumption):PG X (.Name x pos) (gName i):=by
  intro pins s σ H v u Q I r h
  exact wpAny_assign_Name (store_ok I hN hi hx r (fun s' I'=>⟨_,H,I',h⟩) hf)
def gNil:TGs:=fun vs σ H Q=>vs=[]∧Q σ H
inductive gCons (t:TG) (u:TGs) (vs:List V) (σ:St) (H:Hp) (Q:St→Hp→Prop):Prop
  | mk (v:V) (r:List V) (e:vs=v::r) (q:t v σ H fun σ' H'=>u r σ' H' Q):gCons t u vs σ H Q
theorem pgs_nil:PGs X [] gNil:=by
  intro pins s σ H vs us Q I r h
  obtain ⟨e,h⟩:=h
  subst e
  cases r
  exact assignInOrder_nil ⟨σ,H,I,h⟩
theorem pgs_cons {e:Expr} {es:List Expr} {t:TG} {u:TGs} (h1:PG X e t) (h2:PGs X es u)
    (hs:(assignEach (e::es) X.env).map (·.2)=assign e X.env::(assignEach es X.env).map (·.2):=by rfl):PGs X (e::es) (gCons t u):=by
  intro pins s σ H vs us Q I r h
  obtain ⟨v,vr,e1,h⟩:=h
  subst e1
  cases r with
  | cons r rr =>
    rw [hs]
    refine assignInOrder_cons (thn (h1 pins s σ H _ _ _ I r h) fun _ s1 ⟨σ1,H1,I1,q1⟩=>?_)
    exact h2 pins s1 σ1 H1 _ _ Q I1 rr q1
inductive gTup (K:PySem.W.Frag) (n:Nat) (t:TGs) (v:V) (σ:St) (H:Hp) (Q:St→Hp→Prop):Prop
  | mk (a:Addr) (xs:List V) (e:v=.ref a) (h:SqT K H a xs) (l:xs.length=n) (q:t xs σ H Q):gTup K n t v σ H Q
theorem pg_tup {es:List Expr} {k:Nat} {t:TGs} {n:Nat} (hc:X.calm=true) (h:PGs X es t)
    (hn:(assignEach es X.env).length=n:=by rfl) (hst:(assignEach es X.env).findIdx? (·.1)=none:=by rfl):PG X (.Tuple es k pos) (gTup X.K n t):=by
  intro pins s σ H v u Q I r hw
  obtain ⟨a,xs,e1,hq,hl,hw⟩:=hw
  subst e1
  cases r
  obtain ⟨its,rv,ht,hz⟩:=I.tuple hq
  refine assign_Tuple_tuple (I.ok.hd hc) ht (by simp [hn,← hl,rv.length]) hst fun h' hx=>?_
  have I1:Inv X pins σ H { s with heap:=h' }:=I.kept (t':=s.toks) fun b o e=>hx b o (Nat.ne_of_lt (Heap.lt_size e)) e
  exact h pins _ σ H xs _ Q I1 (by simpa using rv) hw
def gSub (to ti:TE) (t:TSet):TG:=fun v σ H Q=>to σ H fun o H1=>ti σ H1 fun i H2=>t o i v H2 fun H3=>Q σ H3
theorem pg_sub {o i:Expr} {to ti:TE} {t:TSet} (ho:PE X o to) (hi:PE X i ti) (hs:PSet X t)
    (ha:∀ v,assign (.Subscript o i pos) X.env v=(do
      let ov ← holding [v] (eval o X.env)
      let iv ← holding [v,ov] (eval i X.env)
      standAt pos
      holding [v,ov,iv] (setItem ov iv v)
      release [v,ov,iv] []):=by intro _; rfl):PG X (.Subscript o i pos) (gSub to ti t):=by
  intro pins s σ H v u Q I r h
  rw [ha]
  refine wpAny_bind (wpAny_holding (thn (ho pins s σ H _ I h) fun ov s1 ⟨x,H1,I1,r1,q1⟩=>?_))
  refine wpAny_bind (wpAny_holding (thn (hi pins s1 σ H1 _ I1 q1) fun iv s2 ⟨y,H2,I2,r2,q2⟩=>?_))
  refine wpAny_bind (wpAny_standAt (wpAny_bind (wpAny_holding (thn (hs pins s2 σ H2 x y v ov iv u _ I2 r1 r2 r q2) fun _ s3 ⟨H3,I3,q3⟩=>?_))))
  exact wpAny_release ⟨σ,H3,I3,q3⟩
def tAsg (te:TE) (g:TG):TS:=fun D σ H=>te σ H fun x H1=>g x σ H1 D.nx
theorem ps_asg {tg e:Expr} {te:TE} {g:TG} (he:PE X e te) (hg:PG X tg g) (hs:swapsWithSole [tg] e pos.line X.env=pure false:=by rfl) (hw:swappedStores [tg] e X.env=pure none:=by rfl)
    (h1:(assignEach [tg] X.env).map (·.2)=[assign tg X.env]:=by rfl):PS X (.Assign [tg] e pos) (tAsg te g):=by
  refine ⟨?_⟩
  intro pins s σ H D I h
  refine wpAny_Assign_stores (thn (he pins s σ H _ I h) fun v s1 ⟨x,H1,I1,r1,q1⟩=>?_) hs hw
  rw [h1]
  exact thn (hg pins s1 σ H1 x v _ I1 r1 q1) fun _ s2 q=>q
theorem ps_set {i:Nat} {x:Str} {e:Expr} {te:TE} {pos':Pos} (hN:X.N.Nodup) (hi:X.N[i]?=some x) (hx:Loc X.env.scope x) (he:PE X e te) (hs:swapsWith e (some (.Name x pos')) pos.line X.env=pure false:=by rfl) (hf:X.fn x=true∨X.env.scope.names.lookup x=some .local:=by first | exact .inl rfl | exact .inr rfl | assumption) :
    PS X (.Assign [.Name x pos'] e pos) (tAsg te (gName i)):=by
  refine ⟨?_⟩
  intro pins s σ H D I h
  refine wpAny_Assign_Name (thn (he pins s σ H _ I h) fun v s1 ⟨y,H1,I1,r1,q1⟩=>?_) hs
  exact store_ok I1 hN hi hx r1 (fun s2 I2=>⟨_,H1,I2,q1⟩) hf
def tAug (i:Nat) (te:TE) (ti:TIp):TS:=fun D σ H=>∃ x,σ[i]?=some (some x)∧te σ H fun y H1=>ti x y H1 fun z H2=>D.nx (σ.set i (some z)) H2
theorem ps_aug {i:Nat} {x:Str} {e:Expr} {te:TE} {op:Operator} {ti:TIp} {pos':Pos} (hN:X.N.Nodup) (hi:X.N[i]?=some x) (hx:Loc X.env.scope x) (he:PE X e te) (ho:PIp X op ti) (hf:X.fn x=true∨X.env.scope.names.lookup x=some .local:=by first | exact .inl rfl | exact .inr rfl | assumption) :
    PS X (.AugAssign (.Name x pos') op e pos) (tAug i te ti):=by
  refine ⟨?_⟩
  intro pins s σ H D I h
  obtain ⟨v,e1,h⟩:=h
  obtain ⟨m,hn,hl⟩:=I.loc
  have vis:Vis X.env.scope x:=by rcases hx with k | k; exact .inl k; exact .inr (.inl k)
  obtain ⟨u,r,l⟩:=hl i x v hi e1 vis
  refine wpAny_AugAssign_Name ?_
  have go:wpAny (model X.prog X.w) X.A (eval e X.env) (fun w s₂=>wpAny (model X.prog X.w) X.A (inplaceOp op u w) (fun r s₃=>wpAny (model X.prog X.w) X.A (storeName X.env x r) (fun _=>SP X pins D .next) X.xe s₃) X.xe s₂) X.xe s:=by
    refine thn (he pins s σ H _ I h) fun w s1 ⟨y,H1,I1,r1,q1⟩=>?_
    refine thn (ho pins s1 σ H1 v y u w _ I1 r r1 q1) fun z s2 ⟨zv,H2,I2,r2,q2⟩=>?_
    exact store_ok I2 hN hi hx r2 (fun s3 I3=>⟨_,H2,I3,q2⟩) hf
  rcases l with ⟨hk,hm⟩ | ⟨hk,c,hc,hcell⟩
  · exact wpAny_loadName_local I.ok.kind hk hn hm go
  · rcases hk with hk | hk
    · exact wpAny_loadName_cell I.ok.kind hk hc hcell go
    · rcases hx with k | k
      · have:X.env.scope.names.lookup x=some .free:=hk
        rw [k] at this; cases this
      · have:X.env.scope.names.lookup x=some .free:=hk
        rw [k] at this; cases this
def tAugS (to ti te:TE) (tget:V→V→Hp→VK→Prop) (tip:TIp) (tset:TSet):TS:=fun D σ H=>to σ H fun o H1=>ti σ H1 fun i H2=>tget o i H2 fun x H3=>te σ H3 fun y H4=>tip x y H4 fun z H5=>tset o i z H5 fun H6=>D.nx σ H6
def PGet (X:Cx) (t:V→V→Hp→VK→Prop):Prop :=
  ∀ (pins:List (Addr × Obj)) (s:Shared) (σ:St) (H:Hp) (o i:V) (ov iv:Value) (Q:VK),Inv X pins σ H s→RelV o ov→RelV i iv→t o i H Q →
    wpAny (model X.prog X.w) X.A (getItem ov iv) (EP X pins σ Q) X.xe s
theorem ps_augS {o i e:Expr} {to ti te:TE} {tget:V→V→Hp→VK→Prop} {tip:TIp} {tset:TSet} {op:Operator} {tpos:Pos} (ho:PE X o to) (hi:PE X i ti) (hg:PGet X tget) (he:PE X e te) (hp:PIp X op tip) (hs:PSet X tset)
    (ha:∀ ov iv new,augStore i ov iv new=(do holding [new,ov,iv] (setItem ov iv new); release [new,ov,iv] []; pure .next):=by intros; rfl):PS X (.AugAssign (.Subscript o i tpos) op e pos) (tAugS to ti te tget tip tset):=by
  refine ⟨?_⟩
  intro pins s σ H D I h
  refine wpAny_AugAssign_SubscriptAny (thn (ho pins s σ H _ I h) fun ov s1 ⟨x1,H1,I1,r1,q1⟩=>?_) ha
  refine thn (hi pins s1 σ H1 _ I1 q1) fun iv s2 ⟨x2,H2,I2,r2,q2⟩=>?_
  refine thn (hg pins s2 σ H2 x1 x2 ov iv _ I2 r1 r2 q2) fun old s3 ⟨x3,H3,I3,r3,q3⟩=>?_
  refine thn (he pins s3 σ H3 _ I3 q3) fun v s4 ⟨x4,H4,I4,r4,q4⟩=>?_
  refine thn (hp pins s4 σ H4 x3 x4 old v _ I4 r3 r4 q4) fun new s5 ⟨x5,H5,I5,r5,q5⟩=>?_
  exact thn (hs pins s5 σ H5 x1 x2 x5 ov iv new _ I5 r1 r2 r5 q5) fun _ s6 ⟨H6,I6,q6⟩=>⟨σ,H6,I6,q6⟩
def ipI (f:Int→Int→Int):TIp:=fun x y H Q=>∃ i j,x=.int i∧y=.int j∧Q (.int (f i j)) H
theorem ip_add:PIp X .Add (ipI fun i j=>i + j):=by
  intro pins s σ H x y v u Q I r1 r2 h
  obtain ⟨i,j,e1,e2,q⟩:=h
  subst e1; subst e2
  obtain ⟨t,rfl⟩:=r1
  obtain ⟨t',rfl⟩:=r2
  exact iadd_int ⟨.int _,H,I.tok _,⟨_,rfl⟩,q⟩
theorem ip_sub:PIp X .Sub (ipI fun i j=>i - j):=by
  intro pins s σ H x y v u Q I r1 r2 h
  obtain ⟨i,j,e1,e2,q⟩:=h
  subst e1; subst e2
  obtain ⟨t,rfl⟩:=r1
  obtain ⟨t',rfl⟩:=r2
  exact isub_int ⟨.int _,H,I.tok _,⟨_,rfl⟩,q⟩
end
section
variable {X:Cx} {pos:Pos}
def tWhile (c:TT) (tb:TS):TS:=fun D σ H=>∃ W:Nat→St→Hp→Prop,(∃ m,W m σ H)∧∀ m σ H,W m σ H →
  c σ H fun b H1=>if b=true then ∃ N:St→Hp→Prop,(∀ σ' H',N σ' H'→∃ m',m' < m∧W m' σ' H')∧tb { D with nx:=N,ct:=N,bk:=D.nx } σ H1 else D.nx σ H1
theorem ps_while {c:Expr} {body:List Stmt} {tc:TT} {tb:TS} (hp:PassesOwn (model X.prog X.w) X.A X.env X.xe) (hc:PT X c tc) (hb:PSs X body tb):PS X (.While c body [] pos) (tWhile tc tb):=by
  refine ⟨?_⟩
  intro pins s σ H D I h
  obtain ⟨W,⟨m0,w0⟩,turn⟩:=h
  refine wpAny_While (codeAny_whileLoop (fun n s'=>∃ σ' H',Inv X pins σ' H' s'∧W n σ' H') ?_ m0 ⟨σ,H,I,w0⟩)
  rintro n s1 ⟨σ1,H1,I1,w1⟩
  refine wpAny_passesOwn hp (thn (hc pins s1 σ1 H1 _ I1 (turn n σ1 H1 w1)) fun b s2 ⟨H2,I2,q2⟩=>?_)
  cases b with
  | true =>
    obtain ⟨N,hN,q2⟩:=q2
    rw [if_pos rfl]
    refine wpAny_passesOwn hp (thn (hb pins s2 σ1 H2 _ I2 q2) fun f s3 q3=>?_)
    cases f with
    | next =>
      obtain ⟨σ3,H3,I3,n3⟩:=q3
      obtain ⟨m',hm,w3⟩:=hN σ3 H3 n3
      exact ⟨m',hm,σ3,H3,I3,w3⟩
    | cont =>
      obtain ⟨σ3,H3,I3,n3⟩:=q3
      obtain ⟨m',hm,w3⟩:=hN σ3 H3 n3
      exact ⟨m',hm,σ3,H3,I3,w3⟩
    | brk=>exact q3
    | ret v=>exact q3
  | false =>
    rw [if_neg Bool.false_ne_true]
    exact wpAny_execs_nil ⟨σ1,H2,I2,q2⟩
end
structure It where
  go:Nat→Hp→Prop
  yld:Nat→Hp→V→Hp→Prop
  stop:Nat→Hp→Prop
def FpOk (X:Cx) (pins:List (Addr × Obj)) (H:Hp) (b:Addr):Prop :=
  H b=none∧b≠X.env.locals∧b ∉ X.fs∧(b ∈ X.ex∨X.s₀.heap.objs.size≤b)∧(∀ x c,X.env.cells.lookup x=some c→c≠b)∧∀ p ∈ X.pn++pins,p.1≠b
theorem Inv.fpOk {X:Cx} {pins:List (Addr × Obj)} {σ:St} {H H':Hp} {s:Shared} {b:Addr} (I:Inv X pins σ H s) (hb:s.heap.objs.size≤b) (hn:H' b=none):FpOk X pins H' b:=by
  refine ⟨hn,Nat.ne_of_gt (Nat.lt_of_lt_of_le I.lt hb),I.nofs hb,.inr (Nat.le_trans I.sz hb),fun x c e z=>?_,fun p hp z=>?_⟩
  · obtain ⟨v,q⟩:=I.cell x c e
    exact absurd (Nat.lt_of_lt_of_le q.lt (by rw [z]; exact hb)) (Nat.lt_irrefl _)
  · exact absurd (Nat.lt_of_lt_of_le (Heap.lt_size (I.pin p hp).1) (by rw [z]; exact hb)) (Nat.lt_irrefl _)
structure Turn (P:Program) (w:World) (K:PySem.W.Frag) (tg:Expr) (J:It) (fp:List Addr) (it:Addr) (tn:Nat→Heap→Prop):Prop where
  mem:it ∈ fp
  obj:∀ i h,tn i h→∀ b ∈ fp,∃ o,h.get? b=some o∧∀ v,o.data≠.cell v
  keep:∀ i h h',tn i h→(∀ b ∈ fp,∀ o,h.get? b=some o→h'.get? b=some o)→tn i h'
  item:∀ (X:Cx),X.prog=P→X.w=w→X.K=K→X.calm=true→∀ (i:Nat) (pins:List (Addr × Obj)) (s:Shared) (σ:St) (H:Hp) (E:Value→Shared→Prop),Inv X pins σ H s→(∀ b ∈ fp,FpOk X pins H b)→tn i s.heap→J.go i H →
    wpAny (model P w) X.A (pyNext (.ref it)) (fun r s1=>∃ u,r=some u ∧
      wpAny (model P w) X.A (letOwnedTupleGo tg (.ref it) u) (fun _ s2=>∃ x H',Inv X pins σ H' s2∧RelV x u∧J.yld i H x H'∧tn (i + 1) s2.heap∧∀ b ∈ fp,H' b=none) E s1) E s
  done:∀ (X:Cx),X.prog=P→X.w=w→X.K=K→X.calm=true→∀ (i:Nat) (pins:List (Addr × Obj)) (s:Shared) (σ:St) (H:Hp) (E:Value→Shared→Prop),Inv X pins σ H s→(∀ b ∈ fp,FpOk X pins H b)→tn i s.heap→J.stop i H →
    wpAny (model P w) X.A (pyNext (.ref it)) (fun r s1=>r=none∧Inv X pins σ H s1) E s
  self:∀ (A:Around) (i:Nat) (s:Shared) (Q:Value→Shared→Prop) (E:Value→Shared→Prop),tn i s.heap→Q (.ref it) s→wpAny (model P w) A (pyIter (.ref it)) Q E s
abbrev TI:=St→Hp→(It→Hp→Prop)→Prop
def PIE (X:Cx) (pins:List (Addr × Obj)) (σ:St) (tg:Expr) (R:It→Hp→Prop) (itv:Value) (s2:Shared):Prop :=
  ∃ (it:Addr) (fp:List Addr) (tn:Nat→Heap→Prop) (J:It) (H':Hp),itv=.ref it∧Inv X pins σ H' s2∧Turn X.prog X.w X.K tg J fp it tn∧tn 0 s2.heap∧(∀ b ∈ fp,FpOk X pins H' b)∧R J H'
def PI (X:Cx) (tg iter:Expr) (wi:TI):Prop :=
  ∀ (pins:List (Addr × Obj)) (s:Shared) (σ:St) (H:Hp) (R:It→Hp→Prop),Inv X pins σ H s→wi σ H R →
    wpAny (model X.prog X.w) X.A (eval iter X.env) (fun v s1=>wpAny (model X.prog X.w) X.A (pyIter v) (PIE X pins σ tg R) X.xe s1) X.xe s
theorem go_of {M:Model} {A:Around} {E:Value→Shared→Prop} {s:Shared} {tg:Expr} {it:Addr} {u:Value} {o:Obj} {n:String} {vs:Array Value} {Q:Unit→Shared→Prop} (ho:s.heap.get? it=some o) (hc:o.cls=.type n) (hd:o.data=.fields vs)
    (hn:["enumerate","zip","dict_itemiterator","dict_reverseitemiterator","odict_iterator","itertools.zip_longest","itertools.pairwise"].contains n=false) (hQ:Q () s):wpAny M A (letOwnedTupleGo tg (.ref it) u) Q E s:=by
  unfold letOwnedTupleGo
  cases tg <;> first
    | exact wpAny_pure hQ
    | (cases u <;> first
        | exact wpAny_pure hQ
        | (refine wpAny_bind (wpAny_load ho ?_)
           rw [hc,hd]
           show wpAny M A (if (["enumerate","zip","dict_itemiterator","dict_reverseitemiterator","odict_iterator","itertools.zip_longest","itertools.pairwise"].contains n && vs[0]? == some (rawInt _))=true then _ else _) Q E s
           rw [if_neg (by intro h; rw [hn,Bool.false_and] at h; cases h)]
           exact wpAny_pure hQ))
def Itl (K:PySem.W.Frag) (a:Addr):It :=
  ⟨fun i H=>∃ xs x,SqL K H a xs∧xs[i]?=some x,fun i H x H'=>H'=H∧∀ xs,SqL K H a xs→xs[i]?=some x,fun i H=>∃ xs,SqL K H a xs∧xs.length≤i⟩
def Itt (K:PySem.W.Frag) (a:Addr):It :=
  ⟨fun i H=>∃ xs x,SqT K H a xs∧xs[i]?=some x,fun i H x H'=>H'=H∧∀ xs,SqT K H a xs→xs[i]?=some x,fun i H=>∃ xs,SqT K H a xs∧xs.length≤i⟩
def Itr (lo:Int) (n:Nat):It:=⟨fun i _=>i < n,fun i H x H'=>H'=H∧x=.int (lo + i),fun i _=>n≤i⟩
theorem turn_list {P:Program} {w:World} {K:PySem.W.Frag} {tg:Expr} (a it:Addr):Turn P w K tg (Itl K a) [it] it (fun i h=>h.IsListIter it a i) where
  mem:=by simp
  obj:=fun i h st b hb=>by
    have e:b=it:=by simpa using hb
    subst e
    obtain ⟨o,e,c,d⟩:=st
    exact ⟨o,e,fun v z=>by rw [d] at z; cases z⟩
  keep:=fun i h h' st k=>st.at fun o e=>k it (by simp) o e
  item:=by
    intro X hP hw hK hc i pins s σ H E I hf st hg
    subst hP hw hK
    obtain ⟨xs,x,hq,hx⟩:=hg
    obtain ⟨its,rv,p,hz⟩:=I.list hq
    obtain ⟨u,hu,ru⟩:=rv.get hx
    obtain ⟨f0,f1,f2,f3,f4,f5⟩:=hf it (by simp)
    refine wpAny_pyNext_list_item st p.isList (x:=u) (by simpa using hu) fun h' st' sb=>?_
    have I1:Inv X pins σ H { s with heap:=h' }:=I.turned (t':=s.toks) (fun b o hb e=>(sb.2 b hb).trans e) f0 f1 f3 f4 f5
    obtain ⟨o,e,c,d⟩:=id st'
    exact ⟨u,rfl,go_of (s:={ s with heap:=h' }) e c d (by decide) ⟨x,H,I1,ru,⟨rfl,fun ys hy=>by rw [I.list_inj hy hq]; exact hx⟩,st',fun b hb=>(hf b hb).1⟩⟩
  done:=by
    intro X hP hw hK hc i pins s σ H E I hf st hg
    subst hP hw hK
    obtain ⟨xs,hq,hx⟩:=hg
    obtain ⟨its,rv,p,hz⟩:=I.list hq
    obtain ⟨f0,f1,f2,f3,f4,f5⟩:=hf it (by simp)
    have hl:=rv.length
    exact wpAny_pyNext_list_end (I.ok.hd hc) st p.isList (by simp; omega) fun h' eb=>⟨rfl,I.turned (t':=s.toks) (fun b o hb e=>eb b o hb e) f0 f1 f3 f4 f5⟩
  self:=fun _ _ _ _ _ st h=>wpAny_pyIter_listiter st h
theorem turn_tuple {P:Program} {w:World} {K:PySem.W.Frag} {tg:Expr} (a it:Addr):Turn P w K tg (Itt K a) [it] it (fun i h=>h.IsTupleIter it a i) where
  mem:=by simp
  obj:=fun i h st b hb=>by
    have e:b=it:=by simpa using hb
    subst e
    obtain ⟨o,e,c,d⟩:=st
    exact ⟨o,e,fun v z=>by rw [d] at z; cases z⟩
  keep:=fun i h h' st k=>st.at fun o e=>k it (by simp) o e
  item:=by
    intro X hP hw hK hc i pins s σ H E I hf st hg
    subst hP hw hK
    obtain ⟨xs,x,hq,hx⟩:=hg
    obtain ⟨its,rv,p,hz⟩:=I.tuple hq
    obtain ⟨u,hu,ru⟩:=rv.get hx
    obtain ⟨f0,f1,f2,f3,f4,f5⟩:=hf it (by simp)
    refine wpAny_pyNext_tuple_item st (show s.heap.IsTuple a its.toArray from p) (x:=u) (by simpa using hu) fun h' st' sb=>?_
    have I1:Inv X pins σ H { s with heap:=h' }:=I.turned (t':=s.toks) (fun b o hb e=>(sb.2 b hb).trans e) f0 f1 f3 f4 f5
    obtain ⟨o,e,c,d⟩:=id st'
    exact ⟨u,rfl,go_of (s:={ s with heap:=h' }) e c d (by decide) ⟨x,H,I1,ru,⟨rfl,fun ys hy=>by rw [I.tuple_inj hy hq]; exact hx⟩,st',fun b hb=>(hf b hb).1⟩⟩
  done:=by
    intro X hP hw hK hc i pins s σ H E I hf st hg
    subst hP hw hK
    obtain ⟨xs,hq,hx⟩:=hg
    obtain ⟨its,rv,p,hz⟩:=I.tuple hq
    obtain ⟨f0,f1,f2,f3,f4,f5⟩:=hf it (by simp)
    have hl:=rv.length
    exact wpAny_pyNext_tuple_end (I.ok.hd hc) st (show s.heap.IsTuple a its.toArray from p) (by simp; omega) fun h' eb=>⟨rfl,I.turned (t':=s.toks) (fun b o hb e=>eb b o hb e) f0 f1 f3 f4 f5⟩
  self:=fun _ _ _ _ _ st h=>wpAny_pyIter_tupleiter st h
theorem turn_range {P:Program} {w:World} {K:PySem.W.Frag} {tg:Expr} (it:Addr) (lo:Int) (n:Nat):Turn P w K tg (Itr lo n) [it] it (fun i h=>IsRangeIter h it (lo + (i:Nat) * 1) ((n:Int) - (i:Nat)) 1) where
  mem:=by simp
  obj:=fun i h st b hb=>by
    have e:b=it:=by simpa using hb
    subst e
    exact ⟨_,st,fun v z=>by
      have z':Data.fields _=Data.cell v:=z
      cases z'⟩
  keep:=fun i h h' st k=>k it (by simp) _ st
  item:=by
    intro X hP hw hK hc i pins s σ H E I hf st hg
    subst hP hw hK
    obtain ⟨f0,f1,f2,f3,f4,f5⟩:=hf it (by simp)
    have W:=Walks.range (prog:=X.prog) (w:=X.w) (I.ok.hd hc) it lo 1 n
    refine W.item i s _ _ hg st fun v h' tk hv st' kk=>?_
    obtain ⟨t,rfl⟩:=hv
    have I1:Inv X pins σ H { s with heap:=h',toks:=tk }:=I.turned (fun b o hb e=>kk b o (by simpa using hb) e) f0 f1 f3 f4 f5
    refine ⟨_,rfl,go_of (s:={ s with heap:=h',toks:=tk }) (n:="range_iterator") st' rfl rfl (by decide) ⟨.int (lo + i),H,I1,⟨t,?_⟩,⟨rfl,rfl⟩,st',fun b hb=>(hf b hb).1⟩⟩
    rw [Int.mul_one]
  done:=by
    intro X hP hw hK hc i pins s σ H E I hf st hg
    subst hP hw hK
    obtain ⟨f0,f1,f2,f3,f4,f5⟩:=hf it (by simp)
    exact wpAny_pyNext_range_end (I.ok.hd hc) st (by have:n≤i:=hg; omega) fun h' eb=>⟨rfl,I.turned (t':=s.toks) (fun b o hb e=>eb b o hb e) f0 f1 f3 f4 f5⟩
  self:=fun _ _ _ _ _ st h=>wpAny_pyIter_rangeiter st h
end L2
namespace L2
open PySem PySem.Spec PyProof.Rows
section
variable {X:Cx} {tg:Expr}
inductive iListX (K:PySem.W.Frag) (R:It→Hp→Prop) (x:V) (H1:Hp):Prop
  | mk (a:Addr) (e:x=.ref a) (h:∃ xs,SqL K H1 a xs) (q:R (Itl K a) H1):iListX K R x H1
def iList (K:PySem.W.Frag) (tl:TE):TI:=fun σ H R=>tl σ H fun x H1=>iListX K R x H1
def iTup (K:PySem.W.Frag) (tl:TE):TI:=fun σ H R=>tl σ H fun x H1=>∃ a,x=.ref a∧(∃ xs,SqT K H1 a xs)∧R (Itt K a) H1
theorem pi_list {l:Expr} {tl:TE} (hl:PE X l tl):PI X tg l (iList X.K tl):=by
  intro pins s σ H R I h
  refine thn (hl pins s σ H _ I h) fun v s1 ⟨x,H1,I1,r1,q1⟩=>?_
  obtain ⟨a,e,⟨xs,hq⟩,q⟩:=q1
  subst e
  cases r1
  obtain ⟨its,rv,p,hz⟩:=I1.list hq
  refine wpAny_pyIter_list p.isList ?_
  refine ⟨s1.heap.objs.size,[s1.heap.objs.size],_,_,H1,rfl,I1.kept (t':=s1.toks) fun b o e=>Heap.get?_push_of_some _ e,turn_list a _,⟨_,Heap.get?_push_size _ rfl,rfl,rfl⟩,fun b hb=>?_,q⟩
  have e:b=s1.heap.objs.size:=by simpa using hb
  subst e
  exact I1.fpOk (Nat.le_refl _) (I1.hok.fresh (Nat.le_refl _))
theorem pi_tup {l:Expr} {tl:TE} (hl:PE X l tl):PI X tg l (iTup X.K tl):=by
  intro pins s σ H R I h
  refine thn (hl pins s σ H _ I h) fun v s1 ⟨x,H1,I1,r1,q1⟩=>?_
  obtain ⟨a,e,⟨xs,hq⟩,q⟩:=q1
  subst e
  cases r1
  obtain ⟨its,rv,p,hz⟩:=I1.tuple hq
  refine wpAny_pyIter_tuple (show s1.heap.IsTuple a its.toArray from p) ?_
  refine ⟨s1.heap.objs.size,[s1.heap.objs.size],_,_,H1,rfl,I1.kept (t':=s1.toks) fun b o e=>Heap.get?_push_of_some _ e,turn_tuple a _,⟨_,Heap.get?_push_size _ rfl,rfl,rfl⟩,fun b hb=>?_,q⟩
  have e:b=s1.heap.objs.size:=by simpa using hb
  subst e
  exact I1.fpOk (Nat.le_refl _) (I1.hok.fresh (Nat.le_refl _))
theorem range_it {pins:List (Addr × Obj)} {σ:St} {H:Hp} {s:Shared} {R:It→Hp→Prop} {E:Value→Shared→Prop} {lo hi:Int} {t u v:Tok} {tk:Nat} (I:Inv X pins σ H s) (h1 : -(2 ^ 62)≤lo) (h2:lo < 2 ^ 62) (h3 : -(2 ^ 62)≤hi) (h4:hi < 2 ^ 62)
    (q:R (Itr lo (hi - lo).toNat) H):wpAny (model X.prog X.w) X.A (pyIter (.ref s.heap.objs.size)) (PIE X pins σ tg R) E { s with heap:=s.heap.push { cls:=.type "range",data:=.fields #[.int lo t,.int hi u,.int 1 v] },toks:=tk }:=by
  refine wpAny_pyIter_range (IsRange.new ..) (small_one h1 h2 h3 h4) ?_
  have I1:Inv X pins σ H { s with heap:=s.heap.push { cls:=.type "range",data:=.fields #[.int lo t,.int hi u,.int 1 v] },toks:=tk }:=I.kept fun b o e=>Heap.get?_push_of_some _ e
  refine ⟨(s.heap.push { cls:=.type "range",data:=.fields #[.int lo t,.int hi u,.int 1 v] }).objs.size,[(s.heap.push { cls:=.type "range",data:=.fields #[.int lo t,.int hi u,.int 1 v] }).objs.size],_,_,H,rfl,
    I1.kept (t':=tk) fun b o e=>Heap.get?_push_of_some _ e,turn_range _ lo (hi - lo).toNat,?_,fun b hb=>?_,q⟩
  · have e1:lo + ((0:Nat):Int) * 1=lo:=by simp
    have e2:(((hi - lo).toNat:Nat):Int) - ((0:Nat):Int)=Builtin.Range.rangeSize lo hi 1:=by rw [rangeSize_one]; split <;> omega
    show IsRangeIter _ _ (lo + ((0:Nat):Int) * 1) ((((hi - lo).toNat:Nat):Int) - ((0:Nat):Int)) 1
    rw [e1,e2]
    exact Heap.get?_push_size _ rfl
  · have e:b=(s.heap.push { cls:=.type "range",data:=.fields #[.int lo t,.int hi u,.int 1 v] }).objs.size:=by simpa using hb
    subst e
    exact I1.fpOk (Nat.le_refl _) (I1.hok.fresh (Nat.le_refl _))
inductive iRng1X (R:It→Hp→Prop) (vs:List V) (H1:Hp):Prop
  | mk (j:Int) (e:vs=[.int j]) (h1 : -(2 ^ 62)≤j) (h2:j < 2 ^ 62) (q:R (Itr 0 j.toNat) H1):iRng1X R vs H1
def iRng1 (ta:TA):TI:=fun σ H R=>ta σ H fun vs H1=>iRng1X R vs H1
theorem pi_range1 {a:Expr} {ta:TA} {p pos:Pos} (hg:Gl X "range") (hm:X.mg "range"=none) (ha:PA X [a] ta) (hs:starEach [a] X.env=[(false,eval a X.env)]:=by rfl):PI X tg (.Call (.Name "range" p) [a] [] pos) (iRng1 ta):=by
  intro pins s σ H R I h
  refine Call_ (ld_blt I hg hm boot_range (PyProof.Rows.callWith_type1 (thn (ha pos pins s σ H _ I h) fun us s1 ⟨vs,H1,I1,r1,q1⟩=>?_) hs rfl))
  obtain ⟨j,e,q1,q2,q⟩:=q1
  subst e
  cases r1 with
  | cons r rr =>
    cases rr
    obtain ⟨t,rfl⟩:=r
    exact call_range_1 (range_it I1 (by omega) (by omega) q1 q2 (by simpa using q))
def tFor (wi:TI) (g:TG) (tb:TS):TS:=fun D σ H=>wi σ H fun J H1=>∃ W:Nat→Nat→St→Hp→Prop,(∃ m,W 0 m σ H1)∧∀ i m σ H,W i m σ H →
  (J.stop i H∧D.nx σ H)∨(J.go i H∧∃ N:St→Hp→Prop,(∀ σ' H',N σ' H'→∃ m',m' < m∧W (i + 1) m' σ' H')∧∀ x H',J.yld i H x H'→g x σ H' fun σ2 H2=>tb { D with nx:=N,ct:=N,bk:=D.nx } σ2 H2)
def pinsAt (fp:List Addr) (h:Heap):List (Addr × Obj):=fp.filterMap fun b=>(h.get? b).map fun o=>(b,o)
theorem mem_pinsAt {fp:List Addr} {h:Heap} {b:Addr} {o:Obj} (hb:b ∈ fp) (e:h.get? b=some o):(b,o) ∈ pinsAt fp h:=List.mem_filterMap.mpr ⟨b,hb,by rw [e]; rfl⟩
theorem of_pinsAt {fp:List Addr} {h:Heap} {p:Addr × Obj} (hp:p ∈ pinsAt fp h):p.1 ∈ fp∧h.get? p.1=some p.2:=by
  obtain ⟨b,hb,e⟩:=List.mem_filterMap.mp hp
  cases q:h.get? b with
  | none=>rw [q] at e; cases e
  | some o =>
    rw [q] at e
    have e':(b,o)=p:=Option.some.inj e
    subst e'
    exact ⟨hb,q⟩
theorem Inv.pinned {pins:List (Addr × Obj)} {σ:St} {H:Hp} {s:Shared} {fp:List Addr} (I:Inv X pins σ H s) (hf:∀ b ∈ fp,FpOk X pins H b) (ho:∀ b ∈ fp,∃ o,s.heap.get? b=some o∧∀ v,o.data≠.cell v):Inv X (pins++pinsAt fp s.heap) σ H s :=
  I.pins_of fun p hp=>(List.mem_append.mp hp).elim (fun z=>I.pin p (List.mem_append_right _ z)) fun z=>by
    obtain ⟨hb,e⟩:=of_pinsAt z
    obtain ⟨f0,f1,f2,_⟩:=hf p.1 hb
    obtain ⟨o,e',d⟩:=ho p.1 hb
    rw [e] at e'; cases e'
    exact ⟨e,f0,f1,f2,d⟩
theorem Inv.unpinned {pins pl:List (Addr × Obj)} {σ:St} {H:Hp} {s:Shared} (I:Inv X (pins++pl) σ H s):Inv X pins σ H s:=I.pins_of fun p hp=>I.pin p (List.mem_append_right _ (List.mem_append_left _ hp))
theorem ps_for {iter:Expr} {body:List Stmt} {wi:TI} {g:TG} {tb:TS} {pos:Pos} (hp:PassesOwn (model X.prog X.w) X.A X.env X.xe) (hc:X.calm=true) (hi:PI X tg iter wi) (hg:PG X tg g) (hb:PSs X body tb)
    (hs:∀ x,foldedSetIterable iter X.env x=pure x:=by intro _; rfl):PS X (.For tg iter body [] pos) (tFor wi g tb):=by
  refine ⟨?_⟩
  intro pins s σ H D I h
  refine wpAny_For (thn (hi pins s σ H _ I h) fun v s1 h1=>thn h1 fun itv s2 h2=>?_) hs
  obtain ⟨it,fp,tn,J,H2,e,I2,T,st2,f2,W,⟨m0,w0⟩,turn⟩:=h2
  subst e
  have stat:∀ {H':Hp},(∀ b ∈ fp,H' b=none)→∀ b ∈ fp,FpOk X pins H' b:=fun hn b hb=>⟨hn b hb,(f2 b hb).2⟩
  refine codeAny_forLoop_any (fun n s'=>∃ i σ' H',Inv X pins σ' H' s'∧tn i s'.heap∧(∀ b ∈ fp,H' b=none)∧W i n σ' H') ?_ m0 ⟨0,σ,H2,I2,st2,fun b hb=>(f2 b hb).1,w0⟩
  rintro n s3 ⟨i,σ3,H3,I3,st3,fr3,w3⟩
  rcases turn i n σ3 H3 w3 with ⟨stop,qn⟩ | ⟨go,N,hN,step⟩
  · refine wpAny_passesOwn hp (thn (T.done X rfl rfl rfl hc i pins s3 σ3 H3 X.xe I3 (stat fr3) st3 stop) fun r s4 ⟨hr,I4⟩=>?_)
    subst hr
    exact wpAny_execs_nil ⟨σ3,H3,I4,qn⟩
  · refine wpAny_passesOwn hp (thn (T.item X rfl rfl rfl hc i pins s3 σ3 H3 X.xe I3 (stat fr3) st3 go) fun r s4 ⟨u,hr,h4⟩=>?_)
    subst hr
    refine wpAny_passesOwn hp (thn h4 fun _ s5 ⟨x,H5,I5,r5,y5,st5,fr5⟩=>?_)
    have I5':=I5.pinned (stat fr5) (T.obj _ _ st5)
    refine wpAny_passesOwn hp (thn (hg _ s5 σ3 H5 x u _ I5' r5 (step x H5 y5)) fun _ s6 ⟨σ6,H6,I6,q6⟩=>?_)
    refine wpAny_passesOwn hp (thn (hb _ s6 σ6 H6 _ I6 q6) fun f s7 q7=>?_)
    have again:∀ {σ7:St} {H7:Hp},Inv X (pins++pinsAt fp s5.heap) σ7 H7 s7→N σ7 H7→∃ m,m < n∧∃ i σ' H',Inv X pins σ' H' s7∧tn i s7.heap∧(∀ b ∈ fp,H' b=none)∧W i m σ' H':=fun {σ7 H7} I7 n7=>by
      obtain ⟨m',hm,w7⟩:=hN σ7 H7 n7
      refine ⟨m',hm,i + 1,σ7,H7,I7.unpinned,T.keep _ _ _ st5 fun b hb o e=>(I7.pin (b,o) (List.mem_append_right _ (List.mem_append_right _ (mem_pinsAt hb e)))).1,fun b hb=>?_,w7⟩
      obtain ⟨o,e,d⟩:=T.obj _ _ st5 b hb
      exact (I7.pin (b,o) (List.mem_append_right _ (List.mem_append_right _ (mem_pinsAt hb e)))).2.1
    cases f with
    | next=>obtain ⟨σ7,H7,I7,n7⟩:=q7; exact again I7 n7
    | cont=>obtain ⟨σ7,H7,I7,n7⟩:=q7; exact again I7 n7
    | brk=>obtain ⟨σ7,H7,I7,q7⟩:=q7; exact ⟨σ7,H7,I7.unpinned,q7⟩
    | ret v=>obtain ⟨x7,σ7,H7,I7,r7,q7⟩:=q7; exact ⟨x7,σ7,H7,I7.unpinned,r7,q7⟩
end
theorem for_list {K:PySem.W.Frag} {a:Addr} {xs:List V} {g:TG} {tb:TS} {D:Ends} {σ:St} {H:Hp} (Pv:Nat→St→Hp→Prop) (h0:Pv 0 σ H) (hl:∀ i σ H,i≤xs.length→Pv i σ H→SqL K H a xs)
    (hs:∀ i x σ H,xs[i]?=some x→Pv i σ H→g x σ H fun σ2 H2=>tb { D with nx:=Pv (i + 1),ct:=Pv (i + 1),bk:=D.nx } σ2 H2) (hd:∀ σ H,Pv xs.length σ H→D.nx σ H) :
    ∃ W:Nat→Nat→St→Hp→Prop,(∃ m,W 0 m σ H)∧∀ i m σ H,W i m σ H →
      ((Itl K a).stop i H∧D.nx σ H)∨((Itl K a).go i H∧∃ N:St→Hp→Prop,(∀ σ' H',N σ' H'→∃ m',m' < m∧W (i + 1) m' σ' H')∧∀ x H',(Itl K a).yld i H x H'→g x σ H' fun σ2 H2=>tb { D with nx:=N,ct:=N,bk:=D.nx } σ2 H2):=by
  refine ⟨fun i m σ H=>m=xs.length - i∧i≤xs.length∧Pv i σ H,⟨xs.length,by simp,Nat.zero_le _,h0⟩,?_⟩
  rintro i m σ H ⟨rfl,hi,p⟩
  have q:=hl i σ H hi p
  by_cases hlt:i < xs.length
  · refine .inr ⟨⟨xs,xs[i],q,by simp [hlt]⟩,Pv (i + 1),fun σ' H' p'=>⟨xs.length - (i + 1),by omega,rfl,hlt,p'⟩,fun x H' y=>?_⟩
    obtain ⟨e,y⟩:=y
    subst e
    exact hs i x σ _ (y xs q) p
  · have e:i=xs.length:=by omega
    subst e
    exact .inl ⟨⟨xs,q,Nat.le_refl _⟩,hd σ H p⟩
theorem for_tup {K:PySem.W.Frag} {a:Addr} {xs:List V} {g:TG} {tb:TS} {D:Ends} {σ:St} {H:Hp} (Pv:Nat→St→Hp→Prop) (h0:Pv 0 σ H) (hl:∀ i σ H,i≤xs.length→Pv i σ H→SqT K H a xs)
    (hs:∀ i x σ H,xs[i]?=some x→Pv i σ H→g x σ H fun σ2 H2=>tb { D with nx:=Pv (i + 1),ct:=Pv (i + 1),bk:=D.nx } σ2 H2) (hd:∀ σ H,Pv xs.length σ H→D.nx σ H) :
    ∃ W:Nat→Nat→St→Hp→Prop,(∃ m,W 0 m σ H)∧∀ i m σ H,W i m σ H →
      ((Itt K a).stop i H∧D.nx σ H)∨((Itt K a).go i H∧∃ N:St→Hp→Prop,(∀ σ' H',N σ' H'→∃ m',m' < m∧W (i + 1) m' σ' H')∧∀ x H',(Itt K a).yld i H x H'→g x σ H' fun σ2 H2=>tb { D with nx:=N,ct:=N,bk:=D.nx } σ2 H2):=by
  refine ⟨fun i m σ H=>m=xs.length - i∧i≤xs.length∧Pv i σ H,⟨xs.length,by simp,Nat.zero_le _,h0⟩,?_⟩
  rintro i m σ H ⟨rfl,hi,p⟩
  have q:=hl i σ H hi p
  by_cases hlt:i < xs.length
  · refine .inr ⟨⟨xs,xs[i],q,by simp [hlt]⟩,Pv (i + 1),fun σ' H' p'=>⟨xs.length - (i + 1),by omega,rfl,hlt,p'⟩,fun x H' y=>?_⟩
    obtain ⟨e,y⟩:=y
    subst e
    exact hs i x σ _ (y xs q) p
  · have e:i=xs.length:=by omega
    subst e
    exact .inl ⟨⟨xs,q,Nat.le_refl _⟩,hd σ H p⟩
theorem for_range {lo:Int} {n:Nat} {g:TG} {tb:TS} {D:Ends} {σ:St} {H:Hp} (Pv:Nat→St→Hp→Prop) (h0:Pv 0 σ H)
    (hs:∀ i σ H,i < n→Pv i σ H→g (.int (lo + i)) σ H fun σ2 H2=>tb { D with nx:=Pv (i + 1),ct:=Pv (i + 1),bk:=D.nx } σ2 H2) (hd:∀ σ H,Pv n σ H→D.nx σ H) :
    ∃ W:Nat→Nat→St→Hp→Prop,(∃ m,W 0 m σ H)∧∀ i m σ H,W i m σ H →
      ((Itr lo n).stop i H∧D.nx σ H)∨((Itr lo n).go i H∧∃ N:St→Hp→Prop,(∀ σ' H',N σ' H'→∃ m',m' < m∧W (i + 1) m' σ' H')∧∀ x H',(Itr lo n).yld i H x H'→g x σ H' fun σ2 H2=>tb { D with nx:=N,ct:=N,bk:=D.nx } σ2 H2):=by
  refine ⟨fun i m σ H=>m=n - i∧i≤n∧Pv i σ H,⟨n,by simp,Nat.zero_le _,h0⟩,?_⟩
  rintro i m σ H ⟨rfl,hi,p⟩
  by_cases hlt:i < n
  · refine .inr ⟨hlt,Pv (i + 1),fun σ' H' p'=>⟨n - (i + 1),by omega,rfl,hlt,p'⟩,fun x H' y=>?_⟩
    obtain ⟨e,y⟩:=y
    subst e y
    exact hs i σ _ hlt p
  · have e:i=n:=by omega
    subst e
    exact .inl ⟨Nat.le_refl _,hd σ H p⟩
end L2
namespace L2
open PySem PySem.Spec PyProof.Rows
abbrev R2:=V→V→Hp→VK→Prop
def OpR (X:Cx) (f:Value→Value→Sem Value) (r:R2):Prop :=
  ∀ (pins:List (Addr × Obj)) (s:Shared) (σ:St) (H:Hp) (x y:V) (v u:Value) (Q:VK),Inv X pins σ H s→RelV x v→RelV y u→r x y H Q →
    wpAny (model X.prog X.w) X.A (f v u) (EP X pins σ Q) X.xe s
def UnR (X:Cx) (f:Value→Sem Value) (r:V→Hp→VK→Prop):Prop :=
  ∀ (pins:List (Addr × Obj)) (s:Shared) (σ:St) (H:Hp) (x:V) (v:Value) (Q:VK),Inv X pins σ H s→RelV x v→r x H Q →
    wpAny (model X.prog X.w) X.A (f v) (EP X pins σ Q) X.xe s
def CallR (X:Cx) (f:Value) (r:List V→Hp→VK→Prop):Prop :=
  ∀ (pins:List (Addr × Obj)) (s:Shared) (σ:St) (H:Hp) (xs:List V) (us:List Value) (Q:VK),Inv X pins σ H s→Vals xs us→r xs H Q →
    wpAny (model X.prog X.w) X.A (call f us) (EP X pins σ Q) X.xe s
def TruR (X:Cx) (r:V→Hp→(Bool→Hp→Prop)→Prop):Prop :=
  ∀ (pins:List (Addr × Obj)) (s:Shared) (σ:St) (H:Hp) (x:V) (v:Value) (Q:Bool→Hp→Prop),Inv X pins σ H s→RelV x v→r x H Q →
    wpAny (model X.prog X.w) X.A (truthy v) (TP X pins σ Q) X.xe s
def tOp (r:R2) (ta tb:TE):TE:=fun σ H Q=>ta σ H fun x H1=>tb σ H1 fun y H2=>r x y H2 Q
def tUn (r:V→Hp→VK→Prop) (ta:TE):TE:=fun σ H Q=>ta σ H fun x H1=>r x H1 Q
inductive rI (C:Int→Int→Prop) (g:Int→Int→V) (x y:V) (H:Hp) (Q:VK):Prop
  | mk (i j:Int) (e1:x=.int i) (e2:y=.int j) (c:C i j) (q:Q (g i j) H):rI C g x y H Q
inductive rI0 (g:Int→Int→V) (x y:V) (H:Hp) (Q:VK):Prop
  | mk (i j:Int) (e1:x=.int i) (e2:y=.int j) (q:Q (g i j) H):rI0 g x y H Q
def rU (g:Int→V):V→Hp→VK→Prop:=fun x H Q=>∃ i,x=.int i∧Q (g i) H
section
variable {X:Cx} {a b c:Expr} {ta tb tc:TE} {pos:Pos}
theorem binT (ha:PE X a ta) (hb:PE X b tb) {pins:List (Addr × Obj)} {s:Shared} {σ:St} {H:Hp} {R:V→V→Hp→Prop} (I:Inv X pins σ H s)
    (h:ta σ H fun x H1=>tb σ H1 fun y H2=>R x y H2) {Q:Value→Shared→Prop} {f:Value→Value→Sem Value}
    (hf:∀ v u s2 x y H2,Inv X pins σ H2 s2→RelV x v→RelV y u→R x y H2→wpAny (model X.prog X.w) X.A (f v u) Q X.xe s2) :
    wpAny (model X.prog X.w) X.A (eval a X.env) (fun v s₁=>wpAny (model X.prog X.w) X.A (eval b X.env) (fun u s₂=>wpAny (model X.prog X.w) X.A (f v u) Q X.xe s₂) X.xe s₁) X.xe s:=by
  refine thn (ha pins s σ H _ I h) fun v s1 ⟨x,H1,I1,r1,q1⟩=>?_
  refine thn (hb pins s1 σ H1 _ I1 q1) fun u s2 ⟨y,H2,I2,r2,q2⟩=>?_
  exact hf v u s2 x y H2 I2 r1 r2 q2
theorem pe_op {op:Operator} {r:R2} (ho:OpR X (binaryOp op) r) (ha:PE X a ta) (hb:PE X b tb):PE X (.BinOp a op b pos) (tOp r ta tb):=by
  refine ⟨?_⟩
  intro pins s σ H Q I h
  exact wpAny_BinOp (binT ha hb I h fun v u s2 x y H2 I2 rx ry q=>ho pins s2 σ H2 x y v u Q I2 rx ry q)
theorem pe_un {op:UnaryOp} {r:V→Hp→VK→Prop} (ho:UnR X (unaryOp op) r) (ha:PE X a ta):PE X (.UnaryOp op a pos) (tUn r ta):=by
  refine ⟨?_⟩
  intro pins s σ H Q I h
  exact UnaryOp_ (thn (ha pins s σ H _ I h) fun v s1 ⟨x,H1,I1,r1,q1⟩=>ho pins s1 σ H1 x v Q I1 r1 q1)
theorem opI {f:Value→Value→Sem Value} {C:Int→Int→Prop} {g:Int→Int→Int}
    (rule:∀ (i j:Int) (t u:Tok) (s:Shared) (Q:Value→Shared→Prop) (E:Value→Shared→Prop),C i j→Q (.int (g i j) s.toks) { s with toks:=s.toks + 1 }→wpAny (model X.prog X.w) X.A (f (.int i t) (.int j u)) Q E s) :
    OpR X f (rI C fun i j=>.int (g i j)):=by
  intro pins s σ H x y v u Q I rx ry h
  obtain ⟨i,j,rfl,rfl,hc,q⟩:=h
  obtain ⟨t,rfl⟩:=rx
  obtain ⟨t',rfl⟩:=ry
  exact rule i j t t' s _ _ hc ⟨.int (g i j),H,I.tok _,⟨_,rfl⟩,q⟩
theorem opI0 {f:Value→Value→Sem Value} {g:Int→Int→Int}
    (rule:∀ (i j:Int) (t u:Tok) (s:Shared) (Q:Value→Shared→Prop) (E:Value→Shared→Prop),Q (.int (g i j) s.toks) { s with toks:=s.toks + 1 }→wpAny (model X.prog X.w) X.A (f (.int i t) (.int j u)) Q E s) :
    OpR X f (rI0 fun i j=>.int (g i j)):=by
  intro pins s σ H x y v u Q I rx ry h
  obtain ⟨i,j,rfl,rfl,q⟩:=h
  obtain ⟨t,rfl⟩:=rx
  obtain ⟨t',rfl⟩:=ry
  exact rule i j t t' s _ _ ⟨.int (g i j),H,I.tok _,⟨_,rfl⟩,q⟩
theorem opB0 {f:Value→Value→Sem Value} {g:Int→Int→Bool}
    (rule:∀ (i j:Int) (t u:Tok) (s:Shared) (Q:Value→Shared→Prop) (E:Value→Shared→Prop),Q (.bool (g i j)) s→wpAny (model X.prog X.w) X.A (f (.int i t) (.int j u)) Q E s) :
    OpR X f (rI0 fun i j=>.bl (g i j)):=by
  intro pins s σ H x y v u Q I rx ry h
  obtain ⟨i,j,rfl,rfl,q⟩:=h
  obtain ⟨t,rfl⟩:=rx
  obtain ⟨t',rfl⟩:=ry
  exact rule i j t t' s _ _ ⟨.bl (g i j),H,I,rfl,q⟩
def CPow (i j:Int):Prop:=0≤j∧j≤1000000∧i.natAbs < 2 ^ 64
def CMul (i j:Int):Prop:=(-(2 ^ 64) < i∧i < 2 ^ 64)∨(-(2 ^ 64) < j∧j < 2 ^ 64)
theorem CMul.ok {i j:Int} (h:CMul i j):IntMulOk i j:=by
  rcases h with ⟨h1,h2⟩ | ⟨h1,h2⟩
  · exact .of_left (intBits_le_64 h1 h2)
  · exact .of_right (intBits_le_64 h1 h2)
theorem op_add:OpR X (binaryOp .Add) (rI0 fun i j=>.int (i + j)):=opI0 fun _ _ _ _ _ _ _ q=>add_int q
theorem op_sub:OpR X (binaryOp .Sub) (rI0 fun i j=>.int (i - j)):=opI0 fun _ _ _ _ _ _ _ q=>sub_int q
theorem op_mul:OpR X (binaryOp .Mult) (rI CMul fun i j=>.int (i * j)):=opI fun _ _ _ _ _ _ _ hc q=>mul_int q hc.ok
theorem op_mod:OpR X (binaryOp .Mod) (rI (fun _ j=>0 < j) fun i j=>.int (i % j)):=opI fun i j _ _ _ _ _ hc q=>by
  have h1:(0:Int) < j:=hc
  exact mod_int' (by omega) (by rw [Int.fmod_eq_emod_of_nonneg i (by omega)]; exact q)
theorem op_pow:OpR X (binaryOp .Pow) (rI CPow fun i j=>.int (i ^ j.toNat)):=opI fun _ _ _ _ _ _ _ hc q=>pow_int_small hc.1 hc.2.1 hc.2.2 q
theorem unI {f:Value→Sem Value} {g:Int→Int}
    (rule:∀ (i:Int) (t:Tok) (s:Shared) (Q:Value→Shared→Prop) (E:Value→Shared→Prop),Q (.int (g i) s.toks) { s with toks:=s.toks + 1 }→wpAny (model X.prog X.w) X.A (f (.int i t)) Q E s) :
    UnR X f (rU fun i=>.int (g i)):=by
  intro pins s σ H x v Q I rx h
  obtain ⟨i,rfl,q⟩:=h
  obtain ⟨t,rfl⟩:=rx
  exact rule i t s _ _ ⟨.int (g i),H,I.tok _,⟨_,rfl⟩,q⟩
theorem un_neg:UnR X (unaryOp .USub) (rU fun i=>.int (-i)):=unI fun _ _ _ _ _ q=>neg_int q
end
def scal:V→V→Bool
  | .non,.non=>true | .non,.int _=>true | .int _,.non=>true | .non,.bl _=>true | .bl _,.non=>true | .non,.str _=>true | .str _,.non=>true
  | .int _,.int _=>true | .bl _,.bl _=>true | .str _,.str _=>true | .byt _,.byt _=>true
  | .int _,.str _=>true | .str _,.int _=>true | .bl _,.str _=>true | .str _,.bl _=>true
  | _,_=>false
def rEq:R2:=fun x y H Q=>scal x y=true∧Q (.bl (decide (x=y))) H
def rNe:R2:=fun x y H Q=>scal x y=true∧Q (.bl (!decide (x=y))) H
theorem dec_int {i j:Int}:decide (V.int i=V.int j)=(i == j):=by
  rw [Bool.eq_iff_iff]
  simp
theorem dec_bl {i j:Bool}:decide (V.bl i=V.bl j)=(i == j):=by
  rw [Bool.eq_iff_iff]
  simp
theorem dec_str {i j:Str}:decide (V.str i=V.str j)=(i == j):=by
  rw [Bool.eq_iff_iff]
  simp
theorem dec_byt {i j:Array UInt8}:decide (V.byt i=V.byt j)=(i.toList == j.toList):=by
  rw [Bool.eq_iff_iff]
  cases i
  cases j
  simp
section
variable {X:Cx} {a b c:Expr} {ta tb tc:TE} {pos:Pos}
theorem fin_bl {pins:List (Addr × Obj)} {σ:St} {H:Hp} {s:Shared} {Q:VK} {k k':Bool} (I:Inv X pins σ H s) (q:Q (.bl k) H) (e:k=k'):EP X pins σ Q (.bool k') s:=by
  subst e
  exact ⟨.bl k,H,I,rfl,q⟩
theorem op_eq:OpR X (compareOp .Eq) rEq:=by
  intro pins s σ H x y v u Q I rx ry h
  obtain ⟨hs,q⟩:=h
  cases x with
  | non =>
    cases rx
    cases y with
    | non=>cases ry; exact PySem.EqNone.eq_none_none (fin_bl I q (by simp))
    | bl j=>cases ry; exact PySem.EqNone.eq_none_bool (fin_bl I q (by simp))
    | int j=>obtain ⟨t',rfl⟩:=ry; exact PySem.EqNone.eq_none_int (fin_bl I q (by simp))
    | str j=>obtain ⟨t',rfl⟩:=ry; exact PySem.EqNone.eq_none_str (fin_bl I q (by simp))
    | _=>exact absurd (show false=true from hs) Bool.false_ne_true
  | bl i =>
    cases rx
    cases y with
    | non=>cases ry; exact PySem.EqNone.eq_bool_none (fin_bl I q (by simp))
    | bl j=>cases ry; exact eq_bool (fin_bl I q dec_bl)
    | str j=>obtain ⟨t',rfl⟩:=ry; exact PySem.EqMixed.eq_bool_str (fin_bl I q (by simp))
    | _=>exact absurd (show false=true from hs) Bool.false_ne_true
  | int i =>
    obtain ⟨t,rfl⟩:=rx
    cases y with
    | non=>cases ry; exact PySem.EqNone.eq_int_none (fin_bl I q (by simp))
    | int j=>obtain ⟨t',rfl⟩:=ry; exact eq_int (fin_bl I q dec_int)
    | str j=>obtain ⟨t',rfl⟩:=ry; exact PySem.EqMixed.eq_int_str (fin_bl I q (by simp))
    | _=>exact absurd (show false=true from hs) Bool.false_ne_true
  | str i =>
    obtain ⟨t,rfl⟩:=rx
    cases y with
    | non=>cases ry; exact PySem.EqNone.eq_str_none (fin_bl I q (by simp))
    | bl j=>cases ry; exact PySem.EqMixed.eq_str_bool (fin_bl I q (by simp))
    | int j=>obtain ⟨t',rfl⟩:=ry; exact PySem.EqMixed.eq_str_int (fin_bl I q (by simp))
    | str j=>obtain ⟨t',rfl⟩:=ry; exact eq_str (fin_bl I q dec_str)
    | _=>exact absurd (show false=true from hs) Bool.false_ne_true
  | byt i =>
    obtain ⟨t,rfl⟩:=rx
    cases y with
    | byt j=>obtain ⟨t',rfl⟩:=ry; exact PySem.W.eq_bytes (fin_bl I q dec_byt)
    | _=>exact absurd (show false=true from hs) Bool.false_ne_true
  | _=>cases y <;> exact absurd (show false=true from hs) Bool.false_ne_true
theorem op_ne:OpR X (compareOp .NotEq) rNe:=by
  intro pins s σ H x y v u Q I rx ry h
  obtain ⟨hs,q⟩:=h
  cases x with
  | non =>
    cases rx
    cases y with
    | non=>cases ry; exact PySem.EqNone.ne_none_none (fin_bl I q (by simp))
    | bl j=>cases ry; exact PySem.EqNone.ne_none_bool (fin_bl I q (by simp))
    | int j=>obtain ⟨t',rfl⟩:=ry; exact PySem.EqNone.ne_none_int (fin_bl I q (by simp))
    | str j=>obtain ⟨t',rfl⟩:=ry; exact PySem.EqNone.ne_none_str (fin_bl I q (by simp))
    | _=>exact absurd (show false=true from hs) Bool.false_ne_true
  | bl i =>
    cases rx
    cases y with
    | non=>cases ry; exact PySem.EqNone.ne_bool_none (fin_bl I q (by simp))
    | bl j=>cases ry; exact ne_bool (fin_bl I q (congrArg not dec_bl))
    | str j=>obtain ⟨t',rfl⟩:=ry; exact PySem.EqMixed.ne_bool_str (fin_bl I q (by simp))
    | _=>exact absurd (show false=true from hs) Bool.false_ne_true
  | int i =>
    obtain ⟨t,rfl⟩:=rx
    cases y with
    | non=>cases ry; exact PySem.EqNone.ne_int_none (fin_bl I q (by simp))
    | int j=>obtain ⟨t',rfl⟩:=ry; exact ne_int (fin_bl I q (congrArg not dec_int))
    | str j=>obtain ⟨t',rfl⟩:=ry; exact PySem.EqMixed.ne_int_str (fin_bl I q (by simp))
    | _=>exact absurd (show false=true from hs) Bool.false_ne_true
  | str i =>
    obtain ⟨t,rfl⟩:=rx
    cases y with
    | non=>cases ry; exact PySem.EqNone.ne_str_none (fin_bl I q (by simp))
    | bl j=>cases ry; exact PySem.EqMixed.ne_str_bool (fin_bl I q (by simp))
    | int j=>obtain ⟨t',rfl⟩:=ry; exact PySem.EqMixed.ne_str_int (fin_bl I q (by simp))
    | str j=>obtain ⟨t',rfl⟩:=ry; exact ne_str (fin_bl I q (congrArg not dec_str))
    | _=>exact absurd (show false=true from hs) Bool.false_ne_true
  | byt i =>
    obtain ⟨t,rfl⟩:=rx
    cases y with
    | byt j=>obtain ⟨t',rfl⟩:=ry; exact PySem.W.ne_bytes (fin_bl I q (congrArg not dec_byt))
    | _=>exact absurd (show false=true from hs) Bool.false_ne_true
  | _=>cases y <;> exact absurd (show false=true from hs) Bool.false_ne_true
theorem op_lt:OpR X (compareOp .Lt) (rI0 fun i j=>.bl (decide (i < j))):=opB0 fun _ _ _ _ _ _ _ q=>lt_int q
theorem op_le:OpR X (compareOp .LtE) (rI0 fun i j=>.bl (decide (i≤j))):=opB0 fun _ _ _ _ _ _ _ q=>le_int q
theorem op_gt:OpR X (compareOp .Gt) (rI0 fun i j=>.bl (decide (j < i))):=opB0 fun _ _ _ _ _ _ _ q=>gt_int q
theorem op_ge:OpR X (compareOp .GtE) (rI0 fun i j=>.bl (decide (j≤i))):=opB0 fun _ _ _ _ _ _ _ q=>ge_int q
theorem op_notN:OpR X (compareOp .IsNot) (fun x y H Q=>y=.non∧Q (.bl (!decide (x=.non))) H):=by
  intro pins s σ H x y v u Q I rx ry h
  obtain ⟨rfl,q⟩:=h
  cases ry
  refine isnot_none_gen (fin_bl I q ?_)
  cases x <;> first
    | (cases rx; rfl)
    | (obtain ⟨t,rfl⟩:=rx; rfl)
theorem nomark (b:Expr) {op:CmpOp} (h:op≠.In:=by decide) (h2:op≠.NotIn:=by decide):behindInMarks op b=false:=by
  have e1:(op == CmpOp.In)=false:=by cases op <;> first | rfl | exact absurd rfl h
  have e2:(op == CmpOp.NotIn)=false:=by cases op <;> first | rfl | exact absurd rfl h2
  cases b <;> simp [behindInMarks,e1,e2]
theorem pe_cmpR {op:CmpOp} {r:R2} (ho:OpR X (compareOp op) r) (ha:PE X a ta) (hb:PE X b tb) (hm:behindInMarks op b=false):PE X (.Compare a [op] [b] pos) (tOp r ta tb):=by
  refine ⟨?_⟩
  intro pins s σ H Q I h
  exact wpAny_Compare1 (binT ha hb I h fun v u s2 x y H2 I2 rx ry q=>ho pins s2 σ H2 x y v u Q I2 rx ry q) hm
def tTest (t:TE):TT:=fun σ H Q=>t σ H fun x H'=>∃ k,x=.bl k∧Q k H'
theorem pt_cmpR {op:CmpOp} {r:R2} (ho:OpR X (compareOp op) r) (ha:PE X a ta) (hb:PE X b tb) (hm:behindInMarks op b=false):PT X (.Compare a [op] [b] pos) (tTest (tOp r ta tb)):=by
  refine ⟨?_⟩
  intro pins s σ H Q I h
  refine wpAny_isTrue_Compare1 (thn (ha pins s σ H _ I h) fun v s1 ⟨x,H1,I1,r1,q1⟩=>thn (hb pins s1 σ H1 _ I1 q1) fun u s2 ⟨y,H2,I2,r2,q2⟩ =>
    thn (ho pins s2 σ H2 x y v u _ I2 r1 r2 q2) fun c s3 ⟨z,H3,I3,r3,k,e,q3⟩=>?_) hm
  subst e
  cases r3
  exact wpAny_truthy_bool ⟨H3,I3,q3⟩
def tChain (r r':R2) (ta tb tc:TE):TE:=fun σ H Q=>ta σ H fun x H1=>tb σ H1 fun y H2=>r x y H2 fun z H3=>∃ k,z=.bl k ∧
  (if k=true then tc σ H3 fun w' H4=>r' y w' H4 Q else Q (.bl false) H3)
theorem pe_chain {op op':CmpOp} {r r':R2} (ho:OpR X (compareOp op) r) (ho':OpR X (compareOp op') r') (ha:PE X a ta) (hb:PE X b tb) (hc:PE X c tc)
    (hm:lastMarks [op,op'] [b,c]=false:=by with_unfolding_all rfl):PE X (.Compare a [op,op'] [b,c] pos) (tChain r r' ta tb tc):=by
  refine ⟨?_⟩
  intro pins s σ H Q I h
  refine Compare_chain (thn (ha pins s σ H _ I h) fun v s1 ⟨x,H1,I1,r1,q1⟩=>chain_link (thn (hb pins s1 σ H1 _ I1 q1) fun u s2 ⟨y,H2,I2,r2,q2⟩ =>
    thn (ho pins s2 σ H2 x y v u _ I2 r1 r2 q2) fun d s3 ⟨z,H3,I3,r3,k,e,q3⟩=>?_)) hm
  subst e
  cases r3
  refine wpAny_truthy_bool ?_
  cases k with
  | false=>exact ite_ff ⟨.bl false,H3,I3,rfl,q3⟩
  | true=>exact ite_tt (chain_last (thn (hc pins s3 σ H3 _ I3 q3) fun w' s4 ⟨z',H4,I4,r4,q4⟩=>ho' pins s4 σ H4 y z' u w' Q I4 r2 r4 q4))
theorem pt_chain {op op':CmpOp} {r r':R2} (ho:OpR X (compareOp op) r) (ho':OpR X (compareOp op') r') (ha:PE X a ta) (hb:PE X b tb) (hc:PE X c tc)
    (hm:lastMarks [op,op'] [b,c]=false:=by with_unfolding_all rfl):PT X (.Compare a [op,op'] [b,c] pos) (tTest (tChain r r' ta tb tc)):=by
  refine ⟨?_⟩
  intro pins s σ H Q I h
  refine isTrue_chain (thn (ha pins s σ H _ I h) fun v s1 ⟨x,H1,I1,r1,q1⟩=>test_link (thn (hb pins s1 σ H1 _ I1 q1) fun u s2 ⟨y,H2,I2,r2,q2⟩ =>
    thn (ho pins s2 σ H2 x y v u _ I2 r1 r2 q2) fun d s3 ⟨z,H3,I3,r3,k,e,q3⟩=>?_)) hm
  subst e
  cases r3
  refine wpAny_truthy_bool ?_
  cases k with
  | false =>
    obtain ⟨k',e',q'⟩:=q3
    cases e'
    exact ite_ff ⟨H3,I3,q'⟩
  | true =>
    refine ite_tt (test_last (thn (hc pins s3 σ H3 _ I3 q3) fun w' s4 ⟨z',H4,I4,r4,q4⟩=>thn (ho' pins s4 σ H4 y z' u w' _ I4 r2 r4 q4) fun d' s5 ⟨z2,H5,I5,r5,k2,e2,q5⟩=>?_))
    subst e2
    cases r5
    exact wpAny_truthy_bool ⟨H5,I5,q5⟩
def TruV (K:PySem.W.Frag) (x:V) (H:Hp) (k:Bool):Prop :=
  match x with
  | .non=>k=false
  | .bl b=>k=b
  | .int i=>k=(i != 0)
  | .str y=>y.length≤sizeLine∧k=((y.length:Int) != 0)
  | .byt y=>y.size≤sizeLine∧k=((y.size:Int) != 0)
  | .ref p=>(∃ xs,SqL K H p xs∧k=!xs.isEmpty)∨(∃ xs,SqT K H p xs∧k=!xs.isEmpty)∨∃ kvs,H p=some (.dK kvs)∧k=!kvs.isEmpty
  | _=>False
theorem isEmpty_kv {κ:Type} {kvs:List (κ × V)} {vs:List (κ × Value)} (r:KV kvs vs):(!vs.isEmpty)=!kvs.isEmpty:=by
  cases r <;> rfl
theorem isEmpty_of {xs:List V} {its:List Value} (r:Vals xs its):(!its.toArray.isEmpty)=!xs.isEmpty:=by
  cases r <;> simp
theorem line63:(sizeLine:Nat) < 2 ^ 63:=by rw [sizeLine_eq]; decide
theorem tru_ok:TruR X (fun x H Q=>∃ k,TruV X.K x H k∧Q k H):=by
  intro pins s σ H x v Q I rx h
  obtain ⟨k,e,q⟩:=h
  have hl:=line63
  have hs:sizeLine=16777216:=sizeLine_eq
  cases x with
  | non =>
    cases rx
    have e':k=false:=e
    subst e'
    exact truthy_none ⟨H,I,q⟩
  | bl b =>
    cases rx
    have e':k=b:=e
    subst e'
    exact wpAny_truthy_bool ⟨H,I,q⟩
  | int i =>
    obtain ⟨t,rfl⟩:=rx
    have e':k=(i != 0):=e
    subst e'
    exact PySem.P.truthy_int ⟨H,I,q⟩
  | str y =>
    obtain ⟨t,rfl⟩:=rx
    obtain ⟨hy,e'⟩:y.length≤sizeLine∧k=((y.length:Int) != 0):=e
    subst e'
    exact PySem.P.truthy_str (by omega) ⟨H,I.tok _,q⟩
  | byt y =>
    obtain ⟨t,rfl⟩:=rx
    obtain ⟨hy,e'⟩:y.size≤sizeLine∧k=((y.size:Int) != 0):=e
    subst e'
    exact PySem.W.truthy_bytes (by omega) ⟨H,I.tok _,q⟩
  | ref p =>
    cases rx
    have e':(∃ xs,SqL X.K H p xs∧k=!xs.isEmpty)∨(∃ xs,SqT X.K H p xs∧k=!xs.isEmpty)∨∃ kvs,H p=some (.dK kvs)∧k=!kvs.isEmpty:=e
    rcases e' with ⟨xs,hx,e'⟩ | ⟨xs,hx,e'⟩ | ⟨kvs,hx,e'⟩
    · subst e'
      obtain ⟨its,r,pl,hz⟩:=I.list hx
      have hlen:=r.length
      exact wpAny_truthy_list pl.isList (by simp only [List.size_toArray]; omega) ⟨H,I.tok _,by rw [isEmpty_of r]; exact q⟩
    · subst e'
      obtain ⟨its,r,pl,hz⟩:=I.tuple hx
      have hlen:=r.length
      exact truthy_tuple pl (by simp only [List.size_toArray]; omega) ⟨H,I.tok _,by rw [isEmpty_of r]; exact q⟩
    · subst e'
      obtain ⟨hz,hS,vs,r,m⟩:kvs.length≤sizeLine∧(p == sysModules)=false∧∃ vs,KV kvs vs∧s.heap.DictOf (mixKind X.prog X.w) p vs:=I.hok p _ hx
      have hlen:kvs.length=vs.length:=Paired.length r
      exact wpAny_truthy_dict hS m (by omega) ⟨H,I.tok _,by rw [isEmpty_kv r]; exact q⟩
  | _=>exact (show False from e).elim
theorem pt_truth (ha:PE X a ta) (he:∀ whole,isTrue a X.env whole=(do let v ← whole; standAt a.pos; holding [v] (truthy v))) :
    PT X a (fun σ H Q=>ta σ H fun x H'=>∃ k,TruV X.K x H' k∧Q k H'):=by
  refine ⟨?_⟩
  intro pins s σ H Q I h
  exact isTrue_plain (thn (ha pins s σ H _ I h) fun v s1 ⟨x,H1,I1,r1,q1⟩=>tru_ok pins s1 σ H1 x v Q I1 r1 q1) (he _)
theorem vals1 {x:V} {us:List Value} (r:Vals [x] us):∃ u,us=[u]∧RelV x u:=by
  cases r with
  | cons r1 r2=>cases r2; exact ⟨_,rfl,r1⟩
theorem vals2 {x y:V} {us:List Value} (r:Vals [x,y] us):∃ u w',us=[u,w']∧RelV x u∧RelV y w':=by
  cases r with
  | cons r1 r2 =>
    cases r2 with
    | cons r3 r4=>cases r4; exact ⟨_,_,rfl,r1,r3⟩
theorem call_abs:CallR X (.builtin "abs") (fun xs H Q=>∃ i,xs=[.int i]∧Q (.int (if i < 0 then -i else i)) H):=by
  intro pins s σ H xs us Q I r h
  obtain ⟨i,rfl,q⟩:=h
  obtain ⟨u,rfl,t,rfl⟩:=vals1 r
  exact call_abs_int fun u tk=>⟨.int (if i < 0 then -i else i),H,I.tok _,⟨_,rfl⟩,q⟩
theorem call_max2 (hc:X.calm=true):CallR X (.builtin "max") (fun xs H Q=>∃ i j,xs=[.int i,.int j]∧Q (.int (if j > i then j else i)) H):=by
  intro pins s σ H xs us Q I r h
  obtain ⟨i,j,rfl,q⟩:=h
  obtain ⟨u,w',rfl,⟨t,rfl⟩,⟨t',rfl⟩⟩:=vals2 r
  refine max_two_ints (I.ok.hd hc) fun h' tk k=>⟨_,H,I.kept k,?_,q⟩
  by_cases hj:j > i
  · rw [if_pos hj,if_pos hj]; exact ⟨_,rfl⟩
  · rw [if_neg hj,if_neg hj]; exact ⟨_,rfl⟩
theorem call_min2 (hc:X.calm=true):CallR X (.builtin "min") (fun xs H Q=>∃ i j,xs=[.int i,.int j]∧Q (.int (if j < i then j else i)) H):=by
  intro pins s σ H xs us Q I r h
  obtain ⟨i,j,rfl,q⟩:=h
  obtain ⟨u,w',rfl,⟨t,rfl⟩,⟨t',rfl⟩⟩:=vals2 r
  refine min_two_ints (I.ok.hd hc) fun h' tk k=>⟨_,H,I.kept k,?_,q⟩
  by_cases hj:j < i
  · rw [if_pos hj,if_pos hj]; exact ⟨_,rfl⟩
  · rw [if_neg hj,if_neg hj]; exact ⟨_,rfl⟩
theorem call_int1:CallR X (.type "int") (fun xs H Q=>(∃ i,xs=[.int i]∧Q (.int i) H)∨∃ k,xs=[.bl k]∧Q (.int (if k then 1 else 0)) H):=by
  intro pins s σ H xs us Q I r h
  rcases h with ⟨i,rfl,q⟩ | ⟨k,rfl,q⟩
  · obtain ⟨u,rfl,t,rfl⟩:=vals1 r
    exact call_int_int ⟨.int i,H,I,⟨_,rfl⟩,q⟩
  · obtain ⟨u,rfl,r1⟩:=vals1 r
    cases r1
    exact call_int_bool ⟨.int (if k then 1 else 0),H,I.tok _,⟨_,rfl⟩,q⟩
end
end L2
namespace L2
open PySem PySem.Spec PyProof.Rows
structure ObjM (h:Heap) (x dx C:Addr) (mA:Str→Option Value):Prop where
  obj:h.get? x=some (PySem.W.instObj C dx)
  ns:h.Ns1 dx mA
  ne:dx≠x
theorem lookIn_ns {h:Heap} {dx:Addr} {mA:Str→Option Value} (n:h.Ns1 dx mA):∃ od,h.get? dx=some od∧∀ name,PySem.W.lookIn name od=some (mA name):=by
  obtain ⟨o,es,ep,ho,hd,hk,_,hm⟩:=n
  refine ⟨o,ho,fun name=>?_⟩
  have e:=hm name
  unfold nsFind findBy at e
  rw [← Array.find?_toList] at e
  unfold PySem.W.lookIn
  rw [hd]
  dsimp only
  split
  · rename_i y q
    rw [q] at e
    exact congrArg some e
  · rename_i q
    rw [q] at e
    have a:es.toList.any (·.refKey)=false:=by
      rw [List.any_eq_false]
      intro y hy
      obtain ⟨z,t,hkey⟩:=hk y (Array.mem_toList_iff.mp hy)
      simp [DictEntry.refKey,hkey]
    have a':¬ es.toList.any (·.refKey)=true:=by rw [a]; exact Bool.false_ne_true
    rw [if_neg a']
    exact congrArg some e
theorem ObjM.look {h:Heap} {x dx C:Addr} {mA:Str→Option Value} (I:ObjM h x dx C mA):∃ od,PySem.W.InstAt h x (PySem.W.instObj C dx) C (some od)∧∀ name,PySem.W.lookIn name od=some (mA name) :=
  let ⟨od,ho,hl⟩:=lookIn_ns I.ns
  ⟨od,⟨I.obj,rfl,rfl,ho⟩,hl⟩
section
variable {prog:Program} {w:World} {A:Around} {E:Value→Shared→Prop} {s:Shared} {K:PySem.W.Frag} {x dx C f:Addr} {mA:Str→Option Value} {name:Str} {v:Value}
theorem get_map {expr:Bool} {Q:Value→Shared→Prop} (X:K.In s.heap) (I:ObjM s.heap x dx C mA) (hg:PySem.W.plainGet K C name=true) (hh:PySem.W.hasDictIn K C=true)
    (ha:PySem.W.findIn K (.ref C) name=some none) (hv:mA name=some v) (hv':PySem.W.handedIn v=true) (h:Q v { s with toks:=s.toks + 1 }) :
    wpAny (model prog w) A (getAttr (.ref x) name expr) Q E s:=by
  obtain ⟨od,J,hl⟩:=I.look
  exact PySem.W.get_value X J (PySem.W.plainGet_of hg).1 (PySem.W.findObj_own hh ha rfl (by rw [hl,hv])) hv' h
theorem get_meth {pl:Sem Bool} {Q:Value × List Value→Shared→Prop} (X:K.In s.heap) (I:ObjM s.heap x dx C mA) (hg:PySem.W.plainGet K C name=true)
    (hf:PySem.W.findIn K (.ref C) name=some (some (.ref f))) (ht:PySem.W.isFn K (.ref f)=true) (hv:mA name=none) (h:Q (.ref f,[.ref x]) s) :
    wpAny (model prog w) A (getMethod (.ref x) name pl) Q E s:=by
  obtain ⟨od,J,hl⟩:=I.look
  exact PySem.W.method_fn X J (PySem.W.plainGet_of hg).1 (PySem.W.plainGet_of hg).2 hf (beq_iff_eq.mp ht) (by show (PySem.W.lookIn name od).map (·.isSome)=some false; rw [hl,hv]; rfl) h
theorem set_map {ns:List Str} {Q:Unit→Shared→Prop} (X:K.In s.heap) (I:ObjM s.heap x dx C mA)
    (hs:PySem.W.findIn K (.ref C) "__setattr__"=some (some (.builtin "object.__setattr__"))) (hp:PySem.W.plainOver K C=true) (ht:PySem.W.takerIn K C name=some none) (hh:PySem.W.hasDictIn K C=true)
    (hw:PySem.Within mA ns) (hsz:ns.length≤sizeLine)
    (h:∀ h',ObjM h' x dx C (fun y=>if y=name then some v else mA y)→Heap.SameBut dx s.heap h'→Q () { s with heap:=h',toks:=s.toks + 2 }) :
    wpAny (model prog w) A (setAttr (.ref x) name v) Q E s:=by
  obtain ⟨od,J,hl⟩:=I.look
  refine PySem.W.set_plain X J hs (PySem.W.osa_open (s:={ s with toks:=s.toks + 1 }) (r:=none) X J hp ht fun b=>?_)
  obtain ⟨cd,hc,hd'⟩:=PySem.W.any_some hh
  have hx:s.heap.get? x=some ⟨.ref C,some dx,.plain,#[]⟩:=I.obj
  refine wpAny_bind (wpAny_pure (wpAny_bind (wpAny_bind (wpAny_loadPart hx (wpAny_bind (PySem.W.Looks.here (s:={ s with toks:=s.toks + 1 }) (PySem.W.looks_clsIn X hc) ?_))))))
  rw [hd']
  refine wpAny_pure (a:=some dx) (wpAny_bind (wpAny_pure (wpAny_bind ?_)))
  refine wpAny_nsSet1 (s:={ s with toks:=s.toks + 1 }) I.ns fun h' hn2 hs2=>?_
  obtain ⟨oD,esD,epD,hoD,hdD,hcD⟩:=hn2.count (PySem.Within.cons name v hw)
  refine wpAny_bind (wpAny_lookBehind hoD (by rw [hdD]; exact pastItsLine_dict (Nat.le_trans hcD (by rw [List.length_cons]; omega))) ?_)
  exact wpAny_pure (h _ ⟨(hs2.2 _ (Ne.symm I.ne)).trans I.obj,hn2,I.ne⟩ hs2)
theorem make_map {R:Result→Shared→Prop} {vs:List Value} {kw:List (Str × Value)} (X:K.In s.heap) (hm:PySem.W.makesIn K C=true)
    (hi:PySem.W.findIn K (.ref C) "__init__"=some (some (.ref f))) (hf:PySem.W.typeIn K (.ref f)=some (.type "function"))
    (h:codeAny (model prog w) (A.under (.builtin "type.__call__" ⟨.ref C::vs,kw⟩)) (.call (.ref f) ⟨.ref (s.heap.objs.size + 1)::vs,kw⟩) (PySem.W.InitBack (s.heap.objs.size + 1) R)
      { s with heap:=(s.heap.push PySem.W.emptyDict).push (PySem.W.instObj C s.heap.objs.size) }) :
    codeAny (model prog w) A (.call (.ref C) ⟨vs,kw⟩) R s:=by
  obtain ⟨hh,g,d,t,os⟩:=s
  exact PySem.W.make_core (PySem.W.makes_of X hm) (PySem.W.looks_findIn X hi) (fun self=>PySem.W.bind_fn X self hf) (.inl rfl) h
end
def putF (f:Str) (v:V):List (Str × V)→List (Str × V)
  | []=>[(f,v)]
  | (g,x)::r=>if g=f then (g,v)::r else (g,x)::putF f v r
theorem lookup_putF (f g:Str) (v:V):∀ fs:List (Str × V),(putF f v fs).lookup g=if g=f then some v else fs.lookup g
  | []=>by
    show List.lookup g [(f,v)]=_
    by_cases h:g=f
    · have hb:(g == f)=true:=beq_iff_eq.mpr h
      simp only [List.lookup,hb,if_pos h]
    · have hb:(g == f)=false:=beq_eq_false_iff_ne.mpr h
      simp only [List.lookup,hb,if_neg h]
  | (k,x)::r=>by
    have ih:=lookup_putF f g v r
    rw [show putF f v ((k,x)::r)=(if k=f then (k,v)::r else (k,x)::putF f v r) from rfl]
    by_cases hk:k=f
    · rw [if_pos hk]
      by_cases h:g=k
      · have hb:(g == k)=true:=beq_iff_eq.mpr h
        simp only [List.lookup,hb,if_pos (h.trans hk)]
      · have hb:(g == k)=false:=beq_eq_false_iff_ne.mpr h
        simp only [List.lookup,hb,if_neg (fun e:g=f=>h (e.trans hk.symm))]
    · rw [if_neg hk]
      by_cases h:g=k
      · have hb:(g == k)=true:=beq_iff_eq.mpr h
        simp only [List.lookup,hb,if_neg (fun e:g=f=>hk (h.symm.trans e))]
      · have hb:(g == k)=false:=beq_eq_false_iff_ne.mpr h
        simp only [List.lookup,hb]
        exact ih
theorem keys_putF (f:Str) (v:V):∀ fs:List (Str × V),f ∈ (putF f v fs).map (·.1)∧∀ g,g ∈ fs.map (·.1)→g ∈ (putF f v fs).map (·.1)
  | []=>⟨by simp [putF],fun g h=>by simp at h⟩
  | (k,x)::r=>by
    obtain ⟨i1,i2⟩:=keys_putF f v r
    rw [show putF f v ((k,x)::r)=(if k=f then (k,v)::r else (k,x)::putF f v r) from rfl]
    by_cases hk:k=f
    · rw [if_pos hk]
      subst hk
      exact ⟨by simp,fun g h=>by simpa using h⟩
    · rw [if_neg hk]
      refine ⟨?_,fun g h=>?_⟩
      · rw [List.map_cons]
        exact List.mem_cons_of_mem _ i1
      · rw [List.map_cons] at h ⊢
        rcases List.mem_cons.mp h with e | e
        · exact List.mem_cons.mpr (.inl e)
        · exact List.mem_cons_of_mem _ (i2 g e)
theorem length_putF (f:Str) (v:V):∀ fs:List (Str × V),(putF f v fs).length≤fs.length + 1
  | []=>by simp [putF]
  | (k,x)::r=>by
    have ih:=length_putF f v r
    rw [show putF f v ((k,x)::r)=(if k=f then (k,v)::r else (k,x)::putF f v r) from rfl]
    by_cases hk:k=f
    · rw [if_pos hk,List.length_cons,List.length_cons]; omega
    · rw [if_neg hk,List.length_cons,List.length_cons]; omega
theorem RelO.some_of {v:V} {o:Option Value} (r:RelO (some v) o):∃ u,o=some u∧RelV v u:=by
  cases o with
  | none=>exact (show False from r).elim
  | some u=>exact ⟨u,rfl,r⟩
theorem RelO.none_of {o:Option Value} (r:RelO none o):o=none:=by
  cases o with
  | none=>rfl
  | some u=>exact (show False from r).elim
theorem handed_of {v:V} {u:Value} (r:RelV v u):PySem.W.handedIn u=true:=by
  cases v with
  | non=>cases (show u=Value.none from r); rfl
  | bl b=>cases (show u=Value.bool b from r); rfl
  | int i=>obtain ⟨t,e⟩:=(show ∃ t,u=Value.int i t from r); cases e; rfl
  | str x=>obtain ⟨t,e⟩:=(show ∃ t,u=Value.str x t from r); cases e; rfl
  | byt b=>obtain ⟨t,e⟩:=(show ∃ t,u=Value.bytes b t from r); cases e; rfl
  | flt b=>obtain ⟨t,e⟩:=(show ∃ t,u=Value.float b t from r); cases e; rfl
  | ref a=>cases (show u=Value.ref a from r); rfl
  | ty n=>cases (show u=Value.type n from r); rfl
section
variable {P:Program} {w:World} {H H':Hp} {h h':Heap} {a C dx:Addr} {fs fs':List (Str × V)}
theorem ins_get (hok:HOk P w H h) (e:H a=some (.ins C dx fs)):∃ mA,ObjM h a dx C mA∧(∀ f,RelO (fs.lookup f) (mA f))∧PySem.Within mA (fs.map (·.1))∧fs.length≤1000∧H dx=some (.own a):=by
  obtain ⟨d,z,ne,ob,mA,n,r,q⟩:=(show ObjOk P w H h a (.ins C dx fs) from hok a _ e)
  exact ⟨mA,⟨ob,n,ne⟩,r,q,z,d⟩
end
structure Cls (K:PySem.W.Frag) (C:Addr):Prop where
  pg:PySem.W.plainGet K C Str.empty=true
  hd:PySem.W.hasDictIn K C=true
  po:PySem.W.plainOver K C=true
  sa:PySem.W.findIn K (.ref C) "__setattr__"=some (some (.builtin "object.__setattr__"))
theorem Cls.get {K:PySem.W.Frag} {C:Addr} (c:Cls K C) (f:Str):PySem.W.plainGet K C f=true:=c.pg
def NoAttr (K:PySem.W.Frag) (C:Addr) (f:Str):Prop:=PySem.W.findIn K (.ref C) f=some none
theorem NoAttr.taker {K:PySem.W.Frag} {C:Addr} {f:Str} (n:NoAttr K C f):PySem.W.takerIn K C f=some none:=by
  unfold PySem.W.takerIn
  rw [show PySem.W.findIn K (.ref C) f=some none from n]
  rfl
structure Meth (K:PySem.W.Frag) (C:Addr) (m:Str) (f:Addr):Prop where
  at_:PySem.W.findIn K (.ref C) m=some (some (.ref f))
  fn:PySem.W.isFn K (.ref f)=true
  kp:PySem.W.keepIn K (.ref f)=true
section
variable {X:Cx} {pins:List (Addr × Obj)} {σ:St} {H:Hp} {s:Shared} {a C dx:Addr} {fs:List (Str × V)} {f:Str} {v:V} {A:Around} {E:Value→Shared→Prop}
theorem getattr_ok {b:Bool} {Q:Value→Shared→Prop} (I:Inv X pins σ H s) (e:H a=some (.ins C dx fs)) (c:Cls X.K C) (n:NoAttr X.K C f) (l:fs.lookup f=some v)
    (h:∀ u s',Inv X pins σ H s'→RelV v u→Q u s'):wpAny (model X.prog X.w) A (getAttr (.ref a) f b) Q E s:=by
  obtain ⟨mA,O,r,_,_,_⟩:=ins_get I.hok e
  obtain ⟨u,hu,ru⟩:=RelO.some_of (v:=v) (o:=mA f) (by rw [← l]; exact r f)
  exact get_map I.kIn O (c.get f) c.hd n hu (handed_of ru) (h u _ (I.tok _) ru)
theorem getmeth_ok {m:Str} {g:Addr} {pl:Sem Bool} {Q:Value × List Value→Shared→Prop} (I:Inv X pins σ H s) (e:H a=some (.ins C dx fs)) (c:Cls X.K C) (k:Meth X.K C m g) (l:fs.lookup m=none)
    (h:Q (.ref g,[.ref a]) s):wpAny (model X.prog X.w) A (getMethod (.ref a) m pl) Q E s:=by
  obtain ⟨mA,O,r,_,_,_⟩:=ins_get I.hok e
  have hn:mA m=none:=RelO.none_of (by rw [← l]; exact r m)
  exact get_meth I.kIn O (c.get m) k.at_ k.fn hn h
theorem setattr_ok {y:V} {u:Value} {Q:Unit→Shared→Prop} (I:Inv X pins σ H s) (e:H a=some (.ins C dx fs)) (c:Cls X.K C) (n:NoAttr X.K C f) (hl:fs.length < 1000) (ry:RelV y u)
    (h:∀ s',Inv X pins σ (upd H a (.ins C dx (putF f y fs))) s'→Q () s'):wpAny (model X.prog X.w) A (setAttr (.ref a) f u) Q E s:=by
  obtain ⟨mA,O,r,wi,_,ho⟩:=ins_get I.hok e
  have hz:(fs.map (·.1)).length≤sizeLine:=by rw [List.length_map,sizeLine_eq]; omega
  refine set_map I.kIn O c.sa c.po n.taker c.hd wi hz fun h' O' sb=>h _ ?_
  have hd:∃ o,h'.get? dx=some o:=let ⟨o,_,_,e',_⟩:=O'.ns; ⟨o,e'⟩
  refine I.write (x:=a) (e:=dx) (by rw [e]; exact True.intro) (.inr ho) (fun b q hb z=>(sb.2 b hb).trans z) hd ?_
  refine ⟨by rw [upd_ne O.ne]; exact ho,?_,O.ne,O'.obj,_,O'.ns,fun g=>?_,fun g hg=>?_⟩
  · have:=length_putF f y fs; omega
  · show RelO ((putF f y fs).lookup g) (if g=f then some u else mA g)
    rw [lookup_putF]
    by_cases q:g=f
    · rw [if_pos q,if_pos q]; exact ry
    · rw [if_neg q,if_neg q]; exact r g
  · by_cases q:g=f
    · rw [q]; exact (keys_putF f y fs).1
    · refine (keys_putF f y fs).2 g (wi g fun z=>hg ?_)
      show (if g=f then some u else mA g)=none
      rw [if_neg q]; exact z
theorem Inv.made (I:Inv X pins σ H s):Inv X pins σ (upd (upd H s.heap.objs.size (.own (s.heap.objs.size + 1))) (s.heap.objs.size + 1) (.ins C s.heap.objs.size []))
    { s with heap:=(s.heap.push PySem.W.emptyDict).push (PySem.W.instObj C s.heap.objs.size) }:=by
  have e1:(s.heap.push PySem.W.emptyDict).get? s.heap.objs.size=some PySem.W.emptyDict:=Heap.get?_push_size s.heap rfl
  have e2:((s.heap.push PySem.W.emptyDict).push (PySem.W.instObj C s.heap.objs.size)).get? (s.heap.objs.size + 1)=some (PySem.W.instObj C s.heap.objs.size):=by
    have:=Heap.get?_push_size (s.heap.push PySem.W.emptyDict) (o:=PySem.W.instObj C s.heap.objs.size) rfl
    rwa [Heap.size_push] at this
  have e3:(s.heap.push PySem.W.emptyDict).Ns s.heap.objs.size (fun _=>none):=⟨PySem.W.emptyDict,#[],_,e1,rfl,(fun e he=>absurd he (by simp)),fun _=>rfl⟩
  have I1:=I.laid (a:=s.heap.objs.size) (o:=.own (s.heap.objs.size + 1)) (h':=s.heap.push PySem.W.emptyDict) (t':=s.toks) (fun b u q=>Heap.get?_push_of_some _ q) (Nat.le_refl _) ⟨_,e1⟩
  refine I1.laid (a:=s.heap.objs.size + 1) (o:=.ins C s.heap.objs.size []) (t':=s.toks) (fun b u q=>Heap.get?_push_of_some _ q) (Nat.le_of_eq (Heap.size_push _ _)) ?_
  have ne:s.heap.objs.size≠s.heap.objs.size + 1:=Nat.ne_of_lt (Nat.lt_succ_self _)
  refine ⟨by rw [upd_ne ne,upd_same],Nat.zero_le _,ne,e2,fun _=>none,(Heap.Ns1.of_empty e3).at fun o q=>Heap.get?_push_of_some _ q,fun _=>True.intro,fun y hy=>absurd rfl hy⟩
theorem attr_of {prog:Program} {w:World} {env:Env} {e:Expr} {f:Str} {pos:Pos} {s:Shared} {Q:Value→Shared→Prop} (hb:attributeBase e f env (eval e env)=eval e env)
    (h:wpAny (model prog w) A (eval e env) (fun o s₁=>wpAny (model prog w) A (getAttr o f true) Q E s₁) E s):wpAny (model prog w) A (eval (.Attribute e f pos) env) Q E s :=
  Attribute_any_ h (by rw [arm_eval_Attribute,hb])
end
inductive rFld (K:PySem.W.Frag) (f:Str) (x:V) (H1:Hp) (Q:VK):Prop
  | mk (a C dx:Addr) (fs:List (Str × V)) (v:V) (e:x=.ref a) (h:H1 a=some (.ins C dx fs)) (c:Cls K C) (n:NoAttr K C f) (l:fs.lookup f=some v) (q:Q v H1):rFld K f x H1 Q
def tFld (K:PySem.W.Frag) (ta:TE) (f:Str):TE:=fun σ H Q=>ta σ H fun x H1=>rFld K f x H1 Q
def sFld (K:PySem.W.Frag) (ta tv:TE) (f:Str):TS:=fun D σ H=>tv σ H fun y H1=>ta σ H1 fun x H2=>∃ a C dx fs,x=.ref a∧H2 a=some (.ins C dx fs)∧Cls K C∧NoAttr K C f∧fs.length < 1000 ∧
  D.nx σ (upd H2 a (.ins C dx (putF f y fs)))
section
variable {X:Cx} {o e value:Expr} {f:Str} {pos pos' tpos:Pos} {ta tv:TE}
theorem pe_fld (he:PE X e ta) (hb:attributeBase e f X.env (eval e X.env)=eval e X.env):PE X (.Attribute e f pos) (tFld X.K ta f):=by
  refine ⟨?_⟩
  intro pins s σ H Q I h
  refine attr_of hb (thn (he pins s σ H _ I h) fun u s1 ⟨x,H1,I1,rx,a,C,dx,fs,v,ex,ea,c,n,l,q⟩=>?_)
  subst ex
  obtain rfl:u=Value.ref a:=rx
  exact getattr_ok I1 ea c n l fun u' s2 I2 ru=>⟨v,H1,I2,ru,q⟩
theorem ps_fld (ha:PE X o ta) (hv:PE X value tv) (hs:swapsWith value (some (.Attribute o f pos')) pos.line X.env=pure false):PS X (.Assign [.Attribute o f pos'] value pos) (sFld X.K ta tv f):=by
  refine ⟨?_⟩
  intro pins s σ H D I h
  refine plainObj_wpAny_Assign_Attribute (thn (hv pins s σ H _ I h) fun u s1 ⟨y,H1,I1,ry,q⟩=>thn (ha pins s1 σ H1 _ I1 q) fun ov s2 ⟨x,H2,I2,rx,a,C,dx,fs,ex,ea,c,n,l,q2⟩=>?_) hs
  subst ex
  obtain rfl:ov=Value.ref a:=rx
  exact setattr_ok I2 ea c n l ry fun s3 I3=>⟨σ,_,I3,q2⟩
end
section
variable {X:Cx} {pins:List (Addr × Obj)} {σ:St} {H:Hp} {s:Shared} {A:Around} {E:Value→Shared→Prop} {Q:Value→Shared→Prop} {c:Value} {b:Bool}
end
end L2
namespace L2
open PySem PySem.Spec PyProof.Rows
structure Room (k:Nat) (A:Around):Prop where
  hd:A.handled=none
  dp:A.depth + 3 * k + 5 < recursionLimit
  un:A.units + 16 * k + 200 < cLine
  gd:A.guards=some []
theorem Room.mono {j k:Nat} {A:Around} (r:Room k A) (h:j≤k):Room j A:=⟨r.hd,by have:=r.dp; omega,by have:=r.un; omega,r.gd⟩
theorem Room.deeper {k:Nat} {A:Around} (r:Room (k + 1) A) (env:Env):Room k (A.deeper env) :=
  ⟨r.hd,by have:=r.dp; show A.depth + 1 + 3 * k + 5 < _; omega,by have:=r.un; show A.units + 3 + 16 * k + 200 < _; omega,r.gd⟩
theorem Room.in1 {k:Nat} {A:Around} (r:Room (k + 1) A):Room k A.in1 :=
  ⟨r.hd,by have:=r.dp; show A.depth + 3 * k + 5 < _; omega,by have:=r.un; show A.units + 1 + 16 * k + 200 < _; omega,r.gd⟩
theorem make_depth {A:Around} {C:Addr} {us:List Value} {kw:List (Str × Value)}:(A.under (.builtin "type.__call__" ⟨.ref C::us,kw⟩)).depth=A.depth + 1:=by
  first | rfl | simp [Around.under,Code.weight,Code.isCreation,Code.isGuard,Code.isCaller,Code.frames,Code.isFrame,guardIds]
theorem make_units {A:Around} {C:Addr} {us:List Value} {kw:List (Str × Value)}:(A.under (.builtin "type.__call__" ⟨.ref C::us,kw⟩)).units=A.units + 1:=by
  first | rfl | simp [Around.under,Code.cUnits,Code.frames,Code.isFrame]
theorem make_guards {A:Around} {C:Addr} {us:List Value} {kw:List (Str × Value)}:(A.under (.builtin "type.__call__" ⟨.ref C::us,kw⟩)).guards=A.guards:=by
  first | rfl | simp [Around.under,Code.weight,Code.isCreation,Code.isGuard,Code.isCaller,Code.frames,Code.isFrame,guardIds]
theorem Room.make {k:Nat} {A:Around} (r:Room (k + 1) A) (C:Addr) (us:List Value) (kw:List (Str × Value)):Room k (A.under (.builtin "type.__call__" ⟨.ref C::us,kw⟩)) :=
  ⟨r.hd,by have:=r.dp; rw [make_depth]; omega,by have:=r.un; rw [make_units]; omega,by rw [make_guards]; exact r.gd⟩
theorem Room.depth {k:Nat} {A:Around} (r:Room k A):A.depth < recursionLimit:=by have:=r.dp; omega
theorem Room.units {k:Nat} {A:Around} (r:Room k A):A.units + 64 < cLine:=by have:=r.un; omega
abbrev tNil:TA:=fun _ H Q=>Q [] H
abbrev tCons (ta:TE) (tr:TA):TA:=fun σ H Q=>ta σ H fun x H1=>tr σ H1 fun xs H2=>Q (x::xs) H2
section
variable {X:Cx} {e:Expr} {es:List Expr} {te:TE} {t:TA} {pos:Pos}
theorem pa_nil:PA X [] tNil:=.mk fun _ _ _ _ H Q I h=>Calls.spliced_nil ⟨[],H,I,.nil,h⟩
theorem pa_cons (ha:PE X e te) (hr:PA X es t) (hs:starEach (e::es) X.env=(false,eval e X.env)::starEach es X.env:=by rfl):PA X (e::es) (tCons te t):=by
  refine ⟨?_⟩
  intro pos pins s σ H Q I h
  rw [hs]
  show wpAny _ _ (spliced ((false,eval e X.env)::backTo pos (starEach es X.env))) _ _ s
  refine Calls.spliced_cons (thn (ha pins s σ H _ I h) fun u s1 ⟨x,H1,I1,r1,q1⟩=>?_)
  exact thn (hr pos pins s1 σ H1 _ I1 q1) fun us s2 ⟨xs,H2,I2,r2,q2⟩=>⟨x::xs,H2,I2,.cons r1 r2,q2⟩
def tTup (t:TA):TE:=fun σ H Q=>t σ H fun xs H1=>xs.length≤sizeLine∧∀ p,H1 p=none→Q (.ref p) (upd H1 p (.tup xs))
def tLst (t:TA):TE:=fun σ H Q=>t σ H fun xs H1=>xs.length≤sizeLine∧∀ p,H1 p=none→Q (.ref p) (upd H1 p (.lst xs))
theorem pe_tup {x1} (h:PA X es t):PE X (.Tuple es x1 pos) (tTup t):=by
  refine ⟨?_⟩
  intro pins s σ H Q I hq
  refine wpAny_Tuple_spliced (thn (h pos pins s σ H _ I hq) fun us s1 ⟨xs,H1,I1,r,z,q⟩=>⟨by rw [← r.length]; exact z,?_⟩)
  have hf:H1 s1.heap.objs.size=none:=I1.hok.fresh (Nat.le_refl _)
  refine ⟨.ref s1.heap.objs.size,upd H1 s1.heap.objs.size (.tup xs),I1.laid (t':=s1.toks) (fun b u e=>Heap.get?_push_of_some _ e) (Nat.le_refl _) ?_,rfl,q _ hf⟩
  exact ⟨z,us,r,⟨_,Heap.get?_push_size _ rfl,rfl,_,rfl⟩⟩
theorem pe_lst (h:PA X es t):PE X (.List es pos) (tLst t):=by
  refine ⟨?_⟩
  intro pins s σ H Q I hq
  refine wpAny_List_spliced (thn (h pos pins s σ H _ I hq) fun us s1 ⟨xs,H1,I1,r,z,q⟩=>⟨by rw [← r.length]; exact z,?_⟩)
  have hf:H1 s1.heap.objs.size=none:=I1.hok.fresh (Nat.le_refl _)
  refine ⟨.ref s1.heap.objs.size,upd H1 s1.heap.objs.size (.lst xs),I1.laid (t':=s1.toks) (fun b u e=>Heap.get?_push_of_some _ e) (Nat.le_refl _) ?_,rfl,q _ hf⟩
  exact ⟨z,us,0,r,Heap.get?_push_size _ rfl⟩
end
abbrev Sp:=List V→Hp→VK→XK→Prop
abbrev CXT:=List Env→Hp→Shared→XK→Value→Shared→Prop
structure Env0 (P:Program) (w:World) (K:PySem.W.Frag) (mg:Str→Option Value) (base:Heap) (A:Around) (outer:List Env) (s:Shared) (H:Hp):Prop where
  frames:A.frames=some outer
  mod:Mod K mg base
  bs:∀ b o,base.get? b=some o→s.heap.get? b=some o∧H b=none
  bsz:base.objs.size≤s.heap.objs.size
  funs:s.heap.FunFrames base outer
  frf:∀ b ∈ frs outer,H b=none
  hok:HOk P w H s.heap
  bare:AllBare s.gens
def CE (outer:List Env) (P:Program) (w:World) (H:Hp) (s:Shared) (Q:VK) (u:Value) (s':Shared):Prop :=
  ∃ v H',s'.os=s.os∧AllBare s'.gens∧Un (frs outer) [] H H' s.heap s'.heap∧HOk P w H' s'.heap∧RelV v u∧Q v H'
def CR (CX:CXT) (outer:List Env) (P:Program) (w:World) (H:Hp) (s:Shared) (Q:VK) (E:XK) (r:Result) (s':Shared):Prop :=
  match r with
  | .ok (.ret u)=>CE outer P w H s Q u s'
  | .ok _=>False
  | .error e=>CX outer H s E e s'
structure FnOk (P:Program) (w:World) (K:PySem.W.Frag) (mg:Str→Option Value) (base:Heap) (CX:CXT) (k:Nat) (f:Addr) (fd:FuncData) (ps:List Str) (sp:Sp):Prop where
  len:∀ vs H Q E,sp vs H Q E→vs.length=ps.length
  run:∀ (A:Around) (outer:List Env) (s:Shared) (H:Hp) (args:Args) (us:List Value) (vs:List V) (Q:VK) (E:XK),Room k A→Env0 P w K mg base A outer s H→BindsTo s fd args (ps.zip us)→Vals vs us→sp vs H Q E →
    codeAny (model P w) A (.call (.ref f) args) (CR CX outer P w H s Q E) s
theorem Env0.make {P:Program} {w:World} {K:PySem.W.Frag} {mg:Str→Option Value} {base:Heap} {A:Around} {outer:List Env} {s:Shared} {H:Hp} (e:Env0 P w K mg base A outer s H) (C:Addr) (us:List Value) (kw:List (Str × Value)) :
    Env0 P w K mg base (A.under (.builtin "type.__call__" ⟨.ref C::us,kw⟩)) outer s H:=⟨by first | exact e.frames | (simpa [Around.under,Code.envs,Code.isFrame,pushEnvs] using e.frames),e.mod,e.bs,e.bsz,e.funs,e.frf,e.hok,e.bare⟩
section
variable {X:Cx} {pins:List (Addr × Obj)} {σ:St} {H:Hp} {s s':Shared}
theorem Inv.env0 (I:Inv X pins σ H s):Env0 X.prog X.w X.K X.mg X.base X.A X.stack s H :=
  ⟨I.ok.frames,I.ok.mod,I.bs,Nat.le_trans I.ok.bsz I.sz,I.stack,I.stkFree,I.hok,I.bare⟩
theorem Inv.after {Q:VK} {u:Value} (I:Inv X pins σ H s) (h:CE X.stack X.prog X.w H s Q u s'):EP X pins σ Q u s':=by
  obtain ⟨v,H',os,bare,un,hok,r,q⟩:=h
  obtain ⟨hh,g,d,t,os'⟩:=s'
  obtain rfl:os'=s.os:=os
  exact ⟨v,H',I.call (h':=hh) (g':=g) (d':=d) (t':=t) (ch:=[]) un hok bare (fun b z=>absurd z (by simp)),r,q⟩
end
abbrev tCall (sp:Sp) (dvs:List V) (E:XK) (t:TA):TE:=fun σ H Q=>t σ H fun vs H1=>sp (vs++dvs) H1 Q E
inductive rMeth (C:Addr) (m:Str) (x:V) (H1:Hp) (R:Prop):Prop
  | mk (a dx:Addr) (fs:List (Str × V)) (e:x=.ref a) (h:H1 a=some (.ins C dx fs)) (l:fs.lookup m=none) (q:R):rMeth C m x H1 R
def tMeth (C:Addr) (m:Str) (sp:Sp) (dvs:List V) (E:XK) (ta:TE) (t:TA):TE:=fun σ H Q=>ta σ H fun x H1=>rMeth C m x H1 (t σ H1 fun vs H2=>sp (x::(vs++dvs)) H2 Q E)
def tMake (C:Addr) (sp:Sp) (dvs:List V) (E:XK) (t:TA):TE:=fun σ H Q=>t σ H fun vs H1=>∀ x dx,H1 x=none→H1 dx=none→dx≠x →
  sp (.ref x::(vs++dvs)) (upd (upd H1 dx (.own x)) x (.ins C dx [])) (fun v H2=>v=.non∧Q (.ref x) H2) E
def Binds (K:PySem.W.Frag) (fd:FuncData) (ps:List Str) (ds:List Value):Prop :=
  ∀ (s:Shared) (us:List Value),K.In s.heap→(us++ds).length=ps.length→BindsTo s fd ⟨us,[]⟩ (ps.zip (us++ds))
theorem Binds.all {K:PySem.W.Frag} {fd:FuncData} {ps:List Str} (h:∀ us:List Value,us.length=ps.length→bindArgs fd ⟨us,[]⟩=pure (ps.zip us)):Binds K fd ps []:=fun s us _ hl=>by
  rw [List.append_nil] at hl ⊢
  exact .of_eq (h us hl)
def Passes (CX:CXT) (X:Cx) (E:XK):Prop:=∀ (pins:List (Addr × Obj)) (σ:St) (H:Hp) (s:Shared) (e:Value) (s':Shared),Inv X pins σ H s→CX X.stack H s E e s'→X.xe e s'
section
variable {X:Cx} {CX:CXT} {k:Nat} {f C:Addr} {fd:FuncData} {ps:List Str} {sp:Sp} {dvs:List V} {ds:List Value} {E:XK} {x m:Str} {p pos apos:Pos} {e o:Expr} {es:List Expr} {ta:TE} {t:TA}
theorem run_fn {pins:List (Addr × Obj)} {σ:St} {H:Hp} {s:Shared} {Q:VK} {us:List Value} {vs:List V} (F:FnOk X.prog X.w X.K X.mg X.base CX k f fd ps sp) (hr:Room k X.A) (hb:Binds X.K fd ps ds) (hd:Vals dvs ds) (hx:Passes CX X E)
    (I:Inv X pins σ H s) (r:Vals vs us) (h:sp (vs++dvs) H Q E):wpAny (model X.prog X.w) X.A (call (.ref f) us) (EP X pins σ Q) X.xe s:=by
  have r2:Vals (vs++dvs) (us++ds):=r.append hd
  have hl:(us++ds).length=ps.length:=by rw [← r2.length]; exact F.len _ _ _ _ h
  refine wpAny_call (codeAny_mono (F.run X.A X.stack s H ⟨us,[]⟩ (us++ds) (vs++dvs) Q E hr I.env0 (hb s us I.kIn hl) r2 h) fun r s' hq=>?_)
  cases r with
  | error e=>exact hx pins σ H s e s' I hq
  | ok fl =>
    cases fl with
    | ret u=>exact I.after hq
    | next=>exact False.elim hq
    | brk=>exact False.elim hq
    | cont=>exact False.elim hq
theorem pe_call (F:FnOk X.prog X.w X.K X.mg X.base CX k f fd ps sp) (hr:Room k X.A) (hg:Gl X x) (hm:X.mg x=some (.ref f)) (hk:PySem.W.keepIn X.K (.ref f)=true) (hb:Binds X.K fd ps ds) (hd:Vals dvs ds) (hx:Passes CX X E)
    (ha:PA X (e::es) t) (hdb:(x == ("__debug__" : Str))=false:=by decide) (he:starEach (e::es) X.env=(false,eval e X.env)::starEach es X.env:=by rfl) (hpl:(backTo pos (starEach es X.env)).any (·.1)=false:=by rfl) :
    PE X (.Call (.Name x p) (e::es) [] pos) (tCall sp dvs E t):=by
  refine ⟨?_⟩
  intro pins s σ H Q I h
  refine wpAny_Call_Name_kw (ld_glob I hg hm ?_ hdb)
  refine PySem.W.callWith_K (h₀:=X.base) I.ok.mod.kin hk (thn (ha pos pins s σ H _ I h) fun us s1 ⟨vs,H1,I1,r,q⟩=>⟨I1.kIn,?_⟩) he hpl
  exact run_fn F hr hb hd hx I1 r q
theorem pe_call0 (F:FnOk X.prog X.w X.K X.mg X.base CX k f fd ps sp) (hr:Room k X.A) (hg:Gl X x) (hm:X.mg x=some (.ref f)) (hk:PySem.W.keepIn X.K (.ref f)=true) (hb:Binds X.K fd ps ds) (hd:Vals dvs ds) (hx:Passes CX X E)
    (hdb:(x == ("__debug__" : Str))=false:=by decide):PE X (.Call (.Name x p) [] [] pos) (tCall sp dvs E tNil):=by
  refine ⟨?_⟩
  intro pins s σ H Q I h
  refine wpAny_Call_Name_kw (ld_glob I hg hm ?_ hdb)
  exact PySem.W.callWith_K0 I.kIn hk (run_fn (us:=[]) F hr hb hd hx I .nil h)
theorem pe_meth {pl:Sem Bool} (he:PE X o ta) (c:Cls X.K C) (hm:Meth X.K C m f) (F:FnOk X.prog X.w X.K X.mg X.base CX k f fd ps sp) (hr:Room k X.A) (hb:Binds X.K fd ps ds) (hd:Vals dvs ds) (hx:Passes CX X E) (ha:PA X (e::es) t)
    (hst:starEach (e::es) X.env=(false,eval e X.env)::starEach es X.env:=by rfl) (hpl:(backTo pos (starEach es X.env)).any (·.1)=false:=by rfl)
    (ht:eval (.Call (.Attribute o m apos) (e::es) [] pos) X.env=(do
      let ov ← eval o X.env
      standAt apos.atName
      let (f,first) ← holding [ov] (getMethod ov m pl)
      callWith pos f first (backTo pos (starEach (e::es) X.env)) (backToKw pos (keywordEach [] X.env))):=by rfl) :
    PE X (.Call (.Attribute o m apos) (e::es) [] pos) (tMeth C m sp dvs E ta t):=by
  refine ⟨?_⟩
  intro pins s σ H Q I h
  refine PySem.W.methodCall_KW (pl:=pl) (thn (he pins s σ H _ I h) fun u s1 ⟨x,H1,I1,rx,a,dx,fs,ex,ea,l,q⟩=>?_) ht
  subst ex
  obtain rfl:u=Value.ref a:=rx
  refine getmeth_ok I1 ea c hm l ?_
  refine PySem.W.callWith_K (first:=[.ref a]) (h₀:=X.base) I.ok.mod.kin hm.kp (thn (ha pos pins s1 σ H1 _ I1 q) fun us s2 ⟨vs,H2,I2,r,q2⟩=>⟨I2.kIn,?_⟩) hst hpl
  exact run_fn (us:=.ref a::us) (vs:=.ref a::vs) F hr hb hd hx I2 (.cons rfl r) q2
theorem pe_meth0 {pl:Sem Bool} (he:PE X o ta) (c:Cls X.K C) (hm:Meth X.K C m f) (F:FnOk X.prog X.w X.K X.mg X.base CX k f fd ps sp) (hr:Room k X.A) (hb:Binds X.K fd ps ds) (hd:Vals dvs ds) (hx:Passes CX X E)
    (ht:eval (.Call (.Attribute o m apos) [] [] pos) X.env=(do
      let ov ← eval o X.env
      standAt apos.atName
      let (f,first) ← holding [ov] (getMethod ov m pl)
      callWith pos f first (backTo pos (starEach [] X.env)) (backToKw pos (keywordEach [] X.env))):=by rfl) :
    PE X (.Call (.Attribute o m apos) [] [] pos) (tMeth C m sp dvs E ta tNil):=by
  refine ⟨?_⟩
  intro pins s σ H Q I h
  refine PySem.W.methodCall_KW (pl:=pl) (thn (he pins s σ H _ I h) fun u s1 ⟨x,H1,I1,rx,a,dx,fs,ex,ea,l,q⟩=>?_) ht
  subst ex
  obtain rfl:u=Value.ref a:=rx
  refine getmeth_ok I1 ea c hm l ?_
  exact PySem.W.callWith_K0 (first:=[.ref a]) I1.kIn hm.kp (run_fn (us:=[.ref a]) (vs:=[.ref a]) F hr hb hd hx I1 (.cons rfl .nil) q)
structure Mk (K:PySem.W.Frag) (C f:Addr):Prop where
  makes:PySem.W.makesIn K C=true
  init:PySem.W.findIn K (.ref C) "__init__"=some (some (.ref f))
  fn:PySem.W.isFn K (.ref f)=true
  kp:PySem.W.keepIn K (.ref C)=true
theorem run_make {pins:List (Addr × Obj)} {σ:St} {H:Hp} {s:Shared} {Q:VK} {us:List Value} {vs:List V} (M:Mk X.K C f) (F:FnOk X.prog X.w X.K X.mg X.base CX k f fd ps sp) (hr:Room (k + 1) X.A) (hb:Binds X.K fd ps ds) (hd:Vals dvs ds)
    (hx:Passes CX X E) (I:Inv X pins σ H s) (r:Vals vs us)
    (h:∀ x dx,H x=none→H dx=none→dx≠x→sp (.ref x::(vs++dvs)) (upd (upd H dx (.own x)) x (.ins C dx [])) (fun v H2=>v=.non∧Q (.ref x) H2) E) :
    wpAny (model X.prog X.w) X.A (call (.ref C) us) (EP X pins σ Q) X.xe s:=by
  have hq:=h (s.heap.objs.size + 1) s.heap.objs.size (I.hok.fresh (Nat.le_succ _)) (I.hok.fresh (Nat.le_refl _)) (Nat.ne_of_lt (Nat.lt_succ_self _))
  have I2:=Inv.made (C:=C) I
  have r2:Vals (V.ref (s.heap.objs.size + 1)::(vs++dvs)) (Value.ref (s.heap.objs.size + 1)::(us++ds)):=.cons rfl (r.append hd)
  have hl:(Value.ref (s.heap.objs.size + 1)::us++ds).length=ps.length:=by
    have e:=r2.length
    rw [F.len _ _ _ _ hq] at e
    exact e.symm
  refine wpAny_call (make_map (f:=f) I.kIn M.makes M.init (beq_iff_eq.mp M.fn) (codeAny_mono (F.run _ X.stack _ _ ⟨Value.ref (s.heap.objs.size + 1)::us,[]⟩ (Value.ref (s.heap.objs.size + 1)::(us++ds)) _ _ E (hr.make C us [])
    (I2.env0.make C us []) (hb _ (Value.ref (s.heap.objs.size + 1)::us) I2.kIn hl) r2 hq) fun r s' hq'=>?_))
  cases r with
  | error e=>exact hx pins σ _ _ e s' I2 hq'
  | ok fl =>
    cases fl with
    | ret u =>
      obtain ⟨v,H',I3,rv,ev,q3⟩:=I2.after hq'
      subst ev
      exact ⟨rv,⟨V.ref (s.heap.objs.size + 1),H',I3,rfl,q3⟩⟩
    | next=>exact False.elim hq'
    | brk=>exact False.elim hq'
    | cont=>exact False.elim hq'
theorem pe_make (M:Mk X.K C f) (F:FnOk X.prog X.w X.K X.mg X.base CX k f fd ps sp) (hr:Room (k + 1) X.A) (hg:Gl X x) (hm:X.mg x=some (.ref C)) (hb:Binds X.K fd ps ds) (hd:Vals dvs ds) (hx:Passes CX X E)
    (ha:PA X (e::es) t) (hdb:(x == ("__debug__" : Str))=false:=by decide) (he:starEach (e::es) X.env=(false,eval e X.env)::starEach es X.env:=by rfl) (hpl:(backTo pos (starEach es X.env)).any (·.1)=false:=by rfl) :
    PE X (.Call (.Name x p) (e::es) [] pos) (tMake C sp dvs E t):=by
  refine ⟨?_⟩
  intro pins s σ H Q I h
  refine wpAny_Call_Name_kw (ld_glob I hg hm ?_ hdb)
  refine PySem.W.callWith_K (h₀:=X.base) I.ok.mod.kin M.kp (thn (ha pos pins s σ H _ I h) fun us s1 ⟨vs,H1,I1,r,q⟩=>⟨I1.kIn,?_⟩) he hpl
  exact run_make M F hr hb hd hx I1 r q
end
def PK (X:Cx) (kws:List Keyword) (t:TA):Prop :=
  ∀ (pos:Pos) (pins:List (Addr × Obj)) (s:Shared) (σ:St) (H:Hp) (Q:List V→Hp→Prop),Inv X pins σ H s→t σ H Q→wpAny (model X.prog X.w) X.A (evalAll ((backToKw pos (keywordEach kws X.env)).map (·.2))) (AP X pins σ Q) X.xe s
section
variable {X:Cx} {CX:CXT} {k:Nat} {f C:Addr} {fd:FuncData} {ps ks:List Str} {sp:Sp} {E:XK} {x m:Str} {p pos apos kpos:Pos} {e o:Expr} {es:List Expr} {kws:List Keyword} {te ta:TE} {t tk:TA} {nm:Option Str}
theorem pk_nil:PK X [] tNil:=fun _ _ _ _ H Q I h=>wpAny_evalAll_nil ⟨[],H,I,.nil,h⟩
theorem pk_cons (ha:PE X e te) (hr:PK X kws t):PK X (⟨nm,e,kpos⟩::kws) (tCons te t):=by
  intro pos pins s σ H Q I h
  show wpAny _ _ (evalAll ((do let v ← eval e X.env; standAt pos; pure v)::(backToKw pos (keywordEach kws X.env)).map (·.2))) _ _ s
  refine wpAny_evalAll_cons (wpAny_bind (thn (ha pins s σ H _ I h) fun u s1 ⟨x,H1,I1,r1,q1⟩=>wpAny_bind (wpAny_standAt (wpAny_pure ?_))))
  exact thn (hr pos pins s1 σ H1 _ I1 q1) fun us s2 ⟨xs,H2,I2,r2,q2⟩=>⟨x::xs,H2,I2,.cons r1 r2,q2⟩
variable {g:List Value→List Value→List Value} {gV:List V→List V→List V}
end
structure FnScope (N P:List Str) (sc:Scope):Prop where
  kind:sc.kind=.function
  co:sc.isCoroutine=false
  gen:sc.isGenerator=false
  nd:N.Nodup
  pre:N.take P.length=P
  par:∀ x ∈ P,sc.names.lookup x=some .local∨sc.names.lookup x=some .cell
  nofree:∀ y ∈ sc.names,y.2≠.free
theorem bindL_out {kindOf:Str→Option NameKind} {x:Str}:∀ {binds:List (Str × Value)} {m:Str→Option Value},(∀ v,(x,v) ∉ binds)→bindL kindOf binds m x=m x
  | [],_,_=>rfl
  | (n,v)::r,m,h=>by
    unfold bindL
    rw [bindL_out fun w hw=>h w (List.mem_cons_of_mem _ hw)]
    split
    · have:x≠n:=by rintro rfl; exact h v List.mem_cons_self
      simp [this]
    · rfl
theorem bindC_out {kindOf:Str→Option NameKind} {x:Str}:∀ {binds:List (Str × Value)} {m:Str→Option Value},(∀ v,(x,v) ∉ binds)→bindC kindOf binds m x=m x
  | [],_,_=>rfl
  | (n,v)::r,m,h=>by
    unfold bindC
    rw [bindC_out fun w hw=>h w (List.mem_cons_of_mem _ hw)]
    split
    · rfl
    · have:x≠n:=by rintro rfl; exact h v List.mem_cons_self
      simp [this]
theorem bindL_get {kindOf:Str→Option NameKind} {x:Str} {v:Value}:∀ {P:List Str} {vs:List Value} {i:Nat} {m:Str→Option Value},P.Nodup→P[i]?=some x→vs[i]?=some v→kindOf x=some .local →
    bindL kindOf (P.zip vs) m x=some v
  | [],_,_,_,_,h,_,_=>by simp at h
  | _::_,[],_,_,_,_,h,_=>by simp at h
  | p::P,w::vs,0,m,nd,h1,h2,hk=>by
    simp at h1 h2; subst h1; subst h2
    show bindL kindOf ((p,w)::P.zip vs) m p=_
    unfold bindL
    rw [bindL_out fun v hv=>(List.nodup_cons.mp nd).1 (List.of_mem_zip hv).1,if_pos hk]
    simp
  | p::P,w::vs,i + 1,m,nd,h1,h2,hk=>by
    show bindL kindOf ((p,w)::P.zip vs) m x=_
    unfold bindL
    exact bindL_get (i:=i) (List.nodup_cons.mp nd).2 (by simpa using h1) (by simpa using h2) hk
theorem bindC_get {kindOf:Str→Option NameKind} {x:Str} {v:Value}:∀ {P:List Str} {vs:List Value} {i:Nat} {m:Str→Option Value},P.Nodup→P[i]?=some x→vs[i]?=some v→kindOf x≠some .local →
    bindC kindOf (P.zip vs) m x=some v
  | [],_,_,_,_,h,_,_=>by simp at h
  | _::_,[],_,_,_,_,h,_=>by simp at h
  | p::P,w::vs,0,m,nd,h1,h2,hk=>by
    simp at h1 h2; subst h1; subst h2
    show bindC kindOf ((p,w)::P.zip vs) m p=_
    unfold bindC
    rw [bindC_out fun v hv=>(List.nodup_cons.mp nd).1 (List.of_mem_zip hv).1,if_neg hk]
    simp
  | p::P,w::vs,i + 1,m,nd,h1,h2,hk=>by
    show bindC kindOf ((p,w)::P.zip vs) m x=_
    unfold bindC
    exact bindC_get (i:=i) (List.nodup_cons.mp nd).2 (by simpa using h1) (by simpa using h2) hk
def start (N:List Str) (vs:List V):St:=vs.map some++List.replicate (N.length - vs.length) none
def cxOf (CX:CXT) (P:Program) (w:World) (K:PySem.W.Frag) (mg:Str→Option Value) (base:Heap) (N:List Str) (qual:Str) (scope:Scope) (f:Addr) (cd:Value) (A:Around) (outer:List Env) (s:Shared) (H:Hp) (E:XK):Cx where
  prog:=P
  w:=w
  K:=K
  mg:=mg
  base:=base
  A:=A.deeper (envOfC qual scope s.heap.objs.size f cd)
  N:=N
  s₀:=s
  H₀:=H
  env:=envOfC qual scope s.heap.objs.size f cd
  outer:=outer
  stack:=envOfC qual scope s.heap.objs.size f cd::outer
  ex:=[]
  calm:=true
  fn:=fun _=>true
  pn:=[]
  xe:=fun e s'=>wpAny (model P w) (A.deeper (envOfC qual scope s.heap.objs.size f cd)) (leaving (envOfC qual scope s.heap.objs.size f cd) e) (fun _ s''=>CX outer H s E e s'') (fun e' s''=>CX outer H s E e' s'') s'
theorem cell_has {sc:Scope} {n:Nat} {x:Str} (h:sc.names.lookup x=some .cell):∃ c,(cellsFrom n sc.names []).lookup x=some c:=by
  have q:=PySem.W.cellsFrom_some sc.names n [] (.inl h)
  exact Option.isSome_iff_exists.mp q
theorem inv_start {CX:CXT} {P:Program} {w:World} {K:PySem.W.Frag} {mg:Str→Option Value} {base:Heap} {N ps:List Str} {qual:Str} {scope:Scope} {f:Addr} {cd:Value} {A:Around} {outer:List Env} {s s1:Shared} {H:Hp} {E:XK} {us:List Value} {vs:List V}
    (S:FnScope N ps scope) (hd:A.handled=none) (e0:Env0 P w K mg base A outer s H) (hl:vs.length=ps.length) (r:Vals vs us)
    (x:InCallC s s.heap.objs.size (bindL (envOfC qual scope s.heap.objs.size f cd).kindOf (ps.zip us) fun _=>none) (cellsFrom (s.heap.objs.size + 1) scope.names []) (bindC (envOfC qual scope s.heap.objs.size f cd).kindOf (ps.zip us) fun _=>none) s1) :
    Inv (cxOf CX P w K mg base N qual scope f cd A outer s H E) [] (start N vs) H s1:=by
  have hpl:ps.length≤N.length:=by have:=congrArg List.length S.pre; rw [List.length_take] at this; omega
  obtain ⟨h1,tk,rfl,hk⟩:=x.done
  have noA:∀ b:Addr,b ∉ (cxOf CX P w K mg base N qual scope f cd A outer s H E).ex:=fun b z=>absurd (show b ∈ ([]:List Addr) from z) (by simp)
  refine ⟨⟨e0.mod,S.kind,rfl,rfl,Nat.le_refl _,fun y z c h1 h2=>?_,fun y hy=>?_,fun y c _ h=>?_,fun _=>hd,Around.frames_deeper e0.frames,.inr ⟨rfl,rfl⟩,fun b z=>absurd z (noA b),e0.bs,e0.bsz,fun b _ _=>noA b,fun b z=>absurd z (noA b),e0.funs,e0.frf⟩,
    rfl,e0.bare,Un.kept hk,⟨_,x.toInCall.ns,fun i y v h1 h2 h3=>?_⟩,fun y c h=>⟨_,x.cell y c h⟩,e0.hok.fresh (Nat.le_refl _),fun y c h=>?_,fun p hp=>absurd (show p ∈ ([]:List (Addr × Obj)) from hp) (by simp),e0.hok.kept hk,?_⟩
  · exact name_of_addr x.apart (PySem.mem_of_lookup h1) (PySem.mem_of_lookup h2)
  · have hy:scope.names.lookup y=some .cell∨scope.names.lookup y=some .free:=hy
    rcases hy with hy | hy
    · exact cell_has hy
    · exact absurd rfl (S.nofree _ (PySem.mem_of_lookup hy))
  · exact Nat.le_of_lt (x.above y c (PySem.mem_of_lookup h))
  · have hi:i < vs.length:=by
      unfold start at h2
      by_cases hi:i < vs.length
      · exact hi
      · rw [List.getElem?_append_right (by simpa using hi)] at h2
        rw [List.getElem?_replicate] at h2
        split at h2 <;> cases h2
    have ha:vs[i]?=some v:=by
      unfold start at h2
      rw [List.getElem?_append_left (by simpa using hi),List.getElem?_map] at h2
      cases e:vs[i]? with
      | none=>rw [e] at h2; cases h2
      | some a=>rw [e] at h2; cases h2; rfl
    obtain ⟨u,hu,rv⟩:=r.get ha
    have hp:ps[i]?=some y:=by
      rw [← S.pre,List.getElem?_take_of_lt (by omega)]; exact h1
    have ndP:ps.Nodup:=by rw [← S.pre]; exact S.nd.sublist (List.take_sublist _ _)
    refine ⟨u,rv,?_⟩
    rcases S.par y (List.mem_of_getElem? hp) with k | k
    · exact .inl ⟨k,bindL_get ndP hp hu k⟩
    · obtain ⟨c,e⟩:=cell_has (n:=s.heap.objs.size + 1) k
      refine .inr ⟨.inl k,c,e,?_⟩
      have q:=x.cell y c e
      rw [bindC_get ndP hp hu (by show scope.names.lookup y≠_; rw [k]; decide)] at q
      exact q
  · exact e0.hok.fresh (Nat.le_of_lt (x.above y c (PySem.mem_of_lookup h)))
  · unfold start
    show _=N.length
    rw [List.length_append,List.length_map,List.length_replicate]
    omega
theorem fn_of {CX:CXT} {P:Program} {w:World} {K:PySem.W.Frag} {mg:Str→Option Value} {base:Heap} {k:Nat} {f:Addr} {name qual:Str} {params:Arguments} {body:List Stmt} {scope:Scope} {dV kV doc pm cdv ct oc:Value} {an od:Option Addr}
    {osl:Array (Option Value)} {N ps:List Str} {sp:Sp} (lk:K.lookup f=some ⟨oc,od,.func (PySem.W.fnOf name qual params body scope dV kV doc pm an cdv ct),osl⟩) (hcd:PySem.W.codeIn K cdv qual=true) (S:FnScope N ps scope)
    (len:∀ vs H Q E,sp vs H Q E→vs.length=ps.length)
    (hbody:∀ (A:Around) (outer:List Env) (s:Shared) (H:Hp) (vs:List V) (Q:VK) (E:XK),Room k (A.deeper (envOfC qual scope s.heap.objs.size f cdv))→sp vs H Q E →
      ∃ t,PSs (cxOf CX P w K mg base N qual scope f cdv A outer s H E) body t∧t { nx:=fun _ H'=>Q .non H',rt:=Q } (start N vs) H) :
    FnOk P w K mg base CX (k + 1) f (PySem.W.fnOf name qual params body scope dV kV doc pm an cdv ct) ps sp:=by
  refine ⟨len,fun A outer s H args us vs Q E hr e0 hb r hsp=>?_⟩
  have hl:=len _ _ _ _ hsp
  have KX:K.In s.heap:=e0.mod.kin.keeps fun b o e=>(e0.bs b o e).1
  have lim:s.heap.NoLimit:=e0.mod.nolimit.keeps fun b o e=>(e0.bs b o e).1
  have hkind:∀ y ∈ ps.zip us,scope.names.lookup y.1=some .local∨(scope.names.lookup y.1=some .cell∧((cellsFrom (s.heap.objs.size + 1) scope.names []).lookup y.1).isSome=true):=fun ⟨n,v⟩ hy=>by
    rcases S.par n (List.of_mem_zip hy).1 with q | q
    · exact .inl q
    · exact .inr ⟨q,PySem.W.cellsFrom_some _ _ _ (.inl q)⟩
  refine codeAny_call_function hr.depth (KX _ _ lk) rfl S.co S.gen rfl (PySem.W.codeRec_of KX hcd) (hb _ _ _ _ ?_)
  refine wpAny_newFunctionEnv_cells S.kind hkind fun env he s1 x=>?_
  subst he
  refine ⟨lim.keeps x.toInCall.keep,codeAny_func ?_⟩
  obtain ⟨t,ht,hq⟩:=hbody A outer s H vs Q E (hr.deeper _) hsp
  have I:Inv (cxOf CX P w K mg base N qual scope f cdv A outer s H E) [] (start N vs) H s1:=inv_start S hr.hd e0 hl r x
  refine wpAny_mono (ht [] s1 (start N vs) H _ I hq) (fun fl s' hs=>?_) fun e s' hs=>hs
  have fin:∀ {σ':St} {H':Hp} {v:V} {u:Value},Inv (cxOf CX P w K mg base N qual scope f cdv A outer s H E) [] σ' H' s'→RelV v u→Q v H'→CE outer P w H s Q u s' :=
    fun {σ' H' v u} J rv q=>⟨v,H',J.os,J.bare,J.base,J.hok,rv,q⟩
  cases fl with
  | ret u =>
    obtain ⟨v,σ',H',J,rv,q⟩:=hs
    exact fin J rv q
  | next =>
    obtain ⟨σ',H',J,q⟩:=hs
    exact fin (v:=V.non) (u:=Value.none) J rfl q
  | brk =>
    obtain ⟨_,_,_,q⟩:=hs
    exact False.elim q
  | cont =>
    obtain ⟨_,_,_,q⟩:=hs
    exact False.elim q
end L2
namespace L2
open PySem PySem.Spec PyProof.Rows
section
variable {X:Cx} {x:Str} {p pos:Pos} {e:Expr} {es:List Expr} {t:TA} {id T:String} {r:List V→Hp→VK→Prop}
def tCB (r:List V→Hp→VK→Prop) (t:TA):TE:=fun σ H Q=>t σ H fun vs H1=>r vs H1 Q
theorem pe_callB (hc:CallR X (.builtin id) r) (hg:Gl X x) (hm:X.mg x=none) (hv:bootBuiltins x=some (.builtin id)) (ha:PA X (e::es) t) (hn:x≠"__name__":=by decide) (hdb:(x == ("__debug__" : Str))=false:=by decide)
    (he:starEach (e::es) X.env=(false,eval e X.env)::starEach es X.env:=by rfl) (hpl:(backTo pos (starEach es X.env)).any (·.1)=false:=by rfl):PE X (.Call (.Name x p) (e::es) [] pos) (tCB r t):=by
  refine ⟨?_⟩
  intro pins s σ H Q I h
  refine wpAny_Call_Name_kw (ld_blt I hg hm hv ?_ hn hdb)
  exact PyProof.Rows.callWith_builtin1 (thn (ha pos pins s σ H _ I h) fun us s1 ⟨vs,H1,I1,r1,q1⟩=>hc pins s1 σ H1 vs us Q I1 r1 q1) he hpl
theorem pe_callTy (hc:CallR X (.type T) r) (hg:Gl X x) (hm:X.mg x=none) (hv:bootBuiltins x=some (.type T)) (ha:PA X (e::es) t) (hn:x≠"__name__":=by decide) (hdb:(x == ("__debug__" : Str))=false:=by decide)
    (he:starEach (e::es) X.env=(false,eval e X.env)::starEach es X.env:=by rfl) (hpl:(backTo pos (starEach es X.env)).any (·.1)=false:=by rfl):PE X (.Call (.Name x p) (e::es) [] pos) (tCB r t):=by
  refine ⟨?_⟩
  intro pins s σ H Q I h
  refine wpAny_Call_Name_kw (ld_blt I hg hm hv ?_ hn hdb)
  exact PyProof.Rows.callWith_type1 (thn (ha pos pins s σ H _ I h) fun us s1 ⟨vs,H1,I1,r1,q1⟩=>hc pins s1 σ H1 vs us Q I1 r1 q1) he hpl
end
end L2
namespace HT
open PySem PyProof.Rows
section
open PySem.SeqAt
open PySem.AutoSeq1 (wpAny_loadPart')
open PySem.MeetsSeq PySem.MeetsSeq2 PySem.MeetsSeq3
end
section
variable {prog:Program} {w:World} {A:Around} {E:Value→Shared→Prop} {s:Shared}
def sIx (n d:Nat):Option Int→Nat
  | none=>d
  | some v=>if v < 0 then (v + (n:Int)).toNat else min v.toNat n
theorem sIx_none (n d:Nat):sIx n d none=d:=rfl
theorem sIx_nat (n d k:Nat):sIx n d (some (k:Int))=min k n:=by
  show (if (k:Int) < 0 then ((k:Int) + (n:Int)).toNat else min (k:Int).toNat n)=min k n
  rw [if_neg (by omega),Int.toNat_natCast]
theorem sIx_le (n d:Nat) (hd:d≤n) (o:Option Int):sIx n d o≤n:=by
  cases o with
  | none=>exact hd
  | some v =>
    show (if v < 0 then (v + (n:Int)).toNat else min v.toNat n)≤n
    by_cases hv:v < 0
    · rw [if_pos hv]; omega
    · rw [if_neg hv]; exact Nat.min_le_right _ _
theorem clip_eq (v:Int) (n d:Nat):(if v < 0 then max (v + (n:Int)) 0 else min v (n:Int))=((sIx n d (some v):Nat):Int):=by
  show (if v < 0 then max (v + (n:Int)) 0 else min v (n:Int))=(((if v < 0 then (v + (n:Int)).toNat else min v.toNat n):Nat):Int)
  by_cases hv:v < 0
  · simp only [if_pos hv]; omega
  · simp only [if_neg hv]; omega
theorem adjust_gen (lo hi:Option Int) (n:Nat):Builtin.Slice.sliceAdjust lo hi 1 (n:Int)=(((sIx n 0 lo:Nat):Int),((sIx n n hi:Nat):Int)):=by
  have h1:¬ ((1:Int) < 0):=by omega
  unfold Builtin.Slice.sliceAdjust
  simp only [h1,if_false]
  refine Prod.ext ?_ ?_
  · cases lo with
    | none=>rfl
    | some v=>exact clip_eq v n 0
  · cases hi with
    | none=>rfl
    | some v=>exact clip_eq v n n
theorem places_gen (i j:Nat):Builtin.Slice.slicePlaces (i:Int) (j:Int) 1=j - i:=by
  unfold Builtin.Slice.slicePlaces
  have h1:(1:Int) > 0:=by omega
  simp only [h1,if_true,Int.ediv_one]
  split <;> omega
theorem slicePart_ {v:Value} {o:Option Int} {Q:Option Int→Shared→Prop} (p:IsPart v o) (h:Q o s):wpAny (model prog w) A (Builtin.Slice.slicePartIndex v) Q E s:=by
  cases p with
  | none=>exact slicePart_none h
  | int i t=>exact slicePart_int h
theorem sliceApplied_gen {sl:Addr} {vl vu:Value} {lo hi:Option Int} {n:Nat} {Q:Int × Int × Nat→Shared→Prop} (hs:s.heap.IsSliceOf sl vl vu .none) (pl:IsPart vl lo) (pu:IsPart vu hi)
    (h:Q (((sIx n 0 lo:Nat):Int),1,sIx n n hi - sIx n 0 lo) s):wpAny (model prog w) A (Builtin.Slice.sliceApplied (.ref sl) (pure (n:Int))) Q E s:=by
  obtain ⟨os,hos,hcs,hds⟩:=id hs
  unfold Builtin.Slice.sliceApplied Builtin.Slice.sliceFields
  refine wpAny_bind (wpAny_bind (wpAny_field hos hds (x:=vl) rfl (wpAny_bind (wpAny_field hos hds (x:=vu) rfl (wpAny_bind (wpAny_field hos hds (x:=.none) rfl (wpAny_pure ?_)))))))
  refine wpAny_bind (slicePart_none ?_)
  show wpAny _ _ (if ((1:Int) == 0)=true then _ else _) _ _ s
  rw [if_neg (by decide)]
  refine wpAny_bind (slicePart_ pl (wpAny_bind (slicePart_ pu (wpAny_bind (wpAny_pure ?_)))))
  show wpAny _ _ (match Builtin.Slice.sliceAdjust lo hi 1 (n:Int) with | (lo,hi)=>pure (lo,(1:Int),Builtin.Slice.slicePlaces lo hi 1)) _ _ s
  rw [adjust_gen lo hi n]
  show wpAny _ _ (pure (((sIx n 0 lo:Nat):Int),(1:Int),Builtin.Slice.slicePlaces ((sIx n 0 lo:Nat):Int) ((sIx n n hi:Nat):Int) 1)) _ _ s
  rw [places_gen]
  exact wpAny_pure h
theorem pick_gen (xs:Array Value) (i k:Nat):((List.range k).filterMap fun (m:Nat)=>xs[((i:Int) + (m:Int) * 1).toNat]?).toArray=((xs.toList.drop i).take k).toArray:=by
  have e:(fun (m:Nat)=>xs[((i:Int) + (m:Int) * 1).toNat]?)=fun m=>xs[i + m]?:=by
    funext m
    have:((i:Int) + (m:Int) * 1).toNat=i + m:=by omega
    rw [this]
  rw [e]
  have:=pick_run xs i k
  rw [List.filterMap_map] at this
  have e2:((fun x=>xs[x]?) ∘ fun x=>i + x)=fun m=>xs[i + m]?:=rfl
  rw [e2] at this
  rw [this]
theorem getItem_tuple_cut {t sl:Addr} {items:Array Value} {vl vu:Value} {lo hi:Option Int} {Q:Value→Shared→Prop} (ht:IsTup s.heap t items) (hs:s.heap.IsSliceOf sl vl vu .none) (pl:IsPart vl lo) (pu:IsPart vu hi)
    (hw:¬ (sIx items.size 0 lo=0∧sIx items.size items.size hi=items.size))
    (h:Q (.ref s.heap.objs.size) { s with heap:=s.heap.push { cls:=.type "tuple",data:=.seq ((items.toList.drop (sIx items.size 0 lo)).take (sIx items.size items.size hi - sIx items.size 0 lo)).toArray } })
    (hsz:items.size≤sizeLine):wpAny (model prog w) A (getItem (.ref t) (.ref sl)) Q E s:=by
  have htake:sizeOk (.seq ((items.toList.drop (sIx items.size 0 lo)).take (sIx items.size items.size hi - sIx items.size 0 lo)).toArray):=by
    show ((items.toList.drop (sIx items.size 0 lo)).take (sIx items.size items.size hi - sIx items.size 0 lo)).toArray.size≤sizeLine
    rw [List.size_toArray,List.length_take,List.length_drop,Array.length_toList]
    omega
  have hj:sIx items.size items.size hi≤items.size:=sIx_le _ _ (Nat.le_refl _) hi
  obtain ⟨os,hos,hcs,hds⟩:=id hs
  have hTs:s.TypeIs (.ref sl) "slice":=⟨os,hos,hcs⟩
  unfold getItem
  try with_reducible refine wpAny_holding ?_
  first | refine wpAny_bind (wpAny_pure ?_) | skip
  refine wpAny_bind (wpAny_sequenceKey ht.typeIs (by decide) ?_)
  refine wpAny_bind (wpAny_callSpecial?_slot (name:=Str.ofString "__getitem__") ht.typeIs PyProof.Rows.slot_tuple_getitem
    (wpAny_call_entry PyProof.Rows.slot_tuple_getitem ht.typeIs entry_tuple_getitem ?_ (args_tuple_getitem _ _)))
  show wpAny _ _ (Builtin.Tuple.tupleItemsOf (.ref t) >>= _) _ _ s
  refine wpAny_bind (tupleItemsOf_ ht ?_)
  refine wpAny_bind (wpAny_typeOf hTs ?_)
  rw [if_pos (by decide)]
  refine wpAny_bind (sliceApplied_gen hs pl pu ?_)
  have hno:¬ ((((sIx items.size 0 lo:Nat):Int) == 0 && (1:Int) == 1 && (sIx items.size items.size hi - sIx items.size 0 lo) == items.size)=true):=by
    intro q
    rw [Bool.and_eq_true,Bool.and_eq_true] at q
    have q1:((sIx items.size 0 lo:Nat):Int)=0:=eq_of_beq q.1.1
    have q2:sIx items.size items.size hi - sIx items.size 0 lo=items.size:=eq_of_beq q.2
    exact hw ⟨by omega,by omega⟩
  show wpAny _ _ (if (((sIx items.size 0 lo:Nat):Int) == 0 && (1:Int) == 1 && (sIx items.size items.size hi - sIx items.size 0 lo) == items.size)=true then _ else _) _ _ s
  rw [if_neg hno,pick_gen]
  first
    | exact wpAny_bind (m:=Builtin.Tuple.tupleExact _) (wpAny_newObj_type (wpAny_pure ⟨_,rfl,wpAny_pure h⟩) htake)
    | exact wpAny_bind (m:=Builtin.Tuple.tupleExact _) (wpAny_newObj_type (wpAny_bind (wpAny_pure (wpAny_pure ⟨_,rfl,wpAny_pure h⟩))) htake)
    | exact wpAny_bind (wpAny_bind (m:=Builtin.Tuple.tupleExact _) (wpAny_newObj_type (wpAny_pure (wpAny_pure ⟨_,rfl,wpAny_pure h⟩)) htake))
    | exact wpAny_bind (wpAny_bind (m:=Builtin.Tuple.tupleExact _) (wpAny_newObj_type (wpAny_pure ⟨_,rfl,wpAny_pure h⟩) htake))
end
end HT
namespace L2
open PySem PySem.Spec PyProof.Rows
abbrev TO:=St→Hp→(Option Int→Hp→Prop)→Prop
def PO (X:Cx) (e:Option Expr) (t:TO):Prop :=
  ∀ (pins:List (Addr × Obj)) (s:Shared) (σ:St) (H:Hp) (Q:Option Int→Hp→Prop),Inv X pins σ H s→t σ H Q →
    wpAny (model X.prog X.w) X.A (evalPart e X.env) (fun u s'=>∃ o H',Inv X pins σ H' s'∧IsPart u o∧Q o H') X.xe s
def tNoPart:TO:=fun _ H Q=>Q none H
def tPart (t:TE):TO:=fun σ H Q=>t σ H fun x H1=>∃ i,x=.int i∧Q (some i) H1
section
variable {X:Cx} {e:Expr} {te:TE} {lo hi:Option Expr} {tl th:TO} {pos p2:Pos}
theorem po_none:PO X none tNoPart:=by
  intro pins s σ H Q I h
  rw [evalPart_none]
  exact wpAny_pure ⟨none,H,I,.none,h⟩
theorem po_some (h:PE X e te):PO X (some e) (tPart te):=by
  intro pins s σ H Q I hw
  rw [evalPart_some]
  refine thn (h pins s σ H _ I hw) fun u s1 ⟨x,H1,I1,r1,q1⟩=>?_
  obtain ⟨i,rfl,q⟩:=q1
  obtain ⟨t,rfl⟩:=r1
  exact ⟨some i,H1,I1,.int i t,q⟩
def SlR (X:Cx) (r:V→Option Int→Option Int→Hp→VK→Prop):Prop :=
  ∀ (pins:List (Addr × Obj)) (s:Shared) (σ:St) (H:Hp) (x:V) (v vl vu:Value) (lo hi:Option Int) (sl:Addr) (Q:VK),Inv X pins σ H s→RelV x v→s.heap.IsSliceOf sl vl vu .none→IsPart vl lo→IsPart vu hi→r x lo hi H Q →
    ∃ T id,typeLookup (.type T) "__getitem__"=pure (some (.builtin id))∧s.TypeIs v T∧wpAny (model X.prog X.w) X.A (getItem v (.ref sl)) (EP X pins σ Q) X.xe s
def tSl (r:V→Option Int→Option Int→Hp→VK→Prop) (te:TE) (tl th:TO):TE:=fun σ H Q=>te σ H fun x H1=>tl σ H1 fun l H2=>th σ H2 fun u H3=>r x l u H3 Q
theorem pe_slice {r:V→Option Int→Option Int→Hp→VK→Prop} (hr:SlR X r) (he:PE X e te) (hl:PO X lo tl) (hu:PO X hi th):PE X (.Subscript e (.Slice lo hi none p2) pos) (tSl r te tl th):=by
  refine ⟨?_⟩
  intro pins s σ H Q I h
  refine Subscript_ (thn (he pins s σ H _ I h) fun v s1 ⟨x,H1,I1,r1,q1⟩=>?_)
  refine wpAny_Slice (thn (hl pins s1 σ H1 _ I1 q1) fun vl s2 ⟨l,H2,I2,pl,q2⟩=>thn (hu pins s2 σ H2 _ I2 q2) fun vu s3 ⟨u,H3,I3,pu,q3⟩=>?_)
  rw [evalPart_none]
  refine wpAny_pure ?_
  have I4:Inv X pins σ H3 { s3 with heap:=s3.heap.push { cls:=.type "slice",data:=.fields #[vl,vu,.none] } }:=I3.kept (t':=s3.toks) fun b ob q=>Heap.get?_push_of_some _ q
  obtain ⟨T,id,hT,ht,hg⟩:=hr pins { s3 with heap:=s3.heap.push { cls:=.type "slice",data:=.fields #[vl,vu,.none] } } σ H3 x v vl vu l u s3.heap.objs.size Q I4 r1 (Heap.IsSliceOf.new ..) pl pu q3
  show wpAny (model X.prog X.w) X.A (subscriptTail e (.Slice lo hi none p2) v (.ref s3.heap.objs.size)) (EP X pins σ Q) X.xe { s3 with heap:=s3.heap.push { cls:=.type "slice",data:=.fields #[vl,vu,.none] } }
  exact tail_any (ops:=[.ref s3.heap.objs.size,v]) ht hT hg (by with_unfolding_all rfl)
def cutV (xs:List V) (lo hi:Option Int):List V:=(xs.drop (HT.sIx xs.length 0 lo)).take (HT.sIx xs.length xs.length hi - HT.sIx xs.length 0 lo)
theorem cutV_length (xs:List V) (lo hi:Option Int):(cutV xs lo hi).length≤xs.length:=by
  unfold cutV
  rw [List.length_take,List.length_drop]
  omega
def rSlT (K:PySem.W.Frag):V→Option Int→Option Int→Hp→VK→Prop:=fun x lo hi H Q=>∃ a xs,x=.ref a∧SqT K H a xs ∧
  ¬ (HT.sIx xs.length 0 lo=0∧HT.sIx xs.length xs.length hi=xs.length)∧∀ p,H p=none→Q (.ref p) (upd H p (.tup (cutV xs lo hi)))
theorem sl_tup:SlR X (rSlT X.K):=by
  intro pins s σ H x v vl vu lo hi sl Q I rx hs pl pu h
  obtain ⟨a,xs,rfl,hx,hw,q⟩:=h
  cases rx
  obtain ⟨its,r,ht,hz⟩:=I.tuple hx
  have hlen:its.toArray.size=xs.length:=by rw [List.size_toArray]; exact r.length.symm
  refine ⟨"tuple",_,PyProof.Rows.slot_tuple_getitem.lookup,ht.typeIs,?_⟩
  refine HT.getItem_tuple_cut ht hs pl pu (by rw [hlen]; exact hw) ?_ (by rw [hlen]; exact hz)
  rw [hlen]
  refine ⟨.ref s.heap.objs.size,_,I.laid (t':=s.toks) (o:=.tup (cutV xs lo hi)) (fun b ob q=>Heap.get?_push_of_some _ q) (Nat.le_refl _) ?_,rfl,q _ (I.hok.fresh (Nat.le_refl _))⟩
  exact ⟨Nat.le_trans (cutV_length xs lo hi) hz,_,(r.drop (HT.sIx xs.length 0 lo)).take (HT.sIx xs.length xs.length hi - HT.sIx xs.length 0 lo),IsTup.new _ _⟩
end
end L2
namespace L2
open PySem PySem.Spec PyProof.Rows
def ixN (n:Nat) (i:Int):Option Nat:=if 0≤i then (if i < n then some i.toNat else none) else if -(n:Int)≤i then some (i + n).toNat else none
def atI {α:Type} (xs:List α) (i:Int):Option α:=(ixN xs.length i).bind fun j=>xs[j]?
theorem ixN_seq {n:Nat} {i:Int} {j:Nat} (h:ixN n i=some j):seqIndex? i n=some j∧j < n∧-(n:Int)≤i∧i < n:=by
  unfold ixN at h
  by_cases h0:0≤i
  · rw [if_pos h0] at h
    by_cases h1:i < n
    · rw [if_pos h1] at h
      have e:i.toNat=j:=Option.some.inj h
      exact ⟨by rw [seqIndex_of h0 h1,e],by omega,by omega,h1⟩
    · rw [if_neg h1] at h; cases h
  · rw [if_neg h0] at h
    by_cases h1 : -(n:Int)≤i
    · rw [if_pos h1] at h
      have e:(i + n).toNat=j:=Option.some.inj h
      exact ⟨by rw [seqIndex_neg (by omega) h1,e],by omega,h1,by omega⟩
    · rw [if_neg h1] at h; cases h
theorem atI_get {α:Type} {xs:List α} {i:Int} {v:α} (h:atI xs i=some v):∃ j,seqIndex? i xs.length=some j∧xs[j]?=some v∧j < xs.length∧-(xs.length:Int)≤i∧i < xs.length:=by
  unfold atI at h
  cases e:ixN xs.length i with
  | none=>rw [e] at h; cases h
  | some j =>
    rw [e] at h
    obtain ⟨h1,h2,h3,h4⟩:=ixN_seq e
    exact ⟨j,h1,h,h2,h3,h4⟩
theorem atI_nat {α:Type} {xs:List α} {j:Nat} {v:α} (h:xs[j]?=some v):atI xs (j:Int)=some v:=by
  have hj:j < xs.length:=(List.getElem?_eq_some_iff.mp h).1
  have e:ixN xs.length (j:Int)=some j:=by
    unfold ixN
    rw [if_pos (by omega),if_pos (by omega)]; simp
  unfold atI; rw [e]; exact h
theorem atI_last {α:Type} (xs:List α) (v:α):atI (xs++[v]) (-1)=some v:=by
  have hl:(xs++[v]).length=xs.length + 1:=by simp
  have e:ixN (xs++[v]).length (-1)=some xs.length:=by
    unfold ixN
    rw [hl,if_neg (by decide),if_pos (by omega)]
    congr 1
    omega
  unfold atI
  rw [e]
  show (xs++[v])[xs.length]?=some v
  simp
def PlainIx (b:Expr):Prop:=∀ o i,subscripted b false o i=operate [o,i] (getItem o i)
def IxR (X:Cx) (r:R2):Prop :=
  ∀ (value slice:Expr) (pins:List (Addr × Obj)) (s:Shared) (σ:St) (H:Hp) (x y:V) (v u:Value) (Q:VK),Inv X pins σ H s→RelV x v→RelV y u→r x y H Q →
    subscripted slice false v u=operate [v,u] (getItem v u)→wpAny (model X.prog X.w) X.A (subscriptTail value slice v u) (EP X pins σ Q) X.xe s
def MtR (X:Cx) (id:String) (r:V→List V→Hp→VK→Prop):Prop :=
  ∀ (pins:List (Addr × Obj)) (s:Shared) (σ:St) (H:Hp) (x:V) (xs:List V) (v:Value) (us:List Value) (Q:VK),Inv X pins σ H s→RelV x v→Vals xs us→r x xs H Q →
    wpAny (model X.prog X.w) X.A (call (.builtin id) (v::us)) (EP X pins σ Q) X.xe s
section
variable {X:Cx} {a b:Expr} {ta tb:TE} {pos:Pos}
theorem pe_ix {r:R2} (hr:IxR X r) (ha:PE X a ta) (hb:PE X b tb) (hs:PlainIx b):PE X (.Subscript a b pos) (tOp r ta tb):=by
  refine ⟨?_⟩
  intro pins s σ H Q I h
  exact Subscript_ (binT ha hb I h fun v u s2 x y H2 I2 rx ry q=>hr a b pins s2 σ H2 x y v u Q I2 rx ry q (hs _ _))
inductive rIxL (K:PySem.W.Frag) (x y:V) (H:Hp) (Q:VK):Prop
  | mk (p:Addr) (xs:List V) (i:Int) (v:V) (e1:x=.ref p) (e2:y=.int i) (h:SqL K H p xs) (e:atI xs i=some v) (q:Q v H):rIxL K x y H Q
inductive rIxT (K:PySem.W.Frag) (x y:V) (H:Hp) (Q:VK):Prop
  | mk (p:Addr) (xs:List V) (i:Int) (v:V) (e1:x=.ref p) (e2:y=.int i) (h:SqT K H p xs) (e:atI xs i=some v) (q:Q v H):rIxT K x y H Q
theorem ix_list:IxR X (rIxL X.K):=by
  intro value slice pins s σ H x y v u Q I rx ry h hs
  obtain ⟨p,xs,i,z,rfl,rfl,hq,he,q⟩:=h
  cases rx
  obtain ⟨t,rfl⟩:=ry
  obtain ⟨its,r,pl,hz⟩:=I.list hq
  obtain ⟨j,h1,h2,h3,h4,h5⟩:=atI_get he
  obtain ⟨w,ew,rw'⟩:=r.get h2
  have hl:=r.length
  have hn:=line63
  have fin:EP X pins σ Q w s:=⟨z,H,I,rw',q⟩
  by_cases h0:0≤i
  · have hj:i.toNat=j:=by
      rw [seqIndex_of h0 h5] at h1
      exact Option.some.inj h1
    exact item_listR pl.isList h0 (by omega) (by rw [hj]; simpa using ew) fin hs
  · have hj:(i + (its.toArray.size:Int)).toNat=j:=by
      rw [seqIndex_neg (by omega) h4] at h1
      rw [List.size_toArray,← hl]
      exact Option.some.inj h1
    exact subscriptTail_builtinR (x:=w) pl.isList.typeIs slot_list_getitem.lookup
      (wpAny_getItem_list_neg (Q:=fun r s'=>r=w∧EP X pins σ Q r s') pl.isList (by omega) (by rw [List.size_toArray] <;> omega) (by omega) (by rw [hj]; simpa using ew) ⟨rfl,fin⟩) hs
theorem ix_tup:IxR X (rIxT X.K):=by
  intro value slice pins s σ H x y v u Q I rx ry h hs
  obtain ⟨p,xs,i,z,rfl,rfl,hq,he,q⟩:=h
  cases rx
  obtain ⟨t,rfl⟩:=ry
  obtain ⟨its,r,pl,hz⟩:=I.tuple hq
  obtain ⟨j,h1,h2,h3,h4,h5⟩:=atI_get he
  obtain ⟨w,ew,rw'⟩:=r.get h2
  have hl:=r.length
  have hn:=line63
  have fin:EP X pins σ Q w s:=⟨z,H,I,rw',q⟩
  exact subscriptTail_builtinR (x:=w) pl.typeIs slot_tuple_getitem.lookup
    (getItem_tuple (j:=j) (Q:=fun r s'=>r=w∧EP X pins σ Q r s') pl (by omega) (by omega) (by rw [List.size_toArray,← hl]; exact h1) (by simpa using ew) ⟨rfl,fin⟩) hs
theorem mapSeq_set (its:List Value) (n j:Nat) (u:Value):Obj.mapSeq (·.setIfInBounds j u) { cls:=.type "list",data:=.seq its.toArray n }={ cls:=.type "list",data:=.seq (its.set j u).toArray n }:=by
  simp [Obj.mapSeq]
theorem Inv.lst {pins:List (Addr × Obj)} {σ:St} {H:Hp} {s:Shared} {p:Addr} {xs:List V} (I:Inv X pins σ H s) (h:H p=some (.lst xs)) :
    ∃ (its:List Value) (n:Nat),Vals xs its∧s.heap.get? p=some { cls:=.type "list",data:=.seq its.toArray n }∧xs.length≤sizeLine:=by
  obtain ⟨z,its,n,r,e⟩:=I.hok p _ h
  exact ⟨its,n,r,e,z⟩
theorem Inv.lstUpd {pins:List (Addr × Obj)} {σ:St} {H:Hp} {s:Shared} {p:Addr} {xs ys:List V} {its its':List Value} {n n':Nat} {f:Obj→Obj} (I:Inv X pins σ H s) (h:H p=some (.lst xs))
    (ho:s.heap.get? p=some { cls:=.type "list",data:=.seq its.toArray n }) (hf:f { cls:=.type "list",data:=.seq its.toArray n }={ cls:=.type "list",data:=.seq its'.toArray n' }) (r:Vals ys its') (hz:ys.length≤sizeLine) (t:Nat) :
    Inv X pins σ (upd H p (.lst ys)) { s with heap:=s.heap.update p f,toks:=t }:=by
  have e:(s.heap.update p f).get? p=some { cls:=.type "list",data:=.seq its'.toArray n' }:=by
    rw [Heap.get?_update_self f ho (by rw [hf] <;> rfl),hf]
  refine I.write (x:=p) (e:=p) (by rw [h]; trivial) (.inl rfl) (fun b u hb q=>(Heap.get?_update_other _ _ (Ne.symm hb)).trans q) ⟨_,e⟩ ?_
  exact ⟨hz,its',n',r,e⟩
def rSetL:V→V→V→Hp→(Hp→Prop)→Prop:=fun o i v H Q=>∃ p xs k j,o=.ref p∧i=.int k∧H p=some (.lst xs)∧ixN xs.length k=some j∧Q (upd H p (.lst (xs.set j v)))
theorem set_list:PSet X rSetL:=by
  intro pins s σ H o i v ov iv u Q I ro ri rv h
  obtain ⟨p,xs,k,j,rfl,rfl,hp,hj,q⟩:=h
  cases ro
  obtain ⟨t,rfl⟩:=ri
  obtain ⟨its,n,r,ho,hz⟩:=I.lst hp
  obtain ⟨h1,h2,h3,h4⟩:=ixN_seq hj
  have hl:=r.length
  have hn:=line63
  have I':Inv X pins σ (upd H p (.lst (xs.set j v))) { s with heap:=s.heap.update p (Obj.mapSeq (·.setIfInBounds j u)) } :=
    I.lstUpd hp ho (mapSeq_set its n j u) (r.set rv j) (by rw [List.length_set]; exact hz) s.toks
  by_cases h0:0≤k
  · have hk:k.toNat=j:=by
      rw [seqIndex_of h0 h4] at h1
      exact Option.some.inj h1
    exact PySem.W.ki_setAt ho h0 (by omega) (by rw [List.size_toArray,← hl]; exact h4) (by rw [hk]; exact ⟨_,I',q⟩)
  · have hk:(k + (its.toArray.size:Int)).toNat=j:=by
      rw [seqIndex_neg (by omega) h3] at h1
      rw [List.size_toArray,← hl]
      exact Option.some.inj h1
    exact PySem.W.ki_setBack ho (by omega) (by rw [List.size_toArray,← hl]; exact h3) (by omega) (by rw [hk]; exact ⟨_,I',q⟩)
def flatV:V→Bool
  | .non=>true
  | .bl _=>true
  | .int _=>true
  | .str _=>true
  | _=>false
def eqV:V→V→Bool
  | .non,.non=>true
  | .bl a,.bl b=>a == b
  | .bl a,.int b=>(if a then 1 else 0) == b
  | .int a,.bl b=>a == (if b then 1 else 0)
  | .int a,.int b=>a == b
  | .str a,.str b=>a == b
  | _,_=>false
theorem eqAt_V {A:Around} {s:Shared} {y x:V} {u v:Value} (ry:RelV y u) (rx:RelV x v) (fy:flatV y=true) (fx:flatV x=true):SeqAt.EqAt A s u v (eqV y x):=by
  cases y with
  | non =>
    cases ry
    cases x with
    | non=>cases rx; exact SeqAt.EqAt.same _
    | bl b=>cases rx; exact SeqAt.EqAt.none_bool b
    | int b=>obtain ⟨t,rfl⟩:=rx; exact SeqAt.EqAt.none_int b t
    | str b=>obtain ⟨t,rfl⟩:=rx; exact SeqAt.EqAt.none_str b t
    | _=>exact absurd (show false=true from fx) Bool.false_ne_true
  | bl a =>
    cases ry
    cases x with
    | non=>cases rx; exact SeqAt.EqAt.bool_none a
    | bl b=>cases rx; exact SeqAt.EqAt.bool_bool a b
    | int b=>obtain ⟨t,rfl⟩:=rx; exact SeqAt.EqAt.bool_int a b t
    | str b=>obtain ⟨t,rfl⟩:=rx; exact SeqAt.EqAt.bool_str a b t
    | _=>exact absurd (show false=true from fx) Bool.false_ne_true
  | int a =>
    obtain ⟨t',rfl⟩:=ry
    cases x with
    | non=>cases rx; exact SeqAt.EqAt.int_none a t'
    | bl b=>cases rx; exact SeqAt.EqAt.int_bool a t' b
    | int b=>obtain ⟨t,rfl⟩:=rx; exact SeqAt.EqAt.int_int a t' b t
    | str b=>obtain ⟨t,rfl⟩:=rx; exact SeqAt.EqAt.int_str a t' b t
    | _=>exact absurd (show false=true from fx) Bool.false_ne_true
  | str a =>
    obtain ⟨t',rfl⟩:=ry
    cases x with
    | non=>cases rx; exact SeqAt.EqAt.str_none a t'
    | bl b=>cases rx; exact SeqAt.EqAt.str_bool a t' b
    | int b=>obtain ⟨t,rfl⟩:=rx; exact SeqAt.EqAt.str_int a t' b t
    | str b=>obtain ⟨t,rfl⟩:=rx; exact SeqAt.EqAt.str_str a t' b t
    | _=>exact absurd (show false=true from fx) Bool.false_ne_true
  | _=>exact absurd (show false=true from fy) Bool.false_ne_true
def eqU (x:V) (u:Value):Bool:=match u with
  | .none=>eqV .non x
  | .bool b=>eqV (.bl b) x
  | .int i _=>eqV (.int i) x
  | .str z _=>eqV (.str z) x
  | _=>false
theorem eqU_of {x y:V} {u:Value} (r:RelV y u) (f:flatV y=true):eqU x u=eqV y x:=by
  cases y with
  | non=>cases r; rfl
  | bl b=>cases r; rfl
  | int i=>obtain ⟨t,rfl⟩:=r; rfl
  | str z=>obtain ⟨t,rfl⟩:=r; rfl
  | _=>exact absurd (show false=true from f) Bool.false_ne_true
theorem any_eqU {x:V}:∀ {xs:List V} {us:List Value},Vals xs us→xs.all flatV=true→us.any (eqU x)=xs.any fun y=>eqV y x
  | _,_,.nil,_=>rfl
  | y::xs,u::us,.cons r t,f=>by
    rw [List.all_cons,Bool.and_eq_true] at f
    rw [List.any_cons,List.any_cons,eqU_of r f.1,any_eqU t f.2]
theorem mem_eqAt {A:Around} {s:Shared} {x:V} {v:Value} (rx:RelV x v) (fx:flatV x=true):∀ {xs:List V} {us:List Value},Vals xs us→xs.all flatV=true→∀ u ∈ us,SeqAt.EqAt A s u v (eqU x u)
  | _,_,.nil,_=>fun u hu=>by cases hu
  | y::xs,u::us,.cons r t,f=>fun u' hu=>by
    rw [List.all_cons,Bool.and_eq_true] at f
    rcases List.mem_cons.mp hu with rfl | hu
    · rw [eqU_of r f.1]; exact eqAt_V r rx f.1 fx
    · exact mem_eqAt rx fx t f.2 u' hu
def inV (x:V) (xs:List V):Bool:=xs.any fun y=>eqV y x
def rIn (K:PySem.W.Frag) (neg:Bool):R2:=fun x y H Q=>∃ p xs,y=.ref p∧(SqL K H p xs∨SqT K H p xs)∧flatV x=true∧xs.all flatV=true∧Q (.bl (if neg then !inV x xs else inV x xs)) H
theorem op_in_seq:OpR X (compareOp .In) (rIn X.K false):=by
  intro pins s σ H x y v u Q I rx ry h
  obtain ⟨p,xs,rfl,hq,fx,fs,q⟩:=h
  cases ry
  rcases hq with hq | hq
  · obtain ⟨its,r,pl,hz⟩:=I.list hq
    refine SeqAt.in_listAt (eqU x) pl.isList (fun w hw=>mem_eqAt rx fx r fs w (by simpa using hw)) ⟨.bl _,H,I,rfl,?_⟩
    rw [show its.toArray.any (eqU x)=its.any (eqU x) by simp,any_eqU r fs]
    exact q
  · obtain ⟨its,r,pl,hz⟩:=I.tuple hq
    refine SeqAt.in_tupleAt (eqU x) pl (fun w hw=>mem_eqAt rx fx r fs w (by simpa using hw)) ⟨.bl _,H,I,rfl,?_⟩
    rw [show its.toArray.any (eqU x)=its.any (eqU x) by simp,any_eqU r fs]
    exact q
theorem call_len_seq:CallR X (.builtin "len") (fun xs H Q=>∃ p ys,xs=[.ref p]∧(SqL X.K H p ys∨SqT X.K H p ys)∧Q (.int ys.length) H):=by
  intro pins s σ H xs us Q I r h
  obtain ⟨p,ys,rfl,hq,q⟩:=h
  obtain ⟨u,rfl,rx⟩:=vals1 r
  cases rx
  have hn:=line63
  rcases hq with hq | hq
  · obtain ⟨its,r',pl,hz⟩:=I.list hq
    have hlen:=r'.length
    exact Calls.call_len_list pl.isList (by simp only [List.size_toArray] <;> omega) ⟨.int ys.length,H,I.tok _,⟨s.toks + 1,by rw [List.size_toArray,hlen]⟩,q⟩
  · obtain ⟨its,r',pl,hz⟩:=I.tuple hq
    have hlen:=r'.length
    exact len_tuple pl (by simp only [List.size_toArray] <;> omega) ⟨.int ys.length,H,I.tok _,⟨s.toks + 1,by rw [List.size_toArray,hlen]⟩,q⟩
theorem call_tuple_of:CallR X (.type "tuple") (fun xs H Q=>∃ p ys,xs=[.ref p]∧((SqL X.K H p ys∧∀ l,H l=none→Q (.ref l) (upd H l (.tup ys)))∨(SqT X.K H p ys∧Q (.ref p) H))):=by
  intro pins s σ H xs us Q I r h
  obtain ⟨p,ys,rfl,h⟩:=h
  obtain ⟨u,rfl,rx⟩:=vals1 r
  cases rx
  rcases h with ⟨hq,q⟩ | ⟨hq,q⟩
  · obtain ⟨its,r',pl,hz⟩:=I.list hq
    have hlen:=r'.length
    refine call_tuple_list pl.isList (fun h' kp=>?_) (by simp only [List.size_toArray] <;> omega)
    have I1:Inv X pins σ H { s with heap:=h' }:=I.kept (t':=s.toks) kp
    have I2:Inv X pins σ (upd H h'.objs.size (.tup ys)) { s with heap:=h'.push { cls:=.type "tuple",data:=.seq its.toArray } } :=
      I1.laid (t':=s.toks) (fun b o e=>Heap.get?_push_of_some _ e) (Nat.le_refl _) (show ObjOk X.prog X.w _ _ _ (.tup ys) from ⟨hz,its,r',IsTup.new _ _⟩)
    exact ⟨.ref h'.objs.size,_,I2,rfl,q _ (I1.hok.fresh (Nat.le_refl _))⟩
  · obtain ⟨its,r',pl,hz⟩:=I.tuple hq
    exact call_tuple_same pl ⟨.ref p,H,I,rfl,q⟩
def tyV (K:PySem.W.Frag) (T:String) (x:V) (H:Hp):Prop:=match x with
  | .str _=>T="str"
  | .int _=>T="int"
  | .ref p=>(T="list"∧∃ xs,SqL K H p xs)∨(T="tuple"∧∃ o,K.lookup p=some o∧o.cls=.type "tuple"∧o.dict=none) ∨
      (T="dict"∧((∃ kvs,H p=some (.dK kvs))∨∃ kvs,H p=some (.dT kvs)))∨(T="set"∧∃ S n,H p=some (.set S n))
  | _=>False
theorem tyV_is {pins:List (Addr × Obj)} {σ:St} {H:Hp} {s:Shared} {T:String} {x:V} {v:Value} (I:Inv X pins σ H s) (r:RelV x v) (ty:tyV X.K T x H) :
    s.TypeIs v T∧∀ a,v=.ref a→∃ ob,s.heap.get? a=some ob∧ob.dict=none:=by
  cases x with
  | str z =>
    obtain ⟨t,rfl⟩:=r
    cases (show T="str" from ty)
    exact ⟨typeIs_str s z t,fun _ e=>nomatch e⟩
  | int i =>
    obtain ⟨t,rfl⟩:=r
    cases (show T="int" from ty)
    exact ⟨typeIs_int s i t,fun _ e=>nomatch e⟩
  | ref p =>
    cases r
    rcases ty with ⟨rfl,xs,hq⟩ | ⟨rfl,o,hk,hc,hd⟩ | ⟨rfl,hk⟩ | ⟨rfl,S,n,hk⟩
    · obtain ⟨its,_,pl,_⟩:=I.list hq
      refine ⟨pl.isList.typeIs,fun a e=>?_⟩
      cases e
      obtain ⟨o,n,e,c,hd,_⟩:=pl
      exact ⟨o,e,hd⟩
    · refine ⟨⟨o,I.kIn p o hk,hc⟩,fun a e=>?_⟩
      cases e
      exact ⟨o,I.kIn _ o hk,hd⟩
    · have z:∃ o,s.heap.get? p=some o∧o.ExactDict:=by
        rcases hk with ⟨kvs,hk⟩ | ⟨kvs,hk⟩
        · obtain ⟨_,_,_,_,o,_,_,e,ex,_⟩:=I.hok p _ hk
          exact ⟨o,e,ex⟩
        · obtain ⟨_,_,_,_,o,_,_,e,ex,_⟩:=I.hok p _ hk
          exact ⟨o,e,ex⟩
      obtain ⟨o,e,ex⟩:=z
      refine ⟨⟨o,e,ex.1⟩,fun a e2=>?_⟩
      cases e2
      exact ⟨o,e,ex.2.1⟩
    · obtain ⟨o,_,_,_,e,ex,_⟩:=I.hok p _ hk
      refine ⟨⟨o,e,ex.1⟩,fun a e2=>?_⟩
      cases e2
      exact ⟨o,e,ex.2.1⟩
  | _=>exact False.elim ty
def tBM (K:PySem.W.Frag) (T:String) (r:V→List V→Hp→VK→Prop) (to:TE) (t:TA):TE:=fun σ H Q=>to σ H fun x H1=>tyV K T x H1∧t σ H1 fun xs H2=>r x xs H2 Q
variable {o e:Expr} {es:List Expr} {to:TE} {t:TA} {name:Str} {apos cpos:Pos} {T id:String} {r:V→List V→Hp→VK→Prop}
theorem pe_bm (pa:PlainAttrs T) (slot:Slot T name id) (hty:typeOf (.builtin id)=pure (.type "method_descriptor")) (hm:MtR X id r) (ho:PE X o to) (ha:PA X (e::es) t)
    (hbase:attributeBase o name X.env (eval o X.env)=eval o X.env:=by rfl)
    (hfew:((backTo cpos (starEach (e::es) X.env)).all (fun x=>!x.1) && (backToKw cpos (keywordEach [] X.env)).all (fun x=>x.1.isSome)
      && decide ((e::es).length + ([]:List Keyword).length + (if ([]:List Keyword).isEmpty then 0 else 1) < 30))=true:=by rfl)
    (hline:(apos.endLine == cpos.line)=true:=by rfl) (hs:starEach (e::es) X.env=(false,eval e X.env)::starEach es X.env:=by rfl) (hplain:(backTo cpos (starEach es X.env)).any (·.1)=false:=by rfl) :
    PE X (.Call (.Attribute o name apos) (e::es) [] cpos) (tBM X.K T r to t):=by
  refine ⟨?_⟩
  intro pins s σ H Q I h
  refine wpAny_Call_method_late hbase hfew hline rfl (thn (ho pins s σ H _ I h) fun v s1 ⟨x,H1,I1,r1,ty,q1⟩=>?_)
  obtain ⟨h1,h2⟩:=tyV_is I1 r1 ty
  refine ⟨T,id,pa,slot,hty,h1,h2,?_⟩
  have hA:=ha cpos pins s1 σ H1 _ I1 q1
  rw [hs] at hA ⊢
  refine Calls.callWith_builtin (by show (false || (backTo cpos (starEach es X.env)).any (·.1))=false; rw [hplain] <;> rfl) (Calls.evalArgs_plain ?_)
  exact thn hA fun us s2 ⟨vs,H2,I2,r2,q2⟩=>hm pins s2 σ H2 x vs v us Q I2 r1 r2 q2
end
end L2
namespace L2
open PySem PySem.Spec PyProof.Rows
def MtM (X:Cx) (id:String) (r:V→List V→Hp→VK→Prop):Prop :=
  ∀ (pins:List (Addr × Obj)) (s:Shared) (σ:St) (H:Hp) (x:V) (xs:List V) (v:Value) (us:List Value) (Q:VK),Inv X pins σ H s→RelV x v→Vals xs us→r x xs H Q →
    wpAny (model X.prog X.w) X.A (call (.builtin id) (v::us)) (EP X pins σ Q) X.xe s
theorem Vals.one:∀ {x:V} {us:List Value},Vals [x] us→∃ u,us=[u]∧RelV x u
  | _,_,.cons r .nil=>⟨_,rfl,r⟩
theorem Vals.two:∀ {x y:V} {us:List Value},Vals [x,y] us→∃ u v,us=[u,v]∧RelV x u∧RelV y v
  | _,_,_,.cons r (.cons q .nil)=>⟨_,_,rfl,r,q⟩
section
variable {X:Cx} {pins:List (Addr × Obj)} {σ:St} {H:Hp} {s:Shared} {l b:Addr} {xs ys zs:List V}
theorem Inv.lset {its its':List Value} {n:Nat} {f:Array Value→Array Value} {t':Nat} (I:Inv X pins σ H s) (hH:H l=some (.lst xs))
    (e:s.heap.get? l=some { cls:=.type "list",data:=.seq its.toArray n }) (hf:f its.toArray=its'.toArray) (hv:Vals ys its') (hz:ys.length≤sizeLine) :
    Inv X pins σ (upd H l (.lst ys)) { s with heap:=s.heap.update l (Obj.mapSeq f),toks:=t' }:=by
  have q:=PySem.IsL.update e f
  rw [hf] at q
  refine I.write (x:=l) (e:=l) (by rw [hH]; exact trivial) (.inl rfl) (fun b' u hb hu=>(Heap.get?_update_other s.heap (Obj.mapSeq f) (Ne.symm hb)).trans hu) ⟨_,q⟩ ?_
  exact ⟨hz,its',_,hv,q⟩
theorem Inv.lnew {its:List Value} {t':Nat} (I:Inv X pins σ H s) (hv:Vals ys its) (hz:ys.length≤sizeLine) :
    Inv X pins σ (upd H s.heap.objs.size (.lst ys)) { s with heap:=s.heap.push { cls:=.type "list",data:=.seq its.toArray },toks:=t' } :=
  I.laid (fun _ _ q=>Heap.get?_push_of_some _ q) (Nat.le_refl _) ⟨hz,its,0,hv,Heap.get?_push_size _ rfl⟩
theorem Inv.fresh (I:Inv X pins σ H s):H s.heap.objs.size=none:=I.hok.fresh (Nat.le_refl _)
theorem Inv.lstM (I:Inv X pins σ H s) (hH:H l=some (.lst xs)):xs.length≤sizeLine∧∃ (its:List Value) (n:Nat),Vals xs its∧xs.length=its.length∧s.heap.get? l=some { cls:=.type "list",data:=.seq its.toArray n }:=by
  obtain ⟨z,its,n,r,e⟩:=I.hok l _ hH
  exact ⟨z,its,n,r,r.length,e⟩
end
section
variable {X:Cx}
def rAppend:V→List V→Hp→VK→Prop:=fun x vs H Q=>∃ l xs y,x=.ref l∧vs=[y]∧H l=some (.lst xs)∧xs.length < sizeLine∧Q .non (upd H l (.lst (xs++[y])))
theorem mt_append:MtM X "list.append" rAppend:=by
  intro pins s σ H x vs v us Q I rx rv h
  obtain ⟨l,xs,y,rfl,rfl,hH,hz,q⟩:=h
  cases rx
  obtain ⟨u,rfl,ru⟩:=rv.one
  obtain ⟨z,its,n,r,hl,e⟩:=I.lstM hH
  refine call_meets F.slot_list_append ⟨_,e,rfl⟩ F.entry_list_append (F.args_list_append_2 _ _) (PySem.list_append l its.toArray n u (by rw [List.size_toArray]; omega)) ⟨e,?_⟩
  refine ⟨.non,_,I.lset (its':=its++[u]) hH e (by simp) (r.append (.cons ru .nil)) ?_,rfl,q⟩
  rw [List.length_append,List.length_singleton]
  omega
def rCat:R2:=fun x y H Q=>∃ l b xs zs,x=.ref l∧y=.ref b∧H l=some (.lst xs)∧H b=some (.lst zs)∧xs.length + zs.length≤sizeLine∧∀ p,H p=none→Q (.ref p) (upd H p (.lst (xs++zs)))
theorem op_cat:OpR X (binaryOp .Add) rCat:=by
  intro pins s σ H x y v u Q I rx ry h
  obtain ⟨l,b,xs,zs,rfl,rfl,hH,hB,hz,q⟩:=h
  cases rx
  cases ry
  obtain ⟨z,its,n,r,hl,e⟩:=I.lstM hH
  obtain ⟨z2,its2,n2,r2,hl2,e2⟩:=I.lstM hB
  refine PySem.P.add_list e e2 ?_ (by rw [List.size_toArray,List.size_toArray]; omega)
  have ea:its.toArray++its2.toArray=(its++its2).toArray:=by simp
  rw [ea]
  exact ⟨.ref _,_,I.lnew (t':=s.toks) (r.append r2) (by rw [List.length_append]; omega),rfl,q _ I.fresh⟩
end
section
variable {prog:Program} {w:World} {A:Around} {E:Value→Shared→Prop} {s:Shared}
end
section
variable {X:Cx}
end
end L2
namespace Att
open PySem PySem.W PySem.Calls PyProof.Rows
theorem ints_of_wellAll {P:Params} {h:Heap}:∀ (ns:List Int) (vs:List Value),WellAll P h vs (ns.map WData.int)→IntsAre vs ns:=by
  intro ns
  induction ns with
  | nil =>
    intro vs w
    rw [List.map_nil] at w
    cases w
    exact .nil
  | cons n ns ih =>
    intro vs w
    rw [List.map_cons] at w
    cases w with
    | cons a b =>
      cases a
      exact .cons _ _ (ih _ b)
theorem script_of {l:OpenLaw} {n:Nat} (hn:l.most=some n) {P:Params} {h:Heap} {args:List WData} {vals:List Value}
    (hpre:l.row.toRowW.claim.pre args=true) (hwl:WellAll P h vals args) :
    ∃ a vs ns,vals=[Value.ref a]∧args=[WData.list (ns.map WData.int)]∧h.get? a=some { cls:=.type "list",data:=.seq vs.toArray }∧IntsAre vs ns∧ns.length≤n:=by
  have hsh:WShape.hasAll [] args [.list .int]=true:=(pre_splitW hpre).1
  have hc:l.pre.holds [] { args:=args }=true:=(pre_splitW hpre).2
  obtain ⟨d,r,rfl,h1,h2⟩:=hasAllW_cons hsh
  obtain rfl:=hasAllW_nil h2
  obtain ⟨xs,rfl,h3⟩:=hasW_list h1
  obtain ⟨ns,rfl⟩:=items_int h3
  have hlen:ns.length≤n:=by
    unfold OpenLaw.pre at hc
    have h4:(WTm.not (.lt (.lit (.int (n:Int))) (.len (.arg 0)))).holds [] { args:=[.list (ns.map .int)] }=true:=by
      have h4:=(holds_andW hc).1
      rw [hn] at h4
      exact h4
    have h5:=condW_of h4 (w_not (w_lt w_lit (w_len_list (w_arg rfl))))
    rw [List.length_map] at h5
    refine Nat.le_of_not_lt fun q=>?_
    have q':(n:Int) < ((ns.length:Nat):Int):=by omega
    first
      | (rw [decide_eq_true q'] at h5; exact absurd h5 (by decide))
      | (simp at h5; omega)
  cases hwl with
  | cons w1 w2 =>
    cases w2
    cases w1 with
    | list ho hall=>exact ⟨_,_,ns,rfl,rfl,ho,ints_of_wellAll ns _ hall,hlen⟩
theorem post_true (l:OpenLaw) (args:List WData):l.row.toRowW.claim.post args (.bool true) args=true :=
  postW_of (r:=l.row.toRowW) (X:=(true == true))
    (show WShape.has [] (.bool true) .bool=true by first | rfl | decide | simp [WShape.has,WShape.arms,WShape.armsAll])
    (show (WTm.eq .res (.lit (.bool true))).value [] { args:=args,res:=some (.bool true),after:=args }=some (.bool (true == true)) from w_eq_bool (w_res rfl) w_lit) rfl
theorem attach_call {l:OpenLaw} {n:Nat} {q:Program} {loose:List Str} {XP:(Str→Option Value)→Heap→Prop} {YP:World→Heap→Prop} {d:DefRec}
    (hn:l.most=some n) (hdf:d.params.defaults=[])
    (call:∀ (w:World) (s₀ s₁:Shared) (mg mb:Str→Option Value) (fa:Addr) (o:Obj) (pm cd doc:Value) (a:Addr) (vs:List Value) (ns:List Int),
      Ground q loose [] XP w s₀ mg mb s₁.heap→YP w s₁.heap →
      s₁.heap.get? fa=some o→o.data=.func (docDef d.name d.params d.body d.scope pm cd doc)→s₁.heap.CodeRec cd d.name→mg d.name=some (.ref fa) →
      s₁.heap.get? a=some { cls:=.type "list",data:=.seq vs.toArray }→IntsAre vs ns→ns.length≤n→s₁.gens=#[] →
      codeAny (model l.prog w) callerA (.call (.ref fa) ⟨[.ref a],[]⟩) (fun r s'=>r=.ok (.ret (.bool true))∧OldK s₁.heap s'.heap∧s'.os=s₁.os∧AllBare s'.gens) s₁) :
    WalkO q loose XP YP l.row.toRowW d [] (fun f vs=>PySem.call f vs):=by
  intro w s₀ s₁ mg mb G Y fa o pm cd doc dV kV ho hd hcd hD hmg hg args vals as hpre hlay hrd hwl hlo
  obtain rfl:dV=.none:=Dflts.none hD hdf
  obtain rfl:kV=.none:=Dflts.noKw hD
  obtain ⟨a,vs,ns,rfl,rfl,hobj,hints,hlen⟩:=script_of hn hpre hwl
  refine enter_call (codeAny_mono (call w s₀ s₁ mg mb fa o pm cd doc a vs ns G Y ho (fd_plain hd) hcd hmg hobj hints hlen hg) fun r s' hq=>?_)
  obtain ⟨rfl,h2,h3,h4⟩:=hq
  exact ⟨.inl ⟨.bool true,.bool true,[],rfl,fun _=>rfl,.bool true,post_true l _,fun _=>⟨List.Pairwise.nil,fun _ hm=>(nomatch hm)⟩⟩,h2,h3,h4⟩
section
variable {prog:Program} {w:World} {A:Around} {E:Value→Shared→Prop} {s:Shared} {K:Frag}
end
end Att
namespace L2
open PySem PySem.Spec PyProof.Rows
theorem vals_ints:∀ {vs:List Value} {ns:List Int},IntsAre vs ns→Vals (ns.map V.int) vs
  | _,_,.nil=>.nil
  | _,_,.cons n t h=>.cons ⟨t,rfl⟩ (vals_ints h)
def Only (H:Hp):Prop:=∀ b,H b=none∨∃ o xs,H b=some (.frz o (.lst xs))
theorem law_call {P:Program} {w:World} {K:PySem.W.Frag} {mg mb:Str→Option Value} {CX:CXT} {k:Nat} {fa a:Addr} {fd:FuncData} {x:Str} {sp:Sp} {s₁:Shared} {vs:List Value} {ns:List Int}
    (KX:K.In s₁.heap) (hns:s₁.heap.Ns mainGlobals mg) (hb:s₁.heap.Ns builtinsNs mb) (hbb:∀ x:Str,x≠"__name__"→mb x=bootBuiltins x) (hlim:s₁.heap.NoLimit) (hg:s₁.gens=#[])
    (ha:s₁.heap.get? a=some { cls:=.type "list",data:=.seq vs.toArray }) (hi:IntsAre vs ns) (hl:ns.length≤sizeLine) (hr:Room k callerA)
    (F:∀ base:Heap,K.In base→base.Ns mainGlobals mg→FnOk P w K mg base CX k fa fd [x] sp) (hbind:∀ (s:Shared) (u:Value),BindsTo s fd ⟨[u],[]⟩ [(x,u)])
    (hsp:∀ H:Hp,Only H→SqL K H a (ns.map V.int)→sp [.ref a] H (fun v _=>v=.bl true) fun _ _ _=>False)
    (hCX:∀ H e s',CX [] H s₁ (fun _ _ _=>False) e s'→False) :
    codeAny (model P w) callerA (.call (.ref fa) ⟨[.ref a],[]⟩) (fun r s'=>r=.ok (.ret (.bool true))∧OldK s₁.heap s'.heap∧s'.os=s₁.os∧AllBare s'.gens) s₁:=by
  have rv:=vals_ints hi
  have lenV:=hi.length
  have core:∀ H:Hp,Only H→SqL K H a (ns.map V.int)→HOk P w H s₁.heap→(∀ b,H b≠none→b=a)→(H a≠none→K.lookup a=none) →
      codeAny (model P w) callerA (.call (.ref fa) ⟨[.ref a],[]⟩) (fun r s'=>r=.ok (.ret (.bool true))∧OldK s₁.heap s'.heap∧s'.os=s₁.os∧AllBare s'.gens) s₁:=by
    intro H hO hS hok hA hK
    have base_of:∀ {b:Addr} {o:Obj},s₁.heap.get? b=some o→H b=none→(hidT s₁.heap H).get? b=some o:=fun e n=>hidT_get e n
    have noA:∀ {b:Addr} {o:Obj} {es:Array DictEntry} {ep:Nat},s₁.heap.get? b=some o→o.data=.dict es ep→H b=none:=fun {b o es ep} e d=>by
      cases q:H b with
      | none=>rfl
      | some u =>
        have e':b=a:=hA b (by rw [q]; simp)
        subst e'
        rw [ha] at e; cases e
        have d':Data.seq vs.toArray _=Data.dict es ep:=d
        cases d'
    have nsK:∀ {b:Addr} {m:Str→Option Value},s₁.heap.Ns b m→(hidT s₁.heap H).Ns b m:=fun {b m} ⟨o,es,ep,e,d,r⟩=>⟨o,es,ep,base_of e (noA e d),d,r⟩
    have hKb:K.In (hidT s₁.heap H):=fun b o e=>base_of (KX b o e) (by
      cases q:H b with
      | none=>rfl
      | some u =>
        have e':b=a:=hA b (by rw [q]; simp)
        subst e'
        rw [hK (by rw [q]; simp)] at e; cases e)
    have hM:Mod K mg (hidT s₁.heap H):=⟨hKb,nsK hns,⟨mb,nsK hb,hbb⟩,let ⟨mc,h1,h2⟩:=hlim; ⟨mc,nsK h1,h2⟩⟩
    have e0:Env0 P w K mg (hidT s₁.heap H) callerA [] s₁ H:=⟨rfl,hM,fun b o e=>of_hidT e,Nat.le_of_eq (hidT_size _ _),trivial,fun b hb=>absurd (show b ∈ ([]:List Addr) from hb) (by simp),hok,.of_eq hg⟩
    refine codeAny_mono ((F _ hKb (nsK hns)).run callerA [] s₁ H ⟨[.ref a],[]⟩ [.ref a] [.ref a] _ _ hr e0 (hbind s₁ (.ref a)) (.cons rfl .nil) (hsp H hO hS)) fun r s' h=>?_
    cases r with
    | error e=>exact (hCX H e s' h).elim
    | ok fl =>
      cases fl with
      | next=>exact False.elim h
      | brk=>exact False.elim h
      | cont=>exact False.elim h
      | ret u =>
        obtain ⟨v,H',os,bare,un,hok',r',q⟩:=h
        have q':v=.bl true:=q
        subst q'
        obtain rfl:u=Value.bool true:=r'
        refine ⟨rfl,OldK.of_keep fun b o e=>?_,os,bare⟩
        cases q:H b with
        | none=>exact un.keep b o e q (by intro z; exact absurd (show b ∈ ([]:List Addr) from z) (by simp)) (by simp)
        | some u =>
          rcases hO b with z | ⟨ob,xs,z⟩
          · rw [q] at z; cases z
          · have z2:=un.frzs b ob _ z
            obtain ⟨e1,_⟩:=hok b _ z
            obtain ⟨e2,_⟩:=hok' b _ z2
            rw [e] at e1; cases e1
            exact e2
  cases hk:K.lookup a with
  | some o =>
    have e:=KX a o hk
    rw [ha] at e
    cases e
    refine core (fun _=>none) (fun _=>.inl rfl) (.inr ⟨_,vs.toArray,_,hk,rfl,rfl,rfl,by rw [List.size_toArray,lenV]; exact hl,by simpa using rv⟩) (fun b u z=>by have z':(none:Option HO)=some u:=z; cases z') (fun b z=>absurd rfl z) fun z=>absurd rfl z
  | none =>
    refine core (fun b=>if b=a then some (.frz { cls:=.type "list",data:=.seq vs.toArray } (.lst (ns.map V.int))) else none) (fun b=>?_) (.inl (.inr ⟨{ cls:=.type "list",data:=.seq vs.toArray },if_pos rfl⟩)) (fun b u z=>?_) (fun b z=>?_) fun _=>hk
    · by_cases hb:b=a
      · exact .inr ⟨_,_,if_pos hb⟩
      · exact .inl (if_neg hb)
    · by_cases hb:b=a
      · have z':=(if_pos hb).symm.trans z
        cases z'
        subst hb
        exact ⟨ha,by rw [List.length_map]; exact hl,vs,_,rv,ha⟩
      · have z':=(if_neg hb).symm.trans z
        cases z'
    · by_cases hb:b=a
      · exact hb
      · exact absurd (if_neg hb) z
end L2
namespace L2
open PySem PySem.Spec PyProof.Rows
abbrev KOf {K:PySem.W.Frag} {h:Heap} (_:K.In h):PySem.W.Frag:=K
theorem walk_of {l:PySem.W.OpenLaw} {n k:Nat} {q:Program} {loose:List Str} {XP:(Str→Option Value)→Heap→Prop} {YP:World→Heap→Prop} {d:DefRec} {K:Params→PySem.W.Frag} {CX:World→CXT} {sp:World→Sp} {x:Str}
    (hn:l.most=some n) (hn2:n≤sizeLine) (hdf:d.params.defaults=[]) (hr:Room k callerA)
    (hY:∀ (w:World) (h:Heap),YP w h→(K w.params).In h)
    (F:∀ (w:World) (mg:Str→Option Value) (fa:Addr) (h:Heap),(K w.params).In h→h.Ns mainGlobals mg→mg d.name=some (.ref fa) →
      ∃ fd:FuncData,(∀ (s:Shared) (u:Value),BindsTo s fd ⟨[u],[]⟩ [(x,u)]) ∧
        ∀ base:Heap,(K w.params).In base→base.Ns mainGlobals mg→FnOk l.prog w (K w.params) mg base (CX w) k fa fd [x] (sp w))
    (hsp:∀ (w:World) (H:Hp) (a:Addr) (ns:List Int),ns.length≤n→Only H→SqL (K w.params) H a (ns.map V.int)→sp w [.ref a] H (fun v _=>v=.bl true) fun _ _ _=>False)
    (hCX:∀ (w:World) (H:Hp) (s:Shared) (e:Value) (s':Shared),CX w [] H s (fun _ _ _=>False) e s'→False) :
    PySem.W.WalkO q loose XP YP l.row.toRowW d [] (fun f vs=>PySem.call f vs):=by
  refine Att.attach_call hn hdf fun w s₀ s₁ mg mb fa o pm cd doc a vs ns G Y ho hd hcd hmg hobj hints hlen hg=>?_
  have KX:=hY w _ Y
  obtain ⟨fd,hb,hF⟩:=F w mg fa _ KX G.T.g hmg
  exact law_call KX G.T.g G.T.b G.T.builtins G.T.nolimit hg hobj hints (Nat.le_trans hlen hn2) hr hF hb (fun H hO hS=>hsp w H a ns hlen hO hS) fun H e s'=>hCX w H s₁ e s'
end L2
namespace L2
open PySem PySem.Spec PyProof.Rows
def inClass (s:Stmt) (j:Nat):Stmt:=match s with
  | .ClassDef _ _ _ body _ _ _ _ _ _ _=>body.getD j (.Pass ⟨0,0,0,0⟩)
  | _=>.Pass ⟨0,0,0,0⟩
def defArgs (s:Stmt):Arguments:=match s with
  | .FunctionDef _ a _ _ _ _ _ _ _ _=>a
  | _=>{ posonlyargs:=[],args:=[],vararg:=none,kwonlyargs:=[],kw_defaults:=[],kwarg:=none,defaults:=[] }
def defBody (s:Stmt):List Stmt:=match s with
  | .FunctionDef _ _ b _ _ _ _ _ _ _=>b
  | _=>[]
def defScope (s:Stmt):Scope:=match s with
  | .FunctionDef _ _ _ _ _ _ sc _ _ _=>sc
  | _=>{ kind:=.function,names:=[],isGenerator:=false,isCoroutine:=false }
abbrev CX0:CXT:=fun _ _ _ _ _ _=>False
abbrev E0:XK:=fun _ _ _=>False
theorem pass0 {X:Cx}:Passes CX0 X E0:=fun _ _ _ _ _ _ _ h=>h.elim
structure Fun (K:PySem.W.Frag) (x qual:Str) (st:Stmt) (f:Addr) (fd:FuncData):Prop where
  ex:∃ (oc:Value) (od:Option Addr) (kV doc pm:Value) (an:Option Addr) (cdv ct:Value) (osl:Array (Option Value)),
    fd=PySem.W.fnOf x qual (defArgs st) (defBody st) (defScope st) .none kV doc pm an cdv ct∧K.lookup f=some ⟨oc,od,.func fd,osl⟩∧PySem.W.codeIn K cdv qual=true
  kp:PySem.W.keepIn K (.ref f)=true
section
variable {P:Program} {w:World} {K:PySem.W.Frag} {mg:Str→Option Value} {base:Heap}
theorem Fun.ok {x qual:Str} {st:Stmt} {f:Addr} {fd:FuncData} {N ps:List Str} {k:Nat} {sp:Sp} (F:Fun K x qual st f fd) (S:FnScope N ps (defScope st)) (len:∀ vs H Q E,sp vs H Q E→vs.length=ps.length)
    (hbody:∀ (cdv:Value) (A:Around) (outer:List Env) (s:Shared) (H:Hp) (vs:List V) (Q:VK) (E:XK),Room k (A.deeper (envOfC qual (defScope st) s.heap.objs.size f cdv))→sp vs H Q E →
      ∃ t,PSs (cxOf CX0 P w K mg base N qual (defScope st) f cdv A outer s H E).nox (defBody st) t∧t { nx:=fun _ H'=>Q .non H',rt:=Q } (start N vs) H):FnOk P w K mg base CX0 (k + 1) f fd ps sp:=by
  obtain ⟨oc,od,kV,doc,pm,an,cdv,ct,osl,rfl,lk,hcd⟩:=F.ex
  refine fn_of lk hcd S len fun A outer s H vs Q E hr hsp=>?_
  obtain ⟨t,h,q⟩:=hbody cdv A outer s H vs Q E hr hsp
  exact ⟨t,h.nox,q⟩
theorem Fun.binds {x qual:Str} {st:Stmt} {f:Addr} {fd:FuncData} {ps:List Str} (F:Fun K x qual st f fd)
    (h:∀ (kV doc pm:Value) (an:Option Addr) (cdv ct:Value) (us:List Value),us.length=ps.length→bindArgs (PySem.W.fnOf x qual (defArgs st) (defBody st) (defScope st) .none kV doc pm an cdv ct) ⟨us,[]⟩=pure (ps.zip us)):Binds K fd ps []:=by
  obtain ⟨oc,od,kV,doc,pm,an,cdv,ct,osl,rfl,lk,hcd⟩:=F.ex
  exact .all (h kV doc pm an cdv ct)
theorem fun_mk {x qual:Str} {st:Stmt} {f:Addr} {oc:Value} {od an:Option Addr} {osl:Array (Option Value)} {kV doc pm cdv ct:Value} (l:K.lookup f=some ⟨oc,od,.func (PySem.W.fnOf x qual (defArgs st) (defBody st) (defScope st) .none kV doc pm an cdv ct),osl⟩)
    (c:PySem.W.codeIn K cdv qual=true) (k:PySem.W.keepIn K (.ref f)=true):Fun K x qual st f (PySem.W.fnOf x qual (defArgs st) (defBody st) (defScope st) .none kV doc pm an cdv ct):=⟨⟨oc,od,kV,doc,pm,an,cdv,ct,osl,rfl,l,c⟩,k⟩
end
theorem small1000 {n:Nat} (h:n≤1000):n < sizeLine:=Nat.lt_of_le_of_lt h (by decide)
section
variable {X:Cx}
theorem pv (i:Nat) {x:Str} {pos:Pos} (hN:X.N[i]?=some x:=by rfl) (hv:Vis X.env.scope x:=by first | exact Or.inl rfl | exact Or.inr (Or.inl rfl) | exact Or.inr (Or.inr rfl)) (hd:(x == ("__debug__" : Str))=false:=by decide)
    (hcd:(x == ("__classdict__" : Str))=false:=by decide):PE X (.Name x pos) (tVar i):=pe_var hN hv hd hcd
end
theorem iteF {A B:Prop} (h:B):if false=true then A else B:=by
  rw [if_neg Bool.false_ne_true]
  exact h
theorem iteT {A B:Prop} (h:A):if true=true then A else B:=by
  rw [if_pos rfl]
  exact h
theorem ite2 {c A B:Prop} [Decidable c] (h1:c→A) (h2:¬ c→B):if c then A else B:=by
  by_cases h:c
  · rw [if_pos h]
    exact h1 h
  · rw [if_neg h]
    exact h2 h
def Same (H H':Hp):Prop:=∀ b o,H b=some o→H' b=some o
theorem Same.refl (H:Hp):Same H H:=fun _ _ h=>h
theorem Same.trans {H H1 H2:Hp} (a:Same H H1) (b:Same H1 H2):Same H H2:=fun c o h=>b c o (a c o h)
theorem Same.free {H H':Hp} (e:Same H H') {l:Addr} (h:H' l=Option.none):H l=Option.none:=by
  cases q:H l with
  | none=>rfl
  | some o =>
    rw [e l o q] at h
    cases h
theorem Same.seq {K:PySem.W.Frag} {H H':Hp} {a:Addr} {xs:List V} (e:Same H H') (h:SqL K H a xs):SqL K H' a xs:=by
  rcases h with (h | ⟨o,h⟩) | h
  · exact .inl (.inl (e _ _ h))
  · exact .inl (.inr ⟨o,e _ _ h⟩)
  · exact .inr h
end L2
namespace L2
open PySem PySem.Spec PyProof.Rows
theorem noPylong_big {x y:Int} (h:y.natAbs < 2 ^ 300):Builtin.divisionGoesByPylong x y=false:=by
  refine PyProof.noPylong_of_log2 ?_
  by_cases h0:y.natAbs=0
  · rw [h0]; decide +kernel
  · have h30:y.natAbs.log2 < 300:=(Nat.log2_lt h0).mpr h
    omega
def CDivB (_i j:Int):Prop:=0 < j∧j < 2 ^ 300
section
variable {X:Cx} {a b:Expr} {ta tb:TE} {pos:Pos}
theorem op_fdivB:OpR X (binaryOp .FloorDiv) (rI CDivB fun i j=>.int (i / j)):=opI fun i j _ _ _ _ _ hc q=>by
  obtain ⟨h1,h2⟩:=hc
  refine floordiv_int (by omega) ?_ (.inl (noPylong_big (by omega)))
  rw [Int.fdiv_eq_ediv_of_nonneg i (by omega)]
  exact q
inductive cDm (xs:List V) (H:Hp) (Q:VK):Prop
  | mk (i j:Int) (e:xs=[.int i,.int j]) (c:CDivB i j) (q:∀ p,H p=none→Q (.ref p) (upd H p (.tup [.int (i / j),.int (i % j)]))):cDm xs H Q
theorem call_divmodB:CallR X (.builtin "divmod") cDm:=by
  intro pins s σ H xs us Q I r h
  obtain ⟨i,j,rfl,⟨h1,h2⟩,q⟩:=h
  obtain ⟨u,w',rfl,⟨t,rfl⟩,⟨t',rfl⟩⟩:=vals2 r
  refine divmod_int (by omega) ?_ (.inl (noPylong_big (by omega)))
  rw [Int.fdiv_eq_ediv_of_nonneg i (by omega),Int.fmod_eq_emod_of_nonneg i (by omega)]
  have hn:H s.heap.objs.size=none:=I.hok.fresh (Nat.le_refl _)
  refine ⟨.ref s.heap.objs.size,_,?_,rfl,q _ hn⟩
  refine I.laid (fun b o e=>Heap.get?_push_of_some _ e) (Nat.le_refl _) ⟨by simp only [List.length_cons,List.length_nil]; rw [sizeLine_eq]; decide,[.int (i / j) s.toks,.int (i % j) (s.toks + 1)],.cons ⟨_,rfl⟩ (.cons ⟨_,rfl⟩ .nil),?_⟩
  exact ⟨_,Heap.get?_push_size s.heap rfl,rfl,0,rfl⟩
theorem preSum_take (ns:List Int):∀ k,preSum (fun i=>ns.getD i 0) k=(ns.take k).sum:=by
  intro k
  induction k with
  | zero=>rfl
  | succ k ih =>
    show preSum (fun i=>ns.getD i 0) k + ns.getD k 0=_
    rw [ih,List.take_add_one,List.sum_append_int]
    cases e:ns[k]? with
    | none=>simp [List.getD_eq_getElem?_getD,e]
    | some v=>simp [List.getD_eq_getElem?_getD,e]
theorem ints_at {ns:List Int} {its:List Value} (rv:Vals (ns.map V.int) its) {i:Nat} {v:Value} (e:its[i]?=some v):∃ t,v=.int (ns.getD i 0) t:=by
  have hl:=rv.length
  rw [List.length_map] at hl
  have hi:i < its.length:=(List.getElem?_eq_some_iff.mp e).1
  have hn:ns[i]?=some (ns[i]'(by omega)):=List.getElem?_eq_getElem (by omega)
  obtain ⟨u,hu,ru⟩:=rv.get (i:=i) (x:=V.int (ns[i]'(by omega))) (by rw [List.getElem?_map,hn]; rfl)
  rw [e] at hu
  cases hu
  obtain ⟨t,rfl⟩:=ru
  exact ⟨t,by rw [List.getD_eq_getElem?_getD,hn]; rfl⟩
theorem call_sum_seq (hc:X.calm=true):CallR X (.builtin "sum") (fun xs H Q=>∃ (p:Addr) (ns:List Int),xs=[.ref p]∧(SqL X.K H p (ns.map V.int)∨SqT X.K H p (ns.map V.int))∧Q (.int ns.sum) H):=by
  intro pins s σ H xs us Q I r h
  obtain ⟨p,ns,rfl,hq,q⟩:=h
  obtain ⟨u,rfl,rx⟩:=vals1 r
  cases rx
  have hh:X.A.in1.handled=none:=I.ok.hd hc
  have fin:∀ (its:List Value) (h':Heap) (o:Obj) (tk:Nat) (t':Tok),Vals (ns.map V.int) its→(∀ b ob,b ∉ [s.heap.objs.size]→(s.heap.push o).get? b=some ob→h'.get? b=some ob)→EP X pins σ Q (.int (preSum (fun i=>ns.getD i 0) its.toArray.size) t') { s with heap:=h',toks:=tk }:=fun its h' o tk t' rv k=>by
    have hl:=rv.length
    rw [List.length_map] at hl
    have e:preSum (fun i=>ns.getD i 0) its.toArray.size=ns.sum:=by
      rw [preSum_take,List.size_toArray,← hl,List.take_length]
    rw [e]
    exact ⟨.int ns.sum,H,I.kept fun b ob e=>k b ob (by simp; exact Nat.ne_of_lt (Heap.lt_size e)) (Heap.get?_push_of_some _ e),⟨_,rfl⟩,q⟩
  rcases hq with hq | hq
  · obtain ⟨its,rv,pl,hz⟩:=I.list hq
    have hp:p < s.heap.objs.size:=by obtain ⟨o,e,_⟩:=pl.isList; exact Heap.lt_size e
    refine call_sum_walkG (wpAny_pyIter_list pl.isList ?_)
    refine ⟨s.heap.objs.size,[s.heap.objs.size,p],[s.heap.objs.size],_,_,_,fun i=>ns.getD i 0,rfl,Walks.list hh _ p (Nat.ne_of_lt hp) its.toArray,⟨⟨_,Heap.get?_push_size _ rfl,rfl,rfl⟩,pl.isList.at fun o e=>Heap.get?_push_of_some _ e⟩,?_,?_,?_⟩
    · intro b hb
      show b < (s.heap.push _).objs.size
      rw [Heap.size_push]
      rcases List.mem_cons.mp hb with e | hb
      · rw [e]; exact Nat.lt_succ_self _
      · have e:b=p:=by simpa using hb
        rw [e]; exact Nat.lt_succ_of_lt hp
    · intro i v e
      exact ints_at rv (by simpa using e)
    · intro h' tk t' k
      exact fin its h' _ tk t' rv k
  · obtain ⟨its,rv,pl,hz⟩:=I.tuple hq
    have pl':s.heap.IsTuple p its.toArray:=pl
    have hp:p < s.heap.objs.size:=by obtain ⟨o,e,_⟩:=pl; exact Heap.lt_size e
    refine call_sum_walkG (wpAny_pyIter_tuple pl' ?_)
    refine ⟨s.heap.objs.size,[s.heap.objs.size,p],[s.heap.objs.size],_,_,_,fun i=>ns.getD i 0,rfl,Walks.tuple hh _ p (Nat.ne_of_lt hp) its.toArray,⟨⟨_,Heap.get?_push_size _ rfl,rfl,rfl⟩,pl'.push _⟩,?_,?_,?_⟩
    · intro b hb
      show b < (s.heap.push _).objs.size
      rw [Heap.size_push]
      rcases List.mem_cons.mp hb with e | hb
      · rw [e]; exact Nat.lt_succ_self _
      · have e:b=p:=by simpa using hb
        rw [e]; exact Nat.lt_succ_of_lt hp
    · intro i v e
      exact ints_at rv (by simpa using e)
    · intro h' tk t' k
      exact fin its h' _ tk t' rv k
theorem bools_at {bs:List Bool} {its:List Value} (rv:Vals (bs.map V.bl) its) {i:Nat} {v:Value} (e:its[i]?=some v):v=.bool (bs.getD i true):=by
  have hl:=rv.length
  rw [List.length_map] at hl
  have hi:i < its.length:=(List.getElem?_eq_some_iff.mp e).1
  have hn:bs[i]?=some (bs[i]'(by omega)):=List.getElem?_eq_getElem (by omega)
  obtain ⟨u,hu,ru⟩:=rv.get (i:=i) (x:=V.bl (bs[i]'(by omega))) (by rw [List.getElem?_map,hn]; rfl)
  rw [e] at hu
  cases hu
  rw [List.getD_eq_getElem?_getD,hn]
  exact ru
theorem all_getD (bs:List Bool):((List.range bs.length).all fun i=>bs.getD i true)=bs.all id:=by
  rw [Bool.eq_iff_iff,List.all_eq_true,List.all_eq_true]
  constructor
  · intro h b hb
    obtain ⟨i,hi,e⟩:=List.getElem_of_mem hb
    have:=h i (List.mem_range.mpr hi)
    rw [List.getD_eq_getElem?_getD,List.getElem?_eq_getElem hi,e] at this
    exact this
  · intro h i hi
    have hi':=List.mem_range.mp hi
    rw [List.getD_eq_getElem?_getD,List.getElem?_eq_getElem hi']
    exact h _ (List.getElem_mem hi')
theorem call_all_seq (hc:X.calm=true):CallR X (.builtin "all") (fun xs H Q=>∃ (p:Addr) (bs:List Bool),xs=[.ref p]∧SqL X.K H p (bs.map V.bl)∧Q (.bl (bs.all id)) H):=by
  intro pins s σ H xs us Q I r h
  obtain ⟨p,bs,rfl,hq,q⟩:=h
  obtain ⟨u,rfl,rx⟩:=vals1 r
  cases rx
  have hh:X.A.in1.handled=none:=I.ok.hd hc
  obtain ⟨its,rv,pl,hz⟩:=I.list hq
  have hp:p < s.heap.objs.size:=by obtain ⟨o,e,_⟩:=pl.isList; exact Heap.lt_size e
  have hl:=rv.length
  rw [List.length_map] at hl
  refine call_all_walk (wpAny_pyIter_list pl.isList ?_)
  refine ⟨s.heap.objs.size,[s.heap.objs.size,p],[s.heap.objs.size],_,_,_,fun i=>bs.getD i true,rfl,Walks.list hh _ p (Nat.ne_of_lt hp) its.toArray,⟨⟨_,Heap.get?_push_size _ rfl,rfl,rfl⟩,pl.isList.at fun o e=>Heap.get?_push_of_some _ e⟩,?_,?_⟩
  · intro i v s' Q' E' e q'
    have e':its[i]?=some v:=by simpa using e
    rw [bools_at rv e']
    exact wpAny_pure q'
  · intro h' tk k
    have e:((List.range its.toArray.size).all fun i=>bs.getD i true)=bs.all id:=by rw [List.size_toArray,← hl]; exact all_getD bs
    rw [e]
    exact ⟨.bl (bs.all id),H,I.kept fun b ob e=>k b ob (by simp; exact Nat.ne_of_lt (Heap.lt_size e)) (Heap.get?_push_of_some _ e),rfl,q⟩
inductive TyS (H:Hp):V→Value→Prop
  | bl (y:Bool):TyS H (.bl y) (.type "bool")
  | int (i:Int):TyS H (.int i) (.type "int")
  | lst {a:Addr} {xs:List V} (ea:H a=some (.lst xs)):TyS H (.ref a) (.type "list")
  | tup {a:Addr} {xs:List V} (ea:H a=some (.tup xs)):TyS H (.ref a) (.type "tuple")
theorem ty_kit {pins:List (Addr × Obj)} {σ:St} {H:Hp} {s:Shared} {x:V} {u t:Value} (I:Inv X pins σ H s) (rx:RelV x u) (ty:TyS H x t):∃ Hx:Heap→Prop,PySem.W.KitX X.K u t Hx∧Hx s.heap∧u≠.builtin "__main__.__loader__#opaque":=by
  cases ty with
  | bl y=>cases (show u=Value.bool y from rx); exact ⟨_,PySem.W.kitx_bool,True.intro,fun z=>nomatch z⟩
  | int i=>obtain ⟨t,q⟩:=(show ∃ t,u=Value.int i t from rx); cases q; exact ⟨_,PySem.W.kitx_int,True.intro,fun z=>nomatch z⟩
  | @lst a xs ea =>
    cases (show u=Value.ref a from rx)
    obtain ⟨_,_,n,_,h1⟩:=(show ObjOk X.prog X.w H s.heap a (.lst xs) from I.hok a _ ea)
    exact ⟨_,PySem.W.kitx_list,⟨_,h1,rfl⟩,fun z=>nomatch z⟩
  | @tup a xs ea =>
    cases (show u=Value.ref a from rx)
    obtain ⟨_,_,_,p⟩:=(show ObjOk X.prog X.w H s.heap a (.tup xs) from I.hok a _ ea)
    obtain ⟨o,h1,h2,_⟩:=p
    exact ⟨_,PySem.W.kitx_tuple,⟨o,h1,h2⟩,fun z=>nomatch z⟩
theorem call_isi1:CallR X (.builtin "isinstance") (fun xs H Q=>∃ x t T b,xs=[x,.ty T]∧TyS H x t∧PySem.W.kitOne X.K t (.type T)=some b∧Q (.bl b) H):=by
  intro pins s σ H xs us Q I r h
  obtain ⟨x,t,T,b,rfl,ty,e,q⟩:=h
  obtain ⟨u,w',rfl,rx,rt⟩:=vals2 r
  cases rt
  obtain ⟨Hx,Z,p,hx⟩:=ty_kit I rx ty
  exact PySem.W.kia_one Z I.kIn p e hx fun tk=>⟨.bl b,H,I.tok tk,rfl,q⟩
theorem call_isi2:CallR X (.builtin "isinstance") (fun xs H Q=>∃ x t p T U b,xs=[x,.ref p]∧SqT X.K H p [.ty T,.ty U]∧TyS H x t∧PySem.W.kitAny X.K t [.type T,.type U]=some b∧Q (.bl b) H):=by
  intro pins s σ H xs us Q I r h
  obtain ⟨x,t,tp,T,U,b,rfl,hq,ty,e,q⟩:=h
  obtain ⟨u,w',rfl,rx,rt⟩:=vals2 r
  cases rt
  obtain ⟨Hx,Z,p,hx⟩:=ty_kit I rx ty
  obtain ⟨its,rv,pl,hz⟩:=I.tuple hq
  obtain ⟨u1,u2,rfl,r1,r2⟩:=rv.two
  cases r1
  cases r2
  obtain ⟨o,ho,hc,n,hd⟩:=pl
  obtain ⟨oc,odd,odt,osl⟩:=o
  dsimp only at hc hd
  subst hc hd
  exact PySem.W.kia_tup Z I.kIn p ho e hx fun tk=>⟨.bl b,H,I.tok tk,rfl,q⟩
theorem pe_ty {x:Str} {T:String} (hg:Gl X x) (hm:X.mg x=none) (hv:bootBuiltins x=some (.type T)) (hn:x≠"__name__":=by decide) (hd:(x == ("__debug__" : Str))=false:=by decide):PE X (.Name x pos) (tC (.ty T)):=pe_bltn hg hm hv rfl hn hd
theorem pget_list:PGet X (rIxL X.K):=by
  intro pins s σ H x y v u Q I rx ry h
  obtain ⟨p,xs,i,z,rfl,rfl,hq,he,q⟩:=h
  cases rx
  obtain ⟨t,rfl⟩:=ry
  obtain ⟨its,r,pl,hz⟩:=I.list hq
  obtain ⟨j,h1,h2,h3,h4,h5⟩:=atI_get he
  obtain ⟨w,ew,rw'⟩:=r.get h2
  have hl:=r.length
  have hn:=line63
  have fin:EP X pins σ Q w s:=⟨z,H,I,rw',q⟩
  by_cases h0:0≤i
  · have hj:i.toNat=j:=by
      rw [seqIndex_of h0 h5] at h1
      exact Option.some.inj h1
    exact wpAny_getItem_list pl.isList h0 (by omega) (by rw [hj]; simpa using ew) fin
  · have hj:(i + (its.toArray.size:Int)).toNat=j:=by
      rw [seqIndex_neg (by omega) h4] at h1
      rw [List.size_toArray,← hl]
      exact Option.some.inj h1
    exact wpAny_getItem_list_neg pl.isList (by omega) (by rw [List.size_toArray] <;> omega) (by omega) (by rw [hj]; simpa using ew) fin
end
example (K:PySem.W.Frag):PySem.W.kitOne K (.type "bool") (.type "int")=some true:=by rfl
example (K:PySem.W.Frag):PySem.W.kitOne K (.type "int") (.type "bool")=some false:=by rfl
example (K:PySem.W.Frag):PySem.W.kitAny K (.type "tuple") [.type "list",.type "tuple"]=some true:=by rfl
example (K:PySem.W.Frag):PySem.W.kitAny K (.type "str") [.type "list",.type "tuple"]=some false:=by rfl
end L2
namespace L2
open PySem PySem.Spec PyProof.Rows
namespace RF
end RF
section
variable {prog:Program} {w:World} {A:Around} {E:Value→Shared→Prop} {s:Shared}
end
section
variable {X:Cx} {tg:Expr}
end
end L2
namespace L2
open PySem PySem.Spec PyProof.Rows
def clStep (cells:List (Str × Addr)) (cs:List (Str × Addr)) (p:Str × NameKind):List (Str × Addr) :=
  if (p.2 == NameKind.free)=true then (match cells.lookup p.1 with | some a=>(p.1,a)::cs | none=>cs) else cs
def clOf (sc:Scope) (cells:List (Str × Addr)):List (Str × Addr):=sc.names.foldl (clStep cells) []
theorem closure_eq {sc:Scope} {env:Env} (h:∀ p ∈ sc.names,p.2=.free→∃ a,env.cells.lookup p.1=some a):closureFor sc env=pure (clOf sc env.cells):=by
  have key:∀ (l:List (Str × NameKind)) (cs:List (Str × Addr)),(∀ p ∈ l,p.2=.free→∃ a,env.cells.lookup p.1=some a) →
      (forIn l cs fun (x:Str × NameKind) (r:List (Str × Addr))=>match x with
        | (name,kind)=>if (kind == NameKind.free)=true then (do let a ← cellOf env name; pure (ForInStep.yield ((name,a)::r))) else (pure (ForInStep.yield r):Sem (ForInStep (List (Str × Addr)))))=(pure (l.foldl (clStep env.cells) cs):Sem (List (Str × Addr))):=by
    intro l
    induction l with
    | nil=>intro cs _; rfl
    | cons p r ih =>
      intro cs hp
      obtain ⟨n,k⟩:=p
      rw [List.forIn_cons,List.foldl_cons]
      by_cases hk:(k == NameKind.free)=true
      · obtain ⟨a,ea⟩:=hp (n,k) List.mem_cons_self (by simpa using hk)
        have e1:clStep env.cells cs (n,k)=(n,a)::cs:=by unfold clStep; rw [if_pos hk]; dsimp only; dsimp only at ea; rw [ea]
        rw [e1]
        dsimp only at ea ⊢
        rw [if_pos hk]
        unfold cellOf
        rw [ea]
        simp only [pure_bind]
        exact ih _ fun q hq=>hp q (List.mem_cons_of_mem _ hq)
      · have e1:clStep env.cells cs (n,k)=cs:=by unfold clStep; rw [if_neg hk]
        rw [e1]
        dsimp only
        rw [if_neg hk]
        simp only [pure_bind]
        exact ih _ fun q hq=>hp q (List.mem_cons_of_mem _ hq)
  unfold closureFor clOf
  rw [← key sc.names [] h]
  simp only [bind_pure]
theorem clOf_sub (sc:Scope) (cells:List (Str × Addr)) {y:Str} {c:Addr}:(clOf sc cells).lookup y=some c→cells.lookup y=some c:=by
  have key:∀ (l:List (Str × NameKind)) (cs:List (Str × Addr)),(∀ y c,cs.lookup y=some c→cells.lookup y=some c)→∀ y c,(l.foldl (clStep cells) cs).lookup y=some c→cells.lookup y=some c:=by
    intro l
    induction l with
    | nil=>intro cs h; exact h
    | cons p r ih =>
      intro cs h
      rw [List.foldl_cons]
      refine ih _ ?_
      intro y c e
      unfold clStep at e
      split at e
      · split at e
        · rename_i a ea
          rw [List.lookup_cons] at e
          cases q:y == p.1 with
          | true =>
            rw [q] at e
            cases e
            rw [eq_of_beq q]; exact ea
          | false=>rw [q] at e; exact h y c e
        · exact h y c e
      · exact h y c e
  exact key sc.names [] (fun _ _ h=>by cases h) y c
theorem clOf_has (sc:Scope) (cells:List (Str × Addr)) (h:∀ p ∈ sc.names,p.2=.free→∃ a,cells.lookup p.1=some a) {y:Str} (hy:(y,NameKind.free) ∈ sc.names):∃ c,(clOf sc cells).lookup y=some c:=by
  have mono:∀ (l:List (Str × NameKind)) (cs:List (Str × Addr)),(∃ c,cs.lookup y=some c)→∃ c,(l.foldl (clStep cells) cs).lookup y=some c:=by
    intro l
    induction l with
    | nil=>intro cs h; exact h
    | cons p r ih =>
      intro cs hc
      rw [List.foldl_cons]
      refine ih _ ?_
      unfold clStep
      split
      · split
        · rw [List.lookup_cons]
          cases q:y == p.1 with
          | true=>exact ⟨_,rfl⟩
          | false=>exact hc
        · exact hc
      · exact hc
  have key:∀ (l:List (Str × NameKind)) (cs:List (Str × Addr)),(∀ p ∈ l,p.2=.free→∃ a,cells.lookup p.1=some a)→(y,NameKind.free) ∈ l→∃ c,(l.foldl (clStep cells) cs).lookup y=some c:=by
    intro l
    induction l with
    | nil=>intro cs _ hm; cases hm
    | cons p r ih =>
      intro cs hp hm
      rw [List.foldl_cons]
      rcases List.mem_cons.mp hm with e | hm
      · subst e
        obtain ⟨a,ea⟩:=hp (y,.free) List.mem_cons_self rfl
        refine mono r _ ⟨a,?_⟩
        unfold clStep
        rw [if_pos (show (NameKind.free == NameKind.free)=true by decide)]
        dsimp only at ea ⊢
        rw [ea,List.lookup_cons,beq_self_eq_true]
      · exact ih _ (fun q hq=>hp q (List.mem_cons_of_mem _ hq)) hm
  exact key sc.names [] h hy
def cxLC (X:Cx) (x:Str) (scope:Scope) (C:Addr) (fp:List Addr) (s:Shared) (H:Hp):Cx where
  prog:=X.prog
  w:=X.w
  K:=X.K
  mg:=X.mg
  base:=X.base
  A:=X.A
  N:=x::X.N
  s₀:=s
  H₀:=H
  env:=compEnvC scope (clOf scope X.env.cells) C X.env
  outer:=X.stack
  stack:=X.stack
  ex:=fp
  fn:=fun _=>false
  calm:=X.calm
  pn:=[]
  xe:=fun _ _=>False
structure LcScope (X:Cx) (x:Str) (sc:Scope):Prop where
  kind:sc.kind=.function
  nocell:∀ p ∈ sc.names,p.2≠.cell
  loc:sc.names.lookup x=some .local
  names:∀ p ∈ sc.names,p.2=.local→sc.names.lookup p.1=some .local
  apart:∀ y ∈ X.N,sc.names.lookup y≠some .local
  nd:X.N.Nodup
  free:∀ p ∈ sc.names,p.2=.free→X.env.kindOf p.1=some .cell∨X.env.kindOf p.1=some .free
section
variable {X:Cx} {pins:List (Addr × Obj)} {σ:St} {H:Hp} {s:Shared} {x:Str} {sc:Scope} {C:Addr} {fp:List Addr}
theorem relabel_look {env:Env}:∀ {names:List (Str × NameKind)} {y:Str} {k:NameKind},(names.map fun (n,k)=>if (k == NameKind.free && env.scope.kind == .function && env.kindOf n == some .cell) then (n,NameKind.cell) else (n,k)).lookup y=some k →
    ∃ k',names.lookup y=some k'∧(k=k'∨(k'=.free∧k=.cell))
  | [],_,_,h=>by simp at h
  | (n,k0)::r,y,k,h=>by
    have ih:=@relabel_look env r y k
    have h:List.lookup y ((if (k0 == NameKind.free && env.scope.kind == .function && env.kindOf n == some .cell)=true then (n,NameKind.cell) else (n,k0))::(r.map _))=some k:=h
    cases hx:y == n with
    | true =>
      refine ⟨k0,by rw [List.lookup_cons,hx],?_⟩
      by_cases hc:(k0 == NameKind.free && env.scope.kind == .function && env.kindOf n == some .cell)=true
      · rw [if_pos hc,List.lookup_cons,hx] at h
        cases h
        simp only [Bool.and_eq_true,beq_iff_eq] at hc
        exact .inr ⟨hc.1.1,rfl⟩
      · rw [if_neg hc,List.lookup_cons,hx] at h
        cases h
        exact .inl rfl
    | false =>
      by_cases hc:(k0 == NameKind.free && env.scope.kind == .function && env.kindOf n == some .cell)=true
      · rw [if_pos hc,List.lookup_cons,hx] at h
        rw [List.lookup_cons,hx]; exact ih h
      · rw [if_neg hc,List.lookup_cons,hx] at h
        rw [List.lookup_cons,hx]; exact ih h
theorem LcScope.cells (S:LcScope X x sc) (ok:X.Ok):∀ p ∈ sc.names,p.2=.free→∃ a,X.env.cells.lookup p.1=some a:=fun p hp e=>ok.has p.1 (S.free p hp e)
theorem Inv.okLC (I:Inv X pins σ H s) (S:LcScope X x sc) (hC:s.heap.objs.size≤C) (hf:∀ b ∈ fp,FpOk X pins H b) (hlt:∀ b ∈ fp,b < s.heap.objs.size):(cxLC X x sc C fp s H).Ok where
  mod:=I.ok.mod
  kind:=S.kind
  glob:=I.ok.glob
  blt:=I.ok.blt
  above:=hC
  inj:=fun y z c e1 e2=>I.ok.inj y z c (clOf_sub sc X.env.cells e1) (clOf_sub sc X.env.cells e2)
  has:=fun y hy=>by
    have hy':(relabel sc X.env).names.lookup y=some .cell∨(relabel sc X.env).names.lookup y=some .free:=hy
    have fr:sc.names.lookup y=some .free:=by
      rcases hy' with h | h
      · obtain ⟨k',e,q⟩:=relabel_look h
        rcases q with q | ⟨q,_⟩
        · subst q; exact absurd rfl (S.nocell _ (PySem.mem_of_lookup e))
        · rw [e,q]
      · obtain ⟨k',e,q⟩:=relabel_look h
        rcases q with q | ⟨_,q⟩
        · rw [e,← q]
        · cases q
    exact clOf_has sc X.env.cells (S.cells I.ok) (PySem.mem_of_lookup fr)
  cab:=fun y c e=>by cases (show false=true from e)
  hd:=I.ok.hd
  frames:=I.ok.frames
  stk:=.inl rfl
  exf:=fun b hb=>⟨Nat.ne_of_lt (Nat.lt_of_lt_of_le (hlt b hb) hC),fun y c e=>(hf b hb).2.2.2.2.1 y c (clOf_sub sc X.env.cells e)⟩
  bs:=I.bs
  bsz:=Nat.le_trans I.ok.bsz I.sz
  noex:=fun b o e hb=>by
    rcases (hf b hb).2.2.2.1 with q | q
    · exact I.ok.noex b o e q
    · exact absurd (Nat.lt_of_lt_of_le (Heap.lt_size e) (Nat.le_trans I.ok.bsz q)) (Nat.lt_irrefl _)
  exfs:=fun b hb z=>by
    rcases List.mem_cons.mp (I.stkSub b z) with q | q
    · exact (hf b hb).2.1 q
    · exact (hf b hb).2.2.1 q
  funs:=I.stack
  frf:=I.stkFree
theorem Inv.startLC {D:Addr} {h1:Heap} {m:Str→Option Value} {tk:Nat} (I:Inv X pins σ H s) (S:LcScope X x sc) (hf:∀ b ∈ fp,FpOk X pins H b) (hlt:∀ b ∈ fp,b < s.heap.objs.size)
    (hD:D=s.heap.objs.size) (hC:s.heap.objs.size≤C) (hDC:C≠D) (hk:∀ b o,s.heap.get? b=some o→h1.get? b=some o) (hn:h1.Ns C m) (hl:h1.get? D=some { cls:=.type "list",data:=.seq ([]:List Value).toArray 0 }) :
    Inv (cxLC X x sc C fp s H) [] (none::σ) (upd H D (.lst [])) { s with heap:=h1,toks:=tk }:=by
  have hDle:s.heap.objs.size≤D:=by rw [hD]; exact Nat.le_refl _
  have cells:∀ y c,(clOf sc X.env.cells).lookup y=some c→c < s.heap.objs.size:=fun y c e=>by
    obtain ⟨v,q⟩:=I.cell y c (clOf_sub sc X.env.cells e)
    exact q.lt
  refine ⟨I.okLC S hC hf hlt,rfl,I.bare,Un.laid hk hDle (I.hok.fresh hDle),⟨m,hn,fun i y v e1 e2 e3=>?_⟩,fun y c e=>?_,?_,fun y c e=>?_,fun p hp=>absurd (show p ∈ ([]:List (Addr × Obj)) from hp) (by simp),I.hok.laid hk hDle ⟨Nat.zero_le _,[],0,.nil,hl⟩,?_⟩
  · cases i with
    | zero=>cases (show some (none:Option V)=some (some v) from e2)
    | succ j =>
      have e1':X.N[j]?=some y:=e1
      have e2':σ[j]?=some (some v):=e2
      have e3':Vis (relabel sc X.env) y:=e3
      have ny:sc.names.lookup y≠some .local:=S.apart y (List.mem_of_getElem? e1')
      have fr:sc.names.lookup y=some .free∧((relabel sc X.env).names.lookup y=some .cell∨(relabel sc X.env).names.lookup y=some .free):=by
        rcases e3' with h | h | h
        · obtain ⟨k',e,q⟩:=relabel_look h
          rcases q with q | ⟨_,q⟩
          · subst q; exact absurd e ny
          · cases q
        · obtain ⟨k',e,q⟩:=relabel_look h
          rcases q with q | ⟨q,_⟩
          · subst q; exact absurd rfl (S.nocell _ (PySem.mem_of_lookup e))
          · exact ⟨by rw [e,q],.inl h⟩
        · obtain ⟨k',e,q⟩:=relabel_look h
          rcases q with q | ⟨_,q⟩
          · exact ⟨by rw [e,← q],.inr h⟩
          · cases q
      have ok:=S.free (y,.free) (PySem.mem_of_lookup fr.1) rfl
      obtain ⟨m0,hn0,hl0⟩:=I.loc
      obtain ⟨u,r,l⟩:=hl0 j y v e1' e2' (.inr ok)
      refine ⟨u,r,.inr ⟨fr.2,?_⟩⟩
      rcases l with ⟨k,_⟩ | ⟨_,c,ec,z⟩
      · rcases ok with q | q <;> (rw [show X.env.kindOf y=some .local from k] at q; cases q)
      · obtain ⟨c',ec'⟩:=clOf_has sc X.env.cells (S.cells I.ok) (PySem.mem_of_lookup fr.1)
        have:=clOf_sub sc X.env.cells ec'
        rw [ec] at this
        cases this
        obtain ⟨o,ho,hd⟩:=z
        exact ⟨c,ec',o,hk _ _ ho,hd⟩
  · obtain ⟨v,o,ho,hd⟩:=I.cell y c (clOf_sub sc X.env.cells e)
    exact ⟨v,o,hk _ _ ho,hd⟩
  · show upd H D (.lst []) C=none
    rw [upd_ne hDC]
    exact I.hok.fresh hC
  · show upd H D (.lst []) c=none
    rw [upd_ne (Nat.ne_of_lt (Nat.lt_of_lt_of_le (cells y c e) hDle))]
    exact I.freeC y c (clOf_sub sc X.env.cells e)
  · show (none::σ).length=(x::X.N).length
    rw [List.length_cons,List.length_cons,I.len]
theorem Inv.butC {h':Heap} (I:Inv X pins σ H s) (hs:Heap.SameBut C s.heap h') (hC:X.s₀.heap.objs.size≤C) (hn:H C=none) (hL:C≠X.env.locals) (hc:∀ y c,X.env.cells.lookup y=some c→c≠C) (hp:∀ p ∈ X.pn++pins,p.1≠C) :
    Inv X pins σ H { s with heap:=h' }:=I.turned (t':=s.toks) (fun b o hb e=>(hs.2 b hb).trans e) hn hL (.inr hC) hc hp
theorem Inv.endLC {s2:Shared} {H2:Hp} {st:St} {pl:List (Addr × Obj)} (I:Inv X pins σ H s) (J:Inv (cxLC X x sc C fp s H) pl st H2 s2) (hf:∀ b ∈ fp,FpOk X pins H b):Inv X pins σ H2 s2 :=
  I.call' (ch:=fp) J.os J.base J.hok J.bare fun b hb=>⟨(hf b hb).2.2.2.1,(hf b hb).2.1,(hf b hb).2.2.2.2.1,(hf b hb).2.2.2.2.2⟩
end
def PTs (X:Cx) (ifs:List Expr) (t:TT):Prop :=
  ∀ (pins:List (Addr × Obj)) (s:Shared) (σ:St) (H:Hp) (Q:Bool→Hp→Prop),Inv X pins σ H s→t σ H Q →
    wpAny (model X.prog X.w) X.A (forIn ifs true fun c r=>if r=true then do let ok ← isTrue c X.env (eval c X.env); pure (ForInStep.yield ok) else pure (ForInStep.yield r)) (TP X pins σ Q) X.xe s
def tYes:TT:=fun _ H Q=>Q true H
theorem pts_nil {X:Cx}:PTs X [] tYes:=fun _ _ _ H _ I h=>wpAny_tests_nil ⟨H,I,h⟩
theorem pts_one {X:Cx} {c:Expr} {t:TT} (h:PT X c t):PTs X [c] t:=fun pins s σ H Q I q=>wpAny_tests_one (h pins s σ H Q I q)
theorem compLoop_own {prog:Program} {w:World} {A:Around} {R:Result→Shared→Prop} {s:Shared} {elt target iter:Expr} {ifs:List Expr} {scope:Scope} {pos:Pos} {it acc:Value} {env:Env} (I:Nat→Shared→Prop)
    (turn:∀ n s,I n s→wpAny (model prog w) A (pyNext it) (fun r s1=>match r with
      | none=>R (.ok .next) s1
      | some v=>wpAny (model prog w) A (letOwnedTupleGo target it v) (fun _ s1=>wpAny (model prog w) A (assign target env v) (fun _ s2 =>
          wpAny (model prog w) A (forIn ifs true fun c r=>if r=true then do let ok ← isTrue c env (eval c env); pure (ForInStep.yield ok) else pure (ForInStep.yield r)) (fun ok s3 =>
            if ok=true then wpAny (model prog w) A (eval elt env) (fun x s4 =>
              wpAny (model prog w) A (call (.builtin "list.append") [acc,x]) (fun _ s5=>∃ m,m < n∧I m s5) (fun _ _=>False) s4) (fun _ _=>False) s3
            else ∃ m,m < n∧I m s3) (fun _ _=>False) s2) (fun _ _=>False) s1) (fun _ _=>False) s1) (fun _ _=>False) s)
    (n:Nat) (h:I n s) :
    codeAny (model prog w) A (.compLoop (.ListComp elt [⟨target,iter,ifs,0⟩] scope pos) 0 it acc env) R s:=by
  refine codeAny_loop rfl I (fun n s hI=>?_) n h
  show wpAny _ A ((compTurn (.ListComp elt [⟨target,iter,ifs,0⟩] scope pos) 0 it acc env).onRaise (fun x=>do noteFrame x env; theTreesLotGoes x)) _ _ s
  refine wpAny_noted ?_
  rw [compTurn_list]
  refine wpAny_bind (wpAny_standAt (wpAny_bind (wpAny_mono (turn n s hI) (fun r s1 h1=>?_) fun _ _ h'=>h'.elim)))
  cases r with
  | none=>exact wpAny_pure h1
  | some v =>
    refine wpAny_bind (wpAny_mono h1 (fun _ s1 h1=>?_) fun _ _ h'=>h'.elim)
    refine wpAny_bind (wpAny_mono h1 (fun _ s2 h2=>wpAny_bind (wpAny_mono h2 (fun ok s3 h3=>?_) fun _ _ h'=>h'.elim)) fun _ _ h'=>h'.elim)
    cases ok with
    | false=>exact wpAny_pure ⟨rfl,h3⟩
    | true =>
      exact wpAny_bind (wpAny_bind (wpAny_mono h3 (fun x s4 h4=>wpAny_bind (wpAny_mono h4 (fun _ s5 h5=>wpAny_pure (wpAny_pure ⟨rfl,h5⟩)) fun _ _ h'=>h'.elim)) fun _ _ h'=>h'.elim))
def lcGo (tc:TT) (te:TE) (σ:St) (J:It) (D:Addr) (Fin:Hp→Prop) (H:Hp):Prop :=
  ∃ W:Nat→Nat→List V→Hp→Prop,(∃ m,W 0 m [] (upd H D (.lst [])))∧∀ i m ys H,W i m ys H→H D=some (.lst ys) ∧
    ((J.stop i H∧Fin H)∨(J.go i H∧∀ x H',J.yld i H x H'→tc (some x::σ) H' fun b H2=>if b=true then te (some x::σ) H2 fun y H3=>H3 D=some (.lst ys)∧ys.length < sizeLine∧∃ m',m' < m∧W (i + 1) m' (ys++[y]) (upd H3 D (.lst (ys++[y])))
      else ∃ m',m' < m∧W (i + 1) m' ys H2))
def tLC (wi:TI) (tc:TT) (te:TE):TE:=fun σ H Q=>wi σ H fun J H1=>∀ D,H1 D=none→lcGo tc te σ J D (fun H2=>Q (.ref D) H2) H1
section
variable {X:Cx} {x:Str} {sc:Scope} {elt iter:Expr} {ifs:List Expr} {px pos:Pos} {wi:TI} {tc:TT} {te:TE}
theorem lc_block {pins:List (Addr × Obj)} {σ:St} {H:Hp} {s:Shared} {it:Addr} {fp:List Addr} {tn:Nat→Heap→Prop} {J:It} {Fin:Addr→Hp→Prop} {RR:Value→Addr→Result→Shared→Prop} {E:Value→Shared→Prop}
    (hc:X.calm=true) (S:LcScope X x sc) (I:Inv X pins σ H s) (T:Turn X.prog X.w X.K (.Name x px) J fp it tn) (st:tn 0 s.heap) (hf:∀ b ∈ fp,FpOk X pins H b)
    (ht:∀ C s0 H0,PTs (cxLC X x sc C fp s0 H0) ifs tc) (he:∀ C s0 H0,PE (cxLC X x sc C fp s0 H0) elt te) (q:∀ D,H D=none→lcGo tc te σ J D (Fin D) H)
    (hR:∀ D C H2 s2 m,s.heap.objs.size≤C→Inv X pins σ H2 s2→H2 C=none→s2.heap.Ns C m→Fin D H2→RR (.ref D) C (.ok .next) s2) :
    wpAny (model X.prog X.w) X.A (newList []) (fun acc s3=>wpAny (model X.prog X.w) X.A (newFunctionEnv sc X.env.globals (clOf sc X.env.cells) [] X.env.qual none .none (some X.env)) (fun cenv s4 =>
      codeAny (model X.prog X.w) X.A (.compStart (.ListComp elt [⟨.Name x px,iter,ifs,0⟩] sc pos) 0 (.ref it) acc { cenv with scope:=relabel sc X.env }) (RR acc cenv.locals) s4) E s3) E s:=by
  have hlt:∀ b ∈ fp,b < s.heap.objs.size:=fun b hb=>by
    obtain ⟨o,e,_⟩:=T.obj 0 _ st b hb
    exact Heap.lt_size e
  refine wpAny_newObj_type (wpAny_newFunctionEnv S.nocell (by intro y hy; simp at hy) (fun h1 hns1 hsb1=>?_) S.kind)
  dsimp only at hns1 hsb1 ⊢
  generalize hH2:s.heap.push { cls:=.type "list",dict:=none,data:=.seq ([]:List Value).toArray }=G at hns1 hsb1 ⊢
  have hC:G.objs.size=s.heap.objs.size + 1:=by rw [← hH2,Heap.size_push]
  have hCle:s.heap.objs.size≤G.objs.size:=by rw [hC]; exact Nat.le_succ _
  have hDC:G.objs.size≠s.heap.objs.size:=by rw [hC]; exact Nat.succ_ne_self _
  have old:∀ b o,s.heap.get? b=some o→h1.get? b=some o:=fun b o e=>hsb1.extBut b o (Nat.ne_of_lt (Nat.lt_of_lt_of_le (Heap.lt_size e) hCle)) (Heap.get?_push_of_some _ (hH2 ▸ Heap.get?_push_of_some _ e))
  have hacc:h1.get? s.heap.objs.size=some { cls:=.type "list",data:=.seq ([]:List Value).toArray 0 }:=hsb1.extBut _ _ (Ne.symm hDC) (Heap.get?_push_of_some _ (hH2 ▸ Heap.get?_push_size _ rfl))
  have hDn:H s.heap.objs.size=none:=I.hok.fresh (Nat.le_refl _)
  obtain ⟨W,⟨m0,w0⟩,turn⟩:=q s.heap.objs.size hDn
  have st1:tn 0 h1:=T.keep _ _ _ st fun b _ o e=>old b o e
  have I1:=fun tk=>I.startLC (tk:=tk) S hf hlt rfl hCle hDC old hns1 hacc
  have fr1:∀ b ∈ fp,upd H s.heap.objs.size (.lst []) b=none:=fun b hb=>by rw [upd_ne (Nat.ne_of_lt (hlt b hb))]; exact (hf b hb).1
  have loop:∀ s3:Shared,s3={ s with heap:=h1,toks:=s.toks + ([]:List (Str × Value)).length } →
      codeAny (model X.prog X.w) X.A (.compLoop (.ListComp elt [⟨.Name x px,iter,ifs,0⟩] sc pos) 0 (.ref it) (.ref s.heap.objs.size) (compEnvC sc (clOf sc X.env.cells) G.objs.size X.env))
        (RR (.ref s.heap.objs.size) G.objs.size) s3:=by
    rintro s3 rfl
    have fpk:∀ {H':Hp},(∀ b ∈ fp,H' b=none)→∀ b ∈ fp,FpOk (cxLC X x sc G.objs.size fp s H) [] H' b:=fun hn b hb =>
      ⟨hn b hb,Nat.ne_of_lt (Nat.lt_of_lt_of_le (hlt b hb) hCle),(I.okLC (C:=G.objs.size) S hCle hf hlt).exfs b hb,.inl hb,fun y c e=>(hf b hb).2.2.2.2.1 y c (clOf_sub sc X.env.cells e),fun p hp=>absurd (show p ∈ ([]:List (Addr × Obj)) from hp) (by simp)⟩
    refine compLoop_own (fun n s'=>∃ i w ys H',Inv (cxLC X x sc G.objs.size fp s H) [] (w::σ) H' s'∧tn i s'.heap∧(∀ b ∈ fp,H' b=none)∧W i n ys H') ?_ m0 ⟨0,none,[],_,I1 _,st1,fr1,w0⟩
    rintro n s3 ⟨i,v0,ys,H3,I3,st3,fr3,w3⟩
    obtain ⟨hD3,turn3⟩:=turn i n ys H3 w3
    rcases turn3 with ⟨stop,fin⟩ | ⟨go,step⟩
    · refine thn (T.done (cxLC X x sc G.objs.size fp s H) rfl rfl rfl hc i [] s3 _ H3 _ I3 (fpk fr3) st3 stop) fun r s4 ⟨hr,I4⟩=>?_
      subst hr
      obtain ⟨m4,hn4,_⟩:=I4.loc
      exact hR _ _ H3 s4 m4 hCle (I.endLC I4 hf) I4.free hn4 fin
    · refine thn (T.item (cxLC X x sc G.objs.size fp s H) rfl rfl rfl hc i [] s3 _ H3 _ I3 (fpk fr3) st3 go) fun r s4 ⟨u,hr,h4⟩=>?_
      subst hr
      refine thn h4 fun _ s5 ⟨y,H5,I5,r5,y5,st5,fr5⟩=>?_
      have I5':=I5.pinned (fpk fr5) (T.obj _ _ st5)
      have hN:(x::X.N).Nodup:=List.nodup_cons.mpr ⟨fun hm=>S.apart x hm S.loc,S.nd⟩
      have pg:PG (cxLC X x sc G.objs.size fp s H) (.Name x px) (gName 0):=pg_name hN rfl (.inl (lookup_relabel_local S.loc)) (.inr (lookup_relabel_local S.loc))
      refine thn (pg _ s5 _ H5 y u (fun σ6 H6=>σ6=some y::σ∧H6=H5) I5' r5 ⟨rfl,rfl⟩) fun _ s6 ⟨σ6,H6,I6,e6,e6'⟩=>?_
      subst e6; subst e6'
      refine thn (ht G.objs.size s H _ s6 _ H6 _ I6 (step y H6 y5)) fun ok s7 ⟨H7,I7,q7⟩=>?_
      have again:∀ {H8:Hp} {s8:Shared} {zs:List V},Inv (cxLC X x sc G.objs.size fp s H) ([]++pinsAt fp s5.heap) (some y::σ) H8 s8→(∃ m',m' < n∧W (i + 1) m' zs H8)→∃ m,m < n∧∃ i w ys H',Inv (cxLC X x sc G.objs.size fp s H) [] (w::σ) H' s8∧tn i s8.heap∧(∀ b ∈ fp,H' b=none)∧W i m ys H':=fun {H8 s8 zs} I8 ⟨m',hm,w8⟩=>by
        refine ⟨m',hm,i + 1,some y,zs,H8,I8.unpinned,T.keep _ _ _ st5 fun b hb o e=>(I8.pin (b,o) (List.mem_append_right _ (List.mem_append_right _ (mem_pinsAt hb e)))).1,fun b hb=>?_,w8⟩
        obtain ⟨o,e,d⟩:=T.obj _ _ st5 b hb
        exact (I8.pin (b,o) (List.mem_append_right _ (List.mem_append_right _ (mem_pinsAt hb e)))).2.1
      cases ok with
      | false =>
        rw [if_neg Bool.false_ne_true] at q7 ⊢
        exact again I7 q7
      | true =>
        rw [if_pos rfl] at q7 ⊢
        refine thn (he G.objs.size s H _ s7 _ H7 _ I7 q7) fun z s8 ⟨zv,H8,I8,r8,hD8,hz8,w8⟩=>?_
        refine thn (mt_append _ s8 _ H8 (.ref s.heap.objs.size) [zv] (.ref s.heap.objs.size) [z] (fun _ H9=>∃ m',m' < n∧W (i + 1) m' (ys++[zv]) H9) I8 rfl (.cons r8 .nil) ⟨_,ys,zv,rfl,rfl,hD8,hz8,w8⟩) fun _ s9 ⟨_,H9,I9,_,w9⟩=>?_
        exact again I9 w9
  exact codeAny_compStart_list (loop _ rfl) (T.self X.A 0 _ _ _ st1 (loop _ rfl))
theorem pe_lc (hc:X.calm=true) (S:LcScope X x sc) (hi:PI X (.Name x px) iter wi) (ht:∀ C fp s0 H0,PTs (cxLC X x sc C fp s0 H0) ifs tc) (he:∀ C fp s0 H0,PE (cxLC X x sc C fp s0 H0) elt te)
    (hs:∀ v,foldedSetIterable iter X.env v=pure v:=by intro _; rfl):PE X (.ListComp elt [⟨.Name x px,iter,ifs,0⟩] sc pos) (tLC wi tc te):=by
  refine ⟨?_⟩
  intro pins s σ H Q I h
  rw [eval_ListComp]
  refine wpAny_comprehension_free (use:=none) rfl hs (closure_eq (S.cells I.ok)) S.kind S.names (thn (hi pins s σ H _ I h) fun v s1 h1=>thn h1 fun itv s2 h2=>?_)
  obtain ⟨it,fp,tn,J,H2,e,I2,T,st2,f2,q2⟩:=h2
  subst e
  refine lc_block (RR:=fun acc C=>compPost (model X.prog X.w) X.A X.xe none (EP X pins σ Q) acc C) (Fin:=fun D H3=>Q (.ref D) H3) hc S I2 T st2 f2 (fun C s0 H0=>ht C fp s0 H0) (fun C s0 H0=>he C fp s0 H0) q2 ?_
  intro D C H3 s3 m hC I3 hn hN q3
  refine ⟨m,hN,fun h' hs'=>⟨.ref D,H3,I3.butC hs' (Nat.le_trans I2.sz hC) hn (Nat.ne_of_gt (Nat.lt_of_lt_of_le I2.lt hC)) (fun y c e=>?_) (fun p hp=>?_),rfl,q3⟩⟩
  · obtain ⟨v,z⟩:=I2.cell y c e
    exact Nat.ne_of_lt (Nat.lt_of_lt_of_le z.lt hC)
  · exact Nat.ne_of_lt (Nat.lt_of_lt_of_le (Heap.lt_size (I2.pin p hp).1) hC)
theorem ps_setLC {i:Nat} {y:Str} {py spos:Pos} (hc:X.calm=true) (hi':X.N[i]?=some y) (hy:X.env.scope.names.lookup y=some .local) (S:LcScope X x sc) (hi:PI X (.Name x px) iter wi) (ht:∀ C fp s0 H0,PTs (cxLC X x sc C fp s0 H0) ifs tc) (he:∀ C fp s0 H0,PE (cxLC X x sc C fp s0 H0) elt te)
    (hsw:swapsWith (.ListComp elt [⟨.Name x px,iter,ifs,0⟩] sc pos) (some (.Name y py)) spos.line X.env=pure true:=by rfl) (hs:∀ v,foldedSetIterable iter X.env v=pure v:=by intro _; rfl) :
    PS X (.Assign [.Name y py] (.ListComp elt [⟨.Name x px,iter,ifs,0⟩] sc pos) spos) (tAsg (tLC wi tc te) (gName i)):=by
  refine ⟨?_⟩
  intro pins s σ H Dn I h
  rw [exec_Assign_Name_used _ _ _ _ hsw]
  refine wpAny_bind (wpAny_standAt (wpAny_bind ?_))
  show wpAny _ X.A (do let _ ← comprehension (.ListComp elt [⟨.Name x px,iter,ifs,0⟩] sc pos) sc X.env _ (newList []) false (eval iter X.env) (some (assign (.Name y py) X.env))) _ _ s
  refine wpAny_bind (wpAny_mono (wpAny_comprehension_free (use:=some (assign (.Name y py) X.env)) (Q:=fun _ s'=>SP X pins Dn .next s') rfl hs (closure_eq (S.cells I.ok)) S.kind S.names
    (thn (hi pins s σ H _ I h) fun v s1 h1=>thn h1 fun itv s2 h2=>?_)) (fun _ s' hq=>wpAny_pure (wpAny_pure hq)) fun _ _ e=>e)
  obtain ⟨it,fp,tn,J,H2,e,I2,T,st2,f2,q2⟩:=h2
  subst e
  refine lc_block (RR:=fun acc C=>compPost (model X.prog X.w) X.A X.xe (some (assign (.Name y py) X.env)) (fun _ s'=>SP X pins Dn .next s') acc C) (Fin:=fun D H3=>gName i (.ref D) σ H3 Dn.nx) hc S I2 T st2 f2 (fun C s0 H0=>ht C fp s0 H0) (fun C s0 H0=>he C fp s0 H0) q2 ?_
  intro D C H3 s3 m hC I3 hn hN q3
  show wpAny _ _ (assign (.Name y py) X.env (.ref D)) _ _ s3
  have cne:∀ y c,X.env.cells.lookup y=some c→c≠C:=fun y c e=>by
    obtain ⟨v,z⟩:=I2.cell y c e
    exact Nat.ne_of_lt (Nat.lt_of_lt_of_le z.lt hC)
  refine wpAny_assign_Name (store_ok2 I3 S.nd hi' (.inl hy) (show RelV (.ref D) (.ref D) from rfl) (fun s4 I4 ⟨a,hs4,ha⟩=>?_) (.inr hy))
  have haC:C≠a:=by
    rcases ha with e | e
    · rw [e]; exact Nat.ne_of_gt (Nat.lt_of_lt_of_le I2.lt hC)
    · exact Ne.symm (cne y a e)
  refine ⟨m,hN.sameBut hs4 haC,fun h' hs'=>⟨_,H3,I4.butC hs' (Nat.le_trans I2.sz hC) hn (Nat.ne_of_gt (Nat.lt_of_lt_of_le I2.lt hC)) cne (fun p hp=>?_),q3⟩⟩
  exact Nat.ne_of_lt (Nat.lt_of_lt_of_le (Heap.lt_size (I2.pin p hp).1) hC)
end
end L2
namespace L2
open PySem PySem.Spec PyProof.Rows
structure Fn (K:PySem.W.Frag) (mg:Str→Option Value) (x:Str) (st:Stmt) (ps:List Str) (f:Addr) (fd:FuncData):Prop where
  fn:Fun K x x st f fd
  m:mg x=some (.ref f)
  b:Binds K fd ps []
structure Fm (K:PySem.W.Frag) (C:Addr) (x qual:Str) (st:Stmt) (ps:List Str) (f:Addr) (fd:FuncData):Prop where
  fn:Fun K x qual st f fd
  m:Meth K C x f
  b:Binds K fd ps []
def Can (P:Program) (w:World) (K:PySem.W.Frag) (mg:Str→Option Value) (base:Heap) (k:Nat) (x:Str) (ps:List Str) (sp:Sp):Prop :=
  ∃ f fd,FnOk P w K mg base CX0 k f fd ps sp∧mg x=some (.ref f)∧PySem.W.keepIn K (.ref f)=true∧Binds K fd ps []
def CanM (P:Program) (w:World) (K:PySem.W.Frag) (mg:Str→Option Value) (base:Heap) (C:Addr) (k:Nat) (x:Str) (ps:List Str) (sp:Sp):Prop :=
  ∃ f fd,FnOk P w K mg base CX0 k f fd ps sp∧Meth K C x f∧Binds K fd ps []
section
variable {P:Program} {w:World} {K:PySem.W.Frag} {mg:Str→Option Value} {base:Heap}
theorem fn_can {x:Str} {st:Stmt} {N ps:List Str} {k:Nat} {sp:Sp} (h:∃ f fd,Fn K mg x st ps f fd) (S:FnScope N ps (defScope st)) (len:∀ vs H Q E,sp vs H Q E→vs.length=ps.length)
    (hbody:∀ (f:Addr) (cdv:Value) (A:Around) (outer:List Env) (s:Shared) (H:Hp) (vs:List V) (Q:VK) (E:XK),Room k (A.deeper (envOfC x (defScope st) s.heap.objs.size f cdv))→sp vs H Q E →
      ∃ t,PSs (cxOf CX0 P w K mg base N x (defScope st) f cdv A outer s H E).nox (defBody st) t∧t { nx:=fun _ H'=>Q .non H',rt:=Q } (start N vs) H):Can P w K mg base (k + 1) x ps sp:=by
  obtain ⟨f,fd,F⟩:=h
  exact ⟨f,fd,F.fn.ok S len fun cdv A outer s H vs Q E hr h=>hbody f cdv A outer s H vs Q E hr h,F.m,F.fn.kp,F.b⟩
theorem fm_can {C:Addr} {x qual:Str} {st:Stmt} {N ps:List Str} {k:Nat} {sp:Sp} (h:∃ f fd,Fm K C x qual st ps f fd) (S:FnScope N ps (defScope st)) (len:∀ vs H Q E,sp vs H Q E→vs.length=ps.length)
    (hbody:∀ (f:Addr) (cdv:Value) (A:Around) (outer:List Env) (s:Shared) (H:Hp) (vs:List V) (Q:VK) (E:XK),Room k (A.deeper (envOfC qual (defScope st) s.heap.objs.size f cdv))→sp vs H Q E →
      ∃ t,PSs (cxOf CX0 P w K mg base N qual (defScope st) f cdv A outer s H E).nox (defBody st) t∧t { nx:=fun _ H'=>Q .non H',rt:=Q } (start N vs) H):CanM P w K mg base C (k + 1) x ps sp:=by
  obtain ⟨f,fd,F⟩:=h
  exact ⟨f,fd,F.fn.ok S len fun cdv A outer s H vs Q E hr h=>hbody f cdv A outer s H vs Q E hr h,F.m,F.b⟩
end
section
variable {X:Cx} {k k':Nat} {x m:Str} {ps:List Str} {sp:Sp} {p pos apos:Pos} {e o:Expr} {es:List Expr} {ta:TE} {t:TA} {C:Addr}
theorem pe_can (h:Can X.prog X.w X.K X.mg X.base k x ps sp) (hr:Room k' X.A) (ha:PA X (e::es) t) (hg:Gl X x:=by rfl) (hk:k≤k':=by decide) (hdb:(x == ("__debug__" : Str))=false:=by decide)
    (hs:starEach (e::es) X.env=(false,eval e X.env)::starEach es X.env:=by rfl) (hpl:(backTo pos (starEach es X.env)).any (·.1)=false:=by rfl):PE X (.Call (.Name x p) (e::es) [] pos) (tCall sp [] E0 t):=by
  obtain ⟨f,fd,F,hm,kp,b⟩:=h
  exact pe_call F (hr.mono hk) hg hm kp b .nil pass0 ha hdb hs hpl
theorem pe_canM {pl:Sem Bool} (ho:PE X o ta) (c:Cls X.K C) (h:CanM X.prog X.w X.K X.mg X.base C k m ps sp) (hr:Room k' X.A) (ha:PA X (e::es) t) (hk:k≤k':=by decide)
    (hst:starEach (e::es) X.env=(false,eval e X.env)::starEach es X.env:=by rfl) (hpl:(backTo pos (starEach es X.env)).any (·.1)=false:=by rfl)
    (ht:eval (.Call (.Attribute o m apos) (e::es) [] pos) X.env=(do
      let ov ← eval o X.env
      standAt apos.atName
      let (f,first) ← holding [ov] (getMethod ov m pl)
      callWith pos f first (backTo pos (starEach (e::es) X.env)) (backToKw pos (keywordEach [] X.env))):=by rfl):PE X (.Call (.Attribute o m apos) (e::es) [] pos) (tMeth C m sp [] E0 ta t):=by
  obtain ⟨f,fd,F,hm,b⟩:=h
  exact pe_meth (pl:=pl) ho c hm F (hr.mono hk) b .nil pass0 ha hst hpl ht
theorem pe_canM0 {pl:Sem Bool} (ho:PE X o ta) (c:Cls X.K C) (h:CanM X.prog X.w X.K X.mg X.base C k m ps sp) (hr:Room k' X.A) (hk:k≤k':=by decide)
    (ht:eval (.Call (.Attribute o m apos) [] [] pos) X.env=(do
      let ov ← eval o X.env
      standAt apos.atName
      let (f,first) ← holding [ov] (getMethod ov m pl)
      callWith pos f first (backTo pos (starEach [] X.env)) (backToKw pos (keywordEach [] X.env))):=by rfl):PE X (.Call (.Attribute o m apos) [] [] pos) (tMeth C m sp [] E0 ta tNil):=by
  obtain ⟨f,fd,F,hm,b⟩:=h
  exact pe_meth0 (pl:=pl) ho c hm F (hr.mono hk) b .nil pass0 ht
theorem pe_gi {n:Int} (h:∃ t,X.mg x=some (.int n t)) (hg:Gl X x:=by rfl) (hd:(x == ("__debug__" : Str))=false:=by decide):PE X (.Name x pos) (tC (.int n)):=by
  obtain ⟨t,h⟩:=h
  exact pe_glob hg h ⟨t,rfl⟩ hd
theorem pe_b {id:String} {r:List V→Hp→VK→Prop} (hc:CallR X (.builtin id) r) (hm:X.mg x=none) (hv:bootBuiltins x=some (.builtin id)) (ha:PA X (e::es) t) (hg:Gl X x:=by rfl) (hn:x≠"__name__":=by decide) (hdb:(x == ("__debug__" : Str))=false:=by decide)
    (he:starEach (e::es) X.env=(false,eval e X.env)::starEach es X.env:=by rfl) (hpl:(backTo pos (starEach es X.env)).any (·.1)=false:=by rfl):PE X (.Call (.Name x p) (e::es) [] pos) (tCB r t):=pe_callB hc hg hm hv ha hn hdb he hpl
theorem pe_t {T:String} {r:List V→Hp→VK→Prop} (hc:CallR X (.type T) r) (hm:X.mg x=none) (hv:bootBuiltins x=some (.type T)) (ha:PA X (e::es) t) (hg:Gl X x:=by rfl) (hn:x≠"__name__":=by decide) (hdb:(x == ("__debug__" : Str))=false:=by decide)
    (he:starEach (e::es) X.env=(false,eval e X.env)::starEach es X.env:=by rfl) (hpl:(backTo pos (starEach es X.env)).any (·.1)=false:=by rfl):PE X (.Call (.Name x p) (e::es) [] pos) (tCB r t):=pe_callTy hc hg hm hv ha hn hdb he hpl
theorem pa1 {a:Expr} {ta:TE} (ha:PE X a ta) (hs:starEach [a] X.env=(false,eval a X.env)::starEach [] X.env:=by rfl):PA X [a] (tCons ta tNil):=pa_cons ha pa_nil hs
theorem pa2 {a b:Expr} {ta tb:TE} (ha:PE X a ta) (hb:PE X b tb) (hs:starEach [a,b] X.env=(false,eval a X.env)::starEach [b] X.env:=by rfl) (hs2:starEach [b] X.env=(false,eval b X.env)::starEach [] X.env:=by rfl):PA X [a,b] (tCons ta (tCons tb tNil)):=pa_cons ha (pa_cons hb pa_nil hs2) hs
theorem pa3 {a b c:Expr} {ta tb tc:TE} (ha:PE X a ta) (hb:PE X b tb) (hc:PE X c tc) (hs:starEach [a,b,c] X.env=(false,eval a X.env)::starEach [b,c] X.env:=by rfl) (hs1:starEach [b,c] X.env=(false,eval b X.env)::starEach [c] X.env:=by rfl) (hs2:starEach [c] X.env=(false,eval c X.env)::starEach [] X.env:=by rfl):PA X [a,b,c] (tCons ta (tCons tb (tCons tc tNil))):=pa_cons ha (pa_cons hb (pa_cons hc pa_nil hs2) hs1) hs
end
def But (p:Addr) (H H':Hp):Prop:=∀ b o,H b=some o→b≠p→H' b=some o
theorem But.trans {p:Addr} {H H1 H2:Hp} (a:But p H H1) (b:But p H1 H2):But p H H2:=fun c o h n=>b c o (a c o h n) n
theorem Same.but {p:Addr} {H H':Hp} (a:Same H H'):But p H H':=fun b o h _=>a b o h
theorem Same.upd {H:Hp} {p:Addr} {o:HO} (h:H p=none):Same H (upd H p o):=fun b u e=>by rw [upd_ne (ne_of_none e h)]; exact e
theorem Same.sqT {K:PySem.W.Frag} {H H':Hp} {a:Addr} {xs:List V} (e:Same H H') (h:SqT K H a xs):SqT K H' a xs:=by
  rcases h with (h | ⟨o,h⟩) | h
  · exact .inl (.inl (e _ _ h))
  · exact .inl (.inr ⟨o,e _ _ h⟩)
  · exact .inr h
end L2
namespace L2
open PySem PySem.Spec PyProof.Rows
theorem ul1:∀ {us:List Value},us.length=1→∃ a,us=[a]
  | [a],_=>⟨a,rfl⟩
theorem ul2 {us:List Value} (h:us.length=2):∃ a b,us=[a,b]:=by
  cases us with
  | nil=>cases h
  | cons a r=>obtain ⟨b,rfl⟩:=ul1 (Nat.succ.inj h); exact ⟨a,b,rfl⟩
theorem ul3 {us:List Value} (h:us.length=3):∃ a b c,us=[a,b,c]:=by
  cases us with
  | nil=>cases h
  | cons a r=>obtain ⟨b,c,rfl⟩:=ul2 (Nat.succ.inj h); exact ⟨a,b,c,rfl⟩
theorem ul4 {us:List Value} (h:us.length=4):∃ a b c d,us=[a,b,c,d]:=by
  cases us with
  | nil=>cases h
  | cons a r=>obtain ⟨b,c,d,rfl⟩:=ul3 (Nat.succ.inj h); exact ⟨a,b,c,d,rfl⟩
theorem ul5 {us:List Value} (h:us.length=5):∃ a b c d e,us=[a,b,c,d,e]:=by
  cases us with
  | nil=>cases h
  | cons a r=>obtain ⟨b,c,d,e,rfl⟩:=ul4 (Nat.succ.inj h); exact ⟨a,b,c,d,e,rfl⟩
section
variable {K:PySem.W.Frag} {x qual p q r s t u:Str} {st:Stmt} {g:Addr} {fd:FuncData}
abbrev fnQ (x qual:Str) (st:Stmt) (kV doc pm:Value) (an:Option Addr) (cdv ct:Value):FuncData:=PySem.W.fnOf x qual (defArgs st) (defBody st) (defScope st) .none kV doc pm an cdv ct
theorem Fun.b0 (F:Fun K x qual st g fd) (h:∀ kV doc pm an cdv ct,bindArgs (fnQ x qual st kV doc pm an cdv ct) ⟨[],[]⟩=pure []):Binds K fd [] []:=F.binds fun kV doc pm an cdv ct us hl=>by
  obtain rfl:us=[]:=List.eq_nil_of_length_eq_zero hl
  exact h kV doc pm an cdv ct
theorem Fun.b1 (F:Fun K x qual st g fd) (h:∀ kV doc pm an cdv ct a,bindArgs (fnQ x qual st kV doc pm an cdv ct) ⟨[a],[]⟩=pure [(p,a)]):Binds K fd [p] []:=F.binds fun kV doc pm an cdv ct us hl=>by
  obtain ⟨a,rfl⟩:=ul1 hl
  exact h kV doc pm an cdv ct a
theorem Fun.b2 (F:Fun K x qual st g fd) (h:∀ kV doc pm an cdv ct a b,bindArgs (fnQ x qual st kV doc pm an cdv ct) ⟨[a,b],[]⟩=pure [(p,a),(q,b)]):Binds K fd [p,q] []:=F.binds fun kV doc pm an cdv ct us hl=>by
  obtain ⟨a,b,rfl⟩:=ul2 hl
  exact h kV doc pm an cdv ct a b
theorem Fun.b3 (F:Fun K x qual st g fd) (h:∀ kV doc pm an cdv ct a b c,bindArgs (fnQ x qual st kV doc pm an cdv ct) ⟨[a,b,c],[]⟩=pure [(p,a),(q,b),(r,c)]):Binds K fd [p,q,r] []:=F.binds fun kV doc pm an cdv ct us hl=>by
  obtain ⟨a,b,c,rfl⟩:=ul3 hl
  exact h kV doc pm an cdv ct a b c
theorem Fun.b4 (F:Fun K x qual st g fd) (h:∀ kV doc pm an cdv ct a b c d,bindArgs (fnQ x qual st kV doc pm an cdv ct) ⟨[a,b,c,d],[]⟩=pure [(p,a),(q,b),(r,c),(s,d)]):Binds K fd [p,q,r,s] []:=F.binds fun kV doc pm an cdv ct us hl=>by
  obtain ⟨a,b,c,d,rfl⟩:=ul4 hl
  exact h kV doc pm an cdv ct a b c d
theorem Fun.b5 (F:Fun K x qual st g fd) (h:∀ kV doc pm an cdv ct a b c d e,bindArgs (fnQ x qual st kV doc pm an cdv ct) ⟨[a,b,c,d,e],[]⟩=pure [(p,a),(q,b),(r,c),(s,d),(t,e)]):Binds K fd [p,q,r,s,t] []:=F.binds fun kV doc pm an cdv ct us hl=>by
  obtain ⟨a,b,c,d,e,rfl⟩:=ul5 hl
  exact h kV doc pm an cdv ct a b c d e
end
end L2
namespace L2
open PySem PySem.Spec PyProof.Rows
section
variable {P:Program} {w:World} {H H':Hp} {h h':Heap} {a:Addr} {o:HO}
theorem ObjOk.there (x:ObjOk P w H h a o):∃ ob,h.get? a=some ob:=by
  cases o with
  | lst xs=>obtain ⟨_,_,_,_,e⟩:=x; exact ⟨_,e⟩
  | tup xs=>obtain ⟨_,_,_,ob,e,_⟩:=x; exact ⟨_,e⟩
  | dK kvs=>obtain ⟨_,_,_,_,o,_,_,e,_⟩:=x; exact ⟨_,e⟩
  | dT kvs=>obtain ⟨_,_,_,_,o,_,_,e,_⟩:=x; exact ⟨_,e⟩
  | set S n=>obtain ⟨o,_,_,_,e,_⟩:=x; exact ⟨_,e⟩
  | ins C dx fs=>obtain ⟨_,_,_,e,_⟩:=x; exact ⟨_,e⟩
  | own y=>exact x
  | xd fs=>obtain ⟨_,⟨_,_,_,e,_⟩,_⟩:=x; exact ⟨_,e⟩
  | rng lo hi=>obtain ⟨_,_,_,e⟩:=x; exact ⟨_,e⟩
  | frz ob u=>obtain ⟨e,_⟩:=x; exact ⟨_,e⟩
  | tbl ps=>exact ⟨_,x⟩
  | met f y=>exact ⟨_,x⟩
  | ext φ=>obtain ⟨_,⟨_,e⟩,_⟩:=x; exact ⟨_,e⟩
theorem HOk.none (x:HOk P w H h) (e:h.get? a=.none):H a=.none:=by
  cases q:H a with
  | none=>rfl
  | some u=>obtain ⟨_,e'⟩:=(x a u q).there; rw [e] at e'; cases e'
theorem funs_un {base:Heap} {fs:List Addr} (u:Un fs [] H H' h h'):∀ {l:List Env},(∀ b ∈ frs l,b ∈ fs∧H b=.none)→h.FunFrames base l→h'.FunFrames base l
  | [],_,_=>trivial
  | env::r,hs,hl=>by
    obtain ⟨hk,⟨L,o,hf,hn,ho,hd⟩,hr⟩:=hl
    have hL:=hs L (by unfold frs; rw [List.filterMap_cons,hf]; exact List.mem_cons_self)
    obtain ⟨sl,e⟩:=u.slot L o ho hL.2 hL.1 (by simp)
    exact ⟨hk,⟨L,_,hf,hn,e,hd⟩,funs_un u (fun b hb=>hs b (by unfold frs; rw [List.filterMap_cons,hf]; exact List.mem_cons_of_mem _ hb)) hr⟩
end
inductive XRec (g h:Heap) (H':Hp) (a:Addr) (cls:Value):Bool→Prop
  | new (oe:Obj) (vs:Array Value) (he:h.get? a=some oe) (hc:oe.cls=cls) (hd:oe.data=.fields vs) (hdi:oe.dict=none) (hn:H' a=none) (hg:g.get? a=none) (h1:vs[1]?=some .none):XRec g h H' a cls true
  | old (oe:Obj) (vs:Array Value) (he:h.get? a=some oe) (hc:oe.cls=cls) (hd:oe.data=.fields vs) (hdi:oe.dict=none) (hn:H' a=none) (hg:g.get? a=none) (T:Addr) (oT:Obj) (ts:Array Value) (h1:vs[1]?=some (.ref T)) (ht:T≠a) (hT:h.get? T=some oT)
      (hdT:oT.data=.fields ts) (h3:ts[3]?=some .none) (hnT:H' T=none) (hgT:g.get? T=none):XRec g h H' a cls false
theorem XRec.base {g h:Heap} {H':Hp} {a:Addr} {cls:Value} {b:Bool} (x:XRec g h H' a cls b):H' a=none∧g.get? a=none:=by
  cases x with
  | new oe vs he hc hd hdi hn hg=>exact ⟨hn,hg⟩
  | old oe vs he hc hd hdi hn hg=>exact ⟨hn,hg⟩
structure EX (P:Program) (w:World) (st:List Env) (H:Hp) (s:Shared) (new:Bool) (cls:Value) (a:Addr) (H':Hp) (s':Shared):Prop where
  os:s'.os=s.os
  bare:AllBare s'.gens
  un:Un (frs st) [] H H' s.heap s'.heap
  hok:HOk P w H' s'.heap
  rc:XRec s.heap s'.heap H' a cls new
def CX1 (P:Program) (w:World):CXT:=fun outer H s E e s'=>∃ a cls H',e=.ref a∧EX P w outer H s false cls a H' s'∧E cls none H'
section
variable {X:Cx} {pins:List (Addr × Obj)} {σ:St} {H H':Hp} {s s₁:Shared} {cls:Value} {a:Addr} {new:Bool}
theorem EX.inv (I:Inv X pins σ H s) (x:EX X.prog X.w X.stack H s new cls a H' s₁):Inv X pins σ H' s₁:=I.call' x.os x.un x.hok x.bare fun b hb=>by simp at hb
structure Noted (fs:List Addr) (e:Addr) (oe:Obj) (h h₃:Heap):Prop where
  stay:∀ b o,b ∉ fs→b≠e→h.get? b=some o→h₃.get? b=some o
  slot:∀ b ∈ fs,∀ o,h.get? b=some o→∃ sl,h₃.get? b=some { o with slots:=sl }
  tr:∃ T oT ts,h.objs.size≤T∧h₃.get? e=some (oe.mapFields fun z=>z.setIfInBounds 1 (.ref T))∧h₃.get? T=some oT∧oT.data=.fields ts∧ts[3]?=some .none
theorem x_entry {M:Model} {A:Around} {E:Value→Shared→Prop} {s:Shared} {base:Heap} {env:Env} {outer:List Env} {L e:Addr} {oe:Obj} {vs:Array Value} {head:Value} {hadNext:Bool} {Q:Unit→Shared→Prop}
    (hfr:A.frames=some (env::outer)) (hl:s.heap.FunFrames base (env::outer)) (hf:env.frame=some L) (he:s.heap.get? e=some oe) (hd:oe.data=.fields vs) (hsz:1 < vs.size) (h:∀ h₃,Noted (frs (env::outer)) e oe s.heap h₃→Q () { s with heap:=h₃ }) :
    wpAny M A (do let a ← frameOf env; let pl ← entryPlaceOf L hadNext; let b ← EntryCells.newEntry head a .none (rawInt L) .none pl; setField (.ref e) 1 b) (fun _ s'=>wpAny M A (setFlight (.ref e) none) Q E s') E s:=by
  have hene:e ∉ frs (env::outer):=fun hm=>by
    obtain ⟨_,o,ho,hnf⟩:=hl.mem hm
    rw [he] at ho; cases ho; exact hnf vs hd
  refine wpAny_bind (wpAny_frameOf_fun hfr hl hf fun h₁ hs₁=>wpAny_bind (wpAny_entryPlaceOf fun pl hpl=>?_))
  unfold EntryCells.newEntry newFields
  refine wpAny_bind (wpAny_newObj_type ?_ (hpl.sizeOk5 _ _ _ _ _))
  generalize htb:({ cls:=.type "traceback",dict:=none,data:=.fields ([head,.ref L,.none,rawInt L,.none]++(if pl.isEmpty then List.replicate 6 Value.none else pl)).toArray }:Obj)=tb
  have he₁:h₁.get? e=some oe:=(hs₁.2.1 e hene).trans he
  have he₂:(h₁.push tb).get? e=some oe:=Heap.get?_push_of_some _ he₁
  refine wpAny_setField he₂ hd hsz ?_
  have nTe:h₁.objs.size≠e:=Nat.ne_of_gt (Heap.lt_size he₁)
  have hd₃:=Obj.data_mapFields hd fun z=>z.setIfInBounds 1 (Value.ref h₁.objs.size)
  have he₃:=Heap.get?_update_self (Obj.mapFields fun z=>z.setIfInBounds 1 (Value.ref h₁.objs.size)) he₂ (Obj.isFreed_of_fields hd₃)
  have dtb:tb.data=.fields ([head,.ref L,.none,rawInt L,.none]++(if pl.isEmpty then List.replicate 6 Value.none else pl)).toArray:=by rw [← htb]
  have htbf:tb.isFreed=false:=Obj.isFreed_of_fields dtb
  have hT₃:=(Heap.get?_update_other (h₁.push tb) (Obj.mapFields fun z=>z.setIfInBounds 1 (Value.ref h₁.objs.size)) (Ne.symm nTe)).trans (Heap.get?_push_size h₁ htbf)
  unfold setFlight
  refine wpAny_bind (wpAny_field he₃ hd₃ (x:=.ref h₁.objs.size) (by simp [hsz]) ?_)
  rw [if_pos (show (Value.ref h₁.objs.size != Value.none)=true by simp)]
  have sz5:3 < ([head,.ref L,.none,rawInt L,.none]++(if pl.isEmpty then List.replicate 6 Value.none else pl)).toArray.size:=by
    rw [List.size_toArray,List.length_append]
    exact Nat.lt_of_lt_of_le (by decide:3 < 5) (Nat.le_add_right _ _)
  refine wpAny_setField hT₃ dtb sz5 (h _ ⟨fun b o hb hbe hbo=>?_,fun b hb o hbo=>?_,?_⟩)
  · have hb1:h₁.get? b=some o:=(hs₁.2.1 b hb).trans hbo
    rw [Heap.get?_update_other _ _ (Nat.ne_of_gt (Heap.lt_size hb1)),Heap.get?_update_other _ _ (Ne.symm hbe)]
    exact Heap.get?_push_of_some _ hb1
  · obtain ⟨sl,hb1⟩:=hs₁.2.2 b o hbo
    refine ⟨sl,?_⟩
    rw [Heap.get?_update_other _ _ (Nat.ne_of_gt (Heap.lt_size hb1)),Heap.get?_update_other _ _ (fun q=>hene (by rw [q]; exact hb))]
    exact Heap.get?_push_of_some _ hb1
  · refine ⟨h₁.objs.size,_,_,Nat.le_of_eq hs₁.1.symm,?_,Heap.get?_update_self _ hT₃ (Obj.isFreed_of_fields (Obj.data_mapFields dtb _)),Obj.data_mapFields dtb _,?_⟩
    · rw [Heap.get?_update_other _ _ nTe]; exact he₃
    · rw [Array.getElem?_setIfInBounds_self_of_lt sz5]
      rfl
theorem EX.fin (I:Inv X pins σ H s) (x:EX X.prog X.w X.stack H s new cls a H' s₁) {oe:Obj} {vs:Array Value} (he:s₁.heap.get? a=some oe) (hc:oe.cls=cls) (hd:oe.data=.fields vs) (hdi:oe.dict=none) (hv:1 < vs.size) {T0:Option Addr}
    (hT0:∀ T,T0=some T→H' T=none∧s.heap.get? T=none) {g h₃:Heap} (hg:∀ b o,(∀ T,T0=some T→b≠T)→s₁.heap.get? b=some o→g.get? b=some o) (hgf:∀ b ∈ frs X.stack,∀ o,s₁.heap.get? b=some o→g.get? b=some o) (hgs:s₁.heap.objs.size≤g.objs.size)
    (hge:g.get? a=some oe) (nt:Noted (frs X.stack) a oe g h₃):EX X.prog X.w X.stack H s false cls a H' { s₁ with heap:=h₃ }:=by
  obtain ⟨stay,slot,T,oT,ts,hTs,heT,hT,hdT,h3⟩:=nt
  obtain ⟨b1,b2⟩:=x.rc.base
  have frm:∀ b ∈ frs X.stack,∀ o,s.heap.get? b=some o→∃ sl,h₃.get? b=some { o with slots:=sl }:=fun b hb o e=>by
    obtain ⟨sl,e1⟩:=x.un.slot b o e (I.stkFree b hb) hb (by simp)
    obtain ⟨sl',e2⟩:=slot b hb _ (hgf b hb _ e1)
    exact ⟨sl',e2⟩
  have frn:∀ b ∈ frs X.stack,H' b=none:=fun b hb=>by
    obtain ⟨_,o,ho,_⟩:=I.stack.mem hb
    exact x.un.free b o ho (I.stkFree b hb) (by simp)
  refine ⟨x.os,x.bare,⟨fun b o e n hb _=>?_,fun b o e n hb _=>frm b hb o e,x.un.free,fun b o e _=>?_,x.un.tups,x.un.frzs,x.un.tbls⟩,fun b ob e=>?_,?_⟩
  · refine stay b o hb (fun q=>by rw [q,b2] at e; cases e) (hg b o (fun T hT q=>by rw [q,(hT0 T hT).2] at e; cases e) (x.un.keep b o e n hb (by simp)))
  · by_cases hm:b ∈ frs X.stack
    · obtain ⟨sl,e2⟩:=frm b hm o e
      exact ⟨_,e2⟩
    · obtain ⟨o',e1⟩:=x.un.there b o e (by simp)
      exact ⟨o',stay b o' hm (fun q=>by rw [q,b2] at e; cases e) (hg b o' (fun T hT q=>by rw [q,(hT0 T hT).2] at e; cases e) e1)⟩
  · refine (x.hok b ob e).stay (fun c u hc q=>?_) (fun _ q=>q) fun _ _ q=>q
    have tr:∃ v,H' c=some v:=by
      rcases hc with rfl | hc
      · exact ⟨_,e⟩
      · exact ⟨_,hc⟩
    obtain ⟨v,tr⟩:=tr
    refine stay c u (fun hm=>?_) (fun z=>?_) (hg c u (fun T hT z=>?_) q)
    · rw [frn c hm] at tr; cases tr
    · rw [z,b1] at tr; cases tr
    · rw [z,(hT0 T hT).1] at tr; cases tr
  · have hTn:s₁.heap.get? T=none:=Heap.get?_none_of_le (Nat.le_trans hgs hTs)
    have hTa:T≠a:=fun z=>by rw [z,he] at hTn; cases hTn
    refine .old _ _ heT ((Obj.cls_mapFields ..).trans hc) (Obj.data_mapFields hd _) ?_ b1 b2 T oT ts (by simp [hv]) hTa hT hdT h3 (x.hok.none hTn) ?_
    · obtain ⟨c0,d0,dt,sl⟩:=oe
      dsimp only at hd hdi
      subst hd hdi
      rfl
    · cases q:s.heap.get? T with
      | none=>rfl
      | some o=>obtain ⟨o',e2⟩:=x.un.there T o q (by simp); rw [hTn] at e2; cases e2
theorem note_ex {M:Model} {A:Around} {Q:Unit→Shared→Prop} {E:Value→Shared→Prop} (I:Inv X pins σ H s) (hst:X.stack=X.env::X.outer) (hf:X.env.frame=some X.env.locals) (hA:A.frames=some X.stack) (x:EX X.prog X.w X.stack H s new cls a H' s₁)
    (h:∀ h₃,EX X.prog X.w X.stack H s false cls a H' { s₁ with heap:=h₃ }→Q () { s₁ with heap:=h₃ }):wpAny M A (noteFrame (.ref a) X.env) (fun _ s₂=>wpAny M A (setFlight (.ref a) none) Q E s₂) E s₁:=by
  have hfun:s₁.heap.FunFrames X.base X.stack:=funs_un x.un (fun b hb=>⟨hb,I.stkFree b hb⟩) I.stack
  have rc:=x.rc
  cases rc with
  | new oe vs he hc hd hdi hn hg h1 =>
    unfold noteFrame
    simp only [hf]
    refine wpAny_bind (wpAny_field he hd h1 ?_)
    rw [if_neg (by decide)]
    rw [hst] at hA hfun
    refine x_entry hA hfun hf he hd (Array.getElem?_eq_some_iff.mp h1).1 fun h₃ nt=>h h₃ (x.fin I he hc hd hdi (Array.getElem?_eq_some_iff.mp h1).1 (T0:=none) (fun _ z=>nomatch z) (g:=s₁.heap) (fun _ _ _ e=>e) (fun _ _ _ e=>e) (Nat.le_refl _) he ?_)
    rw [hst]
    exact nt
  | old oe vs he hc hd hdi hn hg T oT ts h1 ht hT hdT h3 hnT hgT =>
    unfold noteFrame
    simp only [hf]
    refine wpAny_bind (wpAny_field he hd h1 ?_)
    rw [if_pos (show (Value.ref T != Value.none)=true by simp)]
    refine wpAny_bind (wpAny_field hT hdT h3 ?_)
    rw [if_neg (show ¬ ((Value.none == rawInt X.env.locals)=true) by simp [rawInt])]
    refine wpAny_bind (wpAny_setField hT hdT (Array.getElem?_eq_some_iff.mp h3).1 ?_)
    have oth:∀ c,c≠T→(s₁.heap.update T (Obj.mapFields fun z=>z.setIfInBounds 3 Value.none)).get? c=s₁.heap.get? c:=fun c hc=>Heap.get?_update_other _ _ (Ne.symm hc)
    have nrec:∀ c o,s₁.heap.get? c=some o→(∀ z,o.data≠.fields z)→c≠T:=fun c o hc hnf q=>by rw [q,hT] at hc; cases hc; exact hnf ts hdT
    have nfr:∀ c ∈ frs X.stack,c≠T:=fun c hc q=>by
      obtain ⟨_,o,ho,hnf⟩:=hfun.mem hc
      exact nrec c o ho hnf q
    have hfun2:(s₁.heap.update T (Obj.mapFields fun z=>z.setIfInBounds 3 Value.none)).FunFrames X.base X.stack:=hfun.of_keeps fun c o hc hnf=>⟨o,(oth c (nrec c o hc hnf)).trans hc,rfl⟩
    rw [hst] at hA hfun2
    have hv:=(Array.getElem?_eq_some_iff.mp h1).1
    refine x_entry hA hfun2 hf ((oth a (Ne.symm ht)).trans he) hd hv fun h₃ nt=>h h₃ (x.fin I he hc hd hdi hv (T0:=some T) (fun T' z=>by cases z; exact ⟨hnT,hgT⟩) (g:=s₁.heap.update T (Obj.mapFields fun z=>z.setIfInBounds 3 Value.none)) (fun c o n e=>(oth c (n T rfl)).trans e) (fun c hc o e=>(oth c (nfr c hc)).trans e) (Nat.le_of_eq (Heap.size_after_update ..).symm) ((oth a (Ne.symm ht)).trans he) ?_)
    rw [hst]
    exact nt
theorem leave_ex {M:Model} {A:Around} {Q:Unit→Shared→Prop} {E:Value→Shared→Prop} (I:Inv X pins σ H s) (hst:X.stack=X.env::X.outer) (hf:X.env.frame=some X.env.locals) (hA:A.frames=some X.stack) (x:EX X.prog X.w X.stack H s new cls a H' s₁)
    (h:∀ h₃,EX X.prog X.w X.stack H s false cls a H' { s₁ with heap:=h₃ }→Q () { s₁ with heap:=h₃ }):wpAny M A (leaving X.env (.ref a)) Q E s₁:=by
  unfold leaving
  exact wpAny_bind (note_ex I hst hf hA x h)
theorem EX.out (I:Inv X pins σ H s) (hex:X.ex=[]) (x:EX X.prog X.w X.stack H s false cls a H' s₁):EX X.prog X.w X.outer X.H₀ X.s₀ false cls a H' s₁:=by
  have base:=I.base
  rw [hex] at base
  have gone:∀ {b:Addr},s.heap.get? b=none→X.s₀.heap.get? b=none:=fun {b} e=>by
    cases q:X.s₀.heap.get? b with
    | none=>rfl
    | some o=>obtain ⟨o',e2⟩:=base.there b o q (by simp); rw [e] at e2; cases e2
  have nst:∀ {b:Addr} {o:Obj},X.s₀.heap.get? b=some o→b ∉ X.fs→b ∉ frs X.stack:=fun {b o} e n hm=>by
    rcases List.mem_cons.mp (I.stkSub b hm) with z | z
    · exact absurd (Nat.lt_of_lt_of_le (Heap.lt_size e) I.ok.above) (by rw [z]; exact Nat.lt_irrefl _)
    · exact n z
  refine ⟨x.os.trans I.os,x.bare,⟨fun b o e n hb _=>x.un.keep b o (base.keep b o e n hb (by simp)) (base.free b o e n (by simp)) (nst e hb) (by simp),fun b o e n hb _=>?_,fun b o e n _=>?_,fun b o e _=>?_,fun b xs e=>x.un.tups b xs (base.tups b xs e),fun b o u e=>x.un.frzs b o u (base.frzs b o u e),fun b ps e=>?_⟩,x.hok,?_⟩
  · obtain ⟨sl,e1⟩:=base.slot b o e n hb (by simp)
    obtain ⟨sl',e2⟩:=x.un.any e1 (base.free b o e n (by simp)) (by simp)
    exact ⟨sl',e2⟩
  · obtain ⟨sl,e1⟩:=base.any e n (by simp)
    exact x.un.free b _ e1 (base.free b o e n (by simp)) (by simp)
  · obtain ⟨o',e1⟩:=base.there b o e (by simp)
    exact x.un.there b o' e1 (by simp)
  · obtain ⟨m1,e1⟩:=base.tbls b ps e
    obtain ⟨m2,e2⟩:=x.un.tbls b _ e1
    exact ⟨m1++m2,by rw [e2,Array.append_assoc]⟩
  · have rc:=x.rc
    cases rc with
    | old oe vs he hc hd hdi hn hg T oT ts h1 ht hT hdT h3 hnT hgT=>exact .old oe vs he hc hd hdi hn (gone hg) T oT ts h1 ht hT hdT h3 hnT (gone hgT)
end
structure Wish (X:Cx) (E:XK):Prop where
  go:∀ (pins:List (Addr × Obj)) (σ:St) (H:Hp) (s:Shared) (new:Bool) (cls:Value) (a:Addr) (H':Hp) (s₁:Shared),Inv X pins σ H s→EX X.prog X.w X.stack H s new cls a H' s₁→E cls none H'→X.xe (.ref a) s₁
theorem Wish.pass {X:Cx} {E:XK} (W:Wish X E):Passes (CX1 X.prog X.w) X E:=fun pins σ H s e s' I ⟨a,cls,H',e1,x,q⟩=>by
  subst e1
  exact W.go pins σ H s false cls a H' s' I x q
theorem wish_def {P:Program} {w:World} {K:PySem.W.Frag} {mg:Str→Option Value} {base:Heap} {N:List Str} {qual:Str} {scope:Scope} {f:Addr} {cd:Value} {A:Around} {outer:List Env} {s:Shared} {H:Hp} {E:XK}:Wish (cxOf (CX1 P w) P w K mg base N qual scope f cd A outer s H E) E where
  go:=fun pins σ H1 s1 new cls a H' s₁ I x q=>by
    show wpAny (model P w) (A.deeper (envOfC qual scope s.heap.objs.size f cd)) (leaving (envOfC qual scope s.heap.objs.size f cd) (.ref a)) _ _ s₁
    refine leave_ex I rfl rfl I.ok.frames x fun h₃ x'=>⟨a,cls,H',rfl,x'.out I rfl,q⟩
end L2
namespace L2
open PySem PySem.Spec PyProof.Rows
theorem own_at {K:PySem.W.Frag} {h:Heap} {C:Addr} {bmB:List Value} {newId:String} (X:K.In h) (q:PySem.W.excIn K C bmB newId=true) :
    ∃ bm N nm q bs hdct sn sub ab col dd k0 k1 k2 k3 k5 mN,h.get? C=some (excClassObj nm q C N bs bm hdct sn sub ab col dd k0 k1 k2 k3 k5 newId)∧h.Ns N mN∧mN "__init__"=none∧OwnTail h bmB bm:=by
  unfold PySem.W.excIn at q
  split at q
  · rename_i dd cd sl ho
    split at q
    · rename_i C' bm k0 k1 k2 k3 n k5 hm hs
      simp only [Bool.and_eq_true,beq_iff_eq,Bool.not_eq_true'] at q
      obtain ⟨⟨⟨⟨⟨rfl,rfl⟩,hdel⟩,ht⟩,hok⟩,hni⟩:=q
      obtain ⟨nm,bs,mro,ns,qn,hd,sn,sub,ab,col,del⟩:=cd
      dsimp only at hm hdel hok hni
      subst hm hdel
      have hsl:sl=#[k0,k1,k2,k3,some (.builtin n),k5]:=by obtain ⟨l⟩:=sl; simp only at hs; rw [hs]
      subst hsl
      exact ⟨bm,ns,nm,qn,bs,hd,sn,sub,ab,col,dd,k0,k1,k2,k3,k5,_,X _ _ ho,.of_isNs (PySem.W.isNs_of_in X hok),PySem.W.nsMap_none_of_in X hok hni,PySem.W.tail_of_in X ht⟩
    · cases q
  · cases q
abbrev bmV:List Value:=[.type "ValueError",.type "Exception",.type "BaseException",.type "object"]
structure XCls (K:PySem.W.Frag) (mg:Str→Option Value) (x:Str) (C:Addr):Prop where
  m:mg x=some (.ref C)
  ok:PySem.W.excIn K C bmV "ValueError.__new__"=true
inductive tRaise (t:TA) (cls:Value) (E:XK) (D:Ends) (σ:St) (H:Hp):Prop
  | mk (h:t σ H fun vs H1=>vs.length≤sizeLine∧E cls none H1):tRaise t cls E D σ H
section
variable {X:Cx} {E:XK} {x:Str} {C:Addr} {e₀:Expr} {rest:List Expr} {t:TA} {np cpos pos:Pos}
theorem ps_raise (W:Wish X E) (hc:X.calm=true) (hC:XCls X.K X.mg x C) (ha:PA X (e₀::rest) t) (hg:Gl X x:=by rfl) (he:starEach (e₀::rest) X.env=(false,eval e₀ X.env)::starEach rest X.env:=by rfl)
    (hpl:(backTo cpos (starEach rest X.env)).any (·.1)=false:=by rfl) (hdb:(x == ("__debug__" : Str))=false:=by decide):PS X (.Raise (some (.Call (.Name x np) (e₀::rest) [] cpos)) none pos) (tRaise t (.ref C) E):=by
  refine ⟨?_⟩
  intro pins s σ H D I h
  obtain ⟨h⟩:=h
  obtain ⟨bm,N,nm,q,bs,hdct,sn,sub,ab,col,dd,k0,k1,k2,k3,k5,mN,hCo,hN,hni,T⟩:=own_at I.mod.kin hC.ok
  refine wpAny_Raise_call_subT (C:=C) (nm:=nm) (q:=q) (N:=N) (bs:=bs) (bm:=bm) (hdct:=hdct) (sn:=sn) (sub:=sub) (ab:=ab) (col:=col) (dd:=dd) (k0:=k0) (k1:=k1) (k2:=k2) (k3:=k3) (k5:=k5) PySem.F.excBase_ValueError (mN:=mN)
    (T.hasType PySem.F.excBase_ValueError.hasBase) (I.ok.hd hc) (by rw [he]; show (false || (backTo cpos (starEach rest X.env)).any (·.1))=false; rw [hpl]; rfl) hni (ld_glob I hg hC.m ⟨rfl,?_⟩ hdb)
  have hw:=ha cpos pins s σ H _ I h
  rw [he] at hw ⊢
  refine Calls.evalArgs_plain (wpAny_mono hw (fun us s₂ h₂=>?_) fun _ _ y=>y)
  obtain ⟨vs,H1,I1,r,hl,qe⟩:=h₂
  refine ⟨rfl,by rw [← r.length]; exact hl,I1.bk _ _ hCo,hN.keeps I1.bk,T.keeps I1.bk,fun h' e hm=>?_⟩
  obtain ⟨tt,he',_,_⟩:=hm.there
  exact W.go pins σ H1 s₂ true (.ref C) e H1 { s₂ with heap:=h' } I1 ⟨rfl,I1.bare,Un.kept hm.keeps,I1.hok.kept hm.keeps,.new _ _ he' rfl rfl rfl (I1.hok.none hm.new) hm.new rfl⟩ qe
end
def CanX (P:Program) (w:World) (K:PySem.W.Frag) (mg:Str→Option Value) (base:Heap) (k:Nat) (x:Str) (ps:List Str) (sp:Sp):Prop :=
  ∃ f fd,FnOk P w K mg base (CX1 P w) k f fd ps sp∧mg x=some (.ref f)∧PySem.W.keepIn K (.ref f)=true∧Binds K fd ps []
section
variable {P:Program} {w:World} {K:PySem.W.Frag} {mg:Str→Option Value} {base:Heap}
theorem fn_canX {x:Str} {st:Stmt} {N ps:List Str} {k:Nat} {sp:Sp} (h:∃ f fd,Fn K mg x st ps f fd) (S:FnScope N ps (defScope st)) (len:∀ vs H Q E,sp vs H Q E→vs.length=ps.length)
    (hbody:∀ (f:Addr) (cdv:Value) (A:Around) (outer:List Env) (s:Shared) (H:Hp) (vs:List V) (Q:VK) (E:XK),Room k (A.deeper (envOfC x (defScope st) s.heap.objs.size f cdv))→Wish (cxOf (CX1 P w) P w K mg base N x (defScope st) f cdv A outer s H E) E→sp vs H Q E →
      ∃ t,PSs (cxOf (CX1 P w) P w K mg base N x (defScope st) f cdv A outer s H E) (defBody st) t∧t { nx:=fun _ H'=>Q .non H',rt:=Q } (start N vs) H):CanX P w K mg base (k + 1) x ps sp:=by
  obtain ⟨f,fd,F⟩:=h
  obtain ⟨oc,od,kV,doc,pm,an,cdv,ct,osl,e,lk,hcd⟩:=F.fn.ex
  refine ⟨f,fd,?_,F.m,F.fn.kp,F.b⟩
  subst e
  exact fn_of lk hcd S len fun A outer s H vs Q E hr hsp=>hbody f cdv A outer s H vs Q E hr wish_def hsp
end
section
variable {X:Cx} {k k':Nat} {x:Str} {ps:List Str} {sp:Sp} {p pos:Pos} {e:Expr} {es:List Expr} {t:TA} {E:XK}
theorem pe_canX (h:CanX X.prog X.w X.K X.mg X.base k x ps sp) (W:Wish X E) (hr:Room k' X.A) (ha:PA X (e::es) t) (hg:Gl X x:=by rfl) (hk:k≤k':=by decide) (hdb:(x == ("__debug__" : Str))=false:=by decide)
    (hs:starEach (e::es) X.env=(false,eval e X.env)::starEach es X.env:=by rfl) (hpl:(backTo pos (starEach es X.env)).any (·.1)=false:=by rfl):PE X (.Call (.Name x p) (e::es) [] pos) (tCall sp [] E t):=by
  obtain ⟨f,fd,F,hm,kp,b⟩:=h
  exact pe_call F (hr.mono hk) hg hm kp b .nil W.pass ha hdb hs hpl
end
abbrev Cx.tryC (X:Cx) (pn:List (Addr × Obj)) (xe:Value→Shared→Prop):Cx:={ X with pn:=pn,xe:=xe }
abbrev Cx.mark (X:Cx) (a:Addr):Cx:={ X with A:=X.A.mark (some (.ref a)),calm:=false,xe:=fun _ _=>False }
section
variable {X:Cx} {pins pins2:List (Addr × Obj)} {σ:St} {H:Hp} {s:Shared} {xe:Value→Shared→Prop} {a:Addr}
theorem Cx.Ok.tryC (ok:X.Ok) (pn:List (Addr × Obj)) (xe:Value→Shared→Prop):(X.tryC pn xe).Ok :=
  ⟨ok.mod,ok.kind,ok.glob,ok.blt,ok.above,ok.inj,ok.has,ok.cab,ok.hd,ok.frames,ok.stk,ok.exf,ok.bs,ok.bsz,ok.noex,ok.exfs,ok.funs,ok.frf⟩
theorem Cx.Ok.untry {pn:List (Addr × Obj)} (ok:(X.tryC pn xe).Ok):X.Ok :=
  ⟨ok.mod,ok.kind,ok.glob,ok.blt,ok.above,ok.inj,ok.has,ok.cab,ok.hd,ok.frames,ok.stk,ok.exf,ok.bs,ok.bsz,ok.noex,ok.exfs,ok.funs,ok.frf⟩
theorem Inv.tryC (I:Inv X pins σ H s) (xe:Value→Shared→Prop):Inv (X.tryC (X.pn++pins) xe) [] σ H s :=
  ⟨I.ok.tryC _ _,I.os,I.bare,I.base,I.loc,I.cell,I.free,I.freeC,fun p hp=>I.pin p (by simpa using hp),I.hok,I.len⟩
theorem Inv.untry (I:Inv (X.tryC (X.pn++pins) xe) pins2 σ H s):Inv X pins σ H s :=
  ⟨I.ok.untry,I.os,I.bare,I.base,I.loc,I.cell,I.free,I.freeC,fun p hp=>I.pin p (List.mem_append_left _ hp),I.hok,I.len⟩
theorem SP.untry {D:Ends} {f:Flow} {s':Shared} (h:SP (X.tryC (X.pn++pins) xe) pins2 D f s'):SP X pins D f s':=by
  cases f with
  | next=>obtain ⟨σ',H',I,q⟩:=h; exact ⟨σ',H',I.untry,q⟩
  | brk=>obtain ⟨σ',H',I,q⟩:=h; exact ⟨σ',H',I.untry,q⟩
  | cont=>obtain ⟨σ',H',I,q⟩:=h; exact ⟨σ',H',I.untry,q⟩
  | ret u=>obtain ⟨v,σ',H',I,r,q⟩:=h; exact ⟨v,σ',H',I.untry,r,q⟩
theorem Inv.mark (I:Inv X pins σ H s) (a:Addr):Inv (X.mark a) pins σ H s :=
  ⟨⟨I.ok.mod,I.ok.kind,I.ok.glob,I.ok.blt,I.ok.above,I.ok.inj,I.ok.has,I.ok.cab,(fun z=>nomatch z),I.ok.frames,I.ok.stk,I.ok.exf,I.ok.bs,I.ok.bsz,I.ok.noex,I.ok.exfs,I.ok.funs,I.ok.frf⟩,I.os,I.bare,I.base,I.loc,I.cell,I.free,I.freeC,I.pin,I.hok,I.len⟩
theorem Inv.unmark (ok:X.Ok) (I:Inv (X.mark a) pins σ H s):Inv X pins σ H s:=⟨ok,I.os,I.bare,I.base,I.loc,I.cell,I.free,I.freeC,I.pin,I.hok,I.len⟩
end
def PHs (X:Cx) (hs:List ExceptHandler) (th:Value→TS):Prop :=
  ∀ (pins:List (Addr × Obj)) (s:Shared) (σ:St) (H:Hp) (D:Ends) (a:Addr) (cls:Value) (g:Heap),Inv X pins σ H s→XRec g s.heap H a cls false→X.s₀.heap.get? a=none→(∀ p ∈ X.pn++pins,p.1≠a)→th cls D σ H→wpAny (model X.prog X.w) X.A (handleBy (.ref a) X.env hs) (SP X pins D) X.xe s
section
variable {X:Cx} {body:List Stmt} {h₀:ExceptHandler} {hs:List ExceptHandler} {t:XK→TS} {th:Value→TS} {pos:Pos}
end
end L2
namespace L2
open PySem PySem.Spec PyProof.Rows
theorem set3 {ts:Array Value} (h:ts[3]?=some Value.none):ts.setIfInBounds 3 Value.none=ts:=by
  obtain ⟨hl,e⟩:=Array.getElem?_eq_some_iff.mp h
  refine Array.ext (by simp) fun i h1 h2=>?_
  rw [Array.getElem_setIfInBounds h2]
  by_cases hi:3=i
  · subst hi; simp [e]
  · simp [hi]
theorem map3 {o:Obj} {ts:Array Value} (hd:o.data=.fields ts) (h:ts[3]?=some Value.none):Obj.mapFields (fun z=>z.setIfInBounds 3 Value.none) o=o:=by
  obtain ⟨c,d,dt,sl⟩:=o
  dsimp only at hd
  subst hd
  unfold Obj.mapFields
  simp [set3 h]
theorem keep3 {h:Heap} {T:Addr} {oT:Obj} {ts:Array Value} (hT:h.get? T=some oT) (hd:oT.data=.fields ts) (h3:ts[3]?=some Value.none):∀ b u,h.get? b=some u→(h.update T (Obj.mapFields fun z=>z.setIfInBounds 3 Value.none)).get? b=some u:=fun b u e=>by
  by_cases hb:b=T
  · subst hb
    rw [hT] at e
    cases e
    rw [Heap.get?_update_self _ hT (by rw [map3 hd h3]; exact Obj.isFreed_of_fields hd),map3 hd h3]
  · rw [Heap.get?_update_other _ _ (Ne.symm hb)]; exact e
section
variable {X:Cx} {x n:Str} {C:Addr} {b₀:Stmt} {suite:List Stmt} {rest:List ExceptHandler} {pos np:Pos} {th:Value→TS}
theorem ph_nil:PHs X [] (fun _ _ _ _=>False):=fun _ _ _ _ _ _ _ _ _ _ _ _ h=>h.elim
theorem h_test {pins:List (Addr × Obj)} {σ:St} {H:Hp} {s:Shared} {a:Addr} {cls:Value} {g:Heap} {b:Bool} {name:Option Str} {Q:Flow→Shared→Prop} (I:Inv X pins σ H s) (xr:XRec g s.heap H a cls false) (hC:X.mg x=some (.ref C)) (hg:Gl X x) (hb:PySem.W.exmOne X.K cls (.ref C)=some b) (hdb:(x == ("__debug__" : Str))=false)
    (h:if b=true then codeAny (model X.prog X.w) (X.A.mark (some (.ref a))) (.handlers (.ref a) [.ExceptHandler none name (b₀::suite) pos] X.env) (fun r s₂=>match r with
          | .ok f=>(match name with | none=>Q f s₂ | some n=>wpAny (model X.prog X.w) X.A (do bindName X.env n .none; unbindBehindTheSuite X.env n pos) (fun _ s₃=>Q f s₃) X.xe s₂)
          | .error e=>cameBackBy (model X.prog X.w) X.A X.env X.xe e s₂) s
      else wpAny (model X.prog X.w) X.A (handleBy (.ref a) X.env rest) Q X.xe s) :
    wpAny (model X.prog X.w) X.A (handleBy (.ref a) X.env (.ExceptHandler (some (.Name x np)) name (b₀::suite) pos::rest)) Q X.xe s:=by
  refine wpAny_handleBy_cons (codeAny_handlers_test (ld_glob (X:=X.mark a) (I.mark a) hg hC ?_ hdb)) (by intro z; cases z)
  have LT:PySem.W.Looks (model X.prog X.w) s.heap (typeOf (.ref a)) cls:=by
    cases xr with
    | old oe vs he hc=>rw [← hc]; exact (PySem.W.Looks.ld he).andThen .now
  refine (PySem.W.exm_one (M:=model X.prog X.w) I.kIn LT hb).here ?_
  cases b with
  | true=>exact h
  | false=>exact h
def XO (a:Addr) (oe:Obj):HO:=.ext fun h=>h.get? a=some oe
theorem Inv.trackX {pins:List (Addr × Obj)} {σ:St} {H:Hp} {s:Shared} {a:Addr} {oe:Obj} {vs:Array Value} (I:Inv X pins σ H s) (he:s.heap.get? a=some oe) (hd:oe.data=.fields vs) (hn:H a=none) (x0:X.s₀.heap.get? a=none) (xp:∀ p ∈ X.pn++pins,p.1≠a):Inv X pins σ (upd H a (XO a oe)) s:=by
  have na:∀ {b u},H b=some u→b≠a:=fun {b u} e z=>by rw [z,hn] at e; cases e
  have nL:X.env.locals≠a:=fun z=>by
    obtain ⟨m,⟨o,es,ep,ho,hdd,_⟩,_⟩:=I.loc
    rw [z,he] at ho; cases ho; rw [hd] at hdd; cases hdd
  refine ⟨I.ok,I.os,I.bare,⟨I.base.keep,I.base.slot,fun b o e n hx=>?_,I.base.there,fun b xs e=>?_,fun b o u e=>?_,fun b ps e=>?_⟩,I.loc,I.cell,?_,fun y c e=>?_,fun p hp=>?_,fun b ob e=>?_,I.len⟩
  · rw [upd_ne (fun z=>by rw [z,x0] at e; cases e)]; exact I.base.free b o e n hx
  · have e1:=I.base.tups b xs e
    rw [upd_ne (na e1)]; exact e1
  · have e1:=I.base.frzs b o u e
    rw [upd_ne (na e1)]; exact e1
  · obtain ⟨m,e1⟩:=I.base.tbls b ps e
    exact ⟨m,by rw [upd_ne (na e1)]; exact e1⟩
  · rw [upd_ne nL]; exact I.free
  · have nc:c≠a:=fun z=>by
      obtain ⟨v,o,ho,hdd⟩:=I.cell y c e
      rw [z,he] at ho; cases ho; rw [hd] at hdd; cases hdd
    rw [upd_ne nc]; exact I.freeC y c e
  · obtain ⟨e1,e2,e3⟩:=I.pin p hp
    exact ⟨e1,by rw [upd_ne (xp p hp)]; exact e2,e3⟩
  · by_cases hb:b=a
    · subst hb
      rw [upd_same] at e
      cases e
      exact ⟨he,⟨_,he⟩,fun h1 h2 z k=>k _ z⟩
    · rw [upd_ne hb] at e
      refine (I.hok b ob e).stay (fun c u _ q=>q) (fun c q=>?_) fun c xs q=>?_
      · rw [upd_ne (na q)]; exact q
      · rw [upd_ne (na q)]; exact q
theorem Inv.forget {pins:List (Addr × Obj)} {σ:St} {H:Hp} {s:Shared} {i:Nat} {m:Str→Option Value} {v:Option Value} {h':Heap} {tk:Nat} (I:Inv X pins σ H s) (hN:X.N.Nodup) (hi:X.N[i]?=some n) (hm:s.heap.Ns X.env.locals m) (hn':h'.Ns X.env.locals (fun y=>if y=n then v else m y)) (hs:Heap.SameBut X.env.locals s.heap h') :
    Inv X pins (σ.set i none) H { s with heap:=h',toks:=tk }:=by
  obtain ⟨m0,hn,hl⟩:=id I.loc
  have em:m0=m:=by
    funext y
    obtain ⟨o,es,ep,ho,hd,hk,hf⟩:=hn
    obtain ⟨o',es',ep',ho',hd',hk',hf'⟩:=hm
    rw [ho] at ho'; cases ho'
    rw [hd] at hd'; cases hd'
    rw [← hf y,← hf' y]
  subst em
  have low:∀ {b:Addr} {o:Obj},X.s₀.heap.get? b=some o→b≠X.env.locals:=fun e=>Nat.ne_of_lt (Nat.lt_of_lt_of_le (Heap.lt_size e) I.ok.above)
  refine ⟨I.ok,I.os,I.bare,⟨fun b o e n hb hx=>(hs.2 b (low e)).trans (I.base.keep b o e n hb hx),fun b o e n hb hx=>?_,I.base.free,fun b o e hx=>?_,I.base.tups,I.base.frzs,I.base.tbls⟩,⟨_,hn',fun j y v' e1 e2 e3=>?_⟩,fun y c e=>?_,I.free,I.freeC,fun p hp=>?_,fun b ob e=>?_,by simpa using I.len⟩
  · obtain ⟨sl,e1⟩:=I.base.slot b o e n hb hx
    exact ⟨sl,(hs.2 b (low e)).trans e1⟩
  · obtain ⟨o',e1⟩:=I.base.there b o e hx
    exact ⟨o',(hs.2 b (low e)).trans e1⟩
  · by_cases hj:j=i
    · subst hj
      have hiσ:j < σ.length:=by rw [I.len]; exact (List.getElem?_eq_some_iff.mp hi).1
      rw [List.getElem?_set_self hiσ] at e2
      cases e2
    · rw [List.getElem?_set_ne (Ne.symm hj)] at e2
      obtain ⟨u',r',q⟩:=hl j y v' e1 e2 e3
      have ny:y≠n:=fun z=>hj (nodup_ix hN e1 (z ▸ hi))
      refine ⟨u',r',?_⟩
      rcases q with ⟨k,e⟩ | ⟨k,c,e,z⟩
      · exact .inl ⟨k,by simp [ny,e]⟩
      · exact .inr ⟨k,c,e,z.sameBut hs (I.cne y c e)⟩
  · obtain ⟨w',z⟩:=I.cell y c e
    exact ⟨w',z.sameBut hs (I.cne y c e)⟩
  · obtain ⟨e,n,ne,nf,d⟩:=I.pin p hp
    exact ⟨(hs.2 _ ne).trans e,n,ne,nf,d⟩
  · refine (I.hok b ob e).stay (fun c w' hc q=>(hs.2 c ?_).trans q) (fun _ q=>q) fun _ _ q=>q
    rintro rfl
    rcases hc with rfl | hc
    · rw [I.free] at e; cases e
    · rw [I.free] at hc; cases hc
inductive tHN (K:PySem.W.Frag) (C:Addr) (i:Nat) (ts:TS) (th:Value→TS) (cls:Value) (D:Ends) (σ:St) (H:Hp):Prop
  | mk (b:Bool) (e:PySem.W.exmOne K cls (.ref C)=some b)
      (q:if b=true then ∀ a oe,H a=none→oe.cls=cls→oe.dict=none→(∃ vs,oe.data=.fields vs)→ts { nx:=fun σ' H'=>D.nx (σ'.set i none) H',rt:=D.rt,bk:=fun σ' H'=>D.bk (σ'.set i none) H',ct:=fun σ' H'=>D.ct (σ'.set i none) H' } (σ.set i (some (.ref a))) (upd H a (XO a oe)) else th cls D σ H):tHN K C i ts th cls D σ H
theorem phN {i:Nat} {ts:TS} (hC:X.mg x=some (.ref C)) (hN:X.N.Nodup) (hi:X.N[i]?=some n) (hk:X.env.scope.names.lookup n=some .local) (hs:∀ a:Addr,PSs (X.mark a) (b₀::suite) ts) (hr:PHs X rest th) (hg:Gl X x:=by rfl) (hdb:(x == ("__debug__" : Str))=false:=by decide) :
    PHs X (.ExceptHandler (some (.Name x np)) (some n) (b₀::suite) pos::rest) (tHN X.K C i ts th):=by
  intro pins s σ H D a cls g I xr x0 xp h
  obtain ⟨b,e,q⟩:=h
  refine h_test I xr hC hg e hdb ?_
  cases b with
  | false=>exact hr pins s σ H D a cls g I xr x0 xp q
  | true =>
    refine codeAny_handlers_suite_as ?_
    cases xr with
    | old oe vs he hc hd hdi hn hgg T oT ts' h1 ht hT hdT h3 hnT hgT =>
      refine wpAny_setFlight_none he hd h1 hT hdT (Array.getElem?_eq_some_iff.mp h3).1 ?_
      have kp:=keep3 hT hdT h3
      have I':Inv X pins σ H { s with heap:=s.heap.update T (Obj.mapFields fun z=>z.setIfInBounds 3 Value.none) }:=I.kept (t':=s.toks) kp
      have IT:=(I'.trackX (kp _ _ he) hd hn x0 xp).mark a
      refine store_ok (X:=X.mark a) IT hN hi (.inl hk) (v:=.ref a) rfl (fun s2 I2=>?_) (.inr hk)
      refine wpAny_mono (hs a pins s2 _ _ _ I2 (q a oe hn hc hdi ⟨vs,hd⟩)) (fun f s3 z=>?_) fun _ _ z=>z.elim
      have go:∀ {σ' H'},Inv (X.mark a) pins σ' H' s3→∀ {Q:Flow→Shared→Prop},(∀ s5,Inv X pins (σ'.set i none) H' s5→Q f s5)→wpAny (model X.prog X.w) X.A (do bindName X.env n .none; unbindBehindTheSuite X.env n pos) (fun _ s5=>Q f s5) X.xe s3:=fun {σ' H'} J {Q} hq=>by
        have J':=J.unmark I.ok
        obtain ⟨m,hm,_⟩:=id J'.loc
        refine wpAny_nameGoes_keeps hk hm (by rw [I.ok.kind]; rfl) fun h' v hn' hsb=>hq _ (J'.forget hN hi hm hn' hsb)
      cases f with
      | next=>obtain ⟨σ',H',J,z⟩:=z; exact go J fun s5 J5=>⟨_,_,J5,z⟩
      | brk=>obtain ⟨σ',H',J,z⟩:=z; exact go J fun s5 J5=>⟨_,_,J5,z⟩
      | cont=>obtain ⟨σ',H',J,z⟩:=z; exact go J fun s5 J5=>⟨_,_,J5,z⟩
      | ret u=>obtain ⟨v,σ',H',J,r,z⟩:=z; exact go J fun s5 J5=>⟨v,_,_,J5,r,z⟩
end
end L2
namespace L2
open PySem PySem.Spec PySem.W PyProof.Rows
structure XAttr (K:Frag) (C:Addr):Prop where
  ga:findIn K (.ref C) "__getattribute__"=some (some (.builtin "BaseException.__getattribute__"))
  gn:findIn K (.ref C) "__getattr__"=some none
  fo:findObj K C none "__class__"=some (.bind (.builtin "getset_descriptor.__get__") (.builtin "object.__class__"))
  mo:mroIn K C (.type "object")=some true
  sb:subIn K (.ref C) (.type "BaseException")=some true
section
variable {prog:Program} {w:World} {A:Around} {E:Value→Shared→Prop} {s:Shared} {K:Frag} {a C:Addr} {oe:Obj}
theorem kx_call {tk:Tok} {R:Result→Shared→Prop} (F1:XAttr K C) (X:K.In s.heap) (I:PySem.W.InstAt s.heap a oe C none) (h:R (.ok (.ret (.ref C))) s) :
    codeAny (model prog w) A (.call (.builtin "BaseException.__getattribute__") ⟨[.ref a,.str "__class__" tk],[]⟩) R s:=by
  have hk:builtinKind "BaseException.__getattribute__"=some .slot:=by decide +kernel
  have hsplit:splitId "BaseException.__getattribute__"=some ("BaseException","__getattribute__"):=by decide +kernel
  have ha:=F.args_bexc_ga (.ref a) (.str "__class__" tk)
  have cg:=fun (A:Around) (R:Result→Shared→Prop) (hR:R (.ok (.ret (.ref C))) s)=>PySem.W.class_get (prog:=prog) (w:=w) (A:=A) (R:=R) (tp:=.ref C) X I F1.mo hR
  obtain ⟨hh,g,d,t,os⟩:=s
  have L0:=I.type (M:=model prog w)
  have L1:=looks_subIn (M:=model prog w) X F1.sb
  have L2:=looks_find (M:=model prog w) X I F1.fo
  refine codeAny_call_builtin F.excAttr_ValueError.ga.plain F.entry_bexc_ga ?_
  simp only [checkBuiltinCall,hk,hsplit]
  refine wpAny_bind ?_
  unfold isInstance
  repeat (any_goals (first | assumption | (with_reducible refine wpAny_bind (L0.at ?_)) | (with_reducible refine wpAny_bind (L2.at ?_)) | (with_reducible refine L1.at ?_) | wp_step))
  exact cg _ _ (wpAny_pure h)
theorem kx_class {Q:Option Value→Shared→Prop} (F1:XAttr K C) (X:K.In s.heap) (I:PySem.W.InstAt s.heap a oe C none) (h:Q (some (.ref C)) { s with toks:=s.toks + 1 }):wpAny (model prog w) A (getAttr? (.ref a) "__class__") Q E s:=by
  have kc:=fun (A:Around) (tk:Tok) (t:Nat) (R:Result→Shared→Prop) (hR:R (.ok (.ret (.ref C))) { s with toks:=t })=>kx_call (prog:=prog) (w:=w) (A:=A) (s:={ s with toks:=t }) (tk:=tk) F1 X I hR
  have f3:=F.excAttr_ValueError.ga.bind (.ref a)
  have hx2:(Value.builtin "BaseException.__getattribute__" == Value.builtin "object.__getattribute__")=false:=by decide +kernel
  have hx1:(onTheHeap (Value.ref C) && Value.builtin "BaseException.__getattribute__" == Value.builtin "object.__getattribute__")=false:=by rw [hx2]; rfl
  have hx0:(false && onTheHeap (Value.builtin "BaseException.__getattribute__"))=false:=rfl
  obtain ⟨hh,g,d,t,os⟩:=s
  have L0:=I.type (M:=model prog w)
  have L1:=looks_findIn (M:=model prog w) X F1.ga
  have L2:=looks_findIn (M:=model prog w) X F1.gn
  unfold getAttr? getAttrBy? getAttrBy
  refine wpAny_bind (wpAny_mkText (wpAny_bind (wpAny_attempt (wpAny_holding (wpAny_bind (L0.at (wpAny_bind (L1.at ?_))))))))
  show wpAny _ _ (if (onTheHeap (Value.ref C) && Value.builtin "BaseException.__getattribute__" == Value.builtin "object.__getattribute__")=true then _ else _) _ _ _
  rw [if_neg (by rw [hx1]; simp)]
  unfold getAttrByItsOwn hookBefore
  rw [if_pos (show onTheHeap (Value.ref C)=true by rfl)]
  refine wpAny_bind (L2.at (wpAny_bind (wpAny_attempt (wpAny_holding ?_))))
  unfold callGetattribute boundAndCalled
  rw [if_neg (by simp)]
  rw [f3]
  refine wpAny_bind (wpAny_pure (wpAny_call (kc _ _ _ _ ?_)))
  exact handed_on rfl (wpAny_pure h)
theorem kitx_err (F1:XAttr K C) (hc:oe.cls=.ref C) (hdi:oe.dict=none) (hd:∃ vs,oe.data=.fields vs) (hcl:(clsIn K C).isSome=true):KitX K (.ref a) (.ref C) (fun h=>h.get? a=some oe):=by
  have hI:∀ h:Heap,h.get? a=some oe→PySem.W.InstAt h a oe C none:=fun h e=>by
    obtain ⟨vs,hd⟩:=hd
    refine ⟨e,hc,?_,?_⟩
    · obtain ⟨c0,d0,dt,sl⟩:=oe
      dsimp only at hd
      subst hd
      rfl
    · rw [hdi]; trivial
  refine ⟨fun M h X e=>(hI h e).type,fun M h X e=>?_,fun h tp dd its n sl X htp=>?_,fun {_ _ _ _ _ s} X e k=>kx_class F1 X (hI _ e) k⟩
  · obtain ⟨cd,hcD⟩:=Option.isSome_iff_exists.mp hcl
    unfold clsIn at hcD
    split at hcD
    · rename_i c' d' cd' sl' ho
      intro A' Q' E' s' k q
      unfold isType loadHead
      exact wpAny_bind (wpAny_loadPart (k _ _ (X _ _ ho)) (wpAny_pure q))
    · cases hcD
  · obtain ⟨cd,hcD⟩:=Option.isSome_iff_exists.mp hcl
    refine Bool.eq_false_iff.mpr fun q=>?_
    have e:C=tp:=Value.ref.inj (beq_iff_eq.mp q)
    subst e
    unfold clsIn at hcD
    split at hcD
    · rename_i c' d' cd' sl' ho
      have z:=(X _ _ ho).symm.trans htp
      cases z
    · cases hcD
end
end L2
namespace L2
open PySem PySem.Spec PyProof.Rows
structure XErr (K:PySem.W.Frag) (oe:Obj) (C:Addr):Prop where
  c:oe.cls=.ref C
  d:oe.dict=none
  f:∃ vs,oe.data=.fields vs
  at_:XAttr K C
  cl:(PySem.W.clsIn K C).isSome=true
inductive cIsE (K:PySem.W.Frag) (xs:List V) (H:Hp) (Q:VK):Prop
  | own (a:Addr) (oe:Obj) (C C':Addr) (b:Bool) (e:xs=[.ref a,.ref C']) (h:H a=some (XO a oe)) (x:XErr K oe C) (k:PySem.W.kitOne K (.ref C) (.ref C')=some b) (q:Q (.bl b) H):cIsE K xs H Q
  | ty (a:Addr) (oe:Obj) (C:Addr) (T:String) (b:Bool) (e:xs=[.ref a,.ty T]) (h:H a=some (XO a oe)) (x:XErr K oe C) (k:PySem.W.kitOne K (.ref C) (.type T)=some b) (q:Q (.bl b) H):cIsE K xs H Q
theorem call_isE {X:Cx} (K:PySem.W.Frag) (ek:X.K=K:=by rfl):CallR X (.builtin "isinstance") (cIsE K):=by
  subst ek
  intro pins s σ H xs us Q I r h
  have go:∀ {a:Addr} {oe:Obj} {C:Addr} {c:Value} {b:Bool},H a=some (XO a oe)→XErr X.K oe C→PySem.W.kitOne X.K (.ref C) c=some b→Q (.bl b) H→wpAny (model X.prog X.w) X.A (call (.builtin "isinstance") [.ref a,c]) (EP X pins σ Q) X.xe s:=fun {a oe C c b} h x k q=>by
    have p:s.heap.get? a=some oe:=(I.hok a _ h).1
    exact PySem.W.kia_one (kitx_err x.at_ x.c x.d x.f x.cl) I.kIn p k (by intro z; cases z) fun tk=>⟨.bl b,H,I.tok tk,rfl,q⟩
  cases h with
  | own a oe C C' b e h x k q =>
    subst e
    obtain ⟨u,w',rfl,rx,rt⟩:=vals2 r
    cases rx
    cases rt
    exact go h x k q
  | ty a oe C T b e h x k q =>
    subst e
    obtain ⟨u,w',rfl,rx,rt⟩:=vals2 r
    cases rx
    cases rt
    exact go h x k q
end L2
namespace L2
open PySem PySem.Spec PyProof.Rows
structure RoomN (k:Nat) (A:Around):Prop where
  dp:A.depth + 3 * k + 5 < recursionLimit
  un:A.units + 16 * k + 200 < cLine
  gd:A.guards=some []
theorem RoomN.mono {j k:Nat} {A:Around} (r:RoomN k A) (h:j≤k):RoomN j A:=⟨by have:=r.dp; omega,by have:=r.un; omega,r.gd⟩
theorem RoomN.deeper {k:Nat} {A:Around} (r:RoomN (k + 1) A) (env:Env):RoomN k (A.deeper env):=⟨by have:=r.dp; show A.depth + 1 + 3 * k + 5 < _; omega,by have:=r.un; show A.units + 3 + 16 * k + 200 < _; omega,r.gd⟩
theorem RoomN.depth {k:Nat} {A:Around} (r:RoomN k A):A.depth < recursionLimit:=by have:=r.dp; omega
theorem Room.n {k:Nat} {A:Around} (r:Room k A) (v:Option Value):RoomN k (A.mark v):=⟨r.dp,r.un,r.gd⟩
def cxN (CX:CXT) (P:Program) (w:World) (K:PySem.W.Frag) (mg:Str→Option Value) (base:Heap) (N:List Str) (qual:Str) (scope:Scope) (f:Addr) (cd:Value) (A:Around) (outer:List Env) (s:Shared) (H:Hp) (E:XK):Cx where
  prog:=P
  w:=w
  K:=K
  mg:=mg
  base:=base
  A:=A.deeper (envOfC qual scope s.heap.objs.size f cd)
  N:=N
  s₀:=s
  H₀:=H
  env:=envOfC qual scope s.heap.objs.size f cd
  outer:=outer
  stack:=envOfC qual scope s.heap.objs.size f cd::outer
  ex:=[]
  calm:=false
  fn:=fun _=>true
  pn:=[]
  xe:=fun e s'=>wpAny (model P w) (A.deeper (envOfC qual scope s.heap.objs.size f cd)) (leaving (envOfC qual scope s.heap.objs.size f cd) e) (fun _ s''=>CX outer H s E e s'') (fun e' s''=>CX outer H s E e' s'') s'
theorem inv_startN {CX:CXT} {P:Program} {w:World} {K:PySem.W.Frag} {mg:Str→Option Value} {base:Heap} {N ps:List Str} {qual:Str} {scope:Scope} {f:Addr} {cd:Value} {A:Around} {outer:List Env} {s s1:Shared} {H:Hp} {E:XK} {us:List Value} {vs:List V}
    (S:FnScope N ps scope) (e0:Env0 P w K mg base A outer s H) (hl:vs.length=ps.length) (r:Vals vs us)
    (x:InCallC s s.heap.objs.size (bindL (envOfC qual scope s.heap.objs.size f cd).kindOf (ps.zip us) fun _=>none) (cellsFrom (s.heap.objs.size + 1) scope.names []) (bindC (envOfC qual scope s.heap.objs.size f cd).kindOf (ps.zip us) fun _=>none) s1) :
    Inv (cxN CX P w K mg base N qual scope f cd A outer s H E) [] (start N vs) H s1:=by
  have hpl:ps.length≤N.length:=by have:=congrArg List.length S.pre; rw [List.length_take] at this; omega
  obtain ⟨h1,tk,rfl,hk⟩:=x.done
  have noA:∀ b:Addr,b ∉ (cxN CX P w K mg base N qual scope f cd A outer s H E).ex:=fun b z=>absurd (show b ∈ ([]:List Addr) from z) (by simp)
  refine ⟨⟨e0.mod,S.kind,rfl,rfl,Nat.le_refl _,fun y z c h1 h2=>?_,fun y hy=>?_,fun y c _ h=>?_,(fun z=>nomatch z),Around.frames_deeper e0.frames,.inr ⟨rfl,rfl⟩,fun b z=>absurd z (noA b),e0.bs,e0.bsz,fun b _ _=>noA b,fun b z=>absurd z (noA b),e0.funs,e0.frf⟩,
    rfl,e0.bare,Un.kept hk,⟨_,x.toInCall.ns,fun i y v h1 h2 h3=>?_⟩,fun y c h=>⟨_,x.cell y c h⟩,e0.hok.fresh (Nat.le_refl _),fun y c h=>?_,fun p hp=>absurd (show p ∈ ([]:List (Addr × Obj)) from hp) (by simp),e0.hok.kept hk,?_⟩
  · exact name_of_addr x.apart (PySem.mem_of_lookup h1) (PySem.mem_of_lookup h2)
  · have hy:scope.names.lookup y=some .cell∨scope.names.lookup y=some .free:=hy
    rcases hy with hy | hy
    · exact cell_has hy
    · exact absurd rfl (S.nofree _ (PySem.mem_of_lookup hy))
  · exact Nat.le_of_lt (x.above y c (PySem.mem_of_lookup h))
  · have hi:i < vs.length:=by
      unfold start at h2
      by_cases hi:i < vs.length
      · exact hi
      · rw [List.getElem?_append_right (by simpa using hi)] at h2
        rw [List.getElem?_replicate] at h2
        split at h2 <;> cases h2
    have ha:vs[i]?=some v:=by
      unfold start at h2
      rw [List.getElem?_append_left (by simpa using hi),List.getElem?_map] at h2
      cases e:vs[i]? with
      | none=>rw [e] at h2; cases h2
      | some a=>rw [e] at h2; cases h2; rfl
    obtain ⟨u,hu,rv⟩:=r.get ha
    have hp:ps[i]?=some y:=by
      rw [← S.pre,List.getElem?_take_of_lt (by omega)]; exact h1
    have ndP:ps.Nodup:=by rw [← S.pre]; exact S.nd.sublist (List.take_sublist _ _)
    refine ⟨u,rv,?_⟩
    rcases S.par y (List.mem_of_getElem? hp) with k | k
    · exact .inl ⟨k,bindL_get ndP hp hu k⟩
    · obtain ⟨c,e⟩:=cell_has (n:=s.heap.objs.size + 1) k
      refine .inr ⟨.inl k,c,e,?_⟩
      have q:=x.cell y c e
      rw [bindC_get ndP hp hu (by show scope.names.lookup y≠_; rw [k]; decide)] at q
      exact q
  · exact e0.hok.fresh (Nat.le_of_lt (x.above y c (PySem.mem_of_lookup h)))
  · unfold start
    show _=N.length
    rw [List.length_append,List.length_map,List.length_replicate]
    omega
structure FnOkN (P:Program) (w:World) (K:PySem.W.Frag) (mg:Str→Option Value) (base:Heap) (CX:CXT) (k:Nat) (f:Addr) (fd:FuncData) (ps:List Str) (sp:Sp):Prop where
  len:∀ vs H Q E,sp vs H Q E→vs.length=ps.length
  run:∀ (A:Around) (outer:List Env) (s:Shared) (H:Hp) (args:Args) (us:List Value) (vs:List V) (Q:VK) (E:XK),RoomN k A→Env0 P w K mg base A outer s H→BindsTo s fd args (ps.zip us)→Vals vs us→sp vs H Q E →
    codeAny (model P w) A (.call (.ref f) args) (CR CX outer P w H s Q E) s
theorem fn_ofN {CX:CXT} {P:Program} {w:World} {K:PySem.W.Frag} {mg:Str→Option Value} {base:Heap} {k:Nat} {f:Addr} {name qual:Str} {params:Arguments} {body:List Stmt} {scope:Scope} {dV kV doc pm cdv ct oc:Value} {an od:Option Addr}
    {osl:Array (Option Value)} {N ps:List Str} {sp:Sp} (lk:K.lookup f=some ⟨oc,od,.func (PySem.W.fnOf name qual params body scope dV kV doc pm an cdv ct),osl⟩) (hcd:PySem.W.codeIn K cdv qual=true) (S:FnScope N ps scope)
    (len:∀ vs H Q E,sp vs H Q E→vs.length=ps.length)
    (hbody:∀ (A:Around) (outer:List Env) (s:Shared) (H:Hp) (vs:List V) (Q:VK) (E:XK),RoomN k (A.deeper (envOfC qual scope s.heap.objs.size f cdv))→sp vs H Q E →
      ∃ t,PSs (cxN CX P w K mg base N qual scope f cdv A outer s H E) body t∧t { nx:=fun _ H'=>Q .non H',rt:=Q } (start N vs) H) :
    FnOkN P w K mg base CX (k + 1) f (PySem.W.fnOf name qual params body scope dV kV doc pm an cdv ct) ps sp:=by
  refine ⟨len,fun A outer s H args us vs Q E hr e0 hb r hsp=>?_⟩
  have hl:=len _ _ _ _ hsp
  have KX:K.In s.heap:=e0.mod.kin.keeps fun b o e=>(e0.bs b o e).1
  have lim:s.heap.NoLimit:=e0.mod.nolimit.keeps fun b o e=>(e0.bs b o e).1
  have hkind:∀ y ∈ ps.zip us,scope.names.lookup y.1=some .local∨(scope.names.lookup y.1=some .cell∧((cellsFrom (s.heap.objs.size + 1) scope.names []).lookup y.1).isSome=true):=fun ⟨n,v⟩ hy=>by
    rcases S.par n (List.of_mem_zip hy).1 with q | q
    · exact .inl q
    · exact .inr ⟨q,PySem.W.cellsFrom_some _ _ _ (.inl q)⟩
  refine codeAny_call_function hr.depth (KX _ _ lk) rfl S.co S.gen rfl (PySem.W.codeRec_of KX hcd) (hb _ _ _ _ ?_)
  refine wpAny_newFunctionEnv_cells S.kind hkind fun env he s1 x=>?_
  subst he
  refine ⟨lim.keeps x.toInCall.keep,codeAny_func ?_⟩
  obtain ⟨t,ht,hq⟩:=hbody A outer s H vs Q E (hr.deeper _) hsp
  have I:Inv (cxN CX P w K mg base N qual scope f cdv A outer s H E) [] (start N vs) H s1:=inv_startN S e0 hl r x
  refine wpAny_mono (ht [] s1 (start N vs) H _ I hq) (fun fl s' hs=>?_) fun e s' hs=>hs
  have fin:∀ {σ':St} {H':Hp} {v:V} {u:Value},Inv (cxN CX P w K mg base N qual scope f cdv A outer s H E) [] σ' H' s'→RelV v u→Q v H'→CE outer P w H s Q u s' :=
    fun {σ' H' v u} J rv q=>⟨v,H',J.os,J.bare,J.base,J.hok,rv,q⟩
  cases fl with
  | ret u =>
    obtain ⟨v,σ',H',J,rv,q⟩:=hs
    exact fin J rv q
  | next =>
    obtain ⟨σ',H',J,q⟩:=hs
    exact fin (v:=V.non) (u:=Value.none) J rfl q
  | brk =>
    obtain ⟨_,_,_,q⟩:=hs
    exact False.elim q
  | cont =>
    obtain ⟨_,_,_,q⟩:=hs
    exact False.elim q
section
variable {X:Cx} {CX:CXT} {k:Nat} {f C:Addr} {fd:FuncData} {ps:List Str} {sp:Sp} {dvs:List V} {ds:List Value} {E:XK} {x m:Str} {p pos apos:Pos} {e o:Expr} {es:List Expr} {ta:TE} {t:TA}
theorem run_fnN {pins:List (Addr × Obj)} {σ:St} {H:Hp} {s:Shared} {Q:VK} {us:List Value} {vs:List V} (F:FnOkN X.prog X.w X.K X.mg X.base CX k f fd ps sp) (hr:RoomN k X.A) (hb:Binds X.K fd ps ds) (hd:Vals dvs ds) (hx:Passes CX X E)
    (I:Inv X pins σ H s) (r:Vals vs us) (h:sp (vs++dvs) H Q E):wpAny (model X.prog X.w) X.A (call (.ref f) us) (EP X pins σ Q) X.xe s:=by
  have r2:Vals (vs++dvs) (us++ds):=r.append hd
  have hl:(us++ds).length=ps.length:=by rw [← r2.length]; exact F.len _ _ _ _ h
  refine wpAny_call (codeAny_mono (F.run X.A X.stack s H ⟨us,[]⟩ (us++ds) (vs++dvs) Q E hr I.env0 (hb s us I.kIn hl) r2 h) fun r s' hq=>?_)
  cases r with
  | error e=>exact hx pins σ H s e s' I hq
  | ok fl =>
    cases fl with
    | ret u=>exact I.after hq
    | next=>exact False.elim hq
    | brk=>exact False.elim hq
    | cont=>exact False.elim hq
theorem pe_callN (F:FnOkN X.prog X.w X.K X.mg X.base CX k f fd ps sp) (hr:RoomN k X.A) (hg:Gl X x) (hm:X.mg x=some (.ref f)) (hk:PySem.W.keepIn X.K (.ref f)=true) (hb:Binds X.K fd ps ds) (hd:Vals dvs ds) (hx:Passes CX X E)
    (ha:PA X (e::es) t) (hdb:(x == ("__debug__" : Str))=false:=by decide) (he:starEach (e::es) X.env=(false,eval e X.env)::starEach es X.env:=by rfl) (hpl:(backTo pos (starEach es X.env)).any (·.1)=false:=by rfl) :
    PE X (.Call (.Name x p) (e::es) [] pos) (tCall sp dvs E t):=by
  refine ⟨?_⟩
  intro pins s σ H Q I h
  refine wpAny_Call_Name_kw (ld_glob I hg hm ?_ hdb)
  refine PySem.W.callWith_K (h₀:=X.base) I.ok.mod.kin hk (thn (ha pos pins s σ H _ I h) fun us s1 ⟨vs,H1,I1,r,q⟩=>⟨I1.kIn,?_⟩) he hpl
  exact run_fnN F hr hb hd hx I1 r q
end
def CanN (P:Program) (w:World) (K:PySem.W.Frag) (mg:Str→Option Value) (base:Heap) (k:Nat) (x:Str) (ps:List Str) (sp:Sp):Prop :=
  ∃ f fd,FnOkN P w K mg base CX0 k f fd ps sp∧mg x=some (.ref f)∧PySem.W.keepIn K (.ref f)=true∧Binds K fd ps []
section
variable {P:Program} {w:World} {K:PySem.W.Frag} {mg:Str→Option Value} {base:Heap}
theorem fn_canN {x:Str} {st:Stmt} {N ps:List Str} {k:Nat} {sp:Sp} (h:∃ f fd,Fn K mg x st ps f fd) (S:FnScope N ps (defScope st)) (len:∀ vs H Q E,sp vs H Q E→vs.length=ps.length)
    (hbody:∀ (f:Addr) (cdv:Value) (A:Around) (outer:List Env) (s:Shared) (H:Hp) (vs:List V) (Q:VK) (E:XK),RoomN k (A.deeper (envOfC x (defScope st) s.heap.objs.size f cdv))→sp vs H Q E →
      ∃ t,PSs (cxN CX0 P w K mg base N x (defScope st) f cdv A outer s H E).nox (defBody st) t∧t { nx:=fun _ H'=>Q .non H',rt:=Q } (start N vs) H):CanN P w K mg base (k + 1) x ps sp:=by
  obtain ⟨f,fd,F⟩:=h
  obtain ⟨oc,od,kV,doc,pm,an,cdv,ct,osl,e,lk,hcd⟩:=F.fn.ex
  refine ⟨f,fd,?_,F.m,F.fn.kp,F.b⟩
  subst e
  refine fn_ofN lk hcd S len fun A outer s H vs Q E hr hsp=>?_
  obtain ⟨t,h,q⟩:=hbody f cdv A outer s H vs Q E hr hsp
  exact ⟨t,h.nox,q⟩
end
section
variable {X:Cx} {k k':Nat} {x:Str} {ps:List Str} {sp:Sp} {p pos:Pos} {e:Expr} {es:List Expr} {t:TA}
theorem pe_canN (h:CanN X.prog X.w X.K X.mg X.base k x ps sp) (hr:RoomN k' X.A) (ha:PA X (e::es) t) (hg:Gl X x:=by rfl) (hk:k≤k':=by decide) (hdb:(x == ("__debug__" : Str))=false:=by decide)
    (hs:starEach (e::es) X.env=(false,eval e X.env)::starEach es X.env:=by rfl) (hpl:(backTo pos (starEach es X.env)).any (·.1)=false:=by rfl):PE X (.Call (.Name x p) (e::es) [] pos) (tCall sp [] E0 t):=by
  obtain ⟨f,fd,F,hm,kp,b⟩:=h
  exact pe_callN F (hr.mono hk) hg hm kp b .nil pass0 ha hdb hs hpl
end
end L2
namespace L2
open PySem PySem.Spec PyProof.Rows
def cOf (mg:Str→Option Value) (x:Str):Addr:=match mg x with
  | some (.ref C)=>C
  | _=>0
theorem cOf_eq {mg:Str→Option Value} {x:Str} {C:Addr} (h:mg x=some (.ref C)):cOf mg x=C:=by unfold cOf; rw [h]
structure XC (K:PySem.W.Frag) (mg:Str→Option Value) (x:Str):Prop where
  m:mg x=some (.ref (cOf mg x))
  ok:PySem.W.excIn K (cOf mg x) bmV "ValueError.__new__"=true
  at_:XAttr K (cOf mg x)
  cl:(PySem.W.clsIn K (cOf mg x)).isSome=true
theorem XC.cls {K:PySem.W.Frag} {mg:Str→Option Value} {x:Str} (h:XC K mg x):XCls K mg x (cOf mg x):=⟨h.m,h.ok⟩
theorem XC.err {K:PySem.W.Frag} {mg:Str→Option Value} {x:Str} (h:XC K mg x) {oe:Obj} (c:oe.cls=.ref (cOf mg x)) (d:oe.dict=none) (f:∃ vs,oe.data=.fields vs):XErr K oe (cOf mg x):=⟨c,d,f,h.at_,h.cl⟩
theorem xc_mk {K:PySem.W.Frag} {mg:Str→Option Value} {x:Str} {C:Addr} (m:mg x=some (.ref C)) (ok:PySem.W.excIn K C bmV "ValueError.__new__"=true)
    (ga:PySem.W.findIn K (.ref C) "__getattribute__"=some (some (.builtin "BaseException.__getattribute__"))) (gn:PySem.W.findIn K (.ref C) "__getattr__"=some none)
    (fo:PySem.W.findIn K (.ref C) "__class__"=some (some (.builtin "object.__class__"))) (sp:PySem.W.specialIn K (.builtin "object.__class__") "__get__"=some (some (.builtin "getset_descriptor.__get__"))) (tk:PySem.W.takesIn K (.builtin "object.__class__")=some true) (mo:PySem.W.mroIn K C (.type "object")=some true) (sb:PySem.W.subIn K (.ref C) (.type "BaseException")=some true) {cd:ClassData} (cl:PySem.W.clsIn K C=some cd):XC K mg x:=by
  refine ⟨?_,?_,?_,?_⟩ <;> rw [cOf_eq m]
  · exact m
  · exact ok
  · refine ⟨ga,gn,?_,mo,sb⟩
    unfold PySem.W.findObj
    rw [cl,Option.bind_some,fo,Option.bind_some]
    simp [sp,tk]
  · rw [cl]; rfl
end L2
namespace Pr
open PySem L2
def top (i:Nat):Stmt:=PySem.Challenge.pw_peakroll_k53_no_spans.main.body.getD i (.Pass ⟨0,0,0,0⟩)
abbrev s_empty:Stmt:=top 2
abbrev s_in_order:Stmt:=top 3
abbrev s_place_of:Stmt:=top 4
abbrev s_bar_of:Stmt:=top 5
abbrev s_joined:Stmt:=top 6
abbrev s_is_whole:Stmt:=top 18
abbrev s_is_whole_from:Stmt:=top 19
abbrev s_is_wide:Stmt:=top 20
abbrev s_is_list:Stmt:=top 21
abbrev s_is_list_from:Stmt:=top 22
abbrev s_need_moment:Stmt:=top 23
abbrev s_need_roll:Stmt:=top 24
abbrev s_need_number:Stmt:=top 25
abbrev s_bars_of:Stmt:=top 27
abbrev s_gathered:Stmt:=top 28
abbrev s_unlike_bars:Stmt:=top 30
abbrev s_number_of:Stmt:=top 34
abbrev s_is_part:Stmt:=top 41
abbrev s_are_parts:Stmt:=top 42
abbrev s_are_sizes:Stmt:=top 43
abbrev s_is_row:Stmt:=top 44
abbrev s_are_rows:Stmt:=top 45
abbrev s_bar_lengths:Stmt:=top 46
abbrev s_law_cell:Stmt:=top 49
abbrev s_law_pot:Stmt:=top 50
abbrev s_law_take:Stmt:=top 51
abbrev s_law_wide:Stmt:=top 52
abbrev s_law_near:Stmt:=top 53
abbrev s_law_parts:Stmt:=top 54
abbrev s_law_rows:Stmt:=top 55
abbrev s_law_ladder:Stmt:=top 56
abbrev s_law_name:Stmt:=top 57
abbrev s_law_tried:Stmt:=top 58
abbrev s_law_bad:Stmt:=top 59
abbrev s_law:Stmt:=top 60
abbrev sm_init:Stmt:=inClass (top 47) 0
abbrev sm_begin:Stmt:=inClass (top 47) 1
abbrev sm_parts:Stmt:=inClass (top 47) 2
abbrev sm_rows:Stmt:=inClass (top 47) 3
abbrev sm_rolls:Stmt:=inClass (top 47) 4
abbrev sm_bar_at:Stmt:=inClass (top 47) 5
abbrev sm_Follower_init:Stmt:=inClass (top 32) 0
abbrev sm_Follower_news:Stmt:=inClass (top 32) 1
structure Txt (K:PySem.W.Frag) (mg:Str→Option Value) (C:Addr):Prop where
  f_empty:∃ f fd,Fn K mg "empty" s_empty [] f fd
  f_in_order:∃ f fd,Fn K mg "in_order" s_in_order ["entries"] f fd
  f_place_of:∃ f fd,Fn K mg "place_of" s_place_of ["entry"] f fd
  f_bar_of:∃ f fd,Fn K mg "bar_of" s_bar_of ["entries"] f fd
  f_joined:∃ f fd,Fn K mg "joined" s_joined ["one","other"] f fd
  f_is_whole:∃ f fd,Fn K mg "is_whole" s_is_whole ["value"] f fd
  f_is_whole_from:∃ f fd,Fn K mg "is_whole_from" s_is_whole_from ["value","least","greatest"] f fd
  f_is_wide:∃ f fd,Fn K mg "is_wide" s_is_wide ["value"] f fd
  f_is_list:∃ f fd,Fn K mg "is_list" s_is_list ["value"] f fd
  f_is_list_from:∃ f fd,Fn K mg "is_list_from" s_is_list_from ["value","fewest","most"] f fd
  f_need_moment:∃ f fd,Fn K mg "need_moment" s_need_moment ["value"] f fd
  f_need_roll:∃ f fd,Fn K mg "need_roll" s_need_roll ["value","least","greatest"] f fd
  f_need_number:∃ f fd,Fn K mg "need_number" s_need_number ["value"] f fd
  f_bars_of:∃ f fd,Fn K mg "bars_of" s_bars_of ["ladder","roll","entries"] f fd
  f_gathered:∃ f fd,Fn K mg "gathered" s_gathered ["pairs"] f fd
  f_unlike_bars:∃ f fd,Fn K mg "unlike_bars" s_unlike_bars ["one","other"] f fd
  f_number_of:∃ f fd,Fn K mg "number_of" s_number_of ["begin","sizes","place"] f fd
  f_is_part:∃ f fd,Fn K mg "is_part" s_is_part ["value"] f fd
  f_are_parts:∃ f fd,Fn K mg "are_parts" s_are_parts ["value"] f fd
  f_are_sizes:∃ f fd,Fn K mg "are_sizes" s_are_sizes ["value"] f fd
  f_is_row:∃ f fd,Fn K mg "is_row" s_is_row ["value"] f fd
  f_are_rows:∃ f fd,Fn K mg "are_rows" s_are_rows ["value"] f fd
  f_bar_lengths:∃ f fd,Fn K mg "bar_lengths" s_bar_lengths ["parts"] f fd
  f_law_cell:∃ f fd,Fn K mg "_law_cell" s_law_cell ["_law_script","_law_k"] f fd
  f_law_pot:∃ f fd,Fn K mg "_law_pot" s_law_pot ["_law_cell_here"] f fd
  f_law_take:∃ f fd,Fn K mg "_law_take" s_law_take ["_law_pot_here","_law_many"] f fd
  f_law_wide:∃ f fd,Fn K mg "_law_wide" s_law_wide ["_law_pot_here"] f fd
  f_law_near:∃ f fd,Fn K mg "_law_near" s_law_near ["_law_pot_here","_law_middle","_law_far"] f fd
  f_law_parts:∃ f fd,Fn K mg "_law_parts" s_law_parts ["_law_pot_here"] f fd
  f_law_rows:∃ f fd,Fn K mg "_law_rows" s_law_rows ["_law_pot_here"] f fd
  f_law_ladder:∃ f fd,Fn K mg "_law_ladder" s_law_ladder ["_law_pot_here"] f fd
  f_law_name:∃ f fd,Fn K mg "_law_name" s_law_name ["_law_e"] f fd
  f_law_tried:∃ f fd,Fn K mg "_law_tried" s_law_tried ["_law_ladder_here","_law_parts_here"] f fd
  f_law_bad:∃ f fd,Fn K mg "_law_bad" s_law_bad ["_law_pot_here","_law_some"] f fd
  f_law:∃ f fd,Fn K mg "law" s_law ["_law_script"] f fd
  c_WIDE_END:∃ t,mg "WIDE_END"=some (.int 1000000000000000000000000000000 t)
  c_NUMBER_END:∃ t,mg "NUMBER_END"=some (.int 10000000000000000000000000000000000000000 t)
  c_MOST_PARTS:∃ t,mg "MOST_PARTS"=some (.int 12 t)
  c_MOST_LENGTH:∃ t,mg "MOST_LENGTH"=some (.int 1000000000 t)
  c_MOST_ROWS:∃ t,mg "MOST_ROWS"=some (.int 4 t)
  c_MOST_SIZES:∃ t,mg "MOST_SIZES"=some (.int 12 t)
  c_MOST_SIZE:∃ t,mg "MOST_SIZE"=some (.int 1000 t)
  b_ValueError:mg "ValueError"=none
  b_abs:mg "abs"=none
  b_all:mg "all"=none
  b_bool:mg "bool"=none
  b_divmod:mg "divmod"=none
  b_int:mg "int"=none
  b_isinstance:mg "isinstance"=none
  b_len:mg "len"=none
  b_list:mg "list"=none
  b_max:mg "max"=none
  b_min:mg "min"=none
  b_range:mg "range"=none
  b_repr:mg "repr"=none
  b_sorted:mg "sorted"=none
  b_sum:mg "sum"=none
  b_tuple:mg "tuple"=none
  cl:Cls K C
  mgC:mg "Ladder"=some (.ref C)
  n_open_lengths:NoAttr K C "open_lengths"
  n_part_lengths:NoAttr K C "part_lengths"
  n_steps:NoAttr K C "steps"
  m_init:∃ f fd,Fun K "__init__" "Ladder.__init__" sm_init f fd∧Mk K C f∧Binds K fd ["self","begin","parts","rows"] []
  m_begin:∃ f fd,Fm K C "begin" "Ladder.begin" sm_begin ["self"] f fd
  m_parts:∃ f fd,Fm K C "parts" "Ladder.parts" sm_parts ["self"] f fd
  m_rows:∃ f fd,Fm K C "rows" "Ladder.rows" sm_rows ["self"] f fd
  m_rolls:∃ f fd,Fm K C "rolls" "Ladder.rolls" sm_rolls ["self"] f fd
  m_bar_at:∃ f fd,Fm K C "bar_at" "Ladder.bar_at" sm_bar_at ["self","roll","moment"] f fd
  cl_Follower:Cls K (cOf mg "Follower")
  mg_Follower:mg "Follower"=some (.ref (cOf mg "Follower"))
  n_Follower_first_number:NoAttr K (cOf mg "Follower") "first_number"
  n_Follower_known:NoAttr K (cOf mg "Follower") "known"
  n_Follower_ladder:NoAttr K (cOf mg "Follower") "ladder"
  n_Follower_number_behind:NoAttr K (cOf mg "Follower") "number_behind"
  n_Follower_roll:NoAttr K (cOf mg "Follower") "roll"
  m_Follower_init:∃ f fd,Fun K "__init__" "Follower.__init__" sm_Follower_init f fd∧Mk K (cOf mg "Follower") f∧Binds K fd ["self","ladder","roll","begin","end"] []
  m_Follower_news:∃ f fd,Fm K (cOf mg "Follower") "news" "Follower.news" sm_Follower_news ["self","entries"] f fd
  x_PeakError:XC K mg "PeakError"
  x_NoLadder:XC K mg "NoLadder"
  x_NoMoment:XC K mg "NoMoment"
  x_NoRoll:XC K mg "NoRoll"
  x_NoNumber:XC K mg "NoNumber"
  x_NoText:XC K mg "NoText"
  x_Gone:XC K mg "Gone"
  kv_NoNumber:PySem.W.kitOne K (.ref (cOf mg "NoNumber")) (.type "ValueError")=some true
  e_NoNumber_PeakError:PySem.W.exmOne K (.ref (cOf mg "NoNumber")) (.ref (cOf mg "PeakError"))=some true
  k_NoNumber_NoLadder:PySem.W.kitOne K (.ref (cOf mg "NoNumber")) (.ref (cOf mg "NoLadder"))=some false
  k_NoNumber_NoMoment:PySem.W.kitOne K (.ref (cOf mg "NoNumber")) (.ref (cOf mg "NoMoment"))=some false
  k_NoNumber_NoRoll:PySem.W.kitOne K (.ref (cOf mg "NoNumber")) (.ref (cOf mg "NoRoll"))=some false
  k_NoNumber_NoNumber:PySem.W.kitOne K (.ref (cOf mg "NoNumber")) (.ref (cOf mg "NoNumber"))=some true
  k_NoNumber_NoText:PySem.W.kitOne K (.ref (cOf mg "NoNumber")) (.ref (cOf mg "NoText"))=some false
  k_NoNumber_Gone:PySem.W.kitOne K (.ref (cOf mg "NoNumber")) (.ref (cOf mg "Gone"))=some false
  kv_NoRoll:PySem.W.kitOne K (.ref (cOf mg "NoRoll")) (.type "ValueError")=some true
  e_NoRoll_PeakError:PySem.W.exmOne K (.ref (cOf mg "NoRoll")) (.ref (cOf mg "PeakError"))=some true
  k_NoRoll_NoLadder:PySem.W.kitOne K (.ref (cOf mg "NoRoll")) (.ref (cOf mg "NoLadder"))=some false
  k_NoRoll_NoMoment:PySem.W.kitOne K (.ref (cOf mg "NoRoll")) (.ref (cOf mg "NoMoment"))=some false
  k_NoRoll_NoRoll:PySem.W.kitOne K (.ref (cOf mg "NoRoll")) (.ref (cOf mg "NoRoll"))=some true
  k_NoRoll_NoNumber:PySem.W.kitOne K (.ref (cOf mg "NoRoll")) (.ref (cOf mg "NoNumber"))=some false
  k_NoRoll_NoText:PySem.W.kitOne K (.ref (cOf mg "NoRoll")) (.ref (cOf mg "NoText"))=some false
  k_NoRoll_Gone:PySem.W.kitOne K (.ref (cOf mg "NoRoll")) (.ref (cOf mg "Gone"))=some false
end Pr
namespace Lad
def Good (S:List Int):Prop:=S≠[]∧∀ v ∈ S,1≤v
def walk:List Int→Int→Nat
  | [],_=>0
  | v::r,x=>if x < v then 0 else walk r (x - v) + 1
def num (b:Int) (S:List Int) (p:Int):Int:=(p - b) / S.sum * (S.length:Int) + (walk S ((p - b) % S.sum):Int)
theorem len_le_sum:∀ (S:List Int),(∀ v ∈ S,1≤v)→(S.length:Int)≤S.sum
  | [],_=>by simp
  | v::r,h=>by
    have h1:=len_le_sum r fun x hx=>h x (List.mem_cons_of_mem _ hx)
    have h2:=h v List.mem_cons_self
    rw [List.length_cons,List.sum_cons]
    omega
theorem Good.len {S:List Int} (g:Good S):1≤S.length:=by
  cases S with
  | nil=>exact absurd rfl g.1
  | cons v r=>rw [List.length_cons]; omega
theorem Good.sum {S:List Int} (g:Good S):1≤S.sum:=by
  have:=len_le_sum S g.2
  have:=g.len
  omega
theorem getD_pos {S:List Int} (h:∀ v ∈ S,1≤v) {i:Nat} (hi:i < S.length):1≤S.getD i 0:=by
  rw [List.getD_eq_getElem?_getD,List.getElem?_eq_getElem hi]
  exact h _ (List.getElem_mem hi)
abbrev Step:=Int × List Int
def up (st:List Step) (m:Int):Int:=st.foldl (fun n s=>num s.1 s.2 n) m
def PartsOk (ps:List Int):Prop:=(∀ p ∈ ps,p≠0)∧∃ p r,ps=p::r∧0 < p
def barsFrom (cur:Int):List Int→List Int
  | []=>[cur]
  | p::r=>if 0 < p then cur::barsFrom p r else barsFrom (cur - p) r
def bars:List Int→List Int
  | []=>[]
  | p::r=>barsFrom p r
def opens (ps:List Int):List Int:=ps.filter fun p=>decide (0 < p)
def absI (p:Int):Int:=if p < 0 then -p else p
def total (ps:List Int):Int:=(ps.map absI).sum
def addPart (acc:List Int) (p:Int):List Int:=if 0 < p then acc++[p] else acc.dropLast++[acc.getLastD 0 - p]
theorem addPart_from:∀ (r:List Int) (acc:List Int) (cur:Int),r.foldl addPart (acc++[cur])=acc++barsFrom cur r
  | [],acc,cur=>rfl
  | p::r,acc,cur=>by
    rw [List.foldl_cons]
    unfold addPart barsFrom
    by_cases h:0 < p
    · rw [if_pos h,if_pos h]
      have:=addPart_from r (acc++[cur]) p
      unfold addPart at this
      rw [this,List.append_assoc]
      rfl
    · rw [if_neg h,if_neg h]
      have e:(acc++[cur]).dropLast++[(acc++[cur]).getLastD 0 - p]=acc++[cur - p]:=by simp
      rw [e]
      have:=addPart_from r acc (cur - p)
      unfold addPart at this
      exact this
theorem foldl_bars {ps:List Int} (h:PartsOk ps):ps.foldl addPart []=bars ps:=by
  obtain ⟨_,p,r,rfl,hp⟩:=h
  rw [List.foldl_cons]
  have e:addPart [] p=[]++[p]:=by unfold addPart; rw [if_pos hp]
  rw [e,addPart_from]
  rfl
theorem from_good:∀ (r:List Int) (cur:Int),(∀ p ∈ r,p≠0)→1≤cur→(∀ v ∈ barsFrom cur r,1≤v)∧barsFrom cur r≠[]
  | [],cur,_,h=>⟨fun v hv=>by
      have e:v=cur:=by simpa [barsFrom] using hv
      omega,by simp [barsFrom]⟩
  | p::r,cur,hr,h=>by
    have hp:=hr p List.mem_cons_self
    unfold barsFrom
    by_cases h1:0 < p
    · rw [if_pos h1]
      obtain ⟨a,b⟩:=from_good r p (fun x hx=>hr x (List.mem_cons_of_mem _ hx)) h1
      refine ⟨fun v hv=>?_,by simp⟩
      rcases List.mem_cons.mp hv with e | hv
      · omega
      · exact a v hv
    · rw [if_neg h1]
      exact from_good r (cur - p) (fun x hx=>hr x (List.mem_cons_of_mem _ hx)) (by omega)
theorem bars_good {ps:List Int} (h:PartsOk ps):Good (bars ps):=by
  obtain ⟨h0,p,r,rfl,hp⟩:=h
  obtain ⟨a,b⟩:=from_good r p (fun x hx=>h0 x (List.mem_cons_of_mem _ hx)) hp
  exact ⟨b,a⟩
theorem from_sum:∀ (r:List Int) (cur:Int),(barsFrom cur r).sum=cur + total r
  | [],cur=>by simp [barsFrom,total]
  | p::r,cur=>by
    unfold barsFrom total
    rw [List.map_cons,List.sum_cons]
    by_cases h1:0 < p
    · rw [if_pos h1,List.sum_cons,from_sum r p]
      unfold total absI
      rw [if_neg (show ¬ p < 0 by omega)]
    · rw [if_neg h1,from_sum r (cur - p)]
      unfold total absI
      by_cases h2:p < 0
      · rw [if_pos h2]; omega
      · rw [if_neg h2]; omega
theorem bars_sum {ps:List Int} (h:PartsOk ps):(bars ps).sum=total ps:=by
  obtain ⟨h0,p,r,rfl,hp⟩:=h
  show (barsFrom p r).sum=_
  rw [from_sum]
  unfold total absI
  rw [List.map_cons,List.sum_cons,if_neg (show ¬ p < 0 by omega)]
theorem from_len:∀ (r:List Int) (cur:Int),(barsFrom cur r).length=1 + (opens r).length
  | [],cur=>rfl
  | p::r,cur=>by
    unfold barsFrom opens
    by_cases h1:0 < p
    · rw [if_pos h1,List.length_cons,from_len r p,List.filter_cons_of_pos (by simpa using h1),List.length_cons]
      show 1 + (opens r).length + 1=1 + ((opens r).length + 1)
      omega
    · rw [if_neg h1,from_len r (cur - p),List.filter_cons_of_neg (by simpa using h1)]
      rfl
theorem bars_len {ps:List Int} (h:PartsOk ps):(bars ps).length=(opens ps).length:=by
  obtain ⟨h0,p,r,rfl,hp⟩:=h
  show (barsFrom p r).length=_
  rw [from_len]
  unfold opens
  rw [List.filter_cons_of_pos (by simpa using hp),List.length_cons]
  omega
end Lad
namespace Lad
end Lad
namespace L2
open PySem PySem.Spec PyProof.Rows
section
variable {X:Cx} {st:Stmt} {rest:List Stmt} {t u:TS} {e:Expr} {te:TE}
def tCut (t u:TS):TS:=fun D σ H=>∃ M:St→Hp→Prop,t { D with nx:=M } σ H∧∀ σ' H',M σ' H'→u D σ' H'
theorem pss_cut (h1:PS X st t) (h2:PSs X rest u):PSs X (st::rest) (tCut t u):=by
  refine ⟨?_⟩
  intro pins s σ H D I h
  obtain ⟨M,a,b⟩:=h
  refine wpAny_execs_cons (thn (h1 pins s σ H { D with nx:=M } I a) fun f s1 q=>?_)
  cases f with
  | next =>
    obtain ⟨σ',H',I',q⟩:=q
    exact h2 pins s1 σ' H' D I' (b _ _ q)
  | ret v=>exact q
  | brk=>exact q
  | cont=>exact q
end
end L2
namespace L2
open PySem PySem.Spec PyProof.Rows
def LcNx (n i:Nat) (D:Addr) (ys:List V) (Pv:Nat→List V→Hp→Prop) (y:V) (H3:Hp):Prop :=
  H3 D=some (.lst ys)∧ys.length < sizeLine∧∃ m',m' < n - i∧(m'=n - (i + 1)∧i + 1≤n∧Pv (i + 1) (ys++[y]) (upd H3 D (.lst (ys++[y]))))
def LcNo (n i:Nat) (ys:List V) (Pv:Nat→List V→Hp→Prop) (H3:Hp):Prop:=∃ m',m' < n - i∧(m'=n - (i + 1)∧i + 1≤n∧Pv (i + 1) ys H3)
theorem LcNx.mk {n i:Nat} {D:Addr} {ys:List V} {Pv:Nat→List V→Hp→Prop} {y:V} {H3:Hp} (hi:i < n) (hn:n≤1000) (hl:ys.length≤i) (h:H3 D=some (.lst ys)) (p:Pv (i + 1) (ys++[y]) (upd H3 D (.lst (ys++[y])))):LcNx n i D ys Pv y H3 :=
  ⟨h,small1000 (by omega),n - (i + 1),by omega,rfl,hi,p⟩
theorem LcNo.mk {n i:Nat} {ys:List V} {Pv:Nat→List V→Hp→Prop} {H3:Hp} (hi:i < n) (p:Pv (i + 1) ys H3):LcNo n i ys Pv H3:=⟨n - (i + 1),by omega,rfl,hi,p⟩
theorem lc_go {tc:TT} {te:TE} {σ:St} {J:It} {D:Addr} {Fin:Hp→Prop} {H:Hp} {n:Nat} (Pv:Nat→List V→Hp→Prop) (h0:Pv 0 [] (upd H D (.lst [])))
    (hD:∀ i ys H,Pv i ys H→H D=some (.lst ys)) (hend:∀ ys H,Pv n ys H→J.stop n H∧Fin H)
    (hgo:∀ i ys H,i < n→Pv i ys H→J.go i H∧∀ x H',J.yld i H x H'→tc (some x::σ) H' fun b H2=>if b=true then te (some x::σ) H2 (LcNx n i D ys Pv) else LcNo n i ys Pv H2):lcGo tc te σ J D Fin H:=by
  refine ⟨fun i m ys H=>m=n - i∧i≤n∧Pv i ys H,⟨n,rfl,Nat.zero_le _,h0⟩,?_⟩
  rintro i m ys H ⟨rfl,hi,p⟩
  refine ⟨hD i ys H p,?_⟩
  by_cases hlt:i < n
  · exact .inr (hgo i ys H hlt p)
  · have e:i=n:=by omega
    subst e
    exact .inl (hend ys H p)
theorem lc_list {K:PySem.W.Frag} {a:Addr} {xs:List V} {tc:TT} {te:TE} {σ:St} {D:Addr} {Fin:Hp→Prop} {H:Hp} (Pv:Nat→List V→Hp→Prop) (h0:Pv 0 [] (upd H D (.lst [])))
    (hD:∀ i ys H,Pv i ys H→H D=some (.lst ys)∧SqL K H a xs) (hend:∀ ys H,Pv xs.length ys H→Fin H)
    (hgo:∀ i x ys H,i < xs.length→xs[i]?=some x→Pv i ys H→tc (some x::σ) H fun b H2=>if b=true then te (some x::σ) H2 (LcNx xs.length i D ys Pv) else LcNo xs.length i ys Pv H2):lcGo tc te σ (Itl K a) D Fin H:=by
  refine lc_go Pv h0 (fun i ys H p=>(hD i ys H p).1) (fun ys H p=>⟨⟨xs,(hD _ _ _ p).2,Nat.le_refl _⟩,hend ys H p⟩) fun i ys H hi p=>?_
  refine ⟨⟨xs,xs[i],(hD _ _ _ p).2,List.getElem?_eq_getElem hi⟩,fun x H' y=>?_⟩
  obtain ⟨e,y⟩:=y
  subst e
  exact hgo i x ys _ hi (y xs (hD _ _ _ p).2) p
theorem lc_tup {K:PySem.W.Frag} {a:Addr} {xs:List V} {tc:TT} {te:TE} {σ:St} {D:Addr} {Fin:Hp→Prop} {H:Hp} (Pv:Nat→List V→Hp→Prop) (h0:Pv 0 [] (upd H D (.lst [])))
    (hD:∀ i ys H,Pv i ys H→H D=some (.lst ys)∧SqT K H a xs) (hend:∀ ys H,Pv xs.length ys H→Fin H)
    (hgo:∀ i x ys H,i < xs.length→xs[i]?=some x→Pv i ys H→tc (some x::σ) H fun b H2=>if b=true then te (some x::σ) H2 (LcNx xs.length i D ys Pv) else LcNo xs.length i ys Pv H2):lcGo tc te σ (Itt K a) D Fin H:=by
  refine lc_go Pv h0 (fun i ys H p=>(hD i ys H p).1) (fun ys H p=>⟨⟨xs,(hD _ _ _ p).2,Nat.le_refl _⟩,hend ys H p⟩) fun i ys H hi p=>?_
  refine ⟨⟨xs,xs[i],(hD _ _ _ p).2,List.getElem?_eq_getElem hi⟩,fun x H' y=>?_⟩
  obtain ⟨e,y⟩:=y
  subst e
  exact hgo i x ys _ hi (y xs (hD _ _ _ p).2) p
theorem lc_range {lo:Int} {n:Nat} {tc:TT} {te:TE} {σ:St} {D:Addr} {Fin:Hp→Prop} {H:Hp} (Pv:Nat→List V→Hp→Prop) (h0:Pv 0 [] (upd H D (.lst [])))
    (hD:∀ i ys H,Pv i ys H→H D=some (.lst ys)) (hend:∀ ys H,Pv n ys H→Fin H)
    (hgo:∀ i ys H,i < n→Pv i ys H→tc (some (.int (lo + i))::σ) H fun b H2=>if b=true then te (some (.int (lo + i))::σ) H2 (LcNx n i D ys Pv) else LcNo n i ys Pv H2):lcGo tc te σ (Itr lo n) D Fin H:=by
  refine lc_go Pv h0 hD (fun ys H p=>⟨Nat.le_refl _,hend ys H p⟩) fun i ys H hi p=>?_
  refine ⟨hi,fun x H' y=>?_⟩
  obtain ⟨e,y⟩:=y
  subst e y
  exact hgo i ys _ hi p
section
variable {X:Cx}
theorem ix_tupK (K:PySem.W.Frag) (e:X.K=K:=by rfl):IxR X (rIxT K):=by rw [← e]; exact ix_tup
theorem ix_listK (K:PySem.W.Frag) (e:X.K=K:=by rfl):IxR X (rIxL K):=by rw [← e]; exact ix_list
end
theorem yesI {σ:St} {H:Hp} {A B:Hp→Prop} (h:A H):tYes σ H (fun b H2=>if b=true then A H2 else B H2):=by
  show if true=true then A H else B H
  rw [if_pos rfl]
  exact h
theorem lcS {X:Cx} {x:Str} {sc scp:Scope} {N ps:List Str} (S:FnScope N ps scp) (hN:X.N=N:=by rfl) (hs:X.env.scope=scp:=by rfl) (h1:sc.kind=.function:=by rfl) (h2:∀ p ∈ sc.names,p.2≠.cell:=by decide +kernel) (h3:sc.names.lookup x=some .local:=by rfl)
    (h4:∀ p ∈ sc.names,p.2=.local→sc.names.lookup p.1=some .local:=by decide +kernel) (h5:∀ y ∈ N,sc.names.lookup y≠some .local:=by decide +kernel)
    (h7:∀ p ∈ sc.names,p.2=.free→scp.names.lookup p.1=some .cell∨scp.names.lookup p.1=some .free:=by decide +kernel):LcScope X x sc :=
  ⟨h1,h2,h3,h4,by rw [hN]; exact h5,by rw [hN]; exact S.nd,fun p hp e=>by
    show X.env.scope.names.lookup p.1=_∨X.env.scope.names.lookup p.1=_
    rw [hs]
    exact h7 p hp e⟩
theorem Paired.get {α β:Type} {F:α→β→Prop}:∀ {xs:List α} {ys:List β} {i:Nat} {x:α},Paired F xs ys→xs[i]?=some x→∃ y,ys[i]?=some y∧F x y
  | _,_,_,_,.nil,e=>by simp at e
  | _,_,0,_,.cons r _,e=>by simp at e; subst e; exact ⟨_,rfl,r⟩
  | _,_,i + 1,x,.cons _ t,e=>by
    obtain ⟨u,h1,h2⟩:=Paired.get (i:=i) (x:=x) t (by simpa using e)
    exact ⟨u,by simpa using h1,h2⟩
theorem Paired.take {α β:Type} {F:α→β→Prop}:∀ {xs:List α} {ys:List β} (n:Nat),Paired F xs ys→Paired F (xs.take n) (ys.take n)
  | _,_,0,_=>.nil
  | _,_,_ + 1,.nil=>.nil
  | _,_,n + 1,.cons r t=>.cons r (Paired.take n t)
end L2
namespace Srt
open PySem PySem.W PyProof.Rows
def Good (n:Nat) (lt:Nat→Nat→Bool) {α:Type}:KasT α→(α→Prop)→Prop
  | .ret a,Q=>Q a
  | .ask i j k,Q=>i < n∧j < n∧Good n lt (k (lt i j)) Q
section
variable {n:Nat} {lt:Nat→Nat→Bool} {α β:Type}
theorem good_mono {Q Q':α→Prop} (h:∀ a,Q a→Q' a):∀ t:KasT α,Good n lt t Q→Good n lt t Q'
  | .ret a,q=>h a q
  | .ask i j k,q=>⟨q.1,q.2.1,good_mono h (k (lt i j)) q.2.2⟩
theorem good_bind {f:α→KasT β} {Q:β→Prop}:∀ t:KasT α,Good n lt t (fun a=>Good n lt (f a) Q)→Good n lt (t.bind f) Q
  | .ret a,q=>q
  | .ask i j k,q=>⟨q.1,q.2.1,good_bind (k (lt i j)) q.2.2⟩
theorem good_wp {cmp:Nat→Nat→(Bool→Shared→Prop)→Shared→Prop} {s:Shared} {Q:α→Shared→Prop} (hc:∀ i j (C:Bool→Shared→Prop),i < n→j < n→C (lt i j) s→cmp i j C s):∀ t:KasT α,Good n lt t (fun a=>Q a s)→t.kasWp cmp Q s
  | .ret a,q=>q
  | .ask i j k,q=>hc i j _ q.1 q.2.1 (good_wp hc (k (lt i j)) q.2.2)
end
structure Ord (lt:Nat→Nat→Bool):Prop where
  asym:∀ {a b},lt a b=true→lt b a=false
  tr:∀ {a b c},lt b a=false→lt c b=false→lt c a=false
section
variable {lt:Nat→Nat→Bool} {N:Nat}
theorem Ord.ltle (O:Ord lt) {a b c:Nat} (h:lt a b=true) (h':lt c b=false):lt a c=true:=by
  cases e:lt a c with
  | true=>rfl
  | false=>rw [O.tr h' e] at h; cases h
theorem Ord.lelt (O:Ord lt) {a b c:Nat} (h:lt b a=false) (h':lt b c=true):lt a c=true:=by
  cases e:lt a c with
  | true=>rfl
  | false=>rw [O.tr e h] at h'; cases h'
def R (lt:Nat→Nat→Bool) (a b:Nat):Prop:=lt a b=true∨(lt b a=false∧a < b)
theorem R.le (O:Ord lt) {a b:Nat} (h:R lt a b):lt b a=false:=h.elim O.asym (·.1)
abbrev g (p:Array Nat) (i:Nat):Nat:=p.getD i 0
theorem g_eq {p:Array Nat} {i:Nat}:g p i=(p[i]?).getD 0:=by simp [g]
theorem g_rev {p:Array Nat} {i j:Nat} (hj:j≤p.size) (k:Nat):g (kas_rev p i j) k=if i≤k∧k < j then g p (i + j - 1 - k) else g p k:=by
  unfold kas_rev
  rw [g_eq,getElem?_mirror_all hj,g_eq,g_eq]
  split <;> rfl
theorem g_bub {p:Array Nat} {k d:Nat} (hs:k < p.size) (hd:d≤k) (i:Nat):g (bubble p k d) i=if i=k - d then g p k else if k - d < i∧i≤k then g p (i - 1) else g p i:=by
  rw [g_eq,getElem?_bubble hs d hd,g_eq,g_eq,g_eq]
  split
  · rfl
  · split <;> rfl
structure Pm (N:Nat) (p:Array Nat) (n:Nat):Prop where
  sz:p.size=N
  pm:p.Perm (List.toArray (List.range N))
  lo:∀ i,i < n→g p i < n
  hi:∀ i,n≤i→i < N→g p i=i
theorem Pm.rev {p:Array Nat} {n i j:Nat} (h:Pm N p n) (hj:j≤n) (hn:n≤N):Pm N (kas_rev p i j) n where
  sz:=by rw [kas_rev_size]; exact h.sz
  pm:=(mirror_perm _ _ _ _).trans h.pm
  lo:=fun k hk=>by
    rw [g_rev (by rw [h.sz]; omega)]
    split
    · exact h.lo _ (by omega)
    · exact h.lo _ hk
  hi:=fun k hk hk2=>by
    rw [g_rev (by rw [h.sz]; omega),if_neg (by omega)]
    exact h.hi k hk hk2
theorem Pm.succ {p:Array Nat} {n:Nat} (h:Pm N p n) (hn:n < N):Pm N p (n + 1) where
  sz:=h.sz
  pm:=h.pm
  lo:=fun i hi=>by
    rcases Nat.lt_or_ge i n with h1 | h1
    · exact Nat.lt_succ_of_lt (h.lo i h1)
    · rw [h.hi i h1 (by omega)]; exact hi
  hi:=fun i h1 h2=>h.hi i (by omega) h2
def Asc (lt:Nat→Nat→Bool) (p:Array Nat) (n:Nat):Prop:=∀ i j,i < j→j < n→R lt (g p i) (g p j)
theorem asc_ok (O:Ord lt) (p:Array Nat):∀ (f n:Nat),1≤n→n + f=N→Pm N p n→Asc lt p n →
    Good N lt (kas_asc p f n) (fun m=>n≤m∧m≤N∧Pm N p m∧Asc lt p m∧(m < N→lt (g p m) (g p (m - 1))=true))
  | 0,n,h1,hn,hp,ha=>⟨Nat.le_refl _,by omega,hp,ha,fun h=>by omega⟩
  | f + 1,n,h1,hn,hp,ha=>by
    have hnN:n < N:=by omega
    have en:=hp.hi n (Nat.le_refl _) hnN
    have e1:=hp.lo (n - 1) (by omega)
    show Good N lt (.ask (g p n) (g p (n - 1)) fun c=>if c=true then .ret n else kas_asc p f (n + 1)) _
    refine ⟨by omega,by omega,?_⟩
    cases hc:lt (g p n) (g p (n - 1)) with
    | true =>
      try dsimp only
      rw [if_pos rfl]
      exact ⟨Nat.le_refl _,by omega,hp,ha,fun _=>hc⟩
    | false =>
      try dsimp only
      rw [if_neg (by simp)]
      refine good_mono (fun m h=>⟨by omega,h.2⟩) _ (asc_ok O p f (n + 1) (by omega) (by omega) (hp.succ hnN) fun i j hij hj=>?_)
      rcases Nat.lt_or_ge j n with h2 | h2
      · exact ha i j hij h2
      · obtain rfl:j=n:=by omega
        have hlo:=hp.lo i hij
        refine .inr ⟨?_,by omega⟩
        rcases Nat.lt_or_ge i (j - 1) with h3 | h3
        · exact O.tr ((ha i (j - 1) h3 (by omega)).le O) hc
        · obtain rfl:i=j - 1:=by omega
          exact hc
structure Dsc (lt:Nat→Nat→Bool) (p:Array Nat) (n q:Nat):Prop where
  a:∀ i j,i < j→j < n - (q + 1)→R lt (g p j) (g p i)
  b:∀ i j,i < n - (q + 1)→n - (q + 1)≤j→j < n→lt (g p j) (g p i)=true
  c:∀ i j,n - (q + 1)≤i→i < j→j < n→lt (g p i) (g p j)=false∧lt (g p j) (g p i)=false∧g p i < g p j
def Rv (lt:Nat→Nat→Bool) (p:Array Nat) (n:Nat):Prop:=∀ i j,i < j→j < n→R lt (g p j) (g p i)
theorem Dsc.rv0 {p:Array Nat} {n:Nat} (h:Dsc lt p n 0) (h1:1≤n):Rv lt p n:=fun i j hij hj=>by
  rcases Nat.lt_or_ge j (n - 1) with h2 | h2
  · exact h.a i j hij h2
  · exact .inl (h.b i j (by omega) h2 hj)
theorem Dsc.rv {p:Array Nat} {n q:Nat} (h:Dsc lt p n q) (hq:q + 1≤n) (hn:n≤p.size):Rv lt (kas_rev p (n - (q + 1)) n) n:=fun i j hij hj=>by
  rw [g_rev hn,g_rev hn]
  by_cases hi:n - (q + 1)≤i
  · rw [if_pos ⟨by omega,hj⟩,if_pos ⟨hi,by omega⟩]
    obtain ⟨c1,c2,c3⟩:=h.c (n - (q + 1) + n - 1 - j) (n - (q + 1) + n - 1 - i) (by omega) (by omega) (by omega)
    exact .inr ⟨c2,c3⟩
  · rw [if_neg (show ¬ (n - (q + 1)≤i∧i < n) by omega)]
    by_cases hj2:n - (q + 1)≤j
    · rw [if_pos ⟨hj2,hj⟩]
      exact .inl (h.b i _ (by omega) (by omega) (by omega))
    · rw [if_neg (by omega)]
      exact h.a i j hij (by omega)
theorem desc_ok (O:Ord lt):∀ (f:Nat) (p:Array Nat) (n q:Nat),q + 1≤n→n + f=N→Pm N p n→Dsc lt p n q →
    Good N lt (kas_desc f p n q) (fun r=>r.2.2 + 1≤r.2.1∧r.2.1≤N∧Pm N r.1 r.2.1∧Dsc lt r.1 r.2.1 r.2.2)
  | 0,p,n,q,hq,hn,hp,hd=>⟨hq,by show n≤N; omega,hp,hd⟩
  | f + 1,p,n,q,hq,hn,hp,hd=>by
    have hnN:n < N:=by omega
    have en:=hp.hi n (Nat.le_refl _) hnN
    have e1:=hp.lo (n - 1) (by omega)
    have hsz:=hp.sz
    refine ⟨by show g p n < N; omega,by show g p (n - 1) < N; omega,?_⟩
    cases hc:lt (p.getD n 0) (p.getD (n - 1) 0) with
    | true =>
      try dsimp only
      rw [if_pos rfl]
      have hx:∀ i,i < n→lt (g p n) (g p i)=true:=fun i hi=>by
        rcases Nat.lt_or_ge i (n - (q + 1)) with h2 | h2
        · have:=hd.b i (n - 1) h2 (by omega) (by omega)
          exact O.ltle hc (O.asym this)
        · rcases Nat.lt_or_ge i (n - 1) with h3 | h3
          · exact O.ltle hc (hd.c i (n - 1) h2 h3 (by omega)).1
          · obtain rfl:i=n - 1:=by omega
            exact hc
      have go:∀ p':Array Nat,Pm N p' n→Rv lt p' n→(∀ i,i < n→∃ i',i' < n∧g p' i=g p i')→g p' n=g p n →
          Good N lt (kas_desc f p' (n + 1) 0) (fun r=>r.2.2 + 1≤r.2.1∧r.2.1≤N∧Pm N r.1 r.2.1∧Dsc lt r.1 r.2.1 r.2.2):=fun p' hp' hv hs he=>by
        refine desc_ok O f p' (n + 1) 0 (by omega) (by omega) (hp'.succ hnN) ⟨fun i j hij hj=>hv i j hij (by omega),fun i j hi hj hj2=>?_,fun i j hi hij hj=>by omega⟩
        obtain rfl:j=n:=by omega
        obtain ⟨i',hi',e⟩:=hs i (by omega)
        rw [he,e]
        exact hx i' hi'
      by_cases hq0:q > 0
      · rw [if_pos hq0]
        refine go _ (hp.rev (Nat.le_refl _) (by omega)) (hd.rv hq (by omega)) (fun i hi=>?_) ?_
        · rw [g_rev (by omega)]
          split
          · exact ⟨_,by omega,rfl⟩
          · exact ⟨i,hi,rfl⟩
        · rw [g_rev (by omega),if_neg (by omega)]
      · rw [if_neg hq0]
        obtain rfl:q=0:=by omega
        exact go p hp (hd.rv0 hq) (fun i hi=>⟨i,hi,rfl⟩) rfl
    | false =>
      try dsimp only
      rw [if_neg (by simp)]
      refine ⟨by show g p (n - 1) < N; omega,by show g p n < N; omega,?_⟩
      cases hdd:lt (p.getD (n - 1) 0) (p.getD n 0) with
      | true =>
        try dsimp only
        rw [if_pos rfl]
        exact ⟨hq,by show n≤N; omega,hp,hd⟩
      | false =>
        try dsimp only
        rw [if_neg (by simp)]
        have eb:n + 1 - (q + 1 + 1)=n - (q + 1):=by omega
        refine desc_ok O f p (n + 1) (q + 1) (by omega) (by omega) (hp.succ hnN) ⟨fun i j hij hj=>hd.a i j hij (by omega),fun i j hi hj hj2=>?_,fun i j hi hij hj=>?_⟩
        · rw [eb] at hi hj
          rcases Nat.lt_or_ge j n with h2 | h2
          · exact hd.b i j hi hj h2
          · obtain rfl:j=n:=by omega
            exact O.lelt (c:=g p i) hdd (hd.b i (j - 1) hi (by omega) (by omega))
        · rw [eb] at hi
          rcases Nat.lt_or_ge j n with h2 | h2
          · exact hd.c i j hi hij h2
          · obtain rfl:j=n:=by omega
            have hlo:=hp.lo i hij
            rcases Nat.lt_or_ge i (j - 1) with h3 | h3
            · obtain ⟨c1,c2,c3⟩:=hd.c i (j - 1) hi h3 (by omega)
              exact ⟨O.tr hdd c1,O.tr c2 hc,by omega⟩
            · obtain rfl:i=j - 1:=by omega
              exact ⟨hdd,hc,by omega⟩
abbrev Cnt (N:Nat) (lt:Nat→Nat→Bool) (r:Nat × Array Nat):Prop:=1≤r.1∧r.1≤N∧Pm N r.2 r.1∧Asc lt r.2 r.1
theorem tail3_ok (O:Ord lt) {p:Array Nat} {n:Nat} (h1:1≤n) (hn:n≤N) (hp:Pm N p n) (hv:Rv lt p n):Good N lt (kas_tail3 n N p) (Cnt N lt):=by
  have hsz:=hp.sz
  refine good_bind _ (good_mono (fun m h=>?_) _ (asc_ok O (kas_rev p 0 n) (N - n) n h1 (by omega) (hp.rev (Nat.le_refl _) hn) fun i j hij hj=>?_))
  · exact ⟨by show 1≤m; omega,h.2.1,h.2.2.1,h.2.2.2.1⟩
  · rw [g_rev (by omega),g_rev (by omega),if_pos (by omega),if_pos (by omega)]
    exact hv _ _ (by omega) (by omega)
theorem descPart_ok (O:Ord lt) {p:Array Nat} {n:Nat} (hn:n < N) (hp:Pm N p n) (hv:Rv lt p n) (hx:∀ i,i < n→lt (g p n) (g p i)=true):Good N lt (kas_descPart n N p) (Cnt N lt):=by
  refine good_bind _ (good_mono (fun r h=>?_) _ (desc_ok O (N - (n + 1)) p (n + 1) 0 (by omega) (by omega) (hp.succ hn) ⟨fun i j hij hj=>hv i j hij (by omega),fun i j hi hj hj2=>?_,fun i j hi hij hj=>by omega⟩))
  · obtain ⟨q1,q2,q3,q4⟩:=h
    have hsz:=q3.sz
    by_cases hq:r.2.2 > 0
    · rw [if_pos hq]
      exact tail3_ok O (by omega) q2 (q3.rev (Nat.le_refl _) q2) (q4.rv q1 (by omega))
    · rw [if_neg hq]
      have e0:r.2.2=0:=by omega
      rw [e0] at q4
      exact tail3_ok O (by omega) q2 q3 (q4.rv0 (by omega))
  · obtain rfl:j=n:=by omega
    exact hx i (by omega)
theorem count_ok (O:Ord lt) {p:Array Nat} (h1:1≤N) (hp:Pm N p 1):Good N lt (kas_count N p) (Cnt N lt):=by
  have hsz:=hp.sz
  refine good_bind _ (good_mono (fun m h=>?_) _ (asc_ok O p (N - 1) 1 (Nat.le_refl _) (by omega) hp fun i j hij hj=>by omega))
  obtain ⟨m1,m2,m3,m4,m5⟩:=h
  by_cases hm:m=N
  · rw [if_pos (by rw [hm]; exact beq_self_eq_true _)]
    exact ⟨m1,m2,m3,m4⟩
  · rw [if_neg (by intro e; exact hm (by simpa using e))]
    have hlt:=m5 (by omega)
    by_cases hm1:m > 1
    · rw [if_pos hm1]
      have l0:=m3.lo 0 (by omega)
      have l1:=m3.lo (m - 1) (by omega)
      refine ⟨by show g p 0 < N; omega,by show g p (m - 1) < N; omega,?_⟩
      cases hc:lt (p.getD 0 0) (p.getD (m - 1) 0) with
      | true =>
        try dsimp only
        rw [if_pos rfl]
        exact ⟨m1,m2,m3,m4⟩
      | false =>
        try dsimp only
        rw [if_neg (by simp)]
        have le1:∀ i,i < m→lt (g p i) (g p (m - 1))=false:=fun i hi=>by
          rcases Nat.eq_zero_or_pos i with h0 | h0
          · subst h0; exact hc
          · exact O.tr hc ((m4 0 i h0 hi).le O)
        have le2:∀ i,i < m→lt (g p (m - 1)) (g p i)=false:=fun i hi=>by
          rcases Nat.lt_or_ge i (m - 1) with h0 | h0
          · exact (m4 i (m - 1) h0 (by omega)).le O
          · obtain rfl:i=m - 1:=by omega
            exact le1 _ hi
        have all:∀ i j,i < m→j < m→lt (g p i) (g p j)=false:=fun i j hi hj=>O.tr (le2 j hj) (le1 i hi)
        have idx:∀ i j,i < j→j < m→g p i < g p j:=fun i j hij hj=>by
          rcases m4 i j hij hj with h | h
          · rw [all i j (by omega) hj] at h; cases h
          · exact h.2
        refine descPart_ok O (by omega) (m3.rev (Nat.le_refl _) m2) (fun i j hij hj=>?_) fun i hi=>?_
        · rw [g_rev (by omega),g_rev (by omega),if_pos (by omega),if_pos (by omega)]
          exact .inr ⟨all _ _ (by omega) (by omega),idx _ _ (by omega) (by omega)⟩
        · rw [g_rev (by omega),g_rev (by omega),if_neg (by omega),if_pos (by omega)]
          exact O.ltle hlt (le1 _ (by omega))
    · rw [if_neg hm1]
      obtain rfl:m=1:=by omega
      refine descPart_ok O (by omega) m3 (fun i j hij hj=>by omega) fun i hi=>?_
      obtain rfl:i=0:=by omega
      exact hlt
theorem place_ok (O:Ord lt) {p:Array Nat} {k:Nat} (hk:k < N) (hp:Pm N p k) (ha:Asc lt p k):∀ (f l r:Nat),l≤r→r≤k→r - l≤f→(∀ i,i < l→lt (g p k) (g p i)=false)→(∀ i,r≤i→i < k→lt (g p k) (g p i)=true) →
    Good N lt (kas_place p k f l r) (fun l'=>l'≤k∧(∀ i,i < l'→lt (g p k) (g p i)=false)∧∀ i,l'≤i→i < k→lt (g p k) (g p i)=true)
  | 0,l,r,h1,h2,h3,hl,hr=>⟨by omega,hl,fun i h4 h5=>hr i (by omega) h5⟩
  | f + 1,l,r,h1,h2,h3,hl,hr=>by
    show Good N lt (if l ≥ r then .ret l else .ask (p.getD k 0) (p.getD ((l + r) / 2) 0) fun c=>if c=true then kas_place p k f l ((l + r) / 2) else kas_place p k f ((l + r) / 2 + 1) r) _
    by_cases hlr:l ≥ r
    · rw [if_pos hlr]
      exact ⟨by omega,hl,fun i h4 h5=>hr i (by omega) h5⟩
    · rw [if_neg hlr]
      have ek:=hp.hi k (Nat.le_refl _) hk
      have em:=hp.lo ((l + r) / 2) (by omega)
      refine ⟨by show g p k < N; omega,by show g p _ < N; omega,?_⟩
      cases hc:lt (p.getD k 0) (p.getD ((l + r) / 2) 0) with
      | true =>
        try dsimp only
        rw [if_pos rfl]
        refine place_ok O hk hp ha f l ((l + r) / 2) (by omega) (by omega) (by omega) hl fun i h4 h5=>?_
        rcases Nat.lt_or_ge ((l + r) / 2) i with h6 | h6
        · exact O.ltle hc ((ha _ i h6 h5).le O)
        · obtain rfl:i=(l + r) / 2:=by omega
          exact hc
      | false =>
        try dsimp only
        rw [if_neg (by simp)]
        refine place_ok O hk hp ha f ((l + r) / 2 + 1) r (by omega) h2 (by omega) (fun i h4=>?_) hr
        rcases Nat.lt_or_ge i ((l + r) / 2) with h6 | h6
        · exact O.tr ((ha i _ h6 (by omega)).le O) hc
        · obtain rfl:i=(l + r) / 2:=by omega
          exact hc
theorem bin_ok (O:Ord lt):∀ (f:Nat) (p:Array Nat) (k:Nat),k + f=N→Pm N p k→Asc lt p k→Good N lt (kas_bin f p k) (fun p'=>Pm N p' N∧Asc lt p' N)
  | 0,p,k,hk,hp,ha=>by
    obtain rfl:k=N:=by omega
    exact ⟨hp,ha⟩
  | f + 1,p,k,hk,hp,ha=>by
    refine good_bind _ (good_mono (fun l h=>?_) _ (place_ok O (by omega) hp ha k 0 k (Nat.zero_le _) (Nat.le_refl _) (by omega) (fun i h=>by omega) fun i h1 h2=>by omega))
    obtain ⟨hl,h1,h2⟩:=h
    have hsz:=hp.sz
    have ek:=hp.hi k (Nat.le_refl _) (by omega)
    have gb:=fun i=>g_bub (p:=p) (k:=k) (d:=k - l) (by omega) (by omega) i
    have el:k - (k - l)=l:=by omega
    rw [el] at gb
    refine bin_ok O f _ (k + 1) (by omega) ⟨by rw [bubble_size]; exact hsz,(bubble_perm _ _ _).trans hp.pm,fun i hi=>?_,fun i hi hi2=>?_⟩ fun i j hij hj=>?_
    · rw [gb]
      split
      · omega
      · split
        · have:=hp.lo (i - 1) (by omega); omega
        · have:=hp.lo i (by omega); omega
    · rw [gb,if_neg (by omega),if_neg (by omega)]
      exact hp.hi i (by omega) hi2
    · rw [gb,gb]
      by_cases j1:j=l
      · rw [if_pos j1,if_neg (by omega),if_neg (by omega)]
        have:=hp.lo i (by omega)
        exact .inr ⟨h1 i (by omega),by omega⟩
      · rw [if_neg j1]
        by_cases i1:i=l
        · rw [if_pos i1,if_pos (by omega)]
          exact .inl (h2 (j - 1) (by omega) (by omega))
        · rw [if_neg i1]
          by_cases j2:l < j∧j≤k
          · rw [if_pos j2]
            split
            · exact ha _ _ (by omega) (by omega)
            · exact ha _ _ (by omega) (by omega)
          · rw [if_neg j2,if_neg (by omega)]
            exact ha i j hij (by omega)
theorem start_pm (N:Nat):Pm N (List.toArray (List.range N)) 1 where
  sz:=by simp
  pm:=Array.Perm.refl _
  lo:=fun i hi=>by
    obtain rfl:i=0:=by omega
    rw [g_eq]
    cases N with
    | zero=>simp
    | succ m=>simp
  hi:=fun i _ hi=>by rw [g_eq]; simp [hi]
theorem sort_ok (O:Ord lt) (h1:1≤N):Good N lt (kas_sort N) (fun p=>Pm N p N∧Asc lt p N):=by
  refine good_bind _ (good_mono (fun r h=>?_) _ (count_ok O h1 (start_pm N)))
  obtain ⟨r1,r2,r3,r4⟩:=h
  by_cases hr:r.1 < N
  · rw [if_pos hr]
    have em:max r.1 1=r.1:=by omega
    rw [em]
    exact bin_ok O _ _ _ (by omega) r3 r4
  · rw [if_neg hr]
    have e:r.1=N:=by omega
    rw [e] at r3 r4
    exact ⟨r3,r4⟩
theorem out_ok {p:Array Nat} (hp:Pm N p N) (ha:Asc lt p N):p.toList.Perm (List.range N)∧p.toList.Pairwise (R lt):=by
  refine ⟨by simpa using Array.perm_iff_toList_perm.mp hp.pm,List.pairwise_iff_getElem.mpr fun i j hi hj hij=>?_⟩
  have hsz:=hp.sz
  rw [Array.length_toList] at hi hj
  have:=ha i j hij (by omega)
  simpa [g,Array.getD,hi,hj] using this
end
end Srt
namespace L2
open PySem PySem.Spec PyProof.Rows
def inn (X:Cx):Cx:={ X with A:=X.A.in1.in1,xe:=fun _ _=>False }
section
variable {X:Cx} {pins:List (Addr × Obj)} {σ:St} {H:Hp} {s:Shared}
theorem Inv.inn (I:Inv X pins σ H s):Inv (inn X) pins σ H s :=
  ⟨⟨I.ok.mod,I.ok.kind,I.ok.glob,I.ok.blt,I.ok.above,I.ok.inj,I.ok.has,I.ok.cab,I.ok.hd,I.ok.frames,I.ok.stk,I.ok.exf,I.ok.bs,I.ok.bsz,I.ok.noex,I.ok.exfs,I.ok.funs,I.ok.frf⟩,I.os,I.bare,I.base,I.loc,I.cell,I.free,I.freeC,I.pin,I.hok,I.len⟩
theorem Inv.out (ok:X.Ok) (I:Inv (L2.inn X) pins σ H s):Inv X pins σ H s :=
  ⟨ok,I.os,I.bare,I.base,I.loc,I.cell,I.free,I.freeC,I.pin,I.hok,I.len⟩
theorem Inv.track {D:Addr} {ys:List V} {its:List Value} {n:Nat} (I:Inv X pins σ H s) (f:FpOk X pins H D) (hg:s.heap.get? D=some { cls:=.type "list",data:=.seq its.toArray n }) (hv:Vals ys its) (hz:ys.length≤sizeLine):Inv X pins σ (upd H D (.lst ys)) s:=by
  obtain ⟨f1,f2,f3,f4,f5,f6⟩:=f
  have nD:∀ b u,H b=some u→b≠D:=fun b u e z=>by rw [z,f1] at e; cases e
  have J:=I.step (h':=s.heap) (g':=s.gens) (t':=s.toks) (d':=s.drawn) (ch:=[D]) (H':=upd H D (.lst ys)) (fun b hb=>by
      have e:b=D:=by simpa using hb
      subst e
      exact ⟨f4,f2,f5,f6⟩)
    (fun b o _ _ _ e _=>e) (fun b o _ _ _ e _=>⟨o.slots,e⟩) (fun b o hc e n=>by rw [upd_ne (by simpa using hc)]; exact n) (fun b o _ e=>⟨o,e⟩)
    (fun b xs e=>by rw [upd_ne (nD _ _ e)]; exact e) (fun b o u e=>by rw [upd_ne (nD _ _ e)]; exact e) (fun b ps e=>⟨#[],by rw [upd_ne (nD _ _ e),e]; simp⟩) (fun m hm=>hm) (fun b u e=>by
      by_cases hb:b=D
      · subst hb
        rw [upd_same] at e
        cases e
        exact ⟨hz,its,n,hv,hg⟩
      · rw [upd_ne hb] at e
        exact (I.hok b u e).stay (fun _ _ _ q=>q) (fun c q=>by rw [upd_ne (nD _ _ q)]; exact q) fun c xs q=>by rw [upd_ne (nD _ _ q)]; exact q) I.bare
  exact J
theorem FpOk.pinned {b:Addr} {pl:List (Addr × Obj)} (f:FpOk X pins H b) (h:∀ p ∈ pl,p.1≠b):FpOk X (pins++pl) H b:=by
  obtain ⟨f1,f2,f3,f4,f5,f6⟩:=f
  refine ⟨f1,f2,f3,f4,f5,fun p hp=>?_⟩
  rcases List.mem_append.mp hp with hp | hp
  · exact f6 p (List.mem_append_left _ hp)
  · rcases List.mem_append.mp hp with hp | hp
    · exact f6 p (List.mem_append_right _ hp)
    · exact h p hp
theorem FpOk.on {b:Addr} {H':Hp} (f:FpOk X pins H b) (h:H' b=none):FpOk X pins H' b:=⟨h,f.2⟩
theorem Inv.wr {b:Addr} {h':Heap} {t':Nat} (I:Inv X pins σ H s) (f:FpOk X pins H b) (k:∀ c o,c≠b→s.heap.get? c=some o→h'.get? c=some o):Inv X pins σ H { s with heap:=h',toks:=t' } :=
  I.turned k f.1 f.2.1 f.2.2.2.1 f.2.2.2.2.1 f.2.2.2.2.2
theorem upd_keeps {h:Heap} {b:Addr} {f:Obj→Obj}:∀ c o,c≠b→h.get? c=some o→(h.update b f).get? c=some o:=fun c o hc e=>by
  rw [Heap.get?_update_ne _ _ _ _ hc]
  exact e
end
abbrev kd (pins:List (Addr × Obj)) (kS D:Addr) (ks:List Value) (e e1:Nat):List (Addr × Obj):=pins++[(kS,seqObj "list" ks.toArray e),(D,seqObj "list" #[] e1)]
section
variable {X:Cx} {pins:List (Addr × Obj)} {σ:St} {H:Hp} {s:Shared} {kS D:Addr} {its:List Value} {xs:List V} {f:Value} {Q:VK}
structure Asks (X:Cx) (n:Nat) (ks:List Value) (s:Shared) (κ:SortKind) (lt:Nat→Nat→Bool):Prop where
  ord:Srt.Ord lt
  kind:2≤n→∀ Q:SortKind→Shared→Prop,Q κ s→wpAny (model X.prog X.w) X.A.in1.in1 (keyKind' ks.toArray) Q (fun _ _=>False) s
  ask:∀ i j (C:Bool→Shared→Prop),i < n→j < n→C (lt i j) s→PySem.W.kas_ask X.prog X.w X.A.in1.in1 κ ks i j C s
def SEnd (X:Cx) (xs:List V) (Q:VK) (J:Nat→Hp→List Value→Prop):Prop:=∀ (pins:List (Addr × Obj)) (σ:St) (H:Hp) (s:Shared) (ks:List Value),J xs.length H ks→ks.length=xs.length→Inv (inn X) pins σ H s→∃ κ lt,Asks X xs.length ks s κ lt ∧
  ∀ p:List Nat,p.Perm (List.range xs.length)→p.Pairwise (Srt.R lt)→∀ D,H D=none→Q (.ref D) (upd H D (.lst (p.map fun i=>xs.getD i .non)))
theorem vals_pick {xs:List V} {its:List Value} (r:Vals xs its):∀ (p:List Nat),(∀ i ∈ p,i < xs.length)→Vals (p.map fun i=>xs.getD i .non) (p.map fun i=>its.getD i Value.none)
  | [],_=>.nil
  | i::p,h=>by
    have hi:=h i List.mem_cons_self
    refine .cons ?_ (vals_pick r p fun j hj=>h j (List.mem_cons_of_mem _ hj))
    obtain ⟨u,e,ru⟩:=r.get (List.getElem?_eq_getElem hi)
    show RelV (xs.getD i .non) (its.getD i Value.none)
    rw [List.getD_eq_getElem?_getD,List.getD_eq_getElem?_getD,e,List.getElem?_eq_getElem hi]
    exact ru
theorem sort_tail {out:List Value} {ys:List V} {ks:List Value} {e e1:Nat} {st:SortSt} {E:Value→Shared→Prop} (ok:X.Ok) (I:Inv (inn X) (kd pins kS D ks e e1) σ H s) (fk:FpOk (inn X) pins H kS) (fD:FpOk (inn X) pins H D) (hne:kS≠D) (hz:out.length < 64) (hkz:ks.length < 64)
    (hout:(arrOf st).map (·.2)=List.toArray out) (hf:failedOf st=none) (hv:Vals ys out) (q:Q (.ref D) (upd H D (.lst ys))) :
    wpAny (model X.prog X.w) X.A.in1.in1 (ksk_tail D false e1 (.ref kS) st) (fun fin s'=>fin=.done (.ret .none)∧EP X pins σ Q (.ref D) s') E s:=by
  have pk:=I.pin (kS,seqObj "list" ks.toArray e) (by simp)
  have pD:=I.pin (D,seqObj "list" #[] e1) (by simp)
  have I0:Inv (inn X) pins σ H s:=I.pins_of fun p hp=>I.pin p (List.mem_append_right _ (List.mem_append_left _ hp))
  unfold ksk_tail
  try dsimp only
  rw [hout]
  refine wpAny_bind (listUpdate_at pk.1 rfl ?_ (by rw [List.size_toArray,sizeLine_eq]; omega) (Nat.zero_le _))
  refine wpAny_bind (wpAny_letGo ?_)
  have gD:(s.heap.update kS (Obj.mapSeq fun _=>(#[]:Array Value))).get? D=some (seqObj "list" #[] e1):=upd_keeps D _ (Ne.symm hne) pD.1
  refine wpAny_bind (seqEpoch_at gD rfl ?_)
  refine wpAny_bind (listUpdate_at gD rfl ?_ (Nat.zero_le _) (by simp only [Bool.false_eq_true,if_false]; rw [List.size_toArray,sizeLine_eq]; omega))
  rw [hf]
  simp only [bne_self_eq_false,Bool.false_eq_true,if_false]
  have I1:=I0.wr (t':=s.toks) fk (h':=s.heap.update kS (Obj.mapSeq fun _=>(#[]:Array Value))) upd_keeps
  have I2:=I1.wr (t':=s.toks) fD (h':=(s.heap.update kS (Obj.mapSeq fun _=>(#[]:Array Value))).update D (Obj.mapSeq fun _=>List.toArray out)) upd_keeps
  obtain ⟨c2,hc2⟩:∃ c2,((s.heap.update kS (Obj.mapSeq fun _=>(#[]:Array Value))).update D (Obj.mapSeq fun _=>List.toArray out)).get? D=some (seqObj "list" (List.toArray out) c2):=⟨_,get?_update_seq gD fun _=>List.toArray out⟩
  have I3:=I2.track (ys:=ys) (its:=out) (n:=c2) fD hc2 hv (by rw [hv.length,sizeLine_eq]; omega)
  exact wpAny_pure ⟨rfl,.ref D,_,Inv.out ok I3,rfl,q⟩
theorem sort_end {J:Nat→Hp→List Value→Prop} {ks:List Value} {e e1:Nat} {E:Value→Shared→Prop} (ok:X.Ok) (I:Inv (inn X) (kd pins kS D ks e e1) σ H s) (fk:FpOk (inn X) pins H kS) (fD:FpOk (inn X) pins H D) (hne:kS≠D) (h64:its.length < 64)
    (rv:Vals xs its) (hk:ks.length=xs.length) (hJ:J xs.length H ks) (h:SEnd X xs Q J) :
    wpAny (model X.prog X.w) X.A.in1.in1 (ksk_end D false its.toArray e1 (.ref kS) ks.toArray) (fun fin s'=>fin=.done (.ret .none)∧EP X pins σ Q (.ref D) s') E s:=by
  have hl:=rv.length
  obtain ⟨κ,lt,ha,q⟩:=h _ _ _ _ ks hJ hk I
  unfold ksk_end
  try dsimp only
  simp only [Bool.false_eq_true,if_false]
  by_cases h2:its.toArray.size < 2
  · rw [if_pos h2,if_pos h2]
    refine wpAny_bind (wpAny_pure ?_)
    rw [StateT.run_pure]
    refine wpAny_bind (wpAny_pure ?_)
    try dsimp only
    rw [List.size_toArray] at h2
    have ep:(List.range xs.length).map (fun i=>xs.getD i .non)=xs:=by
      refine List.ext_getElem (by simp) fun i h1 h2=>?_
      simp at h1
      simp [h1]
    have q0:=q (List.range xs.length) (List.Perm.refl _) (by
      rcases Nat.lt_or_ge xs.length 1 with z | z
      · rw [show xs.length=0 by omega]; exact List.Pairwise.nil
      · rw [show xs.length=1 by omega]; exact List.pairwise_singleton _ _) D fD.1
    rw [ep] at q0
    refine sort_tail (st:=SortSt.mk' general' (ks.toArray.zip its.toArray) #[] 7 none) ok I fk fD hne h64 (by omega) ?_ rfl rv q0
    show (ks.toArray.zip its.toArray).map (·.2)=its.toArray
    apply Array.toList_inj.mp
    rw [Array.toList_map,ksk_zip]
    simp only [List.toList_toArray]
    exact List.map_snd_zip (by omega)
  · rw [if_neg h2,if_neg h2]
    rw [List.size_toArray] at h2
    refine wpAny_bind (wpAny_mono (ha.kind (by omega) (fun κ' s'=>κ'=κ∧s'=s) ⟨rfl,rfl⟩) (fun κ' s' hκ=>?_) fun _ _ x=>x.elim)
    obtain ⟨rfl,rfl⟩:=hκ
    have so:=Srt.good_wp (Q:=fun p s''=>s''=s'∧Srt.Pm its.length p its.length∧Srt.Asc lt p its.length) (s:=s') (cmp:=PySem.W.kas_ask X.prog X.w X.A.in1.in1 κ' ks) (fun i j C hi hj hC=>ha.ask i j C (by omega) (by omega) hC)
      (PySem.W.kas_sort its.length) (Srt.good_mono (fun p hp=>⟨rfl,hp⟩) _ (Srt.sort_ok ha.ord (by omega)))
    refine wpAny_bind (wpAny_mono (PySem.W.kat_run (Q:=fun st' s''=>∃ p:Array Nat,arrOf st'=p.map (PySem.W.kas_item (ks.toArray.zip its.toArray))∧failedOf st'=none∧s''=s'∧Srt.Pm its.length p its.length∧Srt.Asc lt p its.length)
      (by omega) (by omega) h64 (fun p' st' s'' a1 a2 a3 a4=>⟨p',a2,a3,a4⟩) so) ?_ fun _ _ x=>x)
    rintro ⟨⟨⟩,st'⟩ s'' ⟨p,har,hf,rfl,hp,hasc⟩
    try dsimp only
    obtain ⟨o1,o2⟩:=Srt.out_ok hp hasc
    rw [← hl] at o1
    have hlt:∀ i ∈ p.toList,i < xs.length:=fun i hi=>List.mem_range.mp (o1.mem_iff.mp hi)
    refine sort_tail (out:=p.toList.map fun i=>its.getD i Value.none) (ys:=p.toList.map fun i=>xs.getD i .non) ok I fk fD hne ?_ (by omega) (PySem.W.kat_snds (by omega) har) hf (vals_pick rv _ hlt) (q _ o1 o2 D fD.1)
    rw [List.length_map,Array.length_toList,hp.sz]
    exact h64
theorem sort_rest {J:Nat→Hp→List Value→Prop} {e1:Nat} {E:Value→Shared→Prop} (ok:X.Ok) (I:Inv (inn X) (kd pins kS D [] 0 e1) σ H s) (fk:FpOk (inn X) pins H kS) (fD:FpOk (inn X) pins H D) (hne:kS≠D) (h64:its.length < 64)
    (rv:Vals xs its) (hJ:J 0 H []) (turn:∀ (i:Nat) (x:V) (v:Value) (pins:List (Addr × Obj)) (σ:St) (H:Hp) (s:Shared) (ks:List Value),xs[i]?=some x→RelV x v→J i H ks→ks.length=i→Inv (inn X) pins σ H s →
      wpAny (model X.prog X.w) X.A.in1.in1 (call f [v]) (fun u s2=>∃ H2,Inv (inn X) pins σ H2 s2∧J (i + 1) H2 (ks++[u])) (fun _ _=>False) s) (h:SEnd X xs Q J) :
    wpAny (model X.prog X.w) X.A.in1.in1 (ksk_rest D f false its.toArray e1 (.ref kS)) (fun fin s'=>fin=.done (.ret .none)∧EP X pins σ Q (.ref D) s') E s:=by
  have hl:=rv.length
  unfold ksk_rest
  refine wpAny_bind (wpAny_rule ?_)
  rw [List.forIn_toArray]
  refine wpAny_bind (ksk_fold (fun i s'=>∃ H' ks e,J i H' ks∧ks.length=i∧Inv (inn X) (kd pins kS D ks e e1) σ H' s') its 0 s ⟨H,[],0,hJ,rfl,I⟩ ?step ?done)
  case step =>
    rintro j v s' hv ⟨H',ks,e,hJ',hk,I'⟩
    simp only [Nat.zero_add] at hJ' hk ⊢
    have hj:j < its.length:=(List.getElem?_eq_some_iff.mp hv).1
    have hx:xs[j]?=some (xs[j]'(by omega)):=List.getElem?_eq_getElem _
    obtain ⟨u,eu,ru⟩:=rv.get hx
    rw [hv] at eu
    cases eu
    refine wpAny_bind (wpAny_attempt (wpAny_mono (turn j _ v _ _ _ _ ks hx ru hJ' hk I') (fun u s2 hu=>?_) fun _ _ hF=>hF.elim))
    obtain ⟨H2,I2,J2⟩:=hu
    try dsimp only
    have pk:=I2.pin (kS,seqObj "list" ks.toArray e) (by simp)
    have pD:=I2.pin (D,seqObj "list" #[] e1) (by simp)
    have I3:Inv (inn X) (pins++[(D,seqObj "list" #[] e1)]) σ H2 s2:=I2.pins_of fun p hp=>I2.pin p (by
      refine List.mem_append_right _ ?_
      rcases List.mem_append.mp hp with z | z
      · exact List.mem_append_left _ z
      · exact List.mem_append_right _ (.tail _ z))
    refine wpAny_bind (listUpdate_at pk.1 rfl ?_ (by rw [List.size_toArray,sizeLine_eq]; omega) (Nat.le_trans (Nat.le_of_eq (Array.size_push ..)) (by rw [List.size_toArray,sizeLine_eq]; omega)))
    have ea:(List.toArray ks).push u=List.toArray (ks++[u]):=by simp
    obtain ⟨c2,hc2⟩:∃ c2,(s2.heap.update kS (Obj.mapSeq (·.push u))).get? kS=some (seqObj "list" (List.toArray (ks++[u])) c2):=⟨_,by rw [← ea]; exact get?_update_seq pk.1 (·.push u)⟩
    have I4:=I3.wr (t':=s2.toks) ((fk.on pk.2.1).pinned fun p hp=>by rw [List.mem_singleton.mp hp]; exact Ne.symm hne) (h':=s2.heap.update kS (Obj.mapSeq (·.push u))) upd_keeps
    refine wpAny_pure ⟨rfl,H2,ks++[u],c2,J2,by rw [List.length_append,List.length_singleton,hk],I4.pins_of fun p hp=>?_⟩
    rcases List.mem_append.mp hp with z | z
    · exact I4.pin p (List.mem_append_right _ (List.mem_append_left _ z))
    · rcases List.mem_cons.mp z with rfl | z
      · exact ⟨hc2,pk.2.1,pk.2.2.1,pk.2.2.2.1,fun v e=>nomatch e⟩
      · exact I4.pin p (List.mem_append_right _ (List.mem_append_right _ z))
  case done =>
    rintro s' ⟨H',ks,e,hJ',hk,I'⟩
    rw [Nat.zero_add,← hl] at hJ' hk
    have pk:=I'.pin (kS,seqObj "list" ks.toArray e) (by simp)
    have pD:=I'.pin (D,seqObj "list" #[] e1) (by simp)
    try dsimp only
    refine wpAny_bind (listItems_at pk.1 rfl ?_)
    exact sort_end ok I' (fk.on pk.2.1) (fD.on pD.2.1) hne h64 rv hk hJ' h
theorem sort_call {J:Nat→Hp→List Value→Prop} {l q:Addr} (I:Inv X pins σ H s) (hl:SqL X.K H l xs) (h64:xs.length < 64)
    (hJ:J 0 H []) (turn:∀ (i:Nat) (x:V) (v:Value) (pins:List (Addr × Obj)) (σ:St) (H:Hp) (s:Shared) (ks:List Value),xs[i]?=some x→RelV x v→J i H ks→ks.length=i→Inv (inn X) pins σ H s →
      wpAny (model X.prog X.w) X.A.in1.in1 (call (.ref q) [v]) (fun u s2=>∃ H2,Inv (inn X) pins σ H2 s2∧J (i + 1) H2 (ks++[u])) (fun _ _=>False) s) (h:SEnd X xs Q J) :
    wpAny (model X.prog X.w) X.A (call (.builtin "sorted") [.ref l] [(Str.ofString "key",.ref q)]) (EP X pins σ Q) X.xe s:=by
  obtain ⟨its,rv,hIl,hzl⟩:=I.list hl
  have hlen:=rv.length
  have h64':its.length < 64:=by omega
  refine call_function_entry_kw kind_sorted plain_sorted entry_sorted (ksk_s1 _ _) ?_
  unfold Builtin.«sorted»
  refine wpAny_bind (m:=checkCount "sorted" 1 1 _) (wpAny_pure ?_)
  refine wpAny_bind (collect_list hIl.isList ?_ (by rw [sizeLine_eq]; omega))
  refine wpAny_bind (wpAny_newList ?_ (by rw [sizeLine_eq]; omega))
  have hsz:((s.heap.push (seqObj "list" #[] 0)).update s.heap.objs.size (Obj.mapSeq (·++its.toArray))).objs.size=s.heap.objs.size + 1:=by
    rw [Heap.size_update,size_push']
  have hoL:(((s.heap.push (seqObj "list" #[] 0)).update s.heap.objs.size (Obj.mapSeq (·++its.toArray))).push (seqObj "list" its.toArray 0)).get? (s.heap.objs.size + 1)=some (seqObj "list" its.toArray 0):=by
    rw [← hsz]; exact Heap.get?_push_size _ rfl
  have keep:∀ b o,s.heap.get? b=some o→(((s.heap.push (seqObj "list" #[] 0)).update s.heap.objs.size (Obj.mapSeq (·++its.toArray))).push (seqObj "list" its.toArray 0)).get? b=some o:=fun b o q=>by
    have hlt:b < s.heap.objs.size:=Heap.lt_size q
    rw [Heap.get?_push_ne _ _ _ (by rw [hsz]; exact Nat.ne_of_lt (Nat.lt_succ_of_lt hlt)),Heap.get?_update_ne _ _ _ _ (Nat.ne_of_lt hlt),Heap.get?_push_ne _ _ _ (Nat.ne_of_lt hlt)]
    exact q
  show wpAny _ _ _ _ _ { s with heap:=((s.heap.push (seqObj "list" #[] 0)).update s.heap.objs.size (Obj.mapSeq (·++its.toArray))).push (seqObj "list" its.toArray 0) }
  rw [hsz]
  have fD:FpOk (inn X) pins H (s.heap.objs.size + 1):=I.inn.fpOk (Nat.le_succ _) (I.hok.fresh (Nat.le_succ _))
  have I1:=I.inn.kept (t':=s.toks) keep
  refine wpAny_bind (wpAny_holding (wpAny_call_entry_kw slot_list_sort ⟨_,hoL,rfl⟩ entry_list_sort ?body (ksk_l1 _ _)))
  case body =>
    show wpAny (model X.prog X.w) X.A.in1.in1 (Builtin.«list.sort» ⟨[.ref (s.heap.objs.size + 1)],_⟩) _ _ _
    rw [ksk_t1]
    unfold ksk_tree
    refine wpAny_bind (listItems_at hoL rfl ?_)
    refine wpAny_bind (listUpdate_at hoL rfl ?_ (by rw [List.size_toArray,sizeLine_eq]; omega) (Nat.zero_le _))
    obtain ⟨e1,ho1⟩:∃ e1,((((s.heap.push (seqObj "list" #[] 0)).update s.heap.objs.size (Obj.mapSeq (·++its.toArray))).push (seqObj "list" its.toArray 0)).update (s.heap.objs.size + 1) (Obj.mapSeq fun _=>(#[]:Array Value))).get? (s.heap.objs.size + 1)=some (seqObj "list" #[] e1):=⟨_,get?_update_seq hoL fun _=>#[]⟩
    have I2:=I1.wr (t':=s.toks) fD (h':=(((s.heap.push (seqObj "list" #[] 0)).update s.heap.objs.size (Obj.mapSeq (·++its.toArray))).push (seqObj "list" its.toArray 0)).update (s.heap.objs.size + 1) (Obj.mapSeq fun _=>(#[]:Array Value))) upd_keeps
    generalize hh:(((s.heap.push (seqObj "list" #[] 0)).update s.heap.objs.size (Obj.mapSeq (·++its.toArray))).push (seqObj "list" its.toArray 0)).update (s.heap.objs.size + 1) (Obj.mapSeq fun _=>(#[]:Array Value))=h2 at *
    refine wpAny_bind (seqEpoch_at ho1 rfl ?_)
    refine wpAny_bind (wpAny_newTuple ?_ (by show its.length≤_; rw [sizeLine_eq]; omega))
    refine wpAny_bind (wpAny_newList ?_ (Nat.zero_le _))
    refine wpAny_holding ?_
    have hlt:s.heap.objs.size + 1 < h2.objs.size:=Heap.lt_size ho1
    have k3:∀ b o,h2.get? b=some o→((h2.push (seqObj "tuple" its.toArray 0)).push (seqObj "list" #[] 0)).get? b=some o:=fun b o q=>Heap.get?_push_of_some _ (Heap.get?_push_of_some _ q)
    have I3:=I2.kept (t':=s.toks) (h':=(h2.push (seqObj "tuple" its.toArray 0)).push (seqObj "list" #[] 0)) k3
    have hkS:(h2.push (seqObj "tuple" its.toArray 0)).objs.size=h2.objs.size + 1:=size_push' _ _
    have fk:FpOk (inn X) pins H (h2.push (seqObj "tuple" its.toArray 0)).objs.size:=I2.fpOk (by show h2.objs.size≤_; rw [hkS]; exact Nat.le_succ _) (I2.hok.fresh (by show h2.objs.size≤_; rw [hkS]; exact Nat.le_succ _))
    refine wpAny_mono (sort_rest (s:={ s with heap:=(h2.push (seqObj "tuple" its.toArray 0)).push (seqObj "list" #[] 0) }) (kS:=(h2.push (seqObj "tuple" its.toArray 0)).objs.size) (D:=s.heap.objs.size + 1) (σ:=σ) (e1:=e1) (f:=.ref q) I.ok ?_ fk fD (Nat.ne_of_gt (by rw [hkS]; omega)) h64' rv hJ turn h) (fun fin s' hq=>?_) fun _ _ x=>x
    · refine I3.pins_of fun p hp=>?_
      rcases List.mem_append.mp hp with z | z
      · exact I3.pin p (List.mem_append_right _ z)
      · rcases List.mem_cons.mp z with rfl | z
        · exact ⟨Heap.get?_push_size _ rfl,fk.1,fk.2.1,fk.2.2.1,fun v e=>nomatch e⟩
        · rw [List.mem_singleton.mp z]
          exact ⟨k3 _ _ ho1,fD.1,fD.2.1,fD.2.2.1,fun v e=>nomatch e⟩
    · obtain ⟨rfl,hq⟩:=hq
      exact ⟨_,rfl,wpAny_pure ⟨_,rfl,hq⟩⟩
end
end L2
namespace L2
open PySem PySem.Spec PyProof.Rows
def Ob (o:HO) (xs:List V):Prop:=o=.lst xs∨o=.tup xs
theorem Ob.sq {K:PySem.W.Frag} {H:Hp} {a:Addr} {o:HO} {xs:List V} (h:Ob o xs) (e:H a=some o):SqL K H a xs∨SqT K H a xs:=by
  rcases h with h | h
  · subst h; exact .inl (.of e)
  · subst h; exact .inr (.of e)
def ItOk (J:It) (a:Addr) (o:HO) (xs:List V):Prop:=∀ H:Hp,H a=some o→(∀ i x,xs[i]?=some x→J.go i H∧∀ y H',J.yld i H y H'→H'=H∧y=x)∧J.stop xs.length H
def iSeq (K:PySem.W.Frag) (tl:TE):TI:=fun σ H R=>tl σ H fun x H1=>∃ a o xs,x=.ref a∧H1 a=some o∧Ob o xs∧∀ J,ItOk J a o xs→R J H1
theorem itl_ok {K:PySem.W.Frag} {a:Addr} {xs:List V}:ItOk (Itl K a) a (.lst xs) xs:=fun H e=>⟨fun i x hx=>⟨⟨xs,x,.of e,hx⟩,fun y H' z=>⟨z.1,by
    have:=z.2 xs (.of e)
    rw [hx] at this
    exact (Option.some.inj this).symm⟩⟩,⟨xs,.of e,Nat.le_refl _⟩⟩
theorem itt_ok {K:PySem.W.Frag} {a:Addr} {xs:List V}:ItOk (Itt K a) a (.tup xs) xs:=fun H e=>⟨fun i x hx=>⟨⟨xs,x,.of e,hx⟩,fun y H' z=>⟨z.1,by
    have:=z.2 xs (.of e)
    rw [hx] at this
    exact (Option.some.inj this).symm⟩⟩,⟨xs,.of e,Nat.le_refl _⟩⟩
section
variable {X:Cx} {tg:Expr}
theorem pi_seq {l:Expr} {tl:TE} (hl:PE X l tl):PI X tg l (iSeq X.K tl):=by
  intro pins s σ H R I h
  refine thn (hl pins s σ H _ I h) fun v s1 ⟨x,H1,I1,r1,q1⟩=>?_
  obtain ⟨a,o,xs,e,ha,ho,q⟩:=q1
  subst e
  cases r1
  have fpk:∀ b ∈ [s1.heap.objs.size],FpOk X pins H1 b:=fun b hb=>by
    have e:b=s1.heap.objs.size:=by simpa using hb
    subst e
    exact I1.fpOk (Nat.le_refl _) (I1.hok.fresh (Nat.le_refl _))
  rcases ho with ho | ho
  · subst ho
    obtain ⟨its,rv,p,hz⟩:=I1.list (.of ha:SqL X.K H1 a xs)
    refine wpAny_pyIter_list p.isList ?_
    exact ⟨s1.heap.objs.size,[s1.heap.objs.size],_,_,H1,rfl,I1.kept (t':=s1.toks) fun b o e=>Heap.get?_push_of_some _ e,turn_list a _,⟨_,Heap.get?_push_size _ rfl,rfl,rfl⟩,fpk,q _ itl_ok⟩
  · subst ho
    obtain ⟨its,rv,p,hz⟩:=I1.tuple (.of ha:SqT X.K H1 a xs)
    refine wpAny_pyIter_tuple (show s1.heap.IsTuple a its.toArray from p) ?_
    exact ⟨s1.heap.objs.size,[s1.heap.objs.size],_,_,H1,rfl,I1.kept (t':=s1.toks) fun b o e=>Heap.get?_push_of_some _ e,turn_tuple a _,⟨_,Heap.get?_push_size _ rfl,rfl,rfl⟩,fpk,q _ itt_ok⟩
def rIxSq (K:PySem.W.Frag):R2:=fun x y H Q=>∃ p xs i v,x=.ref p∧y=.int i∧(SqL K H p xs∨SqT K H p xs)∧atI xs i=some v∧Q v H
theorem ix_sq:IxR X (rIxSq X.K):=by
  intro value slice pins s σ H x y v u Q I rx ry h hs
  obtain ⟨p,xs,i,z,e1,e2,hq,he,q⟩:=h
  rcases hq with hq | hq
  · exact ix_list value slice pins s σ H x y v u Q I rx ry ⟨p,xs,i,z,e1,e2,hq,he,q⟩ hs
  · exact ix_tup value slice pins s σ H x y v u Q I rx ry ⟨p,xs,i,z,e1,e2,hq,he,q⟩ hs
end
theorem lc_it {J:It} {a:Addr} {o:HO} {xs:List V} {tc:TT} {te:TE} {σ:St} {D:Addr} {Fin:Hp→Prop} {H:Hp} (hJ:ItOk J a o xs) (Pv:Nat→List V→Hp→Prop) (h0:Pv 0 [] (upd H D (.lst [])))
    (hD:∀ i ys H,Pv i ys H→H D=some (.lst ys)∧H a=some o) (hend:∀ ys H,Pv xs.length ys H→Fin H)
    (hgo:∀ i x ys H,i < xs.length→xs[i]?=some x→Pv i ys H→tc (some x::σ) H fun b H2=>if b=true then te (some x::σ) H2 (LcNx xs.length i D ys Pv) else LcNo xs.length i ys Pv H2):lcGo tc te σ J D Fin H:=by
  refine lc_go Pv h0 (fun i ys H p=>(hD i ys H p).1) (fun ys H p=>⟨(hJ H (hD _ _ _ p).2).2,hend ys H p⟩) fun i ys H hi p=>?_
  obtain ⟨g,k⟩:=(hJ H (hD _ _ _ p).2).1 i xs[i] (List.getElem?_eq_getElem hi)
  refine ⟨g,fun x H' y=>?_⟩
  obtain ⟨e1,e2⟩:=k x H' y
  subst e1 e2
  exact hgo i _ ys _ hi (List.getElem?_eq_getElem hi) p
theorem for_it {J:It} {a:Addr} {o:HO} {xs:List V} {g:TG} {tb:TS} {D:Ends} {σ:St} {H:Hp} (hJ:ItOk J a o xs) (Pv:Nat→St→Hp→Prop) (h0:Pv 0 σ H) (hl:∀ i σ H,i≤xs.length→Pv i σ H→H a=some o)
    (hs:∀ i x σ H,xs[i]?=some x→Pv i σ H→g x σ H fun σ2 H2=>tb { D with nx:=Pv (i + 1),ct:=Pv (i + 1),bk:=D.nx } σ2 H2) (hd:∀ σ H,Pv xs.length σ H→D.nx σ H) :
    ∃ W:Nat→Nat→St→Hp→Prop,(∃ m,W 0 m σ H)∧∀ i m σ H,W i m σ H →
      (J.stop i H∧D.nx σ H)∨(J.go i H∧∃ N:St→Hp→Prop,(∀ σ' H',N σ' H'→∃ m',m' < m∧W (i + 1) m' σ' H')∧∀ x H',J.yld i H x H'→g x σ H' fun σ2 H2=>tb { D with nx:=N,ct:=N,bk:=D.nx } σ2 H2):=by
  refine ⟨fun i m σ H=>m=xs.length - i∧i≤xs.length∧Pv i σ H,⟨xs.length,by simp,Nat.zero_le _,h0⟩,?_⟩
  rintro i m σ H ⟨rfl,hi,p⟩
  have q:=hl i σ H hi p
  by_cases hlt:i < xs.length
  · obtain ⟨gg,k⟩:=(hJ H q).1 i xs[i] (List.getElem?_eq_getElem hlt)
    refine .inr ⟨gg,Pv (i + 1),fun σ' H' p'=>⟨xs.length - (i + 1),by omega,rfl,hlt,p'⟩,fun x H' y=>?_⟩
    obtain ⟨e1,e2⟩:=k x H' y
    subst e1 e2
    exact hs i _ σ _ (List.getElem?_eq_getElem hlt) p
  · have e:i=xs.length:=by omega
    subst e
    exact .inl ⟨(hJ H q).2,hd σ H p⟩
section
variable {X:Cx}
end
end L2
namespace L2
open PySem PySem.Spec PyProof.Rows
def cxLN (X:Cx) (xs Ns:List Str) (scope:Scope) (C:Addr) (fp:List Addr) (s:Shared) (H:Hp):Cx where
  prog:=X.prog
  w:=X.w
  K:=X.K
  mg:=X.mg
  base:=X.base
  A:=X.A
  N:=xs++Ns
  s₀:=s
  H₀:=H
  env:=compEnvC scope (clOf scope X.env.cells) C X.env
  outer:=X.stack
  stack:=X.stack
  ex:=fp
  fn:=fun _=>false
  calm:=X.calm
  pn:=[]
  xe:=fun _ _=>False
structure LnScope (X:Cx) (xs Ns:List Str) (sc:Scope):Prop where
  kind:sc.kind=.function
  nocell:∀ p ∈ sc.names,p.2≠.cell
  loc:∀ x ∈ xs,sc.names.lookup x=some .local
  names:∀ p ∈ sc.names,p.2=.local→sc.names.lookup p.1=some .local
  apart:∀ y ∈ Ns,sc.names.lookup y≠some .local
  sub:∀ (i:Nat) (y:Str),Ns[i]?=some y→sc.names.lookup y=some .free→X.N[i]?=some y
  len:Ns.length=X.N.length
  all:(xs++Ns).Nodup
  free:∀ p ∈ sc.names,p.2=.free→X.env.kindOf p.1=some .cell∨X.env.kindOf p.1=some .free
section
variable {X:Cx} {pins:List (Addr × Obj)} {σ:St} {H:Hp} {s:Shared} {xs Ns:List Str} {sc:Scope} {C:Addr} {fp:List Addr}
theorem LnScope.cells (S:LnScope X xs Ns sc) (ok:X.Ok):∀ p ∈ sc.names,p.2=.free→∃ a,X.env.cells.lookup p.1=some a:=fun p hp e=>ok.has p.1 (S.free p hp e)
theorem Inv.okLN (I:Inv X pins σ H s) (S:LnScope X xs Ns sc) (hC:s.heap.objs.size≤C) (hf:∀ b ∈ fp,FpOk X pins H b) (hlt:∀ b ∈ fp,b < s.heap.objs.size):(cxLN X xs Ns sc C fp s H).Ok where
  mod:=I.ok.mod
  kind:=S.kind
  glob:=I.ok.glob
  blt:=I.ok.blt
  above:=hC
  inj:=fun y z c e1 e2=>I.ok.inj y z c (clOf_sub sc X.env.cells e1) (clOf_sub sc X.env.cells e2)
  has:=fun y hy=>by
    have hy':(relabel sc X.env).names.lookup y=some .cell∨(relabel sc X.env).names.lookup y=some .free:=hy
    have fr:sc.names.lookup y=some .free:=by
      rcases hy' with h | h
      · obtain ⟨k',e,q⟩:=relabel_look h
        rcases q with q | ⟨q,_⟩
        · subst q; exact absurd rfl (S.nocell _ (PySem.mem_of_lookup e))
        · rw [e,q]
      · obtain ⟨k',e,q⟩:=relabel_look h
        rcases q with q | ⟨_,q⟩
        · rw [e,← q]
        · cases q
    exact clOf_has sc X.env.cells (S.cells I.ok) (PySem.mem_of_lookup fr)
  cab:=fun y c e=>by cases (show false=true from e)
  hd:=I.ok.hd
  frames:=I.ok.frames
  stk:=.inl rfl
  exf:=fun b hb=>⟨Nat.ne_of_lt (Nat.lt_of_lt_of_le (hlt b hb) hC),fun y c e=>(hf b hb).2.2.2.2.1 y c (clOf_sub sc X.env.cells e)⟩
  bs:=I.bs
  bsz:=Nat.le_trans I.ok.bsz I.sz
  noex:=fun b o e hb=>by
    rcases (hf b hb).2.2.2.1 with q | q
    · exact I.ok.noex b o e q
    · exact absurd (Nat.lt_of_lt_of_le (Heap.lt_size e) (Nat.le_trans I.ok.bsz q)) (Nat.lt_irrefl _)
  exfs:=fun b hb z=>by
    rcases List.mem_cons.mp (I.stkSub b z) with q | q
    · exact (hf b hb).2.1 q
    · exact (hf b hb).2.2.1 q
  funs:=I.stack
  frf:=I.stkFree
theorem Inv.startLN {D:Addr} {h1:Heap} {m:Str→Option Value} {tk:Nat} {w:St} (I:Inv X pins σ H s) (S:LnScope X xs Ns sc) (hf:∀ b ∈ fp,FpOk X pins H b) (hlt:∀ b ∈ fp,b < s.heap.objs.size) (hw:w=xs.map fun _=>none)
    (hD:D=s.heap.objs.size) (hC:s.heap.objs.size≤C) (hDC:C≠D) (hk:∀ b o,s.heap.get? b=some o→h1.get? b=some o) (hn:h1.Ns C m) (hl:h1.get? D=some { cls:=.type "list",data:=.seq ([]:List Value).toArray 0 }) :
    Inv (cxLN X xs Ns sc C fp s H) [] (w++σ) (upd H D (.lst [])) { s with heap:=h1,toks:=tk }:=by
  have hwl:w.length=xs.length:=by rw [hw,List.length_map]
  have hDle:s.heap.objs.size≤D:=by rw [hD]; exact Nat.le_refl _
  have cells:∀ y c,(clOf sc X.env.cells).lookup y=some c→c < s.heap.objs.size:=fun y c e=>by
    obtain ⟨v,q⟩:=I.cell y c (clOf_sub sc X.env.cells e)
    exact q.lt
  refine ⟨I.okLN S hC hf hlt,rfl,I.bare,Un.laid hk hDle (I.hok.fresh hDle),⟨m,hn,fun i y v e1 e2 e3=>?_⟩,fun y c e=>?_,?_,fun y c e=>?_,fun p hp=>absurd (show p ∈ ([]:List (Addr × Obj)) from hp) (by simp),I.hok.laid hk hDle ⟨Nat.zero_le _,[],0,.nil,hl⟩,?_⟩
  · have e1:(xs++Ns)[i]?=some y:=e1
    have e2:(w++σ)[i]?=some (some v):=e2
    rcases Nat.lt_or_ge i xs.length with hi | hi
    · rw [List.getElem?_append_left (by omega),hw,List.getElem?_map,List.getElem?_eq_getElem hi] at e2
      cases e2
    · have e1':Ns[i - xs.length]?=some y:=by rw [List.getElem?_append_right hi] at e1; exact e1
      have e2':σ[i - xs.length]?=some (some v):=by rw [List.getElem?_append_right (by omega),hwl] at e2; exact e2
      have e3':Vis (relabel sc X.env) y:=e3
      have ny:sc.names.lookup y≠some .local:=S.apart y (List.mem_of_getElem? e1')
      have fr:sc.names.lookup y=some .free∧((relabel sc X.env).names.lookup y=some .cell∨(relabel sc X.env).names.lookup y=some .free):=by
        rcases e3' with h | h | h
        · obtain ⟨k',e,q⟩:=relabel_look h
          rcases q with q | ⟨_,q⟩
          · subst q; exact absurd e ny
          · cases q
        · obtain ⟨k',e,q⟩:=relabel_look h
          rcases q with q | ⟨q,_⟩
          · subst q; exact absurd rfl (S.nocell _ (PySem.mem_of_lookup e))
          · exact ⟨by rw [e,q],.inl h⟩
        · obtain ⟨k',e,q⟩:=relabel_look h
          rcases q with q | ⟨_,q⟩
          · exact ⟨by rw [e,← q],.inr h⟩
          · cases q
      have ok:=S.free (y,.free) (PySem.mem_of_lookup fr.1) rfl
      obtain ⟨m0,hn0,hl0⟩:=I.loc
      obtain ⟨u,r,l⟩:=hl0 _ y v (S.sub _ y e1' fr.1) e2' (.inr ok)
      refine ⟨u,r,.inr ⟨fr.2,?_⟩⟩
      rcases l with ⟨k,_⟩ | ⟨_,c,ec,z⟩
      · rcases ok with q | q <;> (rw [show X.env.kindOf y=some .local from k] at q; cases q)
      · obtain ⟨c',ec'⟩:=clOf_has sc X.env.cells (S.cells I.ok) (PySem.mem_of_lookup fr.1)
        have:=clOf_sub sc X.env.cells ec'
        rw [ec] at this
        cases this
        obtain ⟨o,ho,hd⟩:=z
        exact ⟨c,ec',o,hk _ _ ho,hd⟩
  · obtain ⟨v,o,ho,hd⟩:=I.cell y c (clOf_sub sc X.env.cells e)
    exact ⟨v,o,hk _ _ ho,hd⟩
  · show upd H D (.lst []) C=none
    rw [upd_ne hDC]
    exact I.hok.fresh hC
  · show upd H D (.lst []) c=none
    rw [upd_ne (Nat.ne_of_lt (Nat.lt_of_lt_of_le (cells y c e) hDle))]
    exact I.freeC y c (clOf_sub sc X.env.cells e)
  · show (w++σ).length=(xs++Ns).length
    rw [List.length_append,List.length_append,I.len,hwl,S.len]
theorem Inv.endLN {s2:Shared} {H2:Hp} {st:St} {pl:List (Addr × Obj)} (I:Inv X pins σ H s) (J:Inv (cxLN X xs Ns sc C fp s H) pl st H2 s2) (hf:∀ b ∈ fp,FpOk X pins H b):Inv X pins σ H2 s2 :=
  I.call' (ch:=fp) J.os J.base J.hok J.bare fun b hb=>⟨(hf b hb).2.2.2.1,(hf b hb).2.1,(hf b hb).2.2.2.2.1,(hf b hb).2.2.2.2.2⟩
end
def lcGoN (n:Nat) (g:TG) (tc:TT) (te:TE) (σ:St) (J:It) (D:Addr) (Fin:Hp→Prop) (H:Hp):Prop :=
  ∃ W:Nat→Nat→List V→Hp→Prop,(∃ m,W 0 m [] (upd H D (.lst [])))∧∀ i m ys H,W i m ys H→H D=some (.lst ys) ∧
    ((J.stop i H∧Fin H)∨(J.go i H∧∀ x H' (u:St),u.length=n→J.yld i H x H'→g x (u++σ) H' fun σ2 H2=>(∃ u2:St,u2.length=n∧σ2=u2++σ)∧tc σ2 H2 fun b H3=>if b=true then te σ2 H3 fun y H4=>H4 D=some (.lst ys)∧ys.length < sizeLine∧∃ m',m' < m∧W (i + 1) m' (ys++[y]) (upd H4 D (.lst (ys++[y])))
      else ∃ m',m' < m∧W (i + 1) m' ys H3))
def tLN (n:Nat) (wi:TI) (g:TG) (tc:TT) (te:TE):TE:=fun σ H Q=>wi σ H fun J H1=>∀ D,H1 D=none→lcGoN n g tc te σ J D (fun H2=>Q (.ref D) H2) H1
section
variable {X:Cx} {xs Ns:List Str} {sc:Scope} {elt iter tg:Expr} {ifs:List Expr} {pos:Pos} {wi:TI} {g:TG} {tc:TT} {te:TE}
theorem ln_block {pins:List (Addr × Obj)} {σ:St} {H:Hp} {s:Shared} {it:Addr} {fp:List Addr} {tn:Nat→Heap→Prop} {J:It} {Fin:Addr→Hp→Prop} {RR:Value→Addr→Result→Shared→Prop} {E:Value→Shared→Prop}
    (hc:X.calm=true) (S:LnScope X xs Ns sc) (I:Inv X pins σ H s) (T:Turn X.prog X.w X.K tg J fp it tn) (st:tn 0 s.heap) (hf:∀ b ∈ fp,FpOk X pins H b) (hg:∀ C s0 H0,PG (cxLN X xs Ns sc C fp s0 H0) tg g)
    (ht:∀ C s0 H0,PTs (cxLN X xs Ns sc C fp s0 H0) ifs tc) (he:∀ C s0 H0,PE (cxLN X xs Ns sc C fp s0 H0) elt te) (q:∀ D,H D=none→lcGoN xs.length g tc te σ J D (Fin D) H)
    (hR:∀ D C H2 s2 m,s.heap.objs.size≤C→Inv X pins σ H2 s2→H2 C=none→s2.heap.Ns C m→Fin D H2→RR (.ref D) C (.ok .next) s2) :
    wpAny (model X.prog X.w) X.A (newList []) (fun acc s3=>wpAny (model X.prog X.w) X.A (newFunctionEnv sc X.env.globals (clOf sc X.env.cells) [] X.env.qual none .none (some X.env)) (fun cenv s4 =>
      codeAny (model X.prog X.w) X.A (.compStart (.ListComp elt [⟨tg,iter,ifs,0⟩] sc pos) 0 (.ref it) acc { cenv with scope:=relabel sc X.env }) (RR acc cenv.locals) s4) E s3) E s:=by
  have hlt:∀ b ∈ fp,b < s.heap.objs.size:=fun b hb=>by
    obtain ⟨o,e,_⟩:=T.obj 0 _ st b hb
    exact Heap.lt_size e
  refine wpAny_newObj_type (wpAny_newFunctionEnv S.nocell (by intro y hy; simp at hy) (fun h1 hns1 hsb1=>?_) S.kind)
  dsimp only at hns1 hsb1 ⊢
  generalize hH2:s.heap.push { cls:=.type "list",dict:=none,data:=.seq ([]:List Value).toArray }=G at hns1 hsb1 ⊢
  have hC:G.objs.size=s.heap.objs.size + 1:=by rw [← hH2,Heap.size_push]
  have hCle:s.heap.objs.size≤G.objs.size:=by rw [hC]; exact Nat.le_succ _
  have hDC:G.objs.size≠s.heap.objs.size:=by rw [hC]; exact Nat.succ_ne_self _
  have old:∀ b o,s.heap.get? b=some o→h1.get? b=some o:=fun b o e=>hsb1.extBut b o (Nat.ne_of_lt (Nat.lt_of_lt_of_le (Heap.lt_size e) hCle)) (Heap.get?_push_of_some _ (hH2 ▸ Heap.get?_push_of_some _ e))
  have hacc:h1.get? s.heap.objs.size=some { cls:=.type "list",data:=.seq ([]:List Value).toArray 0 }:=hsb1.extBut _ _ (Ne.symm hDC) (Heap.get?_push_of_some _ (hH2 ▸ Heap.get?_push_size _ rfl))
  have hDn:H s.heap.objs.size=none:=I.hok.fresh (Nat.le_refl _)
  obtain ⟨W,⟨m0,w0⟩,turn⟩:=q s.heap.objs.size hDn
  have st1:tn 0 h1:=T.keep _ _ _ st fun b _ o e=>old b o e
  have I1:=fun tk=>I.startLN (tk:=tk) (w:=xs.map fun _=>none) S hf hlt rfl rfl hCle hDC old hns1 hacc
  have fr1:∀ b ∈ fp,upd H s.heap.objs.size (.lst []) b=none:=fun b hb=>by rw [upd_ne (Nat.ne_of_lt (hlt b hb))]; exact (hf b hb).1
  have loop:∀ s3:Shared,s3={ s with heap:=h1,toks:=s.toks + ([]:List (Str × Value)).length } →
      codeAny (model X.prog X.w) X.A (.compLoop (.ListComp elt [⟨tg,iter,ifs,0⟩] sc pos) 0 (.ref it) (.ref s.heap.objs.size) (compEnvC sc (clOf sc X.env.cells) G.objs.size X.env))
        (RR (.ref s.heap.objs.size) G.objs.size) s3:=by
    rintro s3 rfl
    have fpk:∀ {H':Hp},(∀ b ∈ fp,H' b=none)→∀ b ∈ fp,FpOk (cxLN X xs Ns sc G.objs.size fp s H) [] H' b:=fun hn b hb =>
      ⟨hn b hb,Nat.ne_of_lt (Nat.lt_of_lt_of_le (hlt b hb) hCle),(I.okLN (C:=G.objs.size) S hCle hf hlt).exfs b hb,.inl hb,fun y c e=>(hf b hb).2.2.2.2.1 y c (clOf_sub sc X.env.cells e),fun p hp=>absurd (show p ∈ ([]:List (Addr × Obj)) from hp) (by simp)⟩
    refine compLoop_own (fun n s'=>∃ i w ys H',w.length=xs.length∧Inv (cxLN X xs Ns sc G.objs.size fp s H) [] (w++σ) H' s'∧tn i s'.heap∧(∀ b ∈ fp,H' b=none)∧W i n ys H') ?_ m0 ⟨0,_,[],_,List.length_map _,I1 _,st1,fr1,w0⟩
    rintro n s3 ⟨i,v0,ys,H3,hv0,I3,st3,fr3,w3⟩
    obtain ⟨hD3,turn3⟩:=turn i n ys H3 w3
    rcases turn3 with ⟨stop,fin⟩ | ⟨go,step⟩
    · refine thn (T.done (cxLN X xs Ns sc G.objs.size fp s H) rfl rfl rfl hc i [] s3 _ H3 _ I3 (fpk fr3) st3 stop) fun r s4 ⟨hr,I4⟩=>?_
      subst hr
      obtain ⟨m4,hn4,_⟩:=I4.loc
      exact hR _ _ H3 s4 m4 hCle (I.endLN I4 hf) I4.free hn4 fin
    · refine thn (T.item (cxLN X xs Ns sc G.objs.size fp s H) rfl rfl rfl hc i [] s3 _ H3 _ I3 (fpk fr3) st3 go) fun r s4 ⟨u,hr,h4⟩=>?_
      subst hr
      refine thn h4 fun _ s5 ⟨y,H5,I5,r5,y5,st5,fr5⟩=>?_
      have I5':=I5.pinned (fpk fr5) (T.obj _ _ st5)
      refine thn (hg G.objs.size s H _ s5 _ H5 y u _ I5' r5 (step y H5 v0 hv0 y5)) fun _ s6 ⟨σ6,H6,I6,⟨w6,hw6,e6⟩,q6⟩=>?_
      subst e6
      refine thn (ht G.objs.size s H _ s6 _ H6 _ I6 q6) fun ok s7 ⟨H7,I7,q7⟩=>?_
      have again:∀ {H8:Hp} {s8:Shared} {zs:List V},Inv (cxLN X xs Ns sc G.objs.size fp s H) ([]++pinsAt fp s5.heap) (w6++σ) H8 s8→(∃ m',m' < n∧W (i + 1) m' zs H8)→∃ m,m < n∧∃ i w ys H',w.length=xs.length∧Inv (cxLN X xs Ns sc G.objs.size fp s H) [] (w++σ) H' s8∧tn i s8.heap∧(∀ b ∈ fp,H' b=none)∧W i m ys H':=fun {H8 s8 zs} I8 ⟨m',hm,w8⟩=>by
        refine ⟨m',hm,i + 1,w6,zs,H8,hw6,I8.unpinned,T.keep _ _ _ st5 fun b hb o e=>(I8.pin (b,o) (List.mem_append_right _ (List.mem_append_right _ (mem_pinsAt hb e)))).1,fun b hb=>?_,w8⟩
        obtain ⟨o,e,d⟩:=T.obj _ _ st5 b hb
        exact (I8.pin (b,o) (List.mem_append_right _ (List.mem_append_right _ (mem_pinsAt hb e)))).2.1
      cases ok with
      | false =>
        rw [if_neg Bool.false_ne_true] at q7 ⊢
        exact again I7 q7
      | true =>
        rw [if_pos rfl] at q7 ⊢
        refine thn (he G.objs.size s H _ s7 _ H7 _ I7 q7) fun z s8 ⟨zv,H8,I8,r8,hD8,hz8,w8⟩=>?_
        refine thn (mt_append _ s8 _ H8 (.ref s.heap.objs.size) [zv] (.ref s.heap.objs.size) [z] (fun _ H9=>∃ m',m' < n∧W (i + 1) m' (ys++[zv]) H9) I8 rfl (.cons r8 .nil) ⟨_,ys,zv,rfl,rfl,hD8,hz8,w8⟩) fun _ s9 ⟨_,H9,I9,_,w9⟩=>?_
        exact again I9 w9
  exact codeAny_compStart_list (loop _ rfl) (T.self X.A 0 _ _ _ st1 (loop _ rfl))
theorem pe_ln (hc:X.calm=true) (S:LnScope X xs Ns sc) (hi:PI X tg iter wi) (hg:∀ C fp s0 H0,PG (cxLN X xs Ns sc C fp s0 H0) tg g) (ht:∀ C fp s0 H0,PTs (cxLN X xs Ns sc C fp s0 H0) ifs tc) (he:∀ C fp s0 H0,PE (cxLN X xs Ns sc C fp s0 H0) elt te)
    (hs:∀ v,foldedSetIterable iter X.env v=pure v:=by intro _; rfl):PE X (.ListComp elt [⟨tg,iter,ifs,0⟩] sc pos) (tLN xs.length wi g tc te):=by
  refine ⟨?_⟩
  intro pins s σ H Q I h
  rw [eval_ListComp]
  refine wpAny_comprehension_free (use:=none) rfl hs (closure_eq (S.cells I.ok)) S.kind S.names (thn (hi pins s σ H _ I h) fun v s1 h1=>thn h1 fun itv s2 h2=>?_)
  obtain ⟨it,fp,tn,J,H2,e,I2,T,st2,f2,q2⟩:=h2
  subst e
  refine ln_block (RR:=fun acc C=>compPost (model X.prog X.w) X.A X.xe none (EP X pins σ Q) acc C) (Fin:=fun D H3=>Q (.ref D) H3) hc S I2 T st2 f2 (fun C s0 H0=>hg C fp s0 H0) (fun C s0 H0=>ht C fp s0 H0) (fun C s0 H0=>he C fp s0 H0) q2 ?_
  intro D C H3 s3 m hC I3 hn hN q3
  refine ⟨m,hN,fun h' hs'=>⟨.ref D,H3,I3.butC hs' (Nat.le_trans I2.sz hC) hn (Nat.ne_of_gt (Nat.lt_of_lt_of_le I2.lt hC)) (fun y c e=>?_) (fun p hp=>?_),rfl,q3⟩⟩
  · obtain ⟨v,z⟩:=I2.cell y c e
    exact Nat.ne_of_lt (Nat.lt_of_lt_of_le z.lt hC)
  · exact Nat.ne_of_lt (Nat.lt_of_lt_of_le (Heap.lt_size (I2.pin p hp).1) hC)
theorem pg_pair {x y:Str} {p1 p2 p3:Pos} {k:Nat} (hc:X.calm=true) (S:LnScope X [x,y] Ns sc):∀ C fp s0 H0,PG (cxLN X [x,y] Ns sc C fp s0 H0) (.Tuple [.Name x p1,.Name y p2] k p3) (gTup X.K 2 (gCons (gName 0) (gCons (gName 1) gNil))):=fun C fp s0 H0=>by
  have lx:(relabel sc X.env).names.lookup x=some .local:=lookup_relabel_local (S.loc x (by simp))
  have ly:(relabel sc X.env).names.lookup y=some .local:=lookup_relabel_local (S.loc y (by simp))
  exact pg_tup (X:=cxLN X [x,y] Ns sc C fp s0 H0) hc (pgs_cons (pg_name (i:=0) S.all rfl (.inl lx) (.inr lx)) (pgs_cons (pg_name (i:=1) S.all rfl (.inl ly) (.inr ly)) pgs_nil))
theorem pg_one {x:Str} {p1:Pos} (S:LnScope X [x] Ns sc):∀ C fp s0 H0,PG (cxLN X [x] Ns sc C fp s0 H0) (.Name x p1) (gName 0):=fun C fp s0 H0=>by
  have lx:(relabel sc X.env).names.lookup x=some .local:=lookup_relabel_local (S.loc x (by simp))
  exact pg_name (X:=cxLN X [x] Ns sc C fp s0 H0) (i:=0) S.all rfl (.inl lx) (.inr lx)
end
theorem lcN_go {tc:TT} {te:TE} {g:TG} {k:Nat} {σ:St} {J:It} {D:Addr} {Fin:Hp→Prop} {H:Hp} {n:Nat} (Pv:Nat→List V→Hp→Prop) (h0:Pv 0 [] (upd H D (.lst [])))
    (hD:∀ i ys H,Pv i ys H→H D=some (.lst ys)) (hend:∀ ys H,Pv n ys H→J.stop n H∧Fin H)
    (hgo:∀ i ys H,i < n→Pv i ys H→J.go i H∧∀ x H' (u:St),u.length=k→J.yld i H x H'→g x (u++σ) H' fun σ2 H2=>(∃ u2:St,u2.length=k∧σ2=u2++σ)∧tc σ2 H2 fun b H3=>if b=true then te σ2 H3 (LcNx n i D ys Pv) else LcNo n i ys Pv H3):lcGoN k g tc te σ J D Fin H:=by
  refine ⟨fun i m ys H=>m=n - i∧i≤n∧Pv i ys H,⟨n,rfl,Nat.zero_le _,h0⟩,?_⟩
  rintro i m ys H ⟨rfl,hi,p⟩
  refine ⟨hD i ys H p,?_⟩
  by_cases hlt:i < n
  · exact .inr (hgo i ys H hlt p)
  · have e:i=n:=by omega
    subst e
    exact .inl (hend ys H p)
theorem lcN_list {K:PySem.W.Frag} {a:Addr} {xs:List V} {tc:TT} {te:TE} {g:TG} {k:Nat} {σ:St} {D:Addr} {Fin:Hp→Prop} {H:Hp} (Pv:Nat→List V→Hp→Prop) (h0:Pv 0 [] (upd H D (.lst [])))
    (hD:∀ i ys H,Pv i ys H→H D=some (.lst ys)∧SqL K H a xs) (hend:∀ ys H,Pv xs.length ys H→Fin H)
    (hgo:∀ i x ys H (u:St),u.length=k→i < xs.length→xs[i]?=some x→Pv i ys H→g x (u++σ) H fun σ2 H2=>(∃ u2:St,u2.length=k∧σ2=u2++σ)∧tc σ2 H2 fun b H3=>if b=true then te σ2 H3 (LcNx xs.length i D ys Pv) else LcNo xs.length i ys Pv H3):lcGoN k g tc te σ (Itl K a) D Fin H:=by
  refine lcN_go Pv h0 (fun i ys H p=>(hD i ys H p).1) (fun ys H p=>⟨⟨xs,(hD _ _ _ p).2,Nat.le_refl _⟩,hend ys H p⟩) fun i ys H hi p=>?_
  refine ⟨⟨xs,xs[i],(hD _ _ _ p).2,List.getElem?_eq_getElem hi⟩,fun x H' u hu y=>?_⟩
  obtain ⟨e,y⟩:=y
  subst e
  exact hgo i x ys _ u hu hi (y xs (hD _ _ _ p).2) p
theorem len2 {α:Type}:∀ {u:List α},u.length=2→∃ a b,u=[a,b]
  | [a,b],_=>⟨a,b,rfl⟩
theorem len1 {α:Type}:∀ {u:List α},u.length=1→∃ a,u=[a]
  | [a],_=>⟨a,rfl⟩
theorem sub_of {N Ns:List Str} {sc:Scope} (h:(Ns.zip N).all (fun p=>decide (p.1=p.2) || !(sc.names.lookup p.1 == some NameKind.free))=true) (hl:Ns.length=N.length):∀ (i:Nat) (y:Str),Ns[i]?=some y→sc.names.lookup y=some .free→N[i]?=some y:=fun i y e f=>by
  have hi:i < Ns.length:=(List.getElem?_eq_some_iff.mp e).1
  have hN:N[i]?=some (N[i]'(by omega)):=List.getElem?_eq_getElem (by omega)
  have hm:(y,N[i]'(by omega)) ∈ Ns.zip N:=by
    refine List.mem_of_getElem? (i:=i) ?_
    rw [List.getElem?_zip_eq_some]
    exact ⟨e,hN⟩
  have:=List.all_eq_true.mp h _ hm
  dsimp only at this
  rw [f] at this
  have z:y=N[i]'(by omega):=by simpa using this
  rw [hN,← z]
theorem lnS {X:Cx} {xs:List Str} (Ns:List Str) {sc scp:Scope} {N ps:List Str} (S:FnScope N ps scp) (hN:X.N=N:=by rfl) (hs:X.env.scope=scp:=by rfl) (h1:sc.kind=.function:=by rfl) (h2:∀ p ∈ sc.names,p.2≠.cell:=by decide +kernel) (h3:∀ x ∈ xs,sc.names.lookup x=some .local:=by decide +kernel)
    (h4:∀ p ∈ sc.names,p.2=.local→sc.names.lookup p.1=some .local:=by decide +kernel) (h5:∀ y ∈ Ns,sc.names.lookup y≠some .local:=by decide +kernel) (h6:(Ns.zip N).all (fun p=>decide (p.1=p.2) || !(sc.names.lookup p.1 == some NameKind.free))=true:=by decide +kernel) (hl:Ns.length=N.length:=by rfl) (hall:(xs++Ns).Nodup:=by decide +kernel)
    (h7:∀ p ∈ sc.names,p.2=.free→scp.names.lookup p.1=some .cell∨scp.names.lookup p.1=some .free:=by decide +kernel):LnScope X xs Ns sc :=
  ⟨h1,h2,h3,h4,h5,by rw [hN]; exact sub_of h6 hl,by rw [hN]; exact hl,hall,fun p hp e=>by
    show X.env.scope.names.lookup p.1=_∨X.env.scope.names.lookup p.1=_
    rw [hs]
    exact h7 p hp e⟩
end L2
namespace HT
open PySem PyProof.Rows
section
variable {prog:Program} {w:World} {A:Around} {E:Value→Shared→Prop} {s:Shared}
theorem getItem_tuple_whole {t sl:Addr} {items:Array Value} {vl vu:Value} {lo hi:Option Int} {Q:Value→Shared→Prop} (ht:IsTup s.heap t items) (hs:s.heap.IsSliceOf sl vl vu .none) (pl:IsPart vl lo) (pu:IsPart vu hi)
    (hw:sIx items.size 0 lo=0∧sIx items.size items.size hi=items.size)
    (h:Q (.ref t) s):wpAny (model prog w) A (getItem (.ref t) (.ref sl)) Q E s:=by
  obtain ⟨os,hos,hcs,hds⟩:=id hs
  have hTs:s.TypeIs (.ref sl) "slice":=⟨os,hos,hcs⟩
  unfold getItem
  try with_reducible refine wpAny_holding ?_
  first | refine wpAny_bind (wpAny_pure ?_) | skip
  refine wpAny_bind (wpAny_sequenceKey ht.typeIs (by decide) ?_)
  refine wpAny_bind (wpAny_callSpecial?_slot (name:=Str.ofString "__getitem__") ht.typeIs PyProof.Rows.slot_tuple_getitem
    (wpAny_call_entry PyProof.Rows.slot_tuple_getitem ht.typeIs entry_tuple_getitem ?_ (args_tuple_getitem _ _)))
  show wpAny _ _ (Builtin.Tuple.tupleItemsOf (.ref t) >>= _) _ _ s
  refine wpAny_bind (tupleItemsOf_ ht ?_)
  refine wpAny_bind (wpAny_typeOf hTs ?_)
  rw [if_pos (by decide)]
  refine wpAny_bind (sliceApplied_gen hs pl pu ?_)
  have hyes:(((sIx items.size 0 lo:Nat):Int) == 0 && (1:Int) == 1 && (sIx items.size items.size hi - sIx items.size 0 lo) == items.size)=true:=by
    rw [hw.1,hw.2]
    simp
  show wpAny _ _ (if (((sIx items.size 0 lo:Nat):Int) == 0 && (1:Int) == 1 && (sIx items.size items.size hi - sIx items.size 0 lo) == items.size)=true then _ else _) _ _ s
  rw [if_pos hyes]
  wp_walk
  obtain ⟨ot,hot,hct,_⟩:=id ht
  refine wpAny_loadPart hot (wpAny_pure (wpAny_pure ?_))
  rw [hct,if_pos (by decide)]
  exact wpAny_bind (wpAny_rule (wpAny_pure ⟨_,rfl,wpAny_pure h⟩))
end
end HT
namespace L2
open PySem PySem.Spec PyProof.Rows
section
variable {X:Cx} {e:Expr} {te:TE} {pos p2:Pos}
def rSlW (K:PySem.W.Frag):V→Option Int→Option Int→Hp→VK→Prop:=fun x lo hi H Q=>∃ a xs,x=.ref a∧SqT K H a xs ∧
  (HT.sIx xs.length 0 lo=0∧HT.sIx xs.length xs.length hi=xs.length)∧Q (.ref a) H
theorem sl_tupW:SlR X (rSlW X.K):=by
  intro pins s σ H x v vl vu lo hi sl Q I rx hs pl pu h
  obtain ⟨a,xs,rfl,hx,hw,q⟩:=h
  cases rx
  obtain ⟨its,r,ht,hz⟩:=I.tuple hx
  have hlen:its.toArray.size=xs.length:=by rw [List.size_toArray]; exact r.length.symm
  refine ⟨"tuple",_,PyProof.Rows.slot_tuple_getitem.lookup,ht.typeIs,?_⟩
  exact HT.getItem_tuple_whole ht hs pl pu (by rw [hlen]; exact hw) ⟨.ref a,H,I,rfl,q⟩
theorem sl_tupA:SlR X (fun x lo hi H Q=>∃ a xs,x=.ref a∧SqT X.K H a xs∧((HT.sIx xs.length 0 lo=0∧HT.sIx xs.length xs.length hi=xs.length)→Q (.ref a) H)∧∀ p,H p=none→Q (.ref p) (upd H p (.tup (cutV xs lo hi)))):=by
  intro pins s σ H x v vl vu lo hi sl Q I rx hs pl pu h
  obtain ⟨a,xs,ex,hx,q1,q2⟩:=h
  by_cases hw:HT.sIx xs.length 0 lo=0∧HT.sIx xs.length xs.length hi=xs.length
  · exact sl_tupW pins s σ H x v vl vu lo hi sl Q I rx hs pl pu ⟨a,xs,ex,hx,hw,q1 hw⟩
  · exact sl_tup pins s σ H x v vl vu lo hi sl Q I rx hs pl pu ⟨a,xs,ex,hx,hw,q2⟩
end
end L2
namespace L2
open PySem PySem.Spec PyProof.Rows
section
variable {X:Cx} {tg:Expr}
theorem pi_listK (K:PySem.W.Frag) {l:Expr} {tl:TE} (hl:PE X l tl) (e:X.K=K:=by rfl):PI X tg l (iList K tl):=by subst e; exact pi_list hl
theorem pi_tupK (K:PySem.W.Frag) {l:Expr} {tl:TE} (hl:PE X l tl) (e:X.K=K:=by rfl):PI X tg l (iTup K tl):=by subst e; exact pi_tup hl
inductive cLen (K:PySem.W.Frag) (xs:List V) (H:Hp) (Q:VK):Prop
  | mk (p:Addr) (ys:List V) (e:xs=[.ref p]) (h:SqL K H p ys∨SqT K H p ys) (q:Q (.int ys.length) H):cLen K xs H Q
theorem call_lenK (K:PySem.W.Frag) (e:X.K=K:=by rfl):CallR X (.builtin "len") (cLen K):=by
  subst e
  intro pins s σ H xs us Q I r h
  obtain ⟨p,ys,e,h,q⟩:=h
  exact call_len_seq pins s σ H xs us Q I r ⟨p,ys,e,h,q⟩
inductive cSum (K:PySem.W.Frag) (xs:List V) (H:Hp) (Q:VK):Prop
  | mk (p:Addr) (ns:List Int) (e:xs=[.ref p]) (h:SqL K H p (ns.map V.int)∨SqT K H p (ns.map V.int)) (q:Q (.int ns.sum) H):cSum K xs H Q
theorem call_sum_seqK (K:PySem.W.Frag) (hc:X.calm=true) (e:X.K=K:=by rfl):CallR X (.builtin "sum") (cSum K):=by
  subst e
  intro pins s σ H xs us Q I r h
  obtain ⟨p,ns,e,h,q⟩:=h
  exact call_sum_seq hc pins s σ H xs us Q I r ⟨p,ns,e,h,q⟩
theorem pe_fldK (K:PySem.W.Frag) {e:Expr} {f:Str} {ta:TE} {pos:Pos} (he:PE X e ta) (hb:attributeBase e f X.env (eval e X.env)=eval e X.env) (ek:X.K=K:=by rfl):PE X (.Attribute e f pos) (tFld K ta f):=by subst ek; exact pe_fld he hb
theorem pg_tupK (K:PySem.W.Frag) {es:List Expr} {k:Nat} {t:TGs} {n:Nat} {pos:Pos} (hc:X.calm=true) (h:PGs X es t) (hn:(assignEach es X.env).length=n:=by rfl) (hst:(assignEach es X.env).findIdx? (·.1)=none:=by rfl) (ek:X.K=K:=by rfl):PG X (.Tuple es k pos) (gTup K n t):=by subst ek; exact pg_tup hc h hn hst
theorem pe_bmK (K:PySem.W.Frag) {o e:Expr} {es:List Expr} {to:TE} {t:TA} {name:Str} {apos cpos:Pos} {T id:String} {r:V→List V→Hp→VK→Prop} (pa:PlainAttrs T) (slot:Slot T name id) (hty:typeOf (.builtin id)=pure (.type "method_descriptor")) (hm:MtR X id r) (ho:PE X o to) (ha:PA X (e::es) t)
    (hbase:attributeBase o name X.env (eval o X.env)=eval o X.env:=by rfl)
    (hfew:((backTo cpos (starEach (e::es) X.env)).all (fun x=>!x.1) && (backToKw cpos (keywordEach [] X.env)).all (fun x=>x.1.isSome) && decide ((e::es).length + ([]:List Keyword).length + (if ([]:List Keyword).isEmpty then 0 else 1) < 30))=true:=by rfl)
    (hline:(apos.endLine == cpos.line)=true:=by rfl) (hs:starEach (e::es) X.env=(false,eval e X.env)::starEach es X.env:=by rfl) (hplain:(backTo cpos (starEach es X.env)).any (·.1)=false:=by rfl) (ek:X.K=K:=by rfl) :
    PE X (.Call (.Attribute o name apos) (e::es) [] cpos) (tBM K T r to t):=by subst ek; exact pe_bm pa slot hty hm ho ha hbase hfew hline hs hplain
end
end L2
namespace L2
open PySem PySem.Spec PyProof.Rows
section
variable {X:Cx} {pins:List (Addr × Obj)} {σ:St} {H:Hp} {s:Shared}
end
section
variable {X:Cx}
end
end L2
namespace L2
open PySem PySem.Spec PyProof.Rows
section
variable {X:Cx} {pins:List (Addr × Obj)} {σ:St} {H:Hp} {s:Shared}
end
section
variable {X:Cx}
end
end L2
namespace Pr
open PySem L2 PyProof.Rows
def Sq (H:Hp) (a:Addr) (xs:List V):Prop:=H a=some (.lst xs)∨H a=some (.tup xs)
theorem Sq.same {H H':Hp} {a:Addr} {xs:List V} (h:Sq H a xs) (s:Same H H'):Sq H' a xs:=by
  rcases h with h | h
  · exact .inl (s _ _ h)
  · exact .inr (s _ _ h)
theorem Sq.or {K:PySem.W.Frag} {H:Hp} {a:Addr} {xs:List V} (h:Sq H a xs):SqL K H a xs∨SqT K H a xs:=by
  rcases h with h | h
  · exact .inl (.of h)
  · exact .inr (.of h)
theorem two_line:2≤sizeLine:=by decide
theorem three_line:3≤sizeLine:=by decide
theorem cut_take (xs:List V) {k:Int} (h:0≤k):cutV xs none (some k)=xs.take k.toNat:=by
  unfold cutV
  obtain ⟨n,rfl⟩:∃ n:Nat,k=n:=⟨k.toNat,by omega⟩
  rw [HT.sIx_none,HT.sIx_nat,List.drop_zero,Nat.sub_zero,Int.toNat_natCast,List.take_eq_take_iff]
  omega
theorem iteB {c:Bool} {A B:Prop} (h1:c=true→A) (h2:c=false→B):if c=true then A else B:=by
  cases c with
  | true=>rw [if_pos rfl]; exact h1 rfl
  | false=>rw [if_neg Bool.false_ne_true]; exact h2 rfl
section
variable {P:Program} {w:World} {K:PySem.W.Frag} {mg:Str→Option Value} {base:Heap} {C:Addr}
theorem kit_int (K:PySem.W.Frag):PySem.W.kitOne K (.type "int") (.type "int")=some true:=by rfl
theorem kit_int_bool (K:PySem.W.Frag):PySem.W.kitOne K (.type "int") (.type "bool")=some false:=by rfl
theorem kit_lst (K:PySem.W.Frag):PySem.W.kitAny K (.type "list") [.type "list",.type "tuple"]=some true:=by rfl
theorem kit_tup (K:PySem.W.Frag):PySem.W.kitAny K (.type "tuple") [.type "list",.type "tuple"]=some true:=by rfl
inductive sp_is_whole (vs:List V) (H:Hp) (Q:VK) (E:XK):Prop
  | mk (i:Int) (h0_:vs=[.int i]) (h1_:Q (.bl true) H):sp_is_whole vs H Q E
theorem sc_is_whole:FnScope ["value"] ["value"] (defScope s_is_whole):=⟨rfl,rfl,rfl,by decide +kernel,rfl,by decide +kernel,by decide +kernel⟩
theorem is_whole (T:Txt K mg C):Can P w K mg base 1 "is_whole" ["value"] sp_is_whole:=by
  refine fn_can T.f_is_whole sc_is_whole (fun vs H Q E h=>?_) (fun f cdv A outer s H vs Q E hr h=>?_)
  · obtain ⟨i,rfl,_⟩:=h
    rfl
  · obtain ⟨i,rfl,k⟩:=h
    refine ⟨_,pss_one (ps_ret (pe_and (pe_b call_isi1 T.b_isinstance boot_isinstance (pa2 (pv 0) (pe_ty rfl T.b_int boot_int))) (pe_one (pe_not (pe_b call_isi1 T.b_isinstance boot_isinstance (pa2 (pv 0) (pe_ty rfl T.b_bool boot_bool))))))),?_⟩
    refine ⟨_,rfl,_,_,_,_,rfl,.int i,kit_int _,_,rfl,iteT ?_⟩
    exact ⟨_,rfl,_,_,_,_,rfl,.int i,kit_int_bool _,_,rfl,k⟩
inductive sp_is_whole_from (vs:List V) (H:Hp) (Q:VK) (E:XK):Prop
  | mk (i:Int) (a:Int) (b:Int) (h0_:vs=[.int i,.int a,.int b]) (h1_:Q (.bl (decide (a≤i) && decide (i≤b))) H):sp_is_whole_from vs H Q E
theorem sc_is_whole_from:FnScope ["value","least","greatest"] ["value","least","greatest"] (defScope s_is_whole_from):=⟨rfl,rfl,rfl,by decide +kernel,rfl,by decide +kernel,by decide +kernel⟩
theorem is_whole_from (T:Txt K mg C):Can P w K mg base 2 "is_whole_from" ["value","least","greatest"] sp_is_whole_from:=by
  refine fn_can T.f_is_whole_from sc_is_whole_from (fun vs H Q E h=>?_) (fun f cdv A outer s H vs Q E hr h=>?_)
  · obtain ⟨i,a,b,rfl,_⟩:=h
    rfl
  · obtain ⟨i,a,b,rfl,k⟩:=h
    refine ⟨_,pss_one (ps_ret (pe_and (pe_can (is_whole T) hr (pa1 (pv 0))) (pe_one (pe_chain op_le op_le (pv 1) (pv 0) (pv 2))))),?_⟩
    refine ⟨_,rfl,i,rfl,_,rfl,iteT ?_⟩
    refine ⟨_,rfl,_,rfl,_,_,rfl,rfl,_,rfl,?_⟩
    refine iteB (fun h=>?_) (fun h=>?_)
    · rw [h,Bool.true_and] at k
      exact ⟨_,rfl,_,_,rfl,rfl,k⟩
    · rw [h,Bool.false_and] at k
      exact k
abbrev W30:Int:=1000000000000000000000000000000
abbrev W40:Int:=10000000000000000000000000000000000000000
inductive sp_is_wide (vs:List V) (H:Hp) (Q:VK) (E:XK):Prop
  | mk (i:Int) (h0_:vs=[.int i]) (h1_:Q (.bl (decide (-W30 < i) && decide (i < W30))) H):sp_is_wide vs H Q E
theorem sc_is_wide:FnScope ["value"] ["value"] (defScope s_is_wide):=⟨rfl,rfl,rfl,by decide +kernel,rfl,by decide +kernel,by decide +kernel⟩
theorem is_wide (T:Txt K mg C):Can P w K mg base 2 "is_wide" ["value"] sp_is_wide:=by
  refine fn_can T.f_is_wide sc_is_wide (fun vs H Q E h=>?_) (fun f cdv A outer s H vs Q E hr h=>?_)
  · obtain ⟨i,rfl,_⟩:=h
    rfl
  · obtain ⟨i,rfl,k⟩:=h
    refine ⟨_,pss_one (ps_ret (pe_and (pe_can (is_whole T) hr (pa1 (pv 0))) (pe_one (pe_chain op_lt op_lt (pe_un un_neg (pe_gi T.c_WIDE_END)) (pv 0) (pe_gi T.c_WIDE_END))))),?_⟩
    refine ⟨_,rfl,i,rfl,_,rfl,iteT ?_⟩
    refine ⟨_,rfl,_,rfl,_,_,rfl,rfl,_,rfl,?_⟩
    refine iteB (fun h=>?_) (fun h=>?_)
    · rw [h,Bool.true_and] at k
      exact ⟨_,_,rfl,rfl,k⟩
    · rw [h,Bool.false_and] at k
      exact k
inductive sp_is_list (vs:List V) (H:Hp) (Q:VK) (E:XK):Prop
  | mk (a:Addr) (xs:List V) (h0_:vs=[.ref a]) (h1_:Sq H a xs) (h2_:∀ H',Same H H'→Q (.bl true) H'):sp_is_list vs H Q E
theorem sc_is_list:FnScope ["value"] ["value"] (defScope s_is_list):=⟨rfl,rfl,rfl,by decide +kernel,rfl,by decide +kernel,by decide +kernel⟩
theorem is_list (T:Txt K mg C):Can P w K mg base 1 "is_list" ["value"] sp_is_list:=by
  refine fn_can T.f_is_list sc_is_list (fun vs H Q E h=>?_) (fun f cdv A outer s H vs Q E hr h=>?_)
  · obtain ⟨a,xs,rfl,_⟩:=h
    rfl
  · obtain ⟨a,xs,rfl,hq,k⟩:=h
    refine ⟨_,pss_one (ps_ret (pe_b call_isi2 T.b_isinstance boot_isinstance (pa2 (pv 0) (pe_tup (pa2 (pe_ty rfl T.b_list boot_list) (pe_ty rfl T.b_tuple boot_tuple)))))),?_⟩
    refine ⟨_,rfl,two_line,fun p hp=>?_⟩
    have s1:∀ o,Same H (upd H p o):=fun o=>Same.upd hp
    rcases hq.same (s1 _) with hq | hq
    · exact ⟨_,_,p,_,_,_,rfl,.of upd_same,.lst hq,kit_lst _,k _ (s1 _)⟩
    · exact ⟨_,_,p,_,_,_,rfl,.of upd_same,.tup hq,kit_tup _,k _ (s1 _)⟩
inductive sp_is_list_from (vs:List V) (H:Hp) (Q:VK) (E:XK):Prop
  | mk (a:Addr) (xs:List V) (lo:Int) (hi:Int) (h0_:vs=[.ref a,.int lo,.int hi]) (h1_:Sq H a xs) (h2_:∀ H',Same H H'→Q (.bl (decide (lo≤(xs.length:Int)) && decide ((xs.length:Int)≤hi))) H'):sp_is_list_from vs H Q E
theorem sc_is_list_from:FnScope ["value","fewest","most"] ["value","fewest","most"] (defScope s_is_list_from):=⟨rfl,rfl,rfl,by decide +kernel,rfl,by decide +kernel,by decide +kernel⟩
theorem is_list_from (T:Txt K mg C):Can P w K mg base 2 "is_list_from" ["value","fewest","most"] sp_is_list_from:=by
  refine fn_can T.f_is_list_from sc_is_list_from (fun vs H Q E h=>?_) (fun f cdv A outer s H vs Q E hr h=>?_)
  · obtain ⟨a,xs,lo,hi,rfl,_⟩:=h
    rfl
  · obtain ⟨a,xs,lo,hi,rfl,hq,k⟩:=h
    refine ⟨_,pss_one (ps_ret (pe_and (pe_can (is_list T) hr (pa1 (pv 0))) (pe_one (pe_chain op_le op_le (pv 1) (pe_b call_len_seq T.b_len boot_len (pa1 (pv 0))) (pv 2))))),?_⟩
    refine ⟨_,rfl,a,xs,rfl,hq,fun H1 s1=>⟨_,rfl,iteT ?_⟩⟩
    refine ⟨_,rfl,_,rfl,a,xs,rfl,(hq.same s1).or,_,_,rfl,rfl,_,rfl,?_⟩
    have k1:=k H1 s1
    refine iteB (fun h=>?_) (fun h=>?_)
    · rw [h,Bool.true_and] at k1
      exact ⟨_,rfl,_,_,rfl,rfl,k1⟩
    · rw [h,Bool.false_and] at k1
      exact k1
inductive sp_need_roll (vs:List V) (H:Hp) (Q:VK) (E:XK):Prop
  | mk (i:Int) (a:Int) (b:Int) (h0_:vs=[.int i,.int a,.int b]) (h1_:a≤i) (h2_:i≤b) (h3_:Q .non H):sp_need_roll vs H Q E
theorem sc_need_roll:FnScope ["value","least","greatest"] ["value","least","greatest"] (defScope s_need_roll):=⟨rfl,rfl,rfl,by decide +kernel,rfl,by decide +kernel,by decide +kernel⟩
theorem need_roll (T:Txt K mg C):Can P w K mg base 3 "need_roll" ["value","least","greatest"] sp_need_roll:=by
  refine fn_can T.f_need_roll sc_need_roll (fun vs H Q E h=>?_) (fun f cdv A outer s H vs Q E hr h=>?_)
  · obtain ⟨i,a,b,rfl,_⟩:=h
    rfl
  · obtain ⟨i,a,b,rfl,h1,h2,k⟩:=h
    refine ⟨_,pss_one (ps_if (pt_not (pt_val (pe_can (is_whole_from T) hr (pa3 (pv 0) (pv 1) (pv 2))))) pss_never pss_nil),?_⟩
    refine ⟨_,rfl,_,rfl,_,rfl,i,a,b,rfl,_,rfl,?_⟩
    rw [decide_eq_true h1,decide_eq_true h2]
    exact iteF k
theorem sc_need_number:FnScope ["value"] ["value"] (defScope s_need_number):=⟨rfl,rfl,rfl,by decide +kernel,rfl,by decide +kernel,by decide +kernel⟩
structure SzOk (S:List Int):Prop where
  g:Lad.Good S
  n:S.length≤1000
  s:S.sum < 2 ^ 60
theorem atI_ints {S:List Int} {i:Int} (h0:0≤i) (h1:i < (S.length:Int)):atI (S.map V.int) i=some (.int (S.getD i.toNat 0)):=by
  obtain ⟨n,rfl⟩:∃ n:Nat,i=n:=⟨i.toNat,by omega⟩
  refine atI_nat ?_
  rw [Int.toNat_natCast,List.getElem?_map,List.getElem?_eq_getElem (by omega),List.getD_eq_getElem?_getD,List.getElem?_eq_getElem (by omega)]
  rfl
inductive sp_number_of (vs:List V) (H:Hp) (Q:VK) (E:XK):Prop
  | mk (b:Int) (a:Addr) (S:List Int) (p:Int) (h0_:vs=[.int b,.ref a,.int p]) (h1_:H a=some (.tup (S.map V.int))) (h2_:SzOk S) (h3_:∀ H',Same H H'→Q (.int (Lad.num b S p)) H'):sp_number_of vs H Q E
theorem sc_number_of:FnScope ["begin","sizes","place","turns","rest","at"] ["begin","sizes","place"] (defScope s_number_of):=⟨rfl,rfl,rfl,by decide +kernel,rfl,by decide +kernel,by decide +kernel⟩
theorem walk_step (S:List Int):∀ (n:Nat) (x:Int),n < S.length→S.getD n 0≤x→Lad.walk (S.drop n) x=Lad.walk (S.drop (n + 1)) (x - S.getD n 0) + 1:=by
  intro n x hn h
  rw [List.drop_eq_getElem_cons hn]
  have e:S.getD n 0=S[n]:=by rw [List.getD_eq_getElem?_getD,List.getElem?_eq_getElem hn]; rfl
  rw [e] at h ⊢
  show (if x < S[n] then 0 else _)=_
  rw [if_neg (by omega)]
theorem walk_stop (S:List Int) {n:Nat} {x:Int} (hn:n < S.length) (h:x < S.getD n 0):Lad.walk (S.drop n) x=0:=by
  rw [List.drop_eq_getElem_cons hn]
  have e:S.getD n 0=S[n]:=by rw [List.getD_eq_getElem?_getD,List.getElem?_eq_getElem hn]; rfl
  rw [e] at h
  show (if x < S[n] then 0 else _)=_
  rw [if_pos h]
theorem sum_drop (S:List Int) (n:Nat) (hn:n < S.length):(S.drop n).sum=S.getD n 0 + (S.drop (n + 1)).sum:=by
  rw [List.drop_eq_getElem_cons hn,List.sum_cons,List.getD_eq_getElem?_getD,List.getElem?_eq_getElem hn]
  rfl
theorem number_of (T:Txt K mg C):Can P w K mg base 1 "number_of" ["begin","sizes","place"] sp_number_of:=by
  refine fn_can T.f_number_of sc_number_of (fun vs H Q E h=>?_) (fun f cdv A outer s H vs Q E hr h=>?_)
  · obtain ⟨b,a,S,p,rfl,_⟩:=h
    rfl
  · obtain ⟨b,a,S,p,rfl,ha,⟨g,hn,hs⟩,q⟩:=h
    refine ⟨_,pss_cons (ps_asg (pe_b call_divmodB T.b_divmod boot_divmod (pa2 (pe_op op_sub (pv 2) (pv 0)) (pe_b (call_sum_seq rfl) T.b_sum boot_sum (pa1 (pv 1))))) (pg_tup rfl (pgs_cons (pg_name (i:=3) sc_number_of.nd rfl (Or.inl rfl)) (pgs_cons (pg_name (i:=4) sc_number_of.nd rfl (Or.inl rfl)) pgs_nil))))
      (pss_cons (ps_set (i:=5) sc_number_of.nd rfl (Or.inl rfl) pe_int)
      (pss_cons (ps_while PassesOwn.never (pt_cmpR op_ge (pv 4) (pe_ix ix_tup (pv 1) (pv 5) (fun _ _=>rfl)) (nomark _))
        (pss_cons (ps_aug (i:=4) sc_number_of.nd rfl (Or.inl rfl) (pe_ix ix_tup (pv 1) (pv 5) (fun _ _=>rfl)) ip_sub)
          (pss_one (ps_aug (i:=5) sc_number_of.nd rfl (Or.inl rfl) pe_int ip_add))))
      (pss_one (ps_ret (pe_op op_add (pe_op op_mul (pv 3) (pe_b call_len_seq T.b_len boot_len (pa1 (pv 1)))) (pv 5)))))),?_⟩
    have h1:=g.len
    have h2:=g.sum
    have hl:(((S.map V.int).length:Nat):Int)=(S.length:Int):=by rw [List.length_map]
    refine ⟨_,rfl,_,rfl,_,_,rfl,rfl,_,rfl,a,S,rfl,.inr (.of ha),_,_,rfl,⟨by omega,by omega⟩,fun p1 hp1=>?_⟩
    have s1:∀ o,Same H (upd H p1 o):=fun o=>Same.upd hp1
    refine ⟨p1,_,rfl,.of upd_same,rfl,_,_,rfl,_,_,rfl,rfl,?_⟩
    have hr0:0≤(p - b) % S.sum:=Int.emod_nonneg _ (by omega)
    have hr1:(p - b) % S.sum < S.sum:=Int.emod_lt_of_pos _ (by omega)
    refine ⟨fun m σ H2=>∃ (n:Nat) (x:Int),m=S.length - n∧n < S.length∧0≤x∧x < (S.drop n).sum∧Lad.walk S ((p - b) % S.sum)=n + Lad.walk (S.drop n) x∧Same H H2 ∧
      σ=[some (.int b),some (.ref a),some (.int p),some (.int ((p - b) / S.sum)),some (.int x),some (.int n)],⟨_,0,(p - b) % S.sum,rfl,by omega,hr0,by simpa using hr1,by simp,s1 _,rfl⟩,?_⟩
    rintro m σ H2 ⟨n,x,rfl,hnl,hx0,hx1,hw,s2,rfl⟩
    refine ⟨_,rfl,_,rfl,_,rfl,a,_,_,_,rfl,rfl,.of (s2 _ _ ha),atI_ints (i:=(n:Int)) (by omega) (by omega),_,_,rfl,rfl,_,rfl,?_⟩
    rw [Int.toNat_natCast]
    have hd:=sum_drop S n hnl
    have hpos:=Lad.getD_pos g.2 hnl
    refine ite2 (fun hc=>?_) (fun hc=>?_)
    · have hc:S.getD n 0≤x:=of_decide_eq_true hc
      have hn1:n + 1 < S.length:=by
        rcases Nat.lt_or_ge (n + 1) S.length with z | z
        · exact z
        · rw [List.drop_eq_nil_of_le z,List.sum_nil] at hd
          omega
      refine ⟨fun σ' H'=>∃ (n':Nat) (x':Int),S.length - n' < S.length - n∧n' < S.length∧0≤x'∧x' < (S.drop n').sum∧Lad.walk S ((p - b) % S.sum)=n' + Lad.walk (S.drop n') x'∧Same H H' ∧
        σ'=[some (.int b),some (.ref a),some (.int p),some (.int ((p - b) / S.sum)),some (.int x'),some (.int n')],fun σ' H' ⟨n',x',l,r⟩=>⟨_,l,n',x',rfl,r⟩,?_⟩
      refine ⟨_,rfl,_,rfl,_,rfl,a,_,_,_,rfl,rfl,.of (s2 _ _ ha),atI_ints (i:=(n:Int)) (by omega) (by omega),_,_,rfl,rfl,?_⟩
      refine ⟨_,rfl,_,_,rfl,rfl,?_⟩
      rw [Int.toNat_natCast]
      refine ⟨n + 1,x - S.getD n 0,by omega,hn1,by omega,by omega,?_,s2,rfl⟩
      rw [hw,walk_step S n x hnl hc]
      omega
    · have hc:¬ S.getD n 0≤x:=fun z=>hc (decide_eq_true z)
      refine ⟨_,rfl,_,rfl,a,_,rfl,.inr (.of (s2 _ _ ha)),_,_,rfl,rfl,.inr ⟨by omega,by omega⟩,_,rfl,_,_,rfl,rfl,?_⟩
      have e:(p - b) / S.sum * (((S.map V.int).length:Nat):Int) + (n:Int)=Lad.num b S p:=by
        unfold Lad.num
        rw [hw,walk_stop S hnl (by omega),hl]
        omega
      show Q (.int ((p - b) / S.sum * (((S.map V.int).length:Nat):Int) + (n:Int))) H2
      rw [e]
      exact q _ s2
end
end Pr
namespace L2
open PySem PySem.Spec PyProof.Rows
section
variable {X:Cx}
def rIxO:R2:=fun x y H Q=>∃ p o xs i v,x=.ref p∧y=.int i∧H p=some o∧Ob o xs∧atI xs i=some v∧Q v H
theorem ix_ob:IxR X rIxO:=by
  intro value slice pins s σ H x y v u Q I rx ry h hs
  obtain ⟨p,o,xs,i,z,e1,e2,hp,ho,he,q⟩:=h
  exact ix_sq value slice pins s σ H x y v u Q I rx ry ⟨p,xs,i,z,e1,e2,ho.sq hp,he,q⟩ hs
theorem call_tup_ob:CallR X (.type "tuple") (fun xs H Q=>∃ a o ys,xs=[.ref a]∧H a=some o∧Ob o ys∧∀ l H',Same H H'→H' l=some (.tup ys)→Q (.ref l) H'):=by
  intro pins s σ H xs us Q I r h
  obtain ⟨a,o,ys,e1,ha,ho,q⟩:=h
  refine call_tuple_of pins s σ H xs us Q I r ⟨a,ys,e1,?_⟩
  rcases ho with ho | ho
  · subst ho
    exact .inl ⟨.of ha,fun l hl=>q l _ (Same.upd hl) upd_same⟩
  · subst ho
    exact .inr ⟨.of ha,q a H (Same.refl _) ha⟩
end
end L2
namespace Pr
open PySem L2 PyProof.Rows
theorem _root_.L2.Ob.to {H:Hp} {a:Addr} {o:HO} {xs:List V} (h:Ob o xs) (e:H a=some o):Sq H a xs:=by
  rcases h with h | h
  · subst h; exact .inl e
  · subst h; exact .inr e
theorem _root_.L2.Ob.ne {H:Hp} {a p C dx:Addr} {o:HO} {xs:List V} {fs:List (Str × V)} (h:Ob o xs) (e:H a=some o) (hp:H p=some (.ins C dx fs)):a≠p:=by
  rcases h with h | h
  · subst h; exact ne_of e hp (by intro z; cases z)
  · subst h; exact ne_of e hp (by intro z; cases z)
def partB (i:Int):Bool:=(decide (-1000000000≤i) && decide (i≤1000000000)) && !decide (i=0)
def sizeB (i:Int):Bool:=decide (1≤i) && decide (i≤1000)
def wideB (i:Int):Bool:=decide (-W30 < i) && decide (i < W30)
def lenB (lo hi:Int) (n:Nat):Bool:=decide (lo≤(n:Int)) && decide ((n:Int)≤hi)
def headB (ps:List Int):Bool:=decide (0 < ps.headD 0)
def partsB (ps:List Int):Bool:=lenB 1 12 ps.length && (ps.all partB && headB ps)
def sizesB (S:List Int):Bool:=lenB 1 12 S.length && S.all sizeB
def rowB (s:Lad.Step):Bool:=wideB s.1 && sizesB s.2
def rowsB (rows:List Lad.Step):Bool:=lenB 0 4 rows.length && rows.all rowB
section
variable {P:Program} {w:World} {K:PySem.W.Frag} {mg:Str→Option Value} {base:Heap} {C:Addr}
inductive sp_is_part (vs:List V) (H:Hp) (Q:VK) (E:XK):Prop
  | mk (i:Int) (h0_:vs=[.int i]) (h1_:Q (.bl (partB i)) H):sp_is_part vs H Q E
theorem sc_is_part:FnScope ["value"] ["value"] (defScope s_is_part):=⟨rfl,rfl,rfl,by decide +kernel,rfl,by decide +kernel,by decide +kernel⟩
theorem is_part (T:Txt K mg C):Can P w K mg base 3 "is_part" ["value"] sp_is_part:=by
  refine fn_can T.f_is_part sc_is_part (fun vs H Q E h=>?_) (fun f cdv A outer s H vs Q E hr h=>?_)
  · obtain ⟨i,rfl,_⟩:=h
    rfl
  · obtain ⟨i,rfl,k⟩:=h
    refine ⟨_,pss_one (ps_ret (pe_and (pe_can (is_whole_from T) hr (pa3 (pv 0) (pe_un un_neg (pe_gi T.c_MOST_LENGTH)) (pe_gi T.c_MOST_LENGTH))) (pe_one (pe_cmpR op_ne (pv 0) pe_int (nomark _))))),?_⟩
    refine ⟨_,rfl,_,rfl,_,_,_,rfl,_,rfl,?_⟩
    have e:decide (V.int i=V.int 0)=decide (i=0):=by rw [dec_int]; exact Bool.beq_eq_decide_eq i 0
    unfold partB at k
    refine iteB (fun h=>?_) (fun h=>?_)
    · have h':(decide (-1000000000≤i) && decide (i≤1000000000))=true:=h
      rw [h',Bool.true_and,← e] at k
      exact ⟨_,rfl,rfl,k⟩
    · have h':(decide (-1000000000≤i) && decide (i≤1000000000))=false:=h
      rw [h',Bool.false_and] at k
      exact k
theorem all_map (f:Int→Bool) (S:List Int):((S.map f).all id)=S.all f:=by rw [List.all_map]; rfl
inductive sp_are_parts (vs:List V) (H:Hp) (Q:VK) (E:XK):Prop
  | mk (a:Addr) (o:HO) (ps:List Int) (h0_:vs=[.ref a]) (h1_:H a=some o) (h2_:Ob o (ps.map V.int)) (h3_:ps.length≤1000) (h4_:∀ H',Same H H'→Q (.bl (partsB ps)) H'):sp_are_parts vs H Q E
theorem sc_are_parts:FnScope ["value"] ["value"] (defScope s_are_parts):=⟨rfl,rfl,rfl,by decide +kernel,rfl,by decide +kernel,by decide +kernel⟩
theorem int_of_map {S:List Int} {i:Nat} {x:V} (e:(S.map V.int)[i]?=some x):∃ n,S[i]?=some n∧x=.int n:=by
  rw [List.getElem?_map] at e
  cases q:S[i]? with
  | none=>rw [q] at e; cases e
  | some n=>rw [q] at e; exact ⟨n,rfl,(Option.some.inj e).symm⟩
theorem take_map_snoc {α β:Type} {S:List α} {i:Nat} {n:α} (f:α→β) (e:S[i]?=some n):(S.take i).map f++[f n]=(S.take (i + 1)).map f:=by
  rw [List.take_add_one,e,List.map_append]
  rfl
theorem are_parts (T:Txt K mg C):Can P w K mg base 4 "are_parts" ["value"] sp_are_parts:=by
  refine fn_can T.f_are_parts sc_are_parts (fun vs H Q E h=>?_) (fun f cdv A outer s H vs Q E hr h=>?_)
  · obtain ⟨a,o,ps,rfl,_⟩:=h
    rfl
  · obtain ⟨a,o,ps,rfl,ha,ho,hlen,k⟩:=h
    refine ⟨_,pss_one (ps_ret (pe_and (pe_can (is_list_from T) hr (pa3 (pv 0) pe_int (pe_gi T.c_MOST_PARTS)))
      (pe_and (pe_b (call_all_seq rfl) T.b_all boot_all (pa1 (pe_lc rfl (lcS sc_are_parts) (pi_seq (pv 0)) (fun _ _ _ _=>pts_nil) (fun _ _ _ _=>pe_can (is_part T) hr (pa1 (pv 0))))))
      (pe_one (pe_cmpR op_gt (pe_ix ix_ob (pv 0) pe_int (fun _ _=>rfl)) pe_int (nomark _)))))),?_⟩
    refine ⟨_,rfl,a,_,_,_,rfl,ho.to ha,fun H1 s1=>⟨_,rfl,?_⟩⟩
    have ha1:=s1 _ _ ha
    refine iteB (fun h=>?_) (fun h=>?_)
    · have h':lenB 1 12 ps.length=true:=by unfold lenB; rw [List.length_map] at h; exact h
      refine ⟨_,rfl,a,o,_,rfl,ha1,ho,fun J hJ D hD=>?_⟩
      refine lc_it hJ (fun i ys H2=>ys=((ps.take i).map partB).map V.bl∧Same H1 H2∧H2 D=some (.lst ys)) ⟨rfl,Same.upd hD,upd_same⟩ (fun i ys H2 ⟨_,s2,d⟩=>⟨d,s2 _ _ ha1⟩) (fun ys H2 ⟨e,s2,d⟩=>?_) (fun i x ys H2 hi hx ⟨e,s2,d⟩=>?_)
      · rw [List.length_map,List.take_length] at e
        subst e
        refine ⟨D,ps.map partB,rfl,.of d,_,rfl,?_⟩
        rw [all_map]
        have k2:=k _ (s1.trans s2)
        unfold partsB at k2
        rw [h',Bool.true_and] at k2
        refine iteB (fun h2=>?_) (fun h2=>?_)
        · rw [h2,Bool.true_and] at k2
          have hne:1≤ps.length:=by
            unfold lenB at h'
            rw [Bool.and_eq_true,decide_eq_true_eq] at h'
            omega
          refine ⟨_,rfl,a,o,_,_,_,rfl,rfl,s2 _ _ ha1,ho,atI_ints (i:=0) (by omega) (by omega),_,_,rfl,rfl,?_⟩
          have e:headB ps=decide (0 < ps.getD 0 0):=by
            unfold headB
            cases ps <;> rfl
          rw [e] at k2
          exact k2
        · rw [h2,Bool.false_and] at k2
          exact k2
      · obtain ⟨n,hn,rfl⟩:=int_of_map hx
        rw [List.length_map] at hi
        refine yesI ⟨_,rfl,n,rfl,LcNx.mk (by rw [List.length_map]; exact hi) (by rw [List.length_map]; exact hlen) (by rw [e,List.length_map,List.length_map,List.length_take]; omega) d ⟨?_,?_,upd_same⟩⟩
        · rw [e,← take_map_snoc partB hn,List.map_append]
          rfl
        · exact fun b o z=>by rw [upd_ne (ne_of_none z hD)]; exact s2 b o z
    · have h':lenB 1 12 ps.length=false:=by unfold lenB; rw [List.length_map] at h; exact h
      have k2:=k _ s1
      unfold partsB at k2
      rw [h',Bool.false_and] at k2
      exact k2
inductive sp_are_sizes (vs:List V) (H:Hp) (Q:VK) (E:XK):Prop
  | mk (a:Addr) (o:HO) (S:List Int) (h0_:vs=[.ref a]) (h1_:H a=some o) (h2_:Ob o (S.map V.int)) (h3_:S.length≤1000) (h4_:∀ H',Same H H'→Q (.bl (sizesB S)) H'):sp_are_sizes vs H Q E
theorem sc_are_sizes:FnScope ["value"] ["value"] (defScope s_are_sizes):=⟨rfl,rfl,rfl,by decide +kernel,rfl,by decide +kernel,by decide +kernel⟩
theorem are_sizes (T:Txt K mg C):Can P w K mg base 3 "are_sizes" ["value"] sp_are_sizes:=by
  refine fn_can T.f_are_sizes sc_are_sizes (fun vs H Q E h=>?_) (fun f cdv A outer s H vs Q E hr h=>?_)
  · obtain ⟨a,o,S,rfl,_⟩:=h
    rfl
  · obtain ⟨a,o,S,rfl,ha,ho,hlen,k⟩:=h
    refine ⟨_,pss_one (ps_ret (pe_and (pe_can (is_list_from T) hr (pa3 (pv 0) pe_int (pe_gi T.c_MOST_SIZES)))
      (pe_one (pe_b (call_all_seq rfl) T.b_all boot_all (pa1 (pe_lc rfl (lcS sc_are_sizes) (pi_seq (pv 0)) (fun _ _ _ _=>pts_nil) (fun _ _ _ _=>pe_can (is_whole_from T) hr (pa3 (pv 0) pe_int (pe_gi T.c_MOST_SIZE))))))))),?_⟩
    refine ⟨_,rfl,a,_,_,_,rfl,ho.to ha,fun H1 s1=>⟨_,rfl,?_⟩⟩
    have ha1:=s1 _ _ ha
    refine iteB (fun h=>?_) (fun h=>?_)
    · have h':lenB 1 12 S.length=true:=by unfold lenB; rw [List.length_map] at h; exact h
      refine ⟨_,rfl,a,o,_,rfl,ha1,ho,fun J hJ D hD=>?_⟩
      refine lc_it hJ (fun i ys H2=>ys=((S.take i).map sizeB).map V.bl∧Same H1 H2∧H2 D=some (.lst ys)) ⟨rfl,Same.upd hD,upd_same⟩ (fun i ys H2 ⟨_,s2,d⟩=>⟨d,s2 _ _ ha1⟩) (fun ys H2 ⟨e,s2,d⟩=>?_) (fun i x ys H2 hi hx ⟨e,s2,d⟩=>?_)
      · rw [List.length_map,List.take_length] at e
        subst e
        refine ⟨D,S.map sizeB,rfl,.of d,?_⟩
        rw [all_map]
        have k2:=k _ (s1.trans s2)
        unfold sizesB at k2
        rw [h',Bool.true_and] at k2
        exact k2
      · obtain ⟨n,hn,rfl⟩:=int_of_map hx
        rw [List.length_map] at hi
        refine yesI ⟨_,rfl,_,_,_,rfl,LcNx.mk (by rw [List.length_map]; exact hi) (by rw [List.length_map]; exact hlen) (by rw [e,List.length_map,List.length_map,List.length_take]; omega) d ⟨?_,?_,upd_same⟩⟩
        · rw [e,← take_map_snoc sizeB hn,List.map_append]
          rfl
        · exact fun b o z=>by rw [upd_ne (ne_of_none z hD)]; exact s2 b o z
    · have h':lenB 1 12 S.length=false:=by unfold lenB; rw [List.length_map] at h; exact h
      have k2:=k _ s1
      unfold sizesB at k2
      rw [h',Bool.false_and] at k2
      exact k2
inductive RowG (H:Hp) (v:V) (s:Lad.Step):Prop
  | mk (r:Addr) (l:Addr) (o1:HO) (o2:HO) (h0_:v=.ref r) (h1_:H r=some o1) (h2_:Ob o1 [.int s.1,.ref l]) (h3_:H l=some o2) (h4_:Ob o2 (s.2.map V.int)) (h5_:s.2.length≤1000):RowG H v s
theorem RowG.same {H H':Hp} (e:Same H H') {v:V} {s:Lad.Step} (h:RowG H v s):RowG H' v s:=by
  obtain ⟨r,l,o1,o2,e1,h1,h2,h3,h4,h5⟩:=h
  exact ⟨r,l,o1,o2,e1,e _ _ h1,h2,e _ _ h3,h4,h5⟩
inductive sp_is_row (vs:List V) (H:Hp) (Q:VK) (E:XK):Prop
  | mk (v:V) (st:Lad.Step) (h0_:vs=[v]) (h1_:RowG H v st) (h2_:∀ H',Same H H'→Q (.bl (rowB st)) H'):sp_is_row vs H Q E
theorem sc_is_row:FnScope ["value"] ["value"] (defScope s_is_row):=⟨rfl,rfl,rfl,by decide +kernel,rfl,by decide +kernel,by decide +kernel⟩
theorem is_row (T:Txt K mg C):Can P w K mg base 4 "is_row" ["value"] sp_is_row:=by
  refine fn_can T.f_is_row sc_is_row (fun vs H Q E h=>?_) (fun f cdv A outer s H vs Q E hr h=>?_)
  · obtain ⟨v,st,rfl,_⟩:=h
    rfl
  · obtain ⟨v,st,rfl,⟨r,l,o1,o2,rfl,hr1,ho1,hl1,ho2,hlen⟩,k⟩:=h
    refine ⟨_,pss_one (ps_ret (pe_and (pe_can (is_list_from T) hr (pa3 (pv 0) pe_int pe_int))
      (pe_and (pe_can (is_wide T) hr (pa1 (pe_ix ix_ob (pv 0) pe_int (fun _ _=>rfl)))) (pe_one (pe_can (are_sizes T) hr (pa1 (pe_ix ix_ob (pv 0) pe_int (fun _ _=>rfl)))))))),?_⟩
    refine ⟨_,rfl,r,_,_,_,rfl,ho1.to hr1,fun H1 s1=>⟨_,rfl,iteT ?_⟩⟩
    have hr2:=s1 _ _ hr1
    have hl2:=s1 _ _ hl1
    refine ⟨_,rfl,r,o1,_,_,_,rfl,rfl,hr2,ho1,rfl,_,rfl,_,rfl,?_⟩
    refine iteB (fun h=>?_) (fun h=>?_)
    · refine ⟨_,rfl,r,o1,_,_,_,rfl,rfl,hr2,ho1,rfl,l,o2,st.2,rfl,hl2,ho2,hlen,fun H2 s2=>?_⟩
      have k2:=k _ (s1.trans s2)
      unfold rowB wideB at k2
      rw [h,Bool.true_and] at k2
      exact k2
    · have k2:=k _ s1
      unfold rowB wideB at k2
      rw [h,Bool.false_and] at k2
      exact k2
inductive sp_are_rows (vs:List V) (H:Hp) (Q:VK) (E:XK):Prop
  | mk (a:Addr) (o:HO) (us:List V) (rows:List Lad.Step) (h0_:vs=[.ref a]) (h1_:H a=some o) (h2_:Ob o us) (h3_:Paired (RowG H) us rows) (h4_:rows.length≤1000) (h5_:∀ H',Same H H'→Q (.bl (rowsB rows)) H'):sp_are_rows vs H Q E
theorem sc_are_rows:FnScope ["value"] ["value"] (defScope s_are_rows):=⟨rfl,rfl,rfl,by decide +kernel,rfl,by decide +kernel,by decide +kernel⟩
theorem all_mapS (f:Lad.Step→Bool) (S:List Lad.Step):((S.map f).all id)=S.all f:=by rw [List.all_map]; rfl
theorem are_rows (T:Txt K mg C):Can P w K mg base 5 "are_rows" ["value"] sp_are_rows:=by
  refine fn_can T.f_are_rows sc_are_rows (fun vs H Q E h=>?_) (fun f cdv A outer s H vs Q E hr h=>?_)
  · obtain ⟨a,o,us,rows,rfl,_⟩:=h
    rfl
  · obtain ⟨a,o,us,rows,rfl,ha,ho,hp,hlen,k⟩:=h
    refine ⟨_,pss_one (ps_ret (pe_and (pe_can (is_list_from T) hr (pa3 (pv 0) pe_int (pe_gi T.c_MOST_ROWS)))
      (pe_one (pe_b (call_all_seq rfl) T.b_all boot_all (pa1 (pe_lc rfl (lcS sc_are_rows) (pi_seq (pv 0)) (fun _ _ _ _=>pts_nil) (fun _ _ _ _=>pe_can (is_row T) hr (pa1 (pv 0))))))))),?_⟩
    have hl:us.length=rows.length:=Paired.length hp
    refine ⟨_,rfl,a,_,_,_,rfl,ho.to ha,fun H1 s1=>⟨_,rfl,?_⟩⟩
    have ha1:=s1 _ _ ha
    refine iteB (fun h=>?_) (fun h=>?_)
    · have h':lenB 0 4 rows.length=true:=by unfold lenB; rw [hl] at h; exact h
      refine ⟨_,rfl,a,o,_,rfl,ha1,ho,fun J hJ D hD=>?_⟩
      refine lc_it hJ (fun i ys H2=>ys=((rows.take i).map rowB).map V.bl∧Same H1 H2∧H2 D=some (.lst ys)) ⟨rfl,Same.upd hD,upd_same⟩ (fun i ys H2 ⟨_,s2,d⟩=>⟨d,s2 _ _ ha1⟩) (fun ys H2 ⟨e,s2,d⟩=>?_) (fun i x ys H2 hi hx ⟨e,s2,d⟩=>?_)
      · rw [hl,List.take_length] at e
        subst e
        refine ⟨D,rows.map rowB,rfl,.of d,?_⟩
        rw [all_mapS]
        have k2:=k _ (s1.trans s2)
        unfold rowsB at k2
        rw [h',Bool.true_and] at k2
        exact k2
      · obtain ⟨st,hn,hst⟩:=Paired.get hp hx
        refine yesI ⟨_,rfl,_,st,rfl,(hst.same s1).same s2,fun H3 s3=>LcNx.mk hi (by omega) (by rw [e,List.length_map,List.length_map,List.length_take]; omega) (s3 _ _ d) ⟨?_,?_,upd_same⟩⟩
        · rw [e,← take_map_snoc rowB hn,List.map_append]
          rfl
        · exact fun b o z=>by rw [upd_ne (ne_of_none z hD)]; exact s3 b o (s2 b o z)
    · have h':lenB 0 4 rows.length=false:=by unfold lenB; rw [hl] at h; exact h
      have k2:=k _ s1
      unfold rowsB at k2
      rw [h',Bool.false_and] at k2
      exact k2
inductive sp_bar_lengths (vs:List V) (H:Hp) (Q:VK) (E:XK):Prop
  | mk (a:Addr) (o:HO) (ps:List Int) (h0_:vs=[.ref a]) (h1_:H a=some o) (h2_:Ob o (ps.map V.int)) (h3_:Lad.PartsOk ps) (h4_:ps.length≤1000) (h5_:∀ l H',Same H H'→H l=none→H' l=some (.lst ((Lad.bars ps).map V.int))→Q (.ref l) H'):sp_bar_lengths vs H Q E
theorem sc_bar_lengths:FnScope ["parts","lengths","part"] ["parts"] (defScope s_bar_lengths):=⟨rfl,rfl,rfl,by decide +kernel,rfl,by decide +kernel,by decide +kernel⟩
theorem addPart_len (acc:List Int) (p:Int):(Lad.addPart acc p).length≤acc.length + 1:=by
  unfold Lad.addPart
  split
  · simp
  · rw [List.length_append,List.length_dropLast,List.length_singleton]; omega
theorem foldl_len:∀ (ps acc:List Int),(ps.foldl Lad.addPart acc).length≤acc.length + ps.length
  | [],acc=>by simp
  | p::r,acc=>by
    rw [List.foldl_cons,List.length_cons]
    have h1:=foldl_len r (Lad.addPart acc p)
    have h2:=addPart_len acc p
    omega
theorem foldl_ne:∀ (ps acc:List Int),acc≠[]→ps.foldl Lad.addPart acc≠[]
  | [],acc,h=>h
  | p::r,acc,h=>by
    rw [List.foldl_cons]
    refine foldl_ne r _ ?_
    unfold Lad.addPart
    split <;> simp
theorem bar_lengths (T:Txt K mg C):Can P w K mg base 1 "bar_lengths" ["parts"] sp_bar_lengths:=by
  refine fn_can T.f_bar_lengths sc_bar_lengths (fun vs H Q E h=>?_) (fun f cdv A outer s H vs Q E hr h=>?_)
  · obtain ⟨a,o,ps,rfl,_⟩:=h
    rfl
  · obtain ⟨a,o,ps,rfl,ha,ho,hok,hlen,k⟩:=h
    refine ⟨_,pss_cons (ps_set (i:=1) sc_bar_lengths.nd rfl (Or.inl rfl) (pe_lst pa_nil))
      (pss_cons (ps_for PassesOwn.never rfl (pi_seq (pv 0)) (pg_name (i:=2) sc_bar_lengths.nd rfl (Or.inl rfl))
        (pss_one (ps_if (pt_cmpR op_gt (pv 2) pe_int (nomark _))
          (pss_one (ps_expr (pe_bm PySem.F.plainAttrs_list PySem.F.slot_list_append PySem.F.type_list_append mt_append (pv 1) (pa1 (pv 2)))))
          (pss_one (ps_augS (pv 1) (pe_un un_neg pe_int) pget_list (pv 2) ip_sub set_list)))))
      (pss_one (ps_ret (pv 1)))),?_⟩
    refine ⟨Nat.zero_le _,fun l hl=>?_⟩
    have s1:∀ o,Same H (upd H l o):=fun o=>Same.upd hl
    refine ⟨_,rfl,a,o,_,rfl,s1 _ _ _ ha,ho,fun J hJ=>for_it hJ (fun i σ H2=>∃ v,σ=[some (.ref a),some (.ref l),v]∧Same H H2∧H2 l=some (.lst (((ps.take i).foldl Lad.addPart []).map V.int)))
      ⟨none,rfl,s1 _,upd_same⟩ (fun i σ H2 _ ⟨_,_,s2,_⟩=>s2 _ _ ha) ?_ ?_⟩
    · rintro i x σ H2 hx ⟨v,rfl,s2,d⟩
      obtain ⟨n,hn,rfl⟩:=int_of_map hx
      have hi:i < ps.length:=(List.getElem?_eq_some_iff.mp hn).1
      have hfl:=foldl_len (ps.take i) []
      rw [List.length_take,List.length_nil] at hfl
      have e1:(ps.take (i + 1)).foldl Lad.addPart []=Lad.addPart ((ps.take i).foldl Lad.addPart []) n:=by
        rw [List.take_add_one,hn,List.foldl_append]
        rfl
      refine ⟨_,rfl,_,_,rfl,rfl,_,rfl,?_⟩
      refine ite2 (fun hc=>?_) (fun hc=>?_)
      · have hc:0 < n:=of_decide_eq_true hc
        refine ⟨_,rfl,.inl ⟨rfl,_,.of d⟩,_,rfl,l,_,_,rfl,rfl,d,small1000 (by rw [List.length_map]; omega),_,rfl,?_,?_⟩
        · exact fun b o z=>by rw [upd_ne (ne_of_none z hl)]; exact s2 b o z
        · rw [upd_same,e1]
          unfold Lad.addPart
          rw [if_pos hc,List.map_append]
          rfl
      · have hc:¬ 0 < n:=fun z=>hc (decide_eq_true z)
        have hi0:i≠0:=by
          rintro rfl
          obtain ⟨_,p,r,rfl,hp⟩:=hok
          have:n=p:=by simpa using hn.symm
          omega
        have hne:(ps.take i).foldl Lad.addPart []≠[]:=by
          obtain ⟨hz,p,r,rfl,hp⟩:=hok
          obtain ⟨j,rfl⟩:∃ j,i=j + 1:=⟨i - 1,by omega⟩
          rw [List.take_succ_cons,List.foldl_cons]
          refine foldl_ne _ _ ?_
          unfold Lad.addPart
          rw [if_pos hp]
          simp
        generalize hL:(ps.take i).foldl Lad.addPart []=L at *
        obtain ⟨L0,z,rfl⟩:∃ L0 z,L=L0++[z]:=⟨L.dropLast,L.getLast hne,(List.dropLast_concat_getLast hne).symm⟩
        have ez:(L0++[z]).map V.int=L0.map V.int++[V.int z]:=by rw [List.map_append]; rfl
        rw [ez] at d
        have eix:ixN (L0.map V.int++[V.int z]).length (-1)=some L0.length:=by
          unfold ixN
          rw [if_neg (by omega),List.length_append,List.length_map,List.length_singleton,if_pos (by omega)]
          congr 1
          omega
        refine ⟨_,rfl,_,rfl,l,_,_,_,rfl,rfl,.of d,atI_last _ _,_,rfl,_,_,rfl,rfl,l,_,_,_,rfl,rfl,d,eix,_,rfl,?_,?_⟩
        · exact fun b o q=>by rw [upd_ne (ne_of_none q hl)]; exact s2 b o q
        · rw [upd_same,e1]
          unfold Lad.addPart
          rw [if_neg hc]
          congr 2
          rw [List.map_append,List.dropLast_concat,List.getLastD_concat,List.set_append_right _ _ (by rw [List.length_map]; exact Nat.le_refl _),List.length_map,Nat.sub_self]
          rfl
    · rintro σ H2 ⟨v,rfl,s2,d⟩
      rw [List.length_map,List.take_length,Lad.foldl_bars hok] at d
      exact ⟨_,rfl,k l H2 s2 hl d⟩
end
end Pr
namespace Pr
open PySem L2 PyProof.Rows
def flds (a o c:Addr):List (Str × V):=putF "steps" (.ref c) (putF "open_lengths" (.ref o) (putF "part_lengths" (.ref a) []))
theorem flds_steps (a o c:Addr):(flds a o c).lookup ("steps" : Str)=some (.ref c):=by
  unfold flds; rw [lookup_putF,if_pos rfl]
theorem flds_no (a o c:Addr) {m:Str} (h1:¬ m="steps") (h2:¬ m="open_lengths") (h3:¬ m="part_lengths"):(flds a o c).lookup m=none:=by
  unfold flds
  rw [lookup_putF,if_neg h1,lookup_putF,if_neg h2,lookup_putF,if_neg h3]
  rfl
inductive StepAt (H:Hp) (v:V) (s:Lad.Step):Prop
  | mk (r:Addr) (l:Addr) (h0_:v=.ref r) (h1_:H r=some (.tup [.int s.1,.ref l])) (h2_:H l=some (.tup (s.2.map V.int))):StepAt H v s
theorem StepAt.same {H H':Hp} (e:Same H H') {v:V} {s:Lad.Step} (h:StepAt H v s):StepAt H' v s:=by
  obtain ⟨r,l,e1,h1,h2⟩:=h
  exact ⟨r,l,e1,e _ _ h1,e _ _ h2⟩
theorem RowG.but {p:Addr} {H H':Hp} (e:But p H H') {C dx:Addr} {fs:List (Str × V)} (hp:H p=some (.ins C dx fs)) {v:V} {s:Lad.Step} (h:RowG H v s):RowG H' v s:=by
  obtain ⟨r,l,o1,o2,e1,h1,h2,h3,h4,h5⟩:=h
  exact ⟨r,l,o1,o2,e1,e _ _ h1 (h2.ne h1 hp),h2,e _ _ h3 (h4.ne h3 hp),h4,h5⟩
theorem StepAt.but {p:Addr} {H H':Hp} (e:But p H H') {C dx:Addr} {fs:List (Str × V)} (hp:H p=some (.ins C dx fs)) {v:V} {s:Lad.Step} (h:StepAt H v s):StepAt H' v s:=by
  obtain ⟨r,l,e1,h1,h2⟩:=h
  exact ⟨r,l,e1,e _ _ h1 (ne_of h1 hp (by intro z; cases z)),e _ _ h2 (ne_of h2 hp (by intro z; cases z))⟩
inductive LadAt (C:Addr) (H:Hp) (p:Addr) (b:Int) (ps:List Int) (rows:List Lad.Step):Prop
  | mk (dx:Addr) (a:Addr) (o:Addr) (c:Addr) (us:List V) (h0_:H p=some (.ins C dx (flds a o c))) (h1_:H a=some (.tup (ps.map V.int))) (h2_:H o=some (.tup ((Lad.opens ps).map V.int))) (h3_:H c=some (.tup us)) (h4_:Paired (StepAt H) us ((b,Lad.bars ps)::rows)):LadAt C H p b ps rows
theorem LadAt.same {C:Addr} {H H':Hp} {p:Addr} {b:Int} {ps:List Int} {rows:List Lad.Step} (h:LadAt C H p b ps rows) (e:Same H H'):LadAt C H' p b ps rows:=by
  obtain ⟨dx,a,o,c,us,h1,h2,h3,h4,h5⟩:=h
  exact ⟨dx,a,o,c,us,e _ _ h1,e _ _ h2,e _ _ h3,e _ _ h4,Paired.mono (fun _ _ x=>x.same e) h5⟩
structure LadOk (b:Int) (ps:List Int) (rows:List Lad.Step):Prop where
  b:wideB b=true
  p:partsB ps=true
  r:rowsB rows=true
theorem partsB_ok {ps:List Int} (h:partsB ps=true):Lad.PartsOk ps∧ps.length≤12∧∀ p ∈ ps,-1000000000≤p∧p≤1000000000:=by
  unfold partsB lenB at h
  simp only [Bool.and_eq_true,decide_eq_true_eq,List.all_eq_true] at h
  obtain ⟨⟨h1,h2⟩,h3,h4⟩:=h
  have hp:∀ p ∈ ps,(-1000000000≤p∧p≤1000000000)∧p≠0:=fun p hp=>by
    have:=h3 p hp
    unfold partB at this
    simpa using this
  refine ⟨⟨fun p hq=>(hp p hq).2,?_⟩,by omega,fun p hq=>(hp p hq).1⟩
  unfold headB at h4
  cases ps with
  | nil=>simp at h1
  | cons p r=>exact ⟨p,r,rfl,by simpa using h4⟩
theorem sizesB_ok {S:List Int} (h:sizesB S=true):Lad.Good S∧S.length≤12∧∀ v ∈ S,v≤1000:=by
  unfold sizesB lenB at h
  simp only [Bool.and_eq_true,decide_eq_true_eq,List.all_eq_true] at h
  obtain ⟨⟨h1,h2⟩,h3⟩:=h
  have hp:∀ p ∈ S,1≤p∧p≤1000:=fun p hp=>by
    have:=h3 p hp
    unfold sizeB at this
    simpa using this
  refine ⟨⟨fun e=>?_,fun v hv=>(hp v hv).1⟩,by omega,fun v hv=>(hp v hv).2⟩
  rw [e] at h1
  simp at h1
theorem wideB_ok {i:Int} (h:wideB i=true) : -W30 < i∧i < W30:=by
  unfold wideB at h
  simpa using h
theorem rowsB_ok {rows:List Lad.Step} (h:rowsB rows=true):rows.length≤4∧∀ s ∈ rows,rowB s=true:=by
  unfold rowsB lenB at h
  simp only [Bool.and_eq_true,decide_eq_true_eq,List.all_eq_true] at h
  exact ⟨by omega,h.2⟩
theorem sum_le:∀ {S:List Int} {B:Int},(∀ v ∈ S,v≤B)→S.sum≤B * (S.length:Int)
  | [],B,_=>by simp
  | v::r,B,h=>by
    have h1:=sum_le (S:=r) (B:=B) fun x hx=>h x (List.mem_cons_of_mem _ hx)
    have h2:=h v List.mem_cons_self
    rw [List.sum_cons,List.length_cons,Int.natCast_add,Int.mul_add]
    omega
theorem szOk_sizes {S:List Int} (h:sizesB S=true):SzOk S:=by
  obtain ⟨g,n,v⟩:=sizesB_ok h
  refine ⟨g,by omega,?_⟩
  have:=sum_le v
  omega
theorem total_le {ps:List Int} (h:∀ p ∈ ps,-1000000000≤p∧p≤1000000000):Lad.total ps≤1000000000 * (ps.length:Int):=by
  have:∀ v ∈ ps.map Lad.absI,v≤1000000000:=fun v hv=>by
    obtain ⟨p,hp,rfl⟩:=List.mem_map.mp hv
    have:=h p hp
    unfold Lad.absI
    split <;> omega
  have:=sum_le this
  rw [List.length_map] at this
  exact this
theorem opens_len (ps:List Int):(Lad.opens ps).length≤ps.length:=List.length_filter_le _ _
theorem szOk_bars {ps:List Int} (h:partsB ps=true):SzOk (Lad.bars ps):=by
  obtain ⟨ok,n,v⟩:=partsB_ok h
  have h1:=total_le v
  have h2:=opens_len ps
  refine ⟨Lad.bars_good ok,?_,?_⟩
  · rw [Lad.bars_len ok]; omega
  · rw [Lad.bars_sum ok]; omega
theorem LadOk.steps {b:Int} {ps:List Int} {rows:List Lad.Step} (h:LadOk b ps rows):∀ s ∈ (b,Lad.bars ps)::rows,SzOk s.2∧-W30 < s.1∧s.1 < W30:=fun s hs=>by
  rcases List.mem_cons.mp hs with e | hs
  · rw [e]
    exact ⟨szOk_bars h.p,wideB_ok h.b⟩
  · have:=(rowsB_ok h.r).2 s hs
    unfold rowB at this
    rw [Bool.and_eq_true] at this
    exact ⟨szOk_sizes this.2,wideB_ok this.1⟩
theorem But.same {p:Addr} {H H1 H2:Hp} (a:But p H H1) (b:Same H1 H2):But p H H2:=fun c o h n=>b c o (a c o h n)
theorem But.upd {p:Addr} {H:Hp} {o:HO}:But p H (upd H p o):=fun c u h n=>by rw [upd_ne n]; exact h
theorem filter_snoc {S:List Int} {i:Nat} {n:Int} (f:Int→Bool) (e:S[i]?=some n):(S.take (i + 1)).filter f=(S.take i).filter f++(if f n then [n] else []):=by
  rw [List.take_add_one,e,List.filter_append]
  cases h:f n <;> simp [h]
section
variable {P:Program} {w:World} {K:PySem.W.Frag} {mg:Str→Option Value} {base:Heap} {C:Addr}
inductive sp_init (C:Addr) (vs:List V) (H:Hp) (Q:VK) (E:XK):Prop
  | mk (p:Addr) (dx:Addr) (b:Int) (pa:Addr) (po:HO) (ps:List Int) (ra:Addr) (ro:HO) (us:List V) (rows:List Lad.Step) (h0_:vs=[.ref p,.int b,.ref pa,.ref ra]) (h1_:H p=some (.ins C dx [])) (h2_:H pa=some po) (h3_:Ob po (ps.map V.int)) (h4_:H ra=some ro) (h5_:Ob ro us) (h6_:Paired (RowG H) us rows) (h7_:LadOk b ps rows) (h8_:∀ H',But p H H'→LadAt C H' p b ps rows→Q .non H'):sp_init C vs H Q E
theorem sc_init:FnScope ["self","begin","parts","rows","lowest"] ["self","begin","parts","rows"] (defScope sm_init):=⟨rfl,rfl,rfl,by decide +kernel,rfl,by decide +kernel,by decide +kernel⟩
theorem init_ok (T:Txt K mg C) {f:Addr} {fd:FuncData} (F:Fun K "__init__" "Ladder.__init__" sm_init f fd):FnOk P w K mg base CX0 6 f fd ["self","begin","parts","rows"] (sp_init C):=by
  refine F.ok sc_init (fun vs H Q E h=>?_) (fun cdv A outer s H vs Q E hr h=>?_)
  · obtain ⟨p,dx,b,pa,po,ps,ra,ro,us,rows,rfl,_⟩:=h
    rfl
  · obtain ⟨p,dx,b,pa,po,ps,ra,ro,us,rows,rfl,hp,hpa,hpo,hra,hro,hrows,ok,k⟩:=h
    obtain ⟨pok,plen,_⟩:=partsB_ok ok.p
    obtain ⟨rlen,_⟩:=rowsB_ok ok.r
    have hul:us.length=rows.length:=Paired.length hrows
    refine ⟨_,pss_cons (ps_if (pt_not (pw_and (pt_val (pe_can (is_wide T) hr (pa1 (pv 1)))) (pw_and (pt_val (pe_can (are_parts T) hr (pa1 (pv 2)))) (pw_and1 (pt_val (pe_can (are_rows T) hr (pa1 (pv 3))))))).pt) pss_never pss_nil)
      (pss_cons (ps_fld (pv 0) (pe_t call_tup_ob T.b_tuple boot_tuple (pa1 (pv 2))) rfl)
      (pss_cons (ps_fld (pv 0) (pe_t call_tup_ob T.b_tuple boot_tuple (pa1 (pe_lc rfl (lcS sc_init) (pi_seq (pv 2)) (fun _ _ _ _=>pts_one (pt_cmpR op_gt (pv 0) pe_int (nomark _))) (fun _ _ _ _=>pv 0)))) rfl)
      (pss_cons (ps_set (i:=4) sc_init.nd rfl (Or.inl rfl) (pe_tup (pa2 (pv 1) (pe_t call_tup_ob T.b_tuple boot_tuple (pa1 (pe_can (bar_lengths T) hr (pa1 (pv 2))))))))
      (pss_one (ps_fld (pv 0) (pe_t call_tup_ob T.b_tuple boot_tuple (pa1 (pe_op op_cat (pe_lst (pa1 (pv 4)))
        (pe_lc rfl (lcS sc_init) (pi_seq (pv 3)) (fun _ _ _ _=>pts_nil) (fun _ _ _ _=>pe_tup (pa2 (pe_ix ix_ob (pv 0) pe_int (fun _ _=>rfl)) (pe_t call_tup_ob T.b_tuple boot_tuple (pa1 (pe_ix ix_ob (pv 0) pe_int (fun _ _=>rfl)))))))))) rfl))))),?_⟩
    have wb:(decide (-W30 < b) && decide (b < W30))=true:=ok.b
    refine ⟨_,rfl,b,rfl,_,rfl,?_⟩
    rw [wb]
    refine iteT ⟨_,rfl,pa,po,ps,rfl,hpa,hpo,by omega,fun H0 s0=>⟨_,rfl,?_⟩⟩
    rw [ok.p]
    refine iteT ⟨_,rfl,ra,ro,us,rows,rfl,s0 _ _ hra,hro,Paired.mono (fun _ _ x=>x.same s0) hrows,by omega,fun H1 s1'=>⟨_,rfl,?_⟩⟩
    rw [ok.r]
    refine iteF ?_
    have s1:Same H H1:=s0.trans s1'
    have hp1:=s1 _ _ hp
    have hpa1:=s1 _ _ hpa
    refine ⟨_,rfl,pa,po,_,rfl,hpa1,hpo,fun l1 H2 s2 hl1=>?_⟩
    have hp2:=s2 _ _ hp1
    have n1:p≠l1:=ne_of hp2 hl1 (by intro z; cases z)
    refine ⟨_,rfl,p,C,dx,_,rfl,hp2,T.cl,T.n_part_lengths,(by show 0 < 1000; decide),?_⟩
    generalize hH3:upd H2 p _=H3
    have b3:But p H1 H3:=by rw [← hH3]; exact s2.but.trans But.upd
    have hp3:H3 p=some (.ins C dx (putF "part_lengths" (.ref l1) [])):=by rw [← hH3]; exact upd_same
    have hl13:H3 l1=some (.tup (ps.map V.int)):=by rw [← hH3,upd_ne (Ne.symm n1)]; exact hl1
    have hpa3:H3 pa=some po:=b3 _ _ hpa1 (hpo.ne hpa1 hp1)
    clear hH3
    refine ⟨_,rfl,pa,po,_,rfl,hpa3,hpo,fun J hJ D hD=>?_⟩
    refine lc_it hJ (fun i ys H4=>ys=((ps.take i).filter fun q=>decide (0 < q)).map V.int∧Same H3 H4∧H4 D=some (.lst ys)) ⟨rfl,Same.upd hD,upd_same⟩ (fun i ys H4 ⟨_,s4,d⟩=>⟨d,s4 _ _ hpa3⟩) (fun ys H4 ⟨e,s4,d⟩=>?_) (fun i x ys H4 hi hx ⟨e,s4,d⟩=>?_)
    case refine_2 =>
      obtain ⟨n,hn,rfl⟩:=int_of_map hx
      rw [List.length_map] at hi
      refine ⟨_,rfl,_,_,rfl,rfl,_,rfl,?_⟩
      have e2:=filter_snoc (fun q=>decide (0 < q)) hn
      refine iteB (fun hc=>?_) (fun hc=>?_)
      · refine ⟨_,rfl,LcNx.mk (by rw [List.length_map]; exact hi) (by rw [List.length_map]; omega) (by rw [e,List.length_map]; exact Nat.le_trans (List.length_filter_le _ _) (by rw [List.length_take]; omega)) d ⟨?_,?_,upd_same⟩⟩
        · rw [e2,if_pos hc,e,List.map_append]
          rfl
        · exact fun b o z=>by rw [upd_ne (ne_of_none z hD)]; exact s4 b o z
      · refine LcNo.mk (by rw [List.length_map]; exact hi) ⟨?_,s4,d⟩
        rw [e2,if_neg (by rw [hc]; exact Bool.false_ne_true),e,List.append_nil]
    rw [List.length_map,List.take_length] at e
    subst e
    refine ⟨D,_,_,rfl,d,.inl rfl,fun l2 H4' s4' hl2=>?_⟩
    have hp4:=s4' _ _ (s4 _ _ hp3)
    have n2:p≠l2:=ne_of hp4 hl2 (by intro z; cases z)
    refine ⟨_,rfl,p,C,dx,_,rfl,hp4,T.cl,T.n_open_lengths,(by show 1 < 1000; decide),?_⟩
    generalize hH5:upd H4' p _=H5
    have b5:But p H4 H5:=by rw [← hH5]; exact s4'.but.trans But.upd
    have hp5:H5 p=some (.ins C dx (putF "open_lengths" (.ref l2) (putF "part_lengths" (.ref l1) []))):=by rw [← hH5]; exact upd_same
    have hl25:H5 l2=some (.tup ((Lad.opens ps).map V.int)):=by rw [← hH5,upd_ne (Ne.symm n2)]; exact hl2
    have hl15:H5 l1=some (.tup (ps.map V.int)):=b5 _ _ (s4 _ _ hl13) (Ne.symm n1)
    have hpa5:H5 pa=some po:=b5 _ _ (s4 _ _ hpa3) (hpo.ne hpa1 hp1)
    have b15:But p H1 H5:=(b3.trans s4.but).trans b5
    clear hH5
    refine ⟨_,rfl,_,rfl,pa,po,ps,rfl,hpa5,hpo,pok,by omega,fun l3 H6 s6 hl3 h6=>?_⟩
    refine ⟨l3,_,_,rfl,h6,.inl rfl,fun l4 H6' s6' hl4=>⟨two_line,fun l5 hl5=>?_⟩⟩
    generalize hH7:upd H6' l5 _=H7
    have s7:Same H6 H7:=by rw [← hH7]; exact s6'.trans (Same.upd hl5)
    have hl47:H7 l4=some (.tup ((Lad.bars ps).map V.int)):=by rw [← hH7]; exact Same.upd hl5 _ _ hl4
    have hl57:H7 l5=some (.tup [.int b,.ref l4]):=by rw [← hH7]; exact upd_same
    have s57:Same H5 H7:=s6.trans s7
    have b17:But p H1 H7:=But.same b15 s57
    have hra7:H7 ra=some ro:=b17 _ _ (s1 _ _ hra) (hro.ne hra hp)
    have hrows7:Paired (RowG H7) us rows:=Paired.mono (fun _ _ x=>RowG.but b17 hp1 (x.same s1)) hrows
    clear hH7
    refine ⟨_,rfl,Nat.succ_le_of_lt (small1000 (by decide)),fun l6 hl6=>?_⟩
    have s8:∀ o,Same H7 (upd H7 l6 o):=fun o=>Same.upd hl6
    generalize hH8:upd H7 l6 _=H8
    have s78:Same H7 H8:=by rw [← hH8]; exact s8 _
    have hl68:H8 l6=some (.lst [.ref l5]):=by rw [← hH8]; exact upd_same
    clear hH8
    have hra8:=s78 _ _ hra7
    refine ⟨_,rfl,ra,ro,_,rfl,hra8,hro,fun J2 hJ2 D2 hD2=>?_⟩
    refine lc_it hJ2 (fun i ys H9=>Paired (StepAt H9) ys (rows.take i)∧Same H8 H9∧H9 D2=some (.lst ys)) ⟨.nil,Same.upd hD2,upd_same⟩ (fun i ys H9 ⟨_,s9,d⟩=>⟨d,s9 _ _ hra8⟩) (fun ys H9 ⟨e,s9,d9⟩=>?_) (fun i x ys H9 hi hx ⟨e,s9,d9⟩=>?_)
    case refine_2 =>
      obtain ⟨st,hn,r,l,o1,o2,rfl,hr1,ho1,hl1',ho2,_⟩:=Paired.get hrows7 hx
      have hr9:=s9 _ _ (s78 _ _ hr1)
      have hl9:=s9 _ _ (s78 _ _ hl1')
      have hyl:ys.length=(rows.take i).length:=Paired.length e
      rw [List.length_take] at hyl
      refine yesI ⟨_,rfl,r,o1,_,_,_,rfl,rfl,hr9,ho1,rfl,_,rfl,r,o1,_,_,_,rfl,rfl,hr9,ho1,rfl,l,o2,_,rfl,hl9,ho2,fun m1 H10 t1 hm1=>⟨two_line,fun m2 hm2=>?_⟩⟩
      have t2:∀ o',Same H9 (upd H10 m2 o'):=fun o'=>t1.trans (Same.upd hm2)
      have d10:=t1 _ _ d9
      have nD1:D2≠m1:=ne_of d10 hm1 (by intro z; cases z)
      have nD2:D2≠m2:=ne_of_none d10 hm2
      refine LcNx.mk hi (by omega) (by omega) (t2 _ _ _ d9) ⟨?_,?_,upd_same⟩
      · have e3:rows.take (i + 1)=rows.take i++[st]:=by rw [List.take_add_one,hn]; rfl
        rw [e3]
        have up:∀ {v:V} {s':Lad.Step},StepAt H9 v s'→StepAt (upd (upd H10 m2 (.tup [.int st.1,.ref m1])) D2 (.lst (ys++[.ref m2]))) v s':=fun {v s'} ⟨r',l',e',q1,q2⟩ =>
          ⟨r',l',e',by rw [upd_ne (ne_of q1 d9 (by intro z; cases z))]; exact t2 _ _ _ q1,by rw [upd_ne (ne_of q2 d9 (by intro z; cases z))]; exact t2 _ _ _ q2⟩
        refine Paired.snoc (Paired.mono (fun _ _ x=>up x) e) ⟨m2,m1,rfl,?_,?_⟩
        · rw [upd_ne (Ne.symm nD2),upd_same]
        · rw [upd_ne (Ne.symm nD1)]; exact Same.upd hm2 _ _ hm1
      · exact fun b o z=>by rw [upd_ne (ne_of_none z hD2)]; exact t2 _ _ _ (s9 b o z)
    rw [hul,List.take_length] at e
    have hyl:ys.length=rows.length:=Paired.length e
    have hl69:=s9 _ _ hl68
    refine ⟨l6,D2,_,_,rfl,rfl,hl69,d9,Nat.le_of_lt (small1000 (by rw [List.length_singleton]; omega)),fun l7 hl7=>?_⟩
    refine ⟨l7,_,_,rfl,upd_same,.inl rfl,fun l8 H10 s10' hl8=>?_⟩
    have s10:Same H9 H10:=(Same.upd hl7).trans s10'
    have s59:Same H5 H9:=(s57.trans s78).trans s9
    have hp9:H9 p=some (.ins C dx (putF "open_lengths" (.ref l2) (putF "part_lengths" (.ref l1) []))):=s59 _ _ hp5
    have n8:p≠l8:=ne_of (s10 _ _ hp9) hl8 (by intro z; cases z)
    refine ⟨_,rfl,p,C,dx,_,rfl,s10 _ _ hp9,T.cl,T.n_steps,(by show 2 < 1000; decide),?_⟩
    generalize hH11:upd H10 p _=H11
    have b11:But p H9 H11:=by rw [← hH11]; exact s10.but.trans But.upd
    have hp11:H11 p=some (.ins C dx (flds l1 l2 l8)):=by rw [← hH11]; exact upd_same
    have hl811:H11 l8=some (.tup (.ref l5::ys)):=by rw [← hH11,upd_ne (Ne.symm n8)]; exact hl8
    have b511:∀ c o,H5 c=some o→c≠p→H11 c=some o:=fun c o h n=>b11 _ _ (s59 _ _ h) n
    have nl:∀ {c:Addr} {xs:List V},H9 c=some (.tup xs)→c≠p:=fun h=>ne_of h hp9 (by intro z; cases z)
    refine k H11 (fun c o h n=>b511 c o (b15 c o (s1 c o h) n) n) ⟨dx,l1,l2,l8,_,hp11,b511 _ _ hl15 (Ne.symm n1),b511 _ _ hl25 (Ne.symm n2),hl811,.cons ⟨l5,l4,rfl,?_,?_⟩ (Paired.mono (fun _ _ x=>StepAt.but b11 hp9 x) e)⟩
    · have z:=s9 _ _ (s78 _ _ hl57)
      exact b11 _ _ z (nl z)
    · have z:=s9 _ _ (s78 _ _ hl47)
      exact b11 _ _ z (nl z)
end
end Pr
namespace Pr
open PySem L2 PyProof.Rows
theorem take_whole {α:Type} {xs:List α} {k:Int} (h0:0≤k) (h:HT.sIx xs.length xs.length (some k)=xs.length):xs.take k.toNat=xs:=by
  obtain ⟨n,rfl⟩:∃ n:Nat,k=n:=⟨k.toNat,by omega⟩
  rw [HT.sIx_nat] at h
  rw [Int.toNat_natCast,List.take_of_length_le (by omega)]
theorem sl_tupN {X:Cx}:SlR X (fun x lo hi H Q=>∃ a us n,x=.ref a∧H a=some (.tup us)∧lo=none∧hi=some n∧0≤n∧∀ t H1,Same H H1→H1 t=some (.tup (us.take n.toNat))→Q (.ref t) H1):=by
  intro pins s σ H x v vl vu lo hi sl Q I rx hs pl pu h
  obtain ⟨a,us,n,rfl,ha,rfl,rfl,hn,k⟩:=h
  refine sl_tupA pins s σ H _ v vl vu none (some n) sl Q I rx hs pl pu ⟨a,us,rfl,.of ha,fun hw=>?_,fun t ht=>?_⟩
  · refine k a H (Same.refl _) ?_
    rw [take_whole hn hw.2]
    exact ha
  · refine k t _ (Same.upd ht) ?_
    rw [upd_same,cut_take _ hn]
section
variable {P:Program} {w:World} {K:PySem.W.Frag} {mg:Str→Option Value} {base:Heap} {C:Addr}
inductive sp_rolls (C:Addr) (vs:List V) (H:Hp) (Q:VK) (E:XK):Prop
  | mk (p:Addr) (b:Int) (ps:List Int) (rows:List Lad.Step) (h0_:vs=[.ref p]) (h1_:LadAt C H p b ps rows) (h2_:Q (.int ((rows.length + 1:Nat):Int)) H):sp_rolls C vs H Q E
theorem sc_rolls:FnScope ["self"] ["self"] (defScope sm_rolls):=⟨rfl,rfl,rfl,by decide +kernel,rfl,by decide +kernel,by decide +kernel⟩
theorem rolls (T:Txt K mg C):CanM P w K mg base C 1 "rolls" ["self"] (sp_rolls C):=by
  refine fm_can T.m_rolls sc_rolls (fun vs H Q E h=>?_) (fun f cdv A outer s H vs Q E hr h=>?_)
  · obtain ⟨p,b,ps,rows,rfl,_⟩:=h
    rfl
  · obtain ⟨p,b,ps,rows,rfl,⟨dx,a,o,c,us,h1,h2,h3,h4,h5⟩,k⟩:=h
    refine ⟨_,pss_one (ps_ret (pe_b call_len_seq T.b_len boot_len (pa1 (pe_fld (pv 0) rfl)))),?_⟩
    refine ⟨_,rfl,p,C,dx,_,_,rfl,h1,T.cl,T.n_steps,flds_steps _ _ _,c,us,rfl,.inr (.of h4),?_⟩
    have e:us.length=rows.length + 1:=Paired.length h5
    rw [e]
    exact k
def stepsTo (b:Int) (ps:List Int) (rows:List Lad.Step) (r:Int):List Lad.Step:=((b,Lad.bars ps)::rows).take (r + 1).toNat
end
end Pr
namespace Pr
open PySem L2 PyProof.Rows
section
variable {P:Program} {w:World} {K:PySem.W.Frag} {mg:Str→Option Value} {base:Heap} {C:Addr}
def sp_need_moment:Sp:=fun vs H Q _=>∃ i,vs=[.int i]∧-W30 < i∧i < W30∧Q .non H
theorem sc_need_moment:FnScope ["value"] ["value"] (defScope s_need_moment):=⟨rfl,rfl,rfl,by decide +kernel,rfl,by decide +kernel,by decide +kernel⟩
theorem need_moment (T:Txt K mg C):Can P w K mg base 3 "need_moment" ["value"] sp_need_moment:=by
  refine fn_can T.f_need_moment sc_need_moment (fun vs H Q E h=>?_) (fun f cdv A outer s H vs Q E hr h=>?_)
  · obtain ⟨i,rfl,_⟩:=h
    rfl
  · obtain ⟨i,rfl,h1,h2,k⟩:=h
    refine ⟨_,pss_one (ps_if (pt_not (pt_val (pe_can (is_wide T) hr (pa1 (pv 0))))) pss_never pss_nil),?_⟩
    refine ⟨_,rfl,i,rfl,_,rfl,?_⟩
    rw [decide_eq_true h1,decide_eq_true h2]
    exact iteF k
end
end Pr
namespace Pr
open PySem L2 PyProof.Rows
theorem up_snoc (st:List Lad.Step) (s:Lad.Step) (m:Int):Lad.up (st++[s]) m=Lad.num s.1 s.2 (Lad.up st m):=by
  unfold Lad.up
  rw [List.foldl_append]
  rfl
section
variable {P:Program} {w:World} {K:PySem.W.Frag} {mg:Str→Option Value} {base:Heap} {C:Addr}
def sp_bar_at (C:Addr):Sp:=fun vs H Q _=>∃ p r m b ps rows,vs=[.ref p,.int r,.int m]∧LadAt C H p b ps rows∧LadOk b ps rows∧0≤r∧r≤(rows.length:Int)∧-W30 < m∧m < W30∧∀ H',Same H H'→Q (.int (Lad.up (stepsTo b ps rows r) m)) H'
theorem sc_bar_at:FnScope ["self","roll","moment","number","begin","sizes"] ["self","roll","moment"] (defScope sm_bar_at):=⟨rfl,rfl,rfl,by decide +kernel,rfl,by decide +kernel,by decide +kernel⟩
theorem bar_at (T:Txt K mg C):CanM P w K mg base C 4 "bar_at" ["self","roll","moment"] (sp_bar_at C):=by
  refine fm_can T.m_bar_at sc_bar_at (fun vs H Q E h=>?_) (fun f cdv A outer s H vs Q E hr h=>?_)
  · obtain ⟨p,r,m,b,ps,rows,rfl,_⟩:=h
    rfl
  · obtain ⟨p,r,m,b,ps,rows,rfl,L,ok,r0,r1,m0,m1,k⟩:=h
    obtain ⟨dx,a,o,c,us,h1,h2,h3,h4,h5⟩:=id L
    refine ⟨_,pss_cons (ps_expr (pe_can (need_roll T) hr (pa3 (pv 1) pe_int (pe_op op_sub (pe_canM0 (pv 0) T.cl (rolls T) hr) pe_int))))
      (pss_cons (ps_expr (pe_can (need_moment T) hr (pa1 (pv 2))))
      (pss_cons (ps_set (i:=3) sc_bar_at.nd rfl (Or.inl rfl) (pv 2))
      (pss_cons (ps_for PassesOwn.never rfl (pi_tup (pe_slice sl_tupN (pe_fld (pv 0) rfl) po_none (po_some (pe_op op_add (pv 1) pe_int))))
          (pg_tup rfl (pgs_cons (pg_name (i:=4) sc_bar_at.nd rfl (Or.inl rfl)) (pgs_cons (pg_name (i:=5) sc_bar_at.nd rfl (Or.inl rfl)) pgs_nil)))
          (pss_one (ps_set (i:=3) sc_bar_at.nd rfl (Or.inl rfl) (pe_can (number_of T) hr (pa3 (pv 4) (pv 5) (pv 3))))))
      (pss_one (ps_ret (pv 3)))))),?_⟩
    refine ⟨_,rfl,_,rfl,p,dx,_,rfl,h1,flds_no _ _ _ (by decide +kernel) (by decide +kernel) (by decide +kernel),p,b,ps,rows,rfl,L,_,_,rfl,rfl,_,_,_,rfl,r0,by omega,?_⟩
    refine ⟨_,rfl,m,rfl,m0,m1,_,rfl,?_⟩
    refine ⟨_,rfl,p,C,dx,_,_,rfl,h1,T.cl,T.n_steps,flds_steps _ _ _,_,rfl,_,_,rfl,rfl,_,rfl,c,us,_,rfl,h4,rfl,rfl,by omega,fun t H1 s1 ht=>?_⟩
    refine ⟨t,rfl,⟨_,.of ht⟩,for_tup (K:=K) (a:=t) (xs:=us.take (r + 1).toNat) (fun i σ H2=>∃ x y,σ=[some (.ref p),some (.int r),some (.int m),some (.int (Lad.up ((((b,Lad.bars ps)::rows).take (r + 1).toNat).take i) m)),x,y]∧Same H1 H2)
        ⟨none,none,rfl,Same.refl _⟩ (fun i σ H2 _ ⟨_,_,_,s2⟩=>.of (s2 _ _ ht)) ?_ ?_⟩
    · rintro i x σ H2 hx ⟨x0,y0,rfl,s2⟩
      obtain ⟨st,hst,r',l',rfl,hr',hl'⟩:=Paired.get (Paired.take (r + 1).toNat h5) hx
      have hr2:=s2 _ _ (s1 _ _ hr')
      have hl2:=s2 _ _ (s1 _ _ hl')
      have hmem:st ∈ (b,Lad.bars ps)::rows:=List.mem_of_mem_take (List.mem_of_getElem? hst)
      refine ⟨r',_,rfl,.of hr2,rfl,_,_,rfl,_,_,rfl,rfl,?_⟩
      refine ⟨_,rfl,_,rfl,_,rfl,_,l',st.2,_,rfl,hl2,(ok.steps st hmem).1,fun H3 s3=>?_⟩
      refine ⟨some (.int st.1),some (.ref l'),?_,s2.trans s3⟩
      have e:(((b,Lad.bars ps)::rows).take (r + 1).toNat).take (i + 1)=(((b,Lad.bars ps)::rows).take (r + 1).toNat).take i++[st]:=by rw [List.take_add_one,hst]; rfl
      rw [e,up_snoc]
      rfl
    · rintro σ H2 ⟨x0,y0,rfl,s2⟩
      refine ⟨_,rfl,?_⟩
      have hl:(us.take (r + 1).toNat).length=(((b,Lad.bars ps)::rows).take (r + 1).toNat).length:=Paired.length (Paired.take _ h5)
      rw [hl,List.take_length]
      exact k H2 (s1.trans s2)
end
end Pr
namespace Pr
open PySem L2 PyProof.Rows
inductive RowL (H:Hp) (v:V) (s:Lad.Step):Prop
  | mk (r:Addr) (l:Addr) (h0_:v=.ref r) (h1_:H r=some (.tup [.int s.1,.ref l])) (h2_:H l=some (.lst (s.2.map V.int))) (h3_:s.2.length≤1000):RowL H v s
theorem RowL.same {H H':Hp} (e:Same H H') {v:V} {s:Lad.Step} (h:RowL H v s):RowL H' v s:=by
  obtain ⟨r,l,e1,h1,h2,h3⟩:=h
  exact ⟨r,l,e1,e _ _ h1,e _ _ h2,h3⟩
theorem RowL.g {H:Hp} {v:V} {s:Lad.Step} (h:RowL H v s):RowG H v s:=by
  obtain ⟨r,l,e1,h1,h2,h3⟩:=h
  exact ⟨r,l,_,_,e1,h1,.inr rfl,h2,.inl rfl,h3⟩
end Pr
namespace Lad
def ur (st:List Step) (r:Nat) (m:Int):Int:=up (st.take (r + 1)) m
end Lad
namespace Pr
open PySem L2 PyProof.Rows
abbrev allSt (b:Int) (ps:List Int) (rows:List Lad.Step):List Lad.Step:=(b,Lad.bars ps)::rows
theorem ur_allSt (b:Int) (ps:List Int) (rows:List Lad.Step) (r:Nat) (m:Int):Lad.up (stepsTo b ps rows (r:Int)) m=Lad.ur (allSt b ps rows) r m:=by
  unfold stepsTo Lad.ur
  rw [show ((r:Int) + 1).toNat=r + 1 by omega]
theorem line1 {n:Nat} (h:n≤1000):n≤sizeLine:=by rw [sizeLine_eq]; omega
theorem iteC {c:Bool} {A B:Prop} (hc:c=true) (h:A):if c=true then A else B:=by rw [hc]; exact iteT h
theorem iteN {c:Bool} {A B:Prop} (hc:c=false) (h:B):if c=true then A else B:=by rw [hc]; exact iteF h
theorem lad_ins {C:Addr} {H:Hp} {p:Addr} {b:Int} {ps:List Int} {rows:List Lad.Step} (h:LadAt C H p b ps rows):∃ dx a o c,H p=some (.ins C dx (flds a o c)):=by
  obtain ⟨dx,a,o,c,us,h,_⟩:=h
  exact ⟨dx,a,o,c,h⟩
end Pr
namespace Srt
open PySem
abbrev Pl:=Int × Str
def plt (a b:Pl):Bool:=if a.1=b.1 then decide (a.2.cps.toList < b.2.cps.toList) else decide (a.1 < b.1)
theorem plt_asym {a b:Pl} (h:plt a b=true):plt b a=false:=by
  unfold plt at h ⊢
  by_cases e:a.1=b.1
  · rw [if_pos e] at h
    rw [if_pos e.symm]
    exact decide_eq_false (List.lt_asymm (of_decide_eq_true h))
  · rw [if_neg e] at h
    rw [if_neg (Ne.symm e)]
    have:=of_decide_eq_true h
    exact decide_eq_false (by omega)
theorem plt_irr (a:Pl):plt a a=false:=by
  cases h:plt a a with
  | false=>rfl
  | true=>exact (plt_asym h).symm.trans h ▸ rfl
theorem plt_tr {a b c:Pl} (h:plt b a=false) (h':plt c b=false):plt c a=false:=by
  unfold plt at h h' ⊢
  by_cases e:b.1=a.1 <;> by_cases e':c.1=b.1
  · rw [if_pos e] at h
    rw [if_pos e'] at h'
    rw [if_pos (e'.trans e)]
    have h1:=List.not_lt.mp (of_decide_eq_false h)
    have h2:=List.not_lt.mp (of_decide_eq_false h')
    exact decide_eq_false (List.not_lt.mpr (List.le_trans h1 h2))
  · rw [if_neg e'] at h'
    have:=of_decide_eq_false h'
    rw [if_neg (by omega)]
    exact decide_eq_false (by omega)
  · rw [if_neg e] at h
    have:=of_decide_eq_false h
    rw [if_neg (by omega)]
    exact decide_eq_false (by omega)
  · rw [if_neg e] at h
    rw [if_neg e'] at h'
    have:=of_decide_eq_false h
    have:=of_decide_eq_false h'
    rw [if_neg (by omega)]
    exact decide_eq_false (by omega)
theorem plt_one {a b:Pl} (h:plt a b=false) (h':plt b a=false):a=b:=by
  unfold plt at h h'
  by_cases e:a.1=b.1
  · rw [if_pos e] at h
    rw [if_pos e.symm] at h'
    have h1:=List.not_lt.mp (of_decide_eq_false h)
    have h2:=List.not_lt.mp (of_decide_eq_false h')
    have h3:=List.le_antisymm h2 h1
    obtain ⟨a1,⟨⟨a2⟩⟩⟩:=a
    obtain ⟨b1,⟨⟨b2⟩⟩⟩:=b
    cases e
    cases h3
    rfl
  · rw [if_neg e] at h
    rw [if_neg (Ne.symm e)] at h'
    have:=of_decide_eq_false h
    have:=of_decide_eq_false h'
    exact absurd (show a.1=b.1 by omega) e
def ltOf (es:List Pl) (i j:Nat):Bool:=plt (es.getD i (0,⟨#[]⟩)) (es.getD j (0,⟨#[]⟩))
theorem ltOf_ord (es:List Pl):Ord (ltOf es):=⟨plt_asym,plt_tr⟩
end Srt
namespace L2
open PySem PySem.Spec PyProof.Rows
abbrev Places (H:Hp) (xs:List V) (es:List Srt.Pl):Prop:=Paired (fun x (e:Srt.Pl)=>∃ a r,x=.ref a∧H a=some (.tup (.int e.1::.str e.2::r))) xs es
inductive sp_place (vs:List V) (H:Hp) (Q:VK) (E:XK):Prop
  | mk (a:Addr) (m:Int) (k:Str) (r:List V) (h0:vs=[.ref a]) (h1:H a=some (.tup (.int m::.str k::r))) (q:∀ t,H t=none→Q (.ref t) (upd H t (.tup [.int m,.str k]))):sp_place vs H Q E
def PJ (H0:Hp) (es:List Srt.Pl) (i:Nat) (H:Hp) (ks:List Value):Prop :=
  Same H0 H∧Paired (fun (u:Value) (e:Srt.Pl)=>∃ t,u=.ref t∧H t=some (.tup [.int e.1,.str e.2])) ks (es.take i)
section
variable {X:Cx} {pins:List (Addr × Obj)} {σ:St} {H:Hp} {s:Shared}
theorem tup2_at (I:Inv X pins σ H s) {t:Addr} {m:Int} {k:Str} (h:H t=some (.tup [.int m,.str k])):∃ o n tm tk,s.heap.get? t=some o∧o.cls=.type "tuple"∧o.data=.seq #[.int m tm,.str k tk] n:=by
  obtain ⟨_,its,rv,o,ho,hc,n,hd⟩:=I.hok t _ h
  obtain ⟨u,v,rfl,⟨tm,rfl⟩,⟨tk,rfl⟩⟩:=vals2 rv
  exact ⟨o,n,tm,tk,ho,hc,hd⟩
theorem ask2 (I:Inv X pins σ H s) {A:Around} {t t':Addr} {e e':Srt.Pl} (h:H t=some (.tup [.int e.1,.str e.2])) (h':H t'=some (.tup [.int e'.1,.str e'.2])) {C:Bool→Shared→Prop} {E:Value→Shared→Prop} (q:C (Srt.plt e e') s) :
    wpAny (model X.prog X.w) A (keyLt' (tuples' true) (.ref t) (.ref t')) C E s:=by
  obtain ⟨o,n,tm,tk,ho,hc,hd⟩:=tup2_at I h
  obtain ⟨o',n',tm',tk',ho',hc',hd'⟩:=tup2_at I h'
  refine PySem.W.kat_lt ho hd ho' hd' ?_
  refine PySem.W.kat_cons (wpAny_eqBool_int (PySem.W.kat_go (fun e1=>PySem.W.kat_yes ?_) fun e1=>PySem.W.kat_no ?_))
  · have e1':e.1=e'.1:=by simpa using e1
    refine PySem.W.kat_cons (wpAny_eqBool_str (PySem.W.kat_go (fun e2=>PySem.W.kat_yes (PySem.W.kat_nil ?_)) fun e2=>PySem.W.kat_no ?_))
    · have e2':e.2=e'.2:=by simpa using e2
      have e3:Srt.plt e e'=false:=by
        unfold Srt.plt
        rw [if_pos e1',e2']
        exact decide_eq_false (List.lt_irrefl _)
      rw [e3] at q
      exact q
    · have e3:Srt.plt e e'=decide (e.2.cps.toList < e'.2.cps.toList):=by
        unfold Srt.plt
        rw [if_pos e1']
      rw [e3] at q
      exact PySem.W.kat_one _ _ (lt_str q)
  · have e1':¬ e.1=e'.1:=by simpa using e1
    have e3:Srt.plt e e'=decide (e.1 < e'.1):=by
      unfold Srt.plt
      rw [if_neg e1']
    rw [e3] at q
    exact oneLt_int q
theorem kat_tups (I:Inv X pins σ H s):∀ {ks:List Value} {es:List Srt.Pl},Paired (fun (u:Value) (e:Srt.Pl)=>∃ t,u=.ref t∧H t=some (.tup [.int e.1,.str e.2])) ks es→∃ fs,PySem.W.KatTups s.heap ks fs∧fs.length=ks.length∧∀ v ∈ fs,∃ m tm,v=Value.int m tm
  | _,_,.nil=>⟨[],.nil,rfl,fun v h=>nomatch h⟩
  | _,_,.cons ⟨t,e,h⟩ r=>by
    obtain ⟨fs,h1,h2,h3⟩:=kat_tups I r
    obtain ⟨o,n,tm,tk,ho,hc,hd⟩:=tup2_at I h
    subst e
    refine ⟨_::fs,.cons ho hc hd rfl h1,by rw [List.length_cons,List.length_cons,h2],fun v hv=>?_⟩
    rcases List.mem_cons.mp hv with rfl | hv
    · exact ⟨_,_,rfl⟩
    · exact h3 v hv
theorem Paired.getR {α β:Type} {F:α→β→Prop}:∀ {xs:List α} {ys:List β} {i:Nat} {y:β},Paired F xs ys→ys[i]?=some y→∃ x,xs[i]?=some x∧F x y
  | _,_,_,_,.nil,e=>by simp at e
  | _,_,0,_,.cons r _,e=>by simp at e; subst e; exact ⟨_,rfl,r⟩
  | _,_,i + 1,y,.cons _ t,e=>by
    obtain ⟨u,h1,h2⟩:=Paired.getR (i:=i) (y:=y) t (by simpa using e)
    exact ⟨u,by simpa using h1,h2⟩
theorem Paired.snoc {α β:Type} {F:α→β→Prop} {x:α} {y:β} (h:F x y):∀ {xs:List α} {ys:List β},Paired F xs ys→Paired F (xs++[x]) (ys++[y])
  | _,_,.nil=>.cons h .nil
  | _,_,.cons r t=>.cons r (Paired.snoc h t)
inductive rSort (K:PySem.W.Frag) (vs:List V) (H:Hp) (Q:VK):Prop
  | mk (l:Addr) (xs:List V) (es:List Srt.Pl) (h0:vs=[.ref l]) (h1:SqL K H l xs) (h2:xs.length < 64) (h3:Places H xs es)
    (q:∀ D H' (p:List Nat),Same H H'→H D=none→H' D=some (.lst (p.map fun i=>xs.getD i .non))→p.Perm (List.range xs.length)→p.Pairwise (Srt.R (Srt.ltOf es))→Q (.ref D) H'):rSort K vs H Q
theorem sort_places {k k':Nat} {kf pn:Str} {vs:List V} {us:List Value} {Q:VK} {f:Addr} {fd:FuncData} (F:FnOk X.prog X.w X.K X.mg X.base CX0 k f fd [pn] sp_place) (hb:Binds X.K fd [pn] []) (hr:Room (k + 2) X.A)
    (I:Inv X pins σ H s) (r:Vals vs us) (h:rSort X.K vs H Q):wpAny (model X.prog X.w) X.A (call (.builtin "sorted") us [(Str.ofString "key",.ref f)]) (EP X pins σ Q) X.xe s:=by
  obtain ⟨l,xs,es,rfl,hl,h64,hp,q⟩:=h
  obtain ⟨u,rfl,ru⟩:=vals1 r
  cases ru
  have hlen:xs.length=es.length:=hp.length
  refine sort_call (J:=PJ H es) I hl h64 ⟨Same.refl _,by rw [List.take_zero]; exact .nil⟩ (fun i x v pins σ H' s ks hx rx hJ hk J=>?_) fun pins σ H' s ks hJ hk J=>?_
  · obtain ⟨hs,hP⟩:=hJ
    obtain ⟨e,he,a,rr,rfl,ha⟩:=Paired.get hp hx
    cases rx
    have run:=run_fn (X:=inn X) (k:=k) (f:=f) (fd:=fd) (ps:=[pn]) (sp:=sp_place) (dvs:=[]) (ds:=[]) (E:=E0) (CX:=CX0) (us:=[Value.ref a]) (vs:=[V.ref a]) (Q:=fun v H2=>∃ t,v=.ref t∧Same H' H2∧H2 t=some (.tup [.int e.1,.str e.2])) F hr.in1.in1 hb .nil pass0 J (.cons rfl .nil)
      ⟨a,e.1,e.2,rr,rfl,hs _ _ ha,fun t ht=>⟨t,rfl,Same.upd ht,upd_same⟩⟩
    refine thn run fun u s2 hu=>?_
    obtain ⟨v,H2,J2,rv,t,rfl,s2',ht⟩:=hu
    cases rv
    refine ⟨H2,J2,hs.trans s2',?_⟩
    rw [List.take_add_one,he]
    exact Paired.snoc ⟨t,rfl,ht⟩ (Paired.mapP hP fun _ _ ⟨t',e1,e2⟩=>⟨t',e1,s2' _ _ e2⟩)
  · obtain ⟨hs,hP⟩:=hJ
    rw [List.take_of_length_le (by omega)] at hP
    refine ⟨tuples' true,Srt.ltOf es,⟨Srt.ltOf_ord es,fun h2 Q hQ=>?_,fun i j C hi hj hC=>?_⟩,fun p p1 p2 D hD=>q D _ p (hs.trans (Same.upd hD)) (hs.free hD) upd_same p1 p2⟩
    · obtain ⟨fs,t1,t2,t3⟩:=kat_tups J hP
      refine PySem.W.kat_kind (T:=.type "int") t1 (by omega) (fun v hv=>?_) (by decide +kernel) ?_
      · obtain ⟨m,tm,rfl⟩:=t3 v hv
        exact PySem.W.Looks.of_pure rfl
      · exact hQ
    · have hi':es[i]?=some es[i]:=List.getElem?_eq_getElem (by omega)
      have hj':es[j]?=some es[j]:=List.getElem?_eq_getElem (by omega)
      obtain ⟨u,eu,t,rfl,ht⟩:=Paired.getR hP hi'
      obtain ⟨u',eu',t',rfl,ht'⟩:=Paired.getR hP hj'
      unfold PySem.W.kas_ask
      rw [List.getD_eq_getElem?_getD,List.getD_eq_getElem?_getD,eu,eu']
      refine ask2 J ht ht' ?_
      unfold Srt.ltOf at hC
      rw [List.getD_eq_getElem?_getD,List.getD_eq_getElem?_getD,hi',hj'] at hC
      exact hC
end
section
variable {X:Cx} {k:Nat} {kf pn:Str} {e:Expr} {t:TA} {p pos kp kpos:Pos}
theorem pe_sortK (K:PySem.W.Frag) (h:Can X.prog X.w X.K X.mg X.base k kf [pn] sp_place) (hr:Room (k + 2) X.A) (hm:X.mg "sorted"=none) (ha:PA X [e] t) (ek:X.K=K:=by rfl) (hg:Gl X "sorted":=by rfl) (hg2:Gl X kf:=by rfl) (hdb:(kf == ("__debug__" : Str))=false:=by decide)
    (he:backTo pos (starEach [e] X.env)=(false,eval e X.env)::backTo pos (starEach [] X.env):=by rfl) (hpl:(backTo pos (starEach [e] X.env)).any (·.1)=false:=by rfl) :
    PE X (.Call (.Name "sorted" p) [e] [⟨some "key",.Name kf kp,kpos⟩] pos) (fun σ H Q=>t σ H fun vs H1=>rSort K vs H1 Q):=by
  subst ek
  refine ⟨?_⟩
  intro pins s σ H Q I hq
  obtain ⟨f,fd,F,hmf,kpn,hb⟩:=h
  refine wpAny_Call_Name_kw (ld_blt I hg hm boot_sorted ?_ (by decide) (by decide))
  refine callWith_kw (thn (ha pos pins s σ H _ I hq) fun us s1 ⟨vs,H1,I1,r,q⟩=>?_) he hpl
  refine thn ((pk_cons (nm:=some "key") (kpos:=kpos) (pe_glob (pos:=kp) hg2 hmf (v:=.ref f) rfl hdb) pk_nil) pos pins s1 σ H1 (fun zs H2=>zs=[.ref f]∧H2=H1) I1 ⟨rfl,rfl⟩) fun ws s2 ⟨zs,H2,I2,r2,e1,e2⟩=>?_
  subst e1 e2
  obtain ⟨u,rfl,ru⟩:=vals1 r2
  cases ru
  exact sort_places (kf:=kf) (k':=0) F hb hr I2 r q
end
end L2
namespace L2
open PySem PySem.Spec PyProof.Rows
mutual
def Dat (H:Hp):PyData→V→Prop
  | .none,v=>v=.non
  | .bool b,v=>v=.bl b
  | .int i,v=>v=.int i
  | .str x,v=>v=.str x
  | .list ds,v=>∃ a xs,v=.ref a∧H a=some (.lst xs)∧DatAll H ds xs
  | .tuple ds,v=>∃ a xs,v=.ref a∧H a=some (.tup xs)∧DatAll H ds xs
  | .dict _,_=>False
def DatAll (H:Hp):List PyData→List V→Prop
  | [],xs=>xs=[]
  | d::ds,xs=>∃ x r,xs=x::r∧Dat H d x∧DatAll H ds r
end
mutual
theorem Dat.same {H H':Hp} (s:∀ b o,H b=some o→H' b=some o):∀ (d:PyData) (v:V),Dat H d v→Dat H' d v
  | .none,v,h=>by unfold Dat at h ⊢; exact h
  | .bool _,v,h=>by unfold Dat at h ⊢; exact h
  | .int _,v,h=>by unfold Dat at h ⊢; exact h
  | .str _,v,h=>by unfold Dat at h ⊢; exact h
  | .list ds,v,h=>by
    unfold Dat at h ⊢
    obtain ⟨a,xs,e,h1,h2⟩:=h
    exact ⟨a,xs,e,s _ _ h1,DatAll.same s ds xs h2⟩
  | .tuple ds,v,h=>by
    unfold Dat at h ⊢
    obtain ⟨a,xs,e,h1,h2⟩:=h
    exact ⟨a,xs,e,s _ _ h1,DatAll.same s ds xs h2⟩
  | .dict _,v,h=>by unfold Dat at h; exact h.elim
theorem DatAll.same {H H':Hp} (s:∀ b o,H b=some o→H' b=some o):∀ (ds:List PyData) (xs:List V),DatAll H ds xs→DatAll H' ds xs
  | [],xs,h=>by unfold DatAll at h ⊢; exact h
  | d::ds,xs,h=>by
    unfold DatAll at h ⊢
    obtain ⟨x,r,e,h1,h2⟩:=h
    exact ⟨x,r,e,Dat.same s d x h1,DatAll.same s ds r h2⟩
end
section
variable {X:Cx} {pins:List (Addr × Obj)} {σ:St} {H:Hp} {s:Shared}
mutual
theorem Dat.reads (I:Inv X pins σ H s):∀ (d:PyData) (v:V) (u:Value),RelV v u→Dat H d v→∃ as,Reads s.heap u d as
  | .none,v,u,r,h=>by unfold Dat at h; subst h; cases r; exact ⟨_,.none⟩
  | .bool b,v,u,r,h=>by unfold Dat at h; subst h; cases r; exact ⟨_,.bool b⟩
  | .int i,v,u,r,h=>by unfold Dat at h; subst h; obtain ⟨t,rfl⟩:=r; exact ⟨_,.int i t⟩
  | .str x,v,u,r,h=>by unfold Dat at h; subst h; obtain ⟨t,rfl⟩:=r; exact ⟨_,.str x t⟩
  | .list ds,v,u,r,h=>by
    unfold Dat at h
    obtain ⟨a,xs,rfl,h1,h2⟩:=h
    cases r
    obtain ⟨_,its,n,rv,e⟩:=I.hok a _ h1
    obtain ⟨as,hr⟩:=DatAll.reads I ds xs its rv h2
    exact ⟨_,.list e rfl rfl (by simpa using hr)⟩
  | .tuple ds,v,u,r,h=>by
    unfold Dat at h
    obtain ⟨a,xs,rfl,h1,h2⟩:=h
    cases r
    obtain ⟨_,its,rv,o,ho,hc,n,hd⟩:=I.hok a _ h1
    obtain ⟨as,hr⟩:=DatAll.reads I ds xs its rv h2
    exact ⟨_,.tuple ho hc hd (by simpa using hr)⟩
  | .dict _,v,u,r,h=>by unfold Dat at h; exact h.elim
theorem DatAll.reads (I:Inv X pins σ H s):∀ (ds:List PyData) (xs:List V) (us:List Value),Vals xs us→DatAll H ds xs→∃ as,ReadsAll s.heap us ds as
  | [],xs,us,r,h=>by unfold DatAll at h; subst h; cases r; exact ⟨_,.nil⟩
  | d::ds,xs,us,r,h=>by
    unfold DatAll at h
    obtain ⟨x,rr,rfl,h1,h2⟩:=h
    cases r with
    | cons rx rt =>
      obtain ⟨as,q1⟩:=Dat.reads I d x _ rx h1
      obtain ⟨bs,q2⟩:=DatAll.reads I ds rr _ rt h2
      exact ⟨_,.cons q1 q2⟩
end
end
section
variable {X:Cx}
inductive rEqD (neg:Bool) (x y:V) (H:Hp) (Q:VK):Prop
  | mk (d d':PyData) (h:Dat H d x) (h':Dat H d' y) (f:d.canLay0=true) (f':d'.canLay0=true) (p:d.depth≤8) (q:Q (.bl (if neg then !PyData.eqv d d' else PyData.eqv d d')) H):rEqD neg x y H Q
theorem op_neD {k:Nat} (hr:Room k X.A):OpR X (compareOp .NotEq) (rEqD true):=by
  intro pins s σ H x y v u Q I rx ry h
  obtain ⟨d,d',h1,h2,f,f',p,q⟩:=h
  obtain ⟨as,r1⟩:=Dat.reads I d _ _ rx h1
  obtain ⟨bs,r2⟩:=Dat.reads I d' _ _ ry h2
  exact SeqAt.compareNe_reads r1 r2 f f' (by have:=hr.un; omega) (fin_bl I q rfl)
end
theorem ints_of:∀ {ns:List Int} {us:List Value},Vals (ns.map V.int) us→∃ l:List (Int × Tok),us=l.map (fun p=>Value.int p.1 p.2)∧l.map (·.1)=ns
  | [],us,h=>by
    cases h
    exact ⟨[],rfl,rfl⟩
  | x::r,us,h=>by
    cases h with
    | cons a b =>
      obtain ⟨t,rfl⟩:=a
      obtain ⟨l,rfl,e⟩:=ints_of b
      exact ⟨(x,t)::l,rfl,by rw [List.map_cons,e]⟩
theorem numAt_of (l:List (Int × Tok)) (i:Nat):numAt l.toArray i=(l.map (·.1)).getD i 0:=by
  unfold numAt
  rw [List.getD_eq_getElem?_getD,List.getElem?_map]
  simp
theorem intItems_of (l:List (Int × Tok)):intItems l.toArray=(l.map fun p=>Value.int p.1 p.2).toArray:=by
  unfold intItems
  simp
section
variable {X:Cx}
inductive cBest (K:PySem.W.Frag) (le:Int→Int→Prop) (vs:List V) (H:Hp) (Q:VK):Prop
  | mk (p:Addr) (ns:List Int) (e:vs=[.ref p]) (h:SqL K H p (ns.map V.int)) (ne:ns≠[]) (q:∀ m,m ∈ ns→(∀ x ∈ ns,le x m)→Q (.int m) H):cBest K le vs H Q
theorem call_max_list (K:PySem.W.Frag) (hc:X.calm=true) (ek:X.K=K:=by rfl):CallR X (.builtin "max") (cBest K fun x m=>x≤m):=by
  subst ek
  intro pins s σ H xs us Q I r h
  obtain ⟨p,ns,rfl,hq,hne,q⟩:=h
  obtain ⟨u,rfl,rx⟩:=vals1 r
  cases rx
  obtain ⟨its,rv,pl,hz⟩:=I.list hq
  obtain ⟨l,rfl,el⟩:=ints_of rv
  have hlen:l.length=ns.length:=by rw [← el,List.length_map]
  have hpos:0 < ns.length:=List.length_pos_iff.mpr hne
  refine max_intList (xs:=l.toArray) (I.ok.hd hc) (by rw [intItems_of]; exact pl.isList) (by rw [List.size_toArray]; omega) fun v h' tk hv hk=>?_
  obtain ⟨t,rfl⟩:=intItems_at hv
  obtain ⟨b1,b2⟩:=argBest_gt (numAt l.toArray) (l.toArray.size - 1)
  rw [List.size_toArray] at b1 b2 ⊢
  have hb:argBest (fun i j=>decide (numAt l.toArray i > numAt l.toArray j)) (l.length - 1) < ns.length:=by omega
  refine ⟨.int _,H,I.kept hk,⟨t,rfl⟩,q _ ?_ fun x hx=>?_⟩
  · rw [numAt_of,el,List.getD_eq_getElem?_getD,List.getElem?_eq_getElem hb]
    exact List.getElem_mem hb
  · obtain ⟨j,hj,rfl⟩:=List.getElem_of_mem hx
    have:=b2 j (by omega)
    rw [numAt_of l j,el,List.getD_eq_getElem?_getD (l:=ns) (i:=j),List.getElem?_eq_getElem hj] at this
    exact this
theorem call_min_list (K:PySem.W.Frag) (hc:X.calm=true) (ek:X.K=K:=by rfl):CallR X (.builtin "min") (cBest K fun x m=>m≤x):=by
  subst ek
  intro pins s σ H xs us Q I r h
  obtain ⟨p,ns,rfl,hq,hne,q⟩:=h
  obtain ⟨u,rfl,rx⟩:=vals1 r
  cases rx
  obtain ⟨its,rv,pl,hz⟩:=I.list hq
  obtain ⟨l,rfl,el⟩:=ints_of rv
  have hlen:l.length=ns.length:=by rw [← el,List.length_map]
  have hpos:0 < ns.length:=List.length_pos_iff.mpr hne
  refine min_intList (xs:=l.toArray) (I.ok.hd hc) (by rw [intItems_of]; exact pl.isList) (by rw [List.size_toArray]; omega) fun v h' tk hv hk=>?_
  obtain ⟨t,rfl⟩:=intItems_at hv
  obtain ⟨b1,b2⟩:=argBest_lt (numAt l.toArray) (l.toArray.size - 1)
  rw [List.size_toArray] at b1 b2 ⊢
  have hb:argBest (fun i j=>decide (numAt l.toArray i < numAt l.toArray j)) (l.length - 1) < ns.length:=by omega
  refine ⟨.int _,H,I.kept hk,⟨t,rfl⟩,q _ ?_ fun x hx=>?_⟩
  · rw [numAt_of,el,List.getD_eq_getElem?_getD,List.getElem?_eq_getElem hb]
    exact List.getElem_mem hb
  · obtain ⟨j,hj,rfl⟩:=List.getElem_of_mem hx
    have:=b2 j (by omega)
    rw [numAt_of l j,el,List.getD_eq_getElem?_getD (l:=ns) (i:=j),List.getElem?_eq_getElem hj] at this
    exact this
end
end L2
namespace Ent
open PySem
abbrev En:=Int × Str × Int
def pl (e:En):Srt.Pl:=(e.1,e.2.1)
def eD (e:En):PyData:=.tuple [.int e.1,.str e.2.1,.int e.2.2]
def emptyD:PyData:=.tuple [.int 0,.int 0,.none,.none,.none,.none]
def barD (n:Nat) (s lo hi:Int) (f l:En):PyData:=.tuple [.int n,.int s,.int lo,.int hi,eD f,eD l]
def bef (a b:En):Bool:=Srt.plt (pl a) (pl b)
def vals (es:List En):List Int:=es.map (·.2.2)
def Keyed (es:List En):Prop:=(es.map (·.2.1)).Nodup
inductive BarOf (es:List En) (b:PyData):Prop
  | non (h:es=[]) (e:b=emptyD):BarOf es b
  | some (lo hi:Int) (f l:En) (h1:lo ∈ vals es) (h2:∀ v ∈ vals es,lo≤v) (h3:hi ∈ vals es) (h4:∀ v ∈ vals es,v≤hi) (h5:f ∈ es) (h6:∀ e ∈ es,bef e f=false) (h7:l ∈ es) (h8:∀ e ∈ es,bef l e=false)
    (e:b=barD es.length (vals es).sum lo hi f l):BarOf es b
theorem keyed_inj:∀ {es:List En} {a b:En},Keyed es→a ∈ es→b ∈ es→a.2.1=b.2.1→a=b
  | [],a,b,_,h,_,_=>nomatch h
  | e::es,a,b,k,ha,hb,hk=>by
    unfold Keyed at k
    rw [List.map_cons,List.nodup_cons] at k
    rcases List.mem_cons.mp ha with ea | ha <;> rcases List.mem_cons.mp hb with eb | hb
    · rw [ea,eb]
    · exact absurd (List.mem_map.mpr ⟨b,hb,by rw [← hk,ea]⟩) k.1
    · exact absurd (List.mem_map.mpr ⟨a,ha,by rw [hk,eb]⟩) k.1
    · exact keyed_inj k.2 ha hb hk
theorem perm_sum {xs ys:List Int} (h:xs.Perm ys):xs.sum=ys.sum:=by
  induction h with
  | nil=>rfl
  | cons x _ ih=>rw [List.sum_cons,List.sum_cons,ih]
  | swap x y l=>rw [List.sum_cons,List.sum_cons,List.sum_cons,List.sum_cons]; omega
  | trans _ _ i1 i2=>exact i1.trans i2
theorem BarOf.one {es es':List En} {b b':PyData} (p:es.Perm es') (k:Keyed es) (h:BarOf es b) (h':BarOf es' b'):b=b':=by
  cases h with
  | non e1 e2 =>
    cases h' with
    | non e3 e4=>rw [e2,e4]
    | some lo hi f l h1 h2 h3 h4 h5 =>
      rw [e1] at p
      rw [p.symm.eq_nil] at h5
      exact nomatch h5
  | some lo hi f l h1 h2 h3 h4 h5 h6 h7 h8 e =>
    cases h' with
    | non e3 e4 =>
      rw [e3] at p
      rw [p.eq_nil] at h5
      exact nomatch h5
    | some lo' hi' f' l' g1 g2 g3 g4 g5 g6 g7 g8 e' =>
      have pv:(vals es).Perm (vals es'):=p.map _
      have a1:=h2 lo' (pv.mem_iff.mpr g1)
      have a2:=g2 lo (pv.mem_iff.mp h1)
      have a3:=h4 hi' (pv.mem_iff.mpr g3)
      have a4:=g4 hi (pv.mem_iff.mp h3)
      have b1:pl f=pl f':=Srt.plt_one (g6 f (p.mem_iff.mp h5)) (h6 f' (p.mem_iff.mpr g5))
      have b2:pl l=pl l':=Srt.plt_one (h8 l' (p.mem_iff.mpr g7)) (g8 l (p.mem_iff.mp h7))
      have c1:f=f':=keyed_inj k h5 (p.mem_iff.mpr g5) (congrArg (·.2) b1)
      have c2:l=l':=keyed_inj k h7 (p.mem_iff.mpr g7) (congrArg (·.2) b2)
      have d1:lo=lo':=by omega
      have d2:hi=hi':=by omega
      rw [e,e',c1,c2,d1,d2,p.length_eq,perm_sum pv]
theorem BarOf.perm {es es':List En} {b:PyData} (p:es.Perm es') (h:BarOf es b):BarOf es' b:=by
  cases h with
  | non e1 e2=>exact .non (by rw [e1] at p; exact p.symm.eq_nil) e2
  | some lo hi f l h1 h2 h3 h4 h5 h6 h7 h8 e =>
    have pv:(vals es).Perm (vals es'):=p.map _
    exact .some lo hi f l (pv.mem_iff.mp h1) (fun v hv=>h2 v (pv.mem_iff.mpr hv)) (pv.mem_iff.mp h3) (fun v hv=>h4 v (pv.mem_iff.mpr hv)) (p.mem_iff.mp h5) (fun v hv=>h6 v (p.mem_iff.mpr hv)) (p.mem_iff.mp h7) (fun v hv=>h8 v (p.mem_iff.mpr hv)) (by rw [e,p.length_eq,perm_sum pv])
def dn:En:=(0,⟨#[]⟩,0)
def pick (es:List En) (p:List Nat):List En:=p.map fun i=>es.getD i dn
theorem pick_perm {es:List En} {p:List Nat} (hp:p.Perm (List.range es.length)):(pick es p).Perm es:=by
  have h:=hp.map fun i=>es.getD i dn
  have e:(List.range es.length).map (fun i=>es.getD i dn)=es:=by
    refine List.ext_getElem (by simp) fun i h1 h2=>?_
    simp [h2]
  rw [e] at h
  exact h
theorem ltOf_en (es:List En) {i j:Nat} (hi:i < es.length) (hj:j < es.length):Srt.ltOf (es.map pl) i j=bef (es.getD i dn) (es.getD j dn):=by
  unfold Srt.ltOf bef
  rw [List.getD_eq_getElem?_getD,List.getD_eq_getElem?_getD,List.getD_eq_getElem?_getD,List.getD_eq_getElem?_getD,List.getElem?_map,List.getElem?_map,List.getElem?_eq_getElem hi,List.getElem?_eq_getElem hj]
  rfl
theorem bef_irr (e:En):bef e e=false:=Srt.plt_irr _
theorem pick_first {es:List En} {p:List Nat} {f:En} {r:List En} (hp:p.Perm (List.range es.length)) (hs:p.Pairwise (Srt.R (Srt.ltOf (es.map pl)))) (h:pick es p=f::r):f ∈ es∧∀ e ∈ es,bef e f=false:=by
  refine ⟨(pick_perm hp).mem_iff.mp (by rw [h]; exact List.mem_cons_self),fun e he=>?_⟩
  have he':=(pick_perm hp).mem_iff.mpr he
  cases p with
  | nil=>cases h
  | cons i q =>
    have hlt:∀ k ∈ i::q,k < es.length:=fun k hk=>List.mem_range.mp (hp.mem_iff.mp hk)
    unfold pick at h he'
    rw [List.map_cons] at h he'
    have ef:=(List.cons.inj h).1
    rcases List.mem_cons.mp he' with e1 | e1
    · rw [e1,← ef]; exact bef_irr _
    · obtain ⟨j,hj,rfl⟩:=List.mem_map.mp e1
      have hR:=(List.pairwise_cons.mp hs).1 j hj
      have:=Srt.R.le (Srt.ltOf_ord _) hR
      rw [ltOf_en es (hlt j (List.mem_cons_of_mem _ hj)) (hlt i List.mem_cons_self)] at this
      rw [← ef]
      exact this
theorem pick_last {es:List En} {p:List Nat} {l:En} {r:List En} (hp:p.Perm (List.range es.length)) (hs:p.Pairwise (Srt.R (Srt.ltOf (es.map pl)))) (h:pick es p=r++[l]):l ∈ es∧∀ e ∈ es,bef l e=false:=by
  refine ⟨(pick_perm hp).mem_iff.mp (by rw [h]; simp),fun e he=>?_⟩
  have he':=(pick_perm hp).mem_iff.mpr he
  rcases List.eq_nil_or_concat p with rfl | ⟨q,i,rfl⟩
  · unfold pick at h; simp at h
  · rw [List.concat_eq_append] at *
    have hlt:∀ k ∈ q++[i],k < es.length:=fun k hk=>List.mem_range.mp (hp.mem_iff.mp hk)
    unfold pick at h he'
    rw [List.map_append,List.map_singleton] at h he'
    have ef:=(List.append_inj' h rfl).2
    have el:es.getD i dn=l:=(List.cons.inj ef).1
    rcases List.mem_append.mp he' with e1 | e1
    · obtain ⟨j,hj,rfl⟩:=List.mem_map.mp e1
      have hR:=(List.pairwise_append.mp hs).2.2 j hj i List.mem_cons_self
      have:=Srt.R.le (Srt.ltOf_ord _) hR
      rw [ltOf_en es (hlt i (by simp)) (hlt j (List.mem_append_left _ hj)),el] at this
      exact this
    · rw [List.mem_singleton.mp e1,el]; exact bef_irr _
structure Lf (d:PyData):Prop where
  sh:d.showable=true
  cl:d.canLay0=true
  ls:d.leavesShort 62=true
theorem lf_none:Lf .none:=⟨rfl,rfl,rfl⟩
theorem lf_int {i:Int} (h:i.natAbs < 10 ^ 40):Lf (.int i) where
  sh:=by
    unfold PyData.showable
    exact decide_eq_true (PySem.Spec.log2_small (Nat.lt_trans h (by decide +kernel)))
  cl:=rfl
  ls:=by
    unfold PyData.leavesShort
    refine decide_eq_true ?_
    show (Str.ofString (toString i)).length≤62
    rw [ofString_length]
    exact Nat.le_trans (int_text_length_le10 (k:=40) (by decide) h) (by decide)
def KeyOk (k:Str):Prop:=k.cps.size≤8∧∀ c ∈ k.cps.toList,c < 128
theorem lf_str {k:Str} (h:KeyOk k):Lf (.str k) where
  sh:=rfl
  cl:=by
    unfold PyData.canLay0 PyData.strOk
    rw [Array.all_eq_true_iff_forall_mem]
    intro c hc
    have:=h.2 c (Array.mem_toList_iff.mpr hc)
    exact decide_eq_true (by omega)
  ls:=by
    unfold PyData.leavesShort
    rw [List.all_eq_true]
    intro c hc
    have:=h.2 c hc
    have e:(16:Nat) ^ 8=4294967296:=by decide
    exact decide_eq_true (by omega)
theorem lf_all:∀ {ds:List PyData},(∀ d ∈ ds,Lf d)→PyData.showableAll ds=true∧PyData.canLayAll0 ds=true∧PyData.leavesShortAll 62 ds=true
  | [],_=>⟨rfl,rfl,rfl⟩
  | d::ds,h=>by
    obtain ⟨a,b,c⟩:=lf_all fun x hx=>h x (List.mem_cons_of_mem d hx)
    have hd:=h d List.mem_cons_self
    unfold PyData.showableAll PyData.canLayAll0 PyData.leavesShortAll
    rw [a,b,c,hd.sh,hd.cl,hd.ls]
    exact ⟨rfl,rfl,rfl⟩
theorem lf_tuple {ds:List PyData} (h:∀ d ∈ ds,Lf d):Lf (.tuple ds) where
  sh:=by unfold PyData.showable; exact (lf_all h).1
  cl:=by unfold PyData.canLay0; exact (lf_all h).2.1
  ls:=by unfold PyData.leavesShort; exact (lf_all h).2.2
structure EnOk (e:En):Prop where
  m:e.1.natAbs < 10 ^ 30
  v:e.2.2.natAbs < 10 ^ 30
  k:KeyOk e.2.1
theorem le40 {i:Int} (h:i.natAbs < 10 ^ 30):i.natAbs < 10 ^ 40:=Nat.lt_trans h (by decide +kernel)
theorem lf_three {e:En} (h:EnOk e):∀ d ∈ [PyData.int e.1,.str e.2.1,.int e.2.2],Lf d:=fun d hd=>by
  rcases List.mem_cons.mp hd with rfl | hd
  · exact lf_int (le40 h.m)
  · rcases List.mem_cons.mp hd with rfl | hd
    · exact lf_str h.k
    · rw [List.mem_singleton.mp hd]; exact lf_int (le40 h.v)
theorem lf_eD {e:En} (h:EnOk e):Lf (eD e):=lf_tuple (lf_three h)
theorem bulk_eD {e:En} (h:EnOk e):(eD e).bulk≤11:=by
  have:=h.k.1
  unfold eD
  simp only [PyData.bulk,PyData.bulkAll]
  omega
theorem depth_eD (e:En):(eD e).depth=1:=by
  unfold eD
  simp [PyData.depth,PyData.depthAll]
theorem sum_bound:∀ {ns:List Int},(∀ n ∈ ns,n.natAbs < 10 ^ 30)→ns.sum.natAbs≤ns.length * 10 ^ 30
  | [],_=>by simp
  | n::r,h=>by
    have h1:=sum_bound fun x hx=>h x (List.mem_cons_of_mem n hx)
    have h2:=h n List.mem_cons_self
    rw [List.sum_cons,List.length_cons,Nat.add_mul]
    omega
end Ent
namespace L2
open PySem PySem.Spec PyProof.Rows
section
variable {X:Cx} {k k':Nat} {x:Str} {sp:Sp} {p pos:Pos}
theorem pe_can0 (h:Can X.prog X.w X.K X.mg X.base k x [] sp) (hr:Room k' X.A) (hg:Gl X x:=by rfl) (hk:k≤k':=by decide) (hdb:(x == ("__debug__" : Str))=false:=by decide):PE X (.Call (.Name x p) [] [] pos) (tCall sp [] E0 tNil):=by
  obtain ⟨f,fd,F,hm,kp,b⟩:=h
  exact pe_call0 F (hr.mono hk) hg hm kp b .nil pass0 hdb
end
theorem Same.but_ne {H H':Hp} {D:Addr} {o:HO} (s:Same H H') (h:H D=none):Same H (L2.upd H' D o):=fun b u e=>by
  rw [L2.upd_ne (ne_of_none e h)]
  exact s _ _ e
theorem Paired.mono2 {α β:Type} {F G:α→β→Prop} (f:∀ a b,F a b→G a b) {l₁:List α} {l₂:List β} (r:Paired F l₁ l₂):Paired G l₁ l₂:=Paired.mapP r f
theorem Paired.mapR {α β γ:Type} {F:α→β→Prop} {G:α→γ→Prop} {g:β→γ} (h:∀ a b,F a b→G a (g b)):∀ {xs:List α} {ys:List β},Paired F xs ys→Paired G xs (ys.map g)
  | _,_,.nil=>.nil
  | _,_,.cons r t=>.cons (h _ _ r) (Paired.mapR h t)
theorem Paired.picks {α β:Type} {F:α→β→Prop} {xs:List α} {ys:List β} {a:α} {b:β} (h:Paired F xs ys):∀ (p:List Nat),(∀ i ∈ p,i < xs.length)→Paired F (p.map fun i=>xs.getD i a) (p.map fun i=>ys.getD i b)
  | [],_=>.nil
  | i::p,hp=>by
    have hi:=hp i List.mem_cons_self
    obtain ⟨y,ey,r⟩:=Paired.get h (List.getElem?_eq_getElem hi)
    refine .cons ?_ (Paired.picks h p fun j hj=>hp j (List.mem_cons_of_mem _ hj))
    show F (xs.getD i a) (ys.getD i b)
    rw [List.getD_eq_getElem?_getD,List.getD_eq_getElem?_getD,ey,List.getElem?_eq_getElem hi]
    exact r
theorem line1000 {n:Nat} (h:n≤1000):n≤sizeLine:=Nat.le_of_lt (small1000 h)
end L2
namespace Pr
open PySem L2 PyProof.Rows Ent
abbrev three (e:En):List V:=[.int e.1,.str e.2.1,.int e.2.2]
def EntG (H:Hp) (x:V) (e:En):Prop:=∃ a o,x=.ref a∧H a=some o∧Ob o (three e)
def EntT (H:Hp) (x:V) (e:En):Prop:=∃ a,x=.ref a∧H a=some (.tup (three e))
theorem EntG.same {H H':Hp} (s:Same H H') {x:V} {e:En} (h:EntG H x e):EntG H' x e:=by
  obtain ⟨a,o,h1,h2,h3⟩:=h
  exact ⟨a,o,h1,s _ _ h2,h3⟩
theorem EntT.same {H H':Hp} (s:Same H H') {x:V} {e:En} (h:EntT H x e):EntT H' x e:=by
  obtain ⟨a,h1,h2⟩:=h
  exact ⟨a,h1,s _ _ h2⟩
theorem EntT.g {H:Hp} {x:V} {e:En} (h:EntT H x e):EntG H x e:=by
  obtain ⟨a,h1,h2⟩:=h
  exact ⟨a,_,h1,h2,.inr rfl⟩
theorem EntT.wr {H:Hp} {x:V} {e:En} {D:Addr} {ys:List V} {o:HO} (h:EntT H x e) (hD:H D=some (.lst ys)):EntT (upd H D o) x e:=by
  obtain ⟨a,h1,h2⟩:=h
  exact ⟨a,h1,by rw [upd_ne (ne_of h2 hD (by intro z; cases z))]; exact h2⟩
theorem EntT.dat {H:Hp} {x:V} {e:En} (h:EntT H x e):Dat H (eD e) x:=by
  obtain ⟨a,h1,h2⟩:=h
  unfold eD Dat
  refine ⟨a,_,h1,h2,?_⟩
  unfold DatAll
  refine ⟨_,_,rfl,by unfold Dat; rfl,?_⟩
  unfold DatAll
  refine ⟨_,_,rfl,by unfold Dat; rfl,?_⟩
  unfold DatAll
  refine ⟨_,_,rfl,by unfold Dat; rfl,?_⟩
  unfold DatAll
  rfl
section
variable {P:Program} {w:World} {K:PySem.W.Frag} {mg:Str→Option Value} {base:Heap} {C:Addr}
theorem sc_place_of:FnScope ["entry"] ["entry"] (defScope s_place_of):=⟨rfl,rfl,rfl,by decide +kernel,rfl,by decide +kernel,by decide +kernel⟩
theorem place_of (T:Txt K mg C):Can P w K mg base 1 "place_of" ["entry"] sp_place:=by
  refine fn_can T.f_place_of sc_place_of (fun vs H Q E h=>?_) (fun f cdv A outer s H vs Q E hr h=>?_)
  · obtain ⟨a,m,k,r,rfl,_⟩:=h
    rfl
  · obtain ⟨a,m,k,r,rfl,ha,q⟩:=h
    refine ⟨_,pss_one (ps_ret (pe_tup (pa2 (pe_ix (ix_tupK K) (pv 0) pe_int (fun _ _=>rfl)) (pe_ix (ix_tupK K) (pv 0) pe_int (fun _ _=>rfl))))),?_⟩
    refine ⟨_,rfl,a,_,_,_,rfl,rfl,.of ha,atI_nat (j:=0) rfl,_,rfl,a,_,_,_,rfl,rfl,.of ha,atI_nat (j:=1) rfl,line1000 (by show 2≤1000; decide),fun p hp=>q p hp⟩
inductive sp_empty (vs:List V) (H:Hp) (Q:VK) (E:XK):Prop
  | mk (e:vs=[]) (q:∀ p H',Same H H'→H p=none→Dat H' emptyD (.ref p)→Q (.ref p) H'):sp_empty vs H Q E
theorem sc_empty:FnScope [] [] (defScope s_empty):=⟨rfl,rfl,rfl,by decide +kernel,rfl,by decide +kernel,by decide +kernel⟩
theorem dat_empty {H:Hp} {p:Addr} (h:H p=some (.tup [.int 0,.int 0,.non,.non,.non,.non])):Dat H emptyD (.ref p):=by
  unfold emptyD Dat
  refine ⟨p,_,rfl,h,?_⟩
  iterate 6
    unfold DatAll
    refine ⟨_,_,rfl,by unfold Dat; rfl,?_⟩
  unfold DatAll
  rfl
theorem empty (T:Txt K mg C):Can P w K mg base 1 "empty" [] sp_empty:=by
  refine fn_can T.f_empty sc_empty (fun vs H Q E h=>?_) (fun f cdv A outer s H vs Q E hr h=>?_)
  · obtain ⟨rfl,_⟩:=h
    rfl
  · obtain ⟨rfl,q⟩:=h
    refine ⟨_,pss_one (ps_ret (pe_tup (pa_cons pe_int (pa_cons pe_int (pa_cons pe_non (pa_cons pe_non (pa_cons pe_non (pa_cons pe_non pa_nil)))))))),?_⟩
    exact ⟨line1000 (by show 6≤1000; decide),fun p hp=>q p _ (Same.upd hp) hp (dat_empty upd_same)⟩
inductive sp_in_order (vs:List V) (H:Hp) (Q:VK) (E:XK):Prop
  | mk (a:Addr) (o:HO) (xs:List V) (es:List En) (h0:vs=[.ref a]) (h1:H a=some o) (h2:Ob o xs) (h3:Paired (EntG H) xs es) (h4:es.length < 64)
    (q:∀ D H' ys (p:List Nat),Same H H'→H D=none→H' D=some (.lst ys)→Paired (EntT H') ys (pick es p)→p.Perm (List.range es.length)→p.Pairwise (Srt.R (Srt.ltOf (es.map pl)))→Q (.ref D) H'):sp_in_order vs H Q E
theorem sc_in_order:FnScope ["entries"] ["entries"] (defScope s_in_order):=⟨rfl,rfl,rfl,by decide +kernel,rfl,by decide +kernel,by decide +kernel⟩
theorem in_order (T:Txt K mg C):Can P w K mg base 4 "in_order" ["entries"] sp_in_order:=by
  refine fn_can T.f_in_order sc_in_order (fun vs H Q E h=>?_) (fun f cdv A outer s H vs Q E hr h=>?_)
  · obtain ⟨a,o,xs,es,rfl,_⟩:=h
    rfl
  · obtain ⟨a,o,xs,es,rfl,ha,ho,hp,h64,q⟩:=h
    have hlen:xs.length=es.length:=hp.length
    refine ⟨_,pss_one (ps_ret (pe_sortK K (place_of T) hr T.b_sorted (pa1 (pe_lc rfl (lcS sc_in_order) (pi_seq (pv 0)) (fun _ _ _ _=>pts_nil) (fun _ _ _ _=>pe_t call_tup_ob T.b_tuple boot_tuple (pa1 (pv 0))))))),?_⟩
    refine ⟨_,rfl,a,o,xs,rfl,ha,ho,fun J hJ D hD=>?_⟩
    refine lc_it hJ (fun i ys H1=>H1 D=some (.lst ys)∧ys.length=i∧Same H H1∧Paired (EntT H1) ys (es.take i)) ⟨upd_same,rfl,Same.upd hD,.nil⟩ (fun i ys H1 h=>⟨h.1,h.2.2.1 _ _ ha⟩) (fun ys H1 h=>?_) fun i x ys H1 hi hx h=>?_
    · obtain ⟨d1,d2,d3,d4⟩:=h
      rw [List.take_of_length_le (by omega)] at d4
      refine ⟨D,ys,es.map pl,rfl,.of d1,by omega,Paired.mapR (fun x e ⟨b,e1,e2⟩=>⟨b,_,e1,e2⟩) d4,fun D' H' p s' hD' hg p1 p2=>?_⟩
      rw [d2,hlen] at p1
      refine q D' H' _ p (d3.trans s') (d3.free hD') hg ?_ p1 p2
      exact Paired.picks (Paired.mono2 (fun _ _ z=>z.same s') d4) p fun i hi=>by
        have:=List.mem_range.mp (p1.mem_iff.mp hi)
        omega
    · obtain ⟨d1,d2,d3,d4⟩:=h
      obtain ⟨e,he,b,ob,rfl,hb,hob⟩:=Paired.get hp hx
      refine yesI ⟨_,rfl,b,ob,_,rfl,d3 _ _ hb,hob,fun l H2 s2 hl=>LcNx.mk hi (by omega) (by omega) (s2 _ _ d1) ⟨upd_same,by rw [List.length_append,d2]; rfl,(d3.trans s2).but_ne hD,?_⟩⟩
      rw [List.take_add_one,he]
      refine Paired.snoc ?_ (Paired.mono2 (fun _ _ z=>(z.same s2).wr (s2 _ _ d1)) d4)
      exact EntT.wr ⟨l,rfl,hl⟩ (s2 _ _ d1)
end
end Pr
namespace Pr
open PySem L2 PyProof.Rows Ent
theorem dat_bar {H:Hp} {p:Addr} {n:Nat} {s lo hi:Int} {f l:En} {x y:V} (h:H p=some (.tup [.int n,.int s,.int lo,.int hi,x,y])) (hx:EntT H x f) (hy:EntT H y l):Dat H (barD n s lo hi f l) (.ref p):=by
  unfold barD Dat
  refine ⟨p,_,rfl,h,?_⟩
  iterate 4
    unfold DatAll
    refine ⟨_,_,rfl,by unfold Dat; rfl,?_⟩
  unfold DatAll
  refine ⟨_,_,rfl,hx.dat,?_⟩
  unfold DatAll
  refine ⟨_,_,rfl,hy.dat,?_⟩
  unfold DatAll
  rfl
section
variable {P:Program} {w:World} {K:PySem.W.Frag} {mg:Str→Option Value} {base:Heap} {C:Addr}
inductive sp_bar_of (vs:List V) (H:Hp) (Q:VK) (E:XK):Prop
  | mk (a:Addr) (o:HO) (xs:List V) (es:List En) (h0:vs=[.ref a]) (h1:H a=some o) (h2:Ob o xs) (h3:Paired (EntG H) xs es) (h4:es.length < 64)
    (q:∀ p H' b,Same H H'→H p=none→BarOf es b→Dat H' b (.ref p)→Q (.ref p) H'):sp_bar_of vs H Q E
theorem sc_bar_of:FnScope ["entries","rows","values"] ["entries"] (defScope s_bar_of):=⟨rfl,rfl,rfl,by decide +kernel,rfl,by decide +kernel,by decide +kernel⟩
theorem bar_of (T:Txt K mg C):Can P w K mg base 5 "bar_of" ["entries"] sp_bar_of:=by
  refine fn_can T.f_bar_of sc_bar_of (fun vs H Q E h=>?_) (fun f cdv A outer s H vs Q E hr h=>?_)
  · obtain ⟨a,o,xs,es,rfl,_⟩:=h
    rfl
  · obtain ⟨a,o,xs,es,rfl,ha,ho,hp,h64,q⟩:=h
    have hlen:xs.length=es.length:=hp.length
    refine ⟨_,pss_cons (ps_set (i:=1) sc_bar_of.nd rfl (Or.inl rfl) (pe_can (in_order T) hr (pa1 (pv 0))))
      (pss_cons (ps_if (pt_not (pt_truth (pv 1) (fun _=>rfl))) (pss_one (ps_ret (pe_can0 (empty T) hr))) pss_nil)
      (pss_cons (ps_setLC (i:=2) rfl rfl rfl (lcS sc_bar_of) (pi_listK K (pv 1)) (fun _ _ _ _=>pts_nil) (fun _ _ _ _=>pe_ix (ix_tupK K) (pv 0) pe_int (fun _ _=>rfl)))
      (pss_one (ps_ret (pe_tup (pa_cons (pe_b (call_lenK K) T.b_len boot_len (pa1 (pv 1))) (pa_cons (pe_b (call_sum_seqK K rfl) T.b_sum boot_sum (pa1 (pv 2))) (pa_cons (pe_b (call_min_list K rfl) T.b_min boot_min (pa1 (pv 2))) (pa_cons (pe_b (call_max_list K rfl) T.b_max boot_max (pa1 (pv 2)))
        (pa_cons (pe_ix (ix_listK K) (pv 1) pe_int (fun _ _=>rfl)) (pa_cons (pe_ix (ix_listK K) (pv 1) (pe_un un_neg pe_int) (fun _ _=>rfl)) pa_nil))))))))))),?_⟩
    refine ⟨_,rfl,a,o,xs,es,rfl,ha,ho,hp,h64,fun D H1 ys p s1 hD hy hE p1 p2=>?_⟩
    have hpm:=pick_perm p1
    have hyl:ys.length=es.length:=by rw [hE.length,hpm.length_eq]
    refine ⟨_,rfl,_,.inl ⟨ys,.of hy,rfl⟩,?_⟩
    cases hes:ys with
    | nil =>
      refine iteT ⟨rfl,fun p' H2 s2 hp' hd=>q p' H2 _ (s1.trans s2) (s1.free hp') (.non ?_ rfl) hd⟩
      rw [hes] at hyl
      exact List.eq_nil_of_length_eq_zero hyl.symm
    | cons y yr =>
      rw [← hes]
      have hye:(!ys.isEmpty)=true:=by rw [hes]; rfl
      rw [hye]
      refine iteF ?_
      refine ⟨_,rfl,D,rfl,⟨ys,.of hy⟩,fun V' hV=>?_⟩
      refine lc_list (xs:=ys) (fun i zs H2=>H2 V'=some (.lst zs)∧Same H1 H2∧zs=(vals ((pick es p).take i)).map V.int) ⟨upd_same,Same.upd hV,rfl⟩ (fun i zs H2 h=>⟨h.1,h.2.1.seq (.of hy)⟩) (fun zs H2 h=>?_) fun i x zs H2 hi hx h=>?_
      · obtain ⟨d1,d2,d3⟩:=h
        rw [List.take_of_length_le (by rw [hE.length]; exact Nat.le_refl _)] at d3
        subst d3
        have hD2:H2 D=some (.lst ys):=d2 _ _ hy
        have hE2:Paired (EntT H2) ys (pick es p):=Paired.mono2 (fun _ _ z=>z.same d2) hE
        have hne:vals (pick es p)≠[]:=by
          intro z
          have z2:(vals (pick es p)).length=0:=by rw [z]; rfl
          unfold vals at z2
          rw [List.length_map,← hE.length,hes] at z2
          cases z2
        cases hpk:pick es p with
        | nil =>
          rw [hpk] at hne
          exact absurd rfl hne
        | cons fe re =>
        rcases List.eq_nil_or_concat (pick es p) with z | ⟨rl,le,hpl⟩
        · rw [hpk] at z; cases z
        rw [List.concat_eq_append] at hpl
        obtain ⟨yf,ef,rf⟩:=Paired.getR hE2 (i:=0) (y:=fe) (by rw [hpk]; rfl)
        obtain ⟨yl,el,rl'⟩:=Paired.getR hE2 (i:=rl.length) (y:=le) (by rw [hpl]; simp)
        have hlast:∃ yr',ys=yr'++[yl]:=by
          rcases List.eq_nil_or_concat ys with z | ⟨yr',yl',hyr⟩
          · rw [hes] at z; cases z
          · rw [List.concat_eq_append] at hyr
            refine ⟨yr',?_⟩
            have l1:ys.length=rl.length + 1:=by rw [hE2.length,hpl]; simp
            have l2:yr'.length=rl.length:=by rw [hyr] at l1; simpa using l1
            rw [hyr,← l2] at el
            rw [hyr]
            simp at el
            rw [el]
        obtain ⟨yr',hyr⟩:=hlast
        have hbar:=fun lo hi (g1:lo ∈ vals (pick es p)) g2 (g3:hi ∈ vals (pick es p)) g4=>BarOf.perm hpm (.some lo hi fe le g1 g2 g3 g4 (by rw [hpk]; exact List.mem_cons_self) (fun e he=>(pick_first p1 p2 hpk).2 e (hpm.mem_iff.mp he)) (by rw [hpl]; simp) (fun e he=>(pick_last p1 p2 hpl).2 e (hpm.mem_iff.mp he)) rfl)
        refine ⟨_,rfl,D,ys,rfl,.inl (.of hD2),_,rfl,V',_,rfl,.inl (.of d1),_,rfl,V',_,rfl,.of d1,hne,fun lo g1 g2=>⟨_,rfl,V',_,rfl,.of d1,hne,fun hi g3 g4=>?_⟩⟩
        refine ⟨_,rfl,D,ys,_,_,rfl,rfl,.of hD2,atI_nat (j:=0) ef,_,rfl,_,rfl,D,ys,_,_,rfl,rfl,.of hD2,by rw [hyr]; exact atI_last _ _,line1000 (by show 6≤1000; decide),fun pp hpp=>?_⟩
        refine q pp _ _ ((s1.trans d2).trans (Same.upd hpp)) ((s1.trans d2).free hpp) (hbar lo hi g1 g2 g3 g4) ?_
        have hn:ys.length=(pick es p).length:=hE2.length
        exact dat_bar (by rw [upd_same,hn]) (rf.same (Same.upd hpp)) (rl'.same (Same.upd hpp))
      · obtain ⟨d1,d2,d3⟩:=h
        obtain ⟨e,he,b,rfl,hb⟩:=Paired.get hE hx
        refine yesI ⟨_,rfl,b,_,_,_,rfl,rfl,.of (d2 _ _ hb),atI_nat (j:=2) rfl,LcNx.mk hi (by omega) ?_ d1 ⟨upd_same,d2.but_ne hV,?_⟩⟩
        · rw [d3]
          unfold vals
          rw [List.length_map,List.length_map,List.length_take]
          omega
        · rw [d3,List.take_add_one,he]
          unfold vals
          simp
end
end Pr
namespace Ent
open PySem
structure BarF (es:List En) (lo hi:Int) (f l:En):Prop where
  h1:lo ∈ vals es
  h2:∀ v ∈ vals es,lo≤v
  h3:hi ∈ vals es
  h4:∀ v ∈ vals es,v≤hi
  h5:f ∈ es
  h6:∀ e ∈ es,bef e f=false
  h7:l ∈ es
  h8:∀ e ∈ es,bef l e=false
theorem BarF.of {es:List En} {lo hi:Int} {f l:En} (h:BarF es lo hi f l):BarOf es (barD es.length (vals es).sum lo hi f l):=.some lo hi f l h.h1 h.h2 h.h3 h.h4 h.h5 h.h6 h.h7 h.h8 rfl
structure Bd where
  es:List En
  lo:Int
  hi:Int
  f:En
  l:En
def Bd.Ok (d:Bd):Prop:=BarF d.es d.lo d.hi d.f d.l
def alls (ds:List Bd):List En:=(ds.map (·.es)).flatten
theorem mem_alls {ds:List Bd} {e:En}:e ∈ alls ds↔∃ d ∈ ds,e ∈ d.es:=by
  unfold alls
  rw [List.mem_flatten]
  constructor
  · rintro ⟨l,hl,he⟩
    obtain ⟨d,hd,rfl⟩:=List.mem_map.mp hl
    exact ⟨d,hd,he⟩
  · rintro ⟨d,hd,he⟩
    exact ⟨_,List.mem_map.mpr ⟨d,hd,rfl⟩,he⟩
theorem mem_vals {es:List En} {v:Int}:v ∈ vals es↔∃ e ∈ es,e.2.2=v:=List.mem_map
theorem vals_alls {ds:List Bd} {v:Int}:v ∈ vals (alls ds)↔∃ d ∈ ds,v ∈ vals d.es:=by
  rw [mem_vals]
  constructor
  · rintro ⟨e,he,rfl⟩
    obtain ⟨d,hd,h⟩:=mem_alls.mp he
    exact ⟨d,hd,mem_vals.mpr ⟨e,h,rfl⟩⟩
  · rintro ⟨d,hd,h⟩
    obtain ⟨e,he,rfl⟩:=mem_vals.mp h
    exact ⟨e,mem_alls.mpr ⟨d,hd,he⟩,rfl⟩
theorem alls_len:∀ (ds:List Bd),(ds.map fun d=>(d.es.length:Int)).sum=((alls ds).length:Int)
  | []=>rfl
  | d::ds=>by
    have ih:=alls_len ds
    unfold alls at ih ⊢
    rw [List.map_cons,List.sum_cons,ih,List.map_cons,List.flatten_cons,List.length_append]
    omega
theorem alls_sum:∀ (ds:List Bd),(ds.map fun d=>(vals d.es).sum).sum=(vals (alls ds)).sum
  | []=>rfl
  | d::ds=>by
    have ih:=alls_sum ds
    unfold alls vals at ih ⊢
    rw [List.map_cons,List.sum_cons,ih,List.map_cons,List.flatten_cons,List.map_append,List.sum_append]
theorem join_bar {ds:List Bd} (ok:∀ d ∈ ds,d.Ok) {lo hi:Int} {f l:En} (h1:lo ∈ ds.map (·.lo)) (h2:∀ v ∈ ds.map (·.lo),lo≤v) (h3:hi ∈ ds.map (·.hi)) (h4:∀ v ∈ ds.map (·.hi),v≤hi)
    (h5:f ∈ ds.map (·.f)++ds.map (·.l)) (h6:∀ e ∈ ds.map (·.f)++ds.map (·.l),bef e f=false) (h7:l ∈ ds.map (·.f)++ds.map (·.l)) (h8:∀ e ∈ ds.map (·.f)++ds.map (·.l),bef l e=false) :
    BarF (alls ds) lo hi f l:=by
  have mem:∀ e ∈ ds.map (·.f)++ds.map (·.l),e ∈ alls ds:=fun e he=>by
    rcases List.mem_append.mp he with he | he
    · obtain ⟨d,hd,rfl⟩:=List.mem_map.mp he
      exact mem_alls.mpr ⟨d,hd,(ok d hd).h5⟩
    · obtain ⟨d,hd,rfl⟩:=List.mem_map.mp he
      exact mem_alls.mpr ⟨d,hd,(ok d hd).h7⟩
  refine ⟨?_,fun v hv=>?_,?_,fun v hv=>?_,mem f h5,fun e he=>?_,mem l h7,fun e he=>?_⟩
  · obtain ⟨d,hd,rfl⟩:=List.mem_map.mp h1
    exact vals_alls.mpr ⟨d,hd,(ok d hd).h1⟩
  · obtain ⟨d,hd,h⟩:=vals_alls.mp hv
    have:=h2 d.lo (List.mem_map.mpr ⟨d,hd,rfl⟩)
    have:=(ok d hd).h2 v h
    omega
  · obtain ⟨d,hd,rfl⟩:=List.mem_map.mp h3
    exact vals_alls.mpr ⟨d,hd,(ok d hd).h3⟩
  · obtain ⟨d,hd,h⟩:=vals_alls.mp hv
    have:=h4 d.hi (List.mem_map.mpr ⟨d,hd,rfl⟩)
    have:=(ok d hd).h4 v h
    omega
  · obtain ⟨d,hd,h⟩:=mem_alls.mp he
    exact Srt.plt_tr (h6 d.f (List.mem_append_left _ (List.mem_map.mpr ⟨d,hd,rfl⟩))) ((ok d hd).h6 e h)
  · obtain ⟨d,hd,h⟩:=mem_alls.mp he
    exact Srt.plt_tr ((ok d hd).h8 e h) (h8 d.l (List.mem_append_right _ (List.mem_map.mpr ⟨d,hd,rfl⟩)))
end Ent
namespace Pr
open PySem L2 PyProof.Rows Ent
def BarS (H:Hp) (x:V) (d:Bd):Prop:=∃ a o xf xl,x=.ref a∧H a=some o∧Ob o [.int d.es.length,.int (vals d.es).sum,.int d.lo,.int d.hi,xf,xl]∧EntG H xf d.f∧EntG H xl d.l∧d.Ok
theorem BarS.same {H H':Hp} (s:Same H H') {x:V} {d:Bd} (h:BarS H x d):BarS H' x d:=by
  obtain ⟨a,o,xf,xl,h1,h2,h3,h4,h5,h6⟩:=h
  exact ⟨a,o,xf,xl,h1,s _ _ h2,h3,h4.same s,h5.same s,h6⟩
inductive BarG (H:Hp) (x:V) (es:List En):Prop
  | non (a:Addr) (o:HO) (e:x=.ref a) (h:H a=some o) (ob:Ob o [.int 0,.int 0,.non,.non,.non,.non]) (he:es=[]):BarG H x es
  | some (d:Bd) (he:es=d.es) (h:BarS H x d):BarG H x es
theorem lc_ixG {K:PySem.W.Frag} {j:Int} {σ:L2.St} {H:Hp} {L D:Addr} {Fin:Hp→Prop} {ys zs:List V} (hy:H L=some (.lst ys)) (hn:ys.length≤1000) (hz:zs.length=ys.length)
    (hp:∀ (k:Nat) (y:V),ys[k]?=some y→∃ a o its v,y=.ref a∧H a=some o∧Ob o its∧atI its j=some v∧zs[k]?=some v) (hD:H D=none) (q:∀ H',Same H H'→H' D=some (.lst zs)→Fin H') :
    lcGo tYes (tOp rIxO (tVar 0) (tC (.int j))) σ (Itl K L) D Fin H:=by
  refine lc_list (xs:=ys) (fun k ws H1=>H1 D=some (.lst ws)∧Same H H1∧ws=zs.take k) ⟨upd_same,Same.upd hD,rfl⟩ (fun k ws H1 h=>⟨h.1,h.2.1.seq (.of hy)⟩) (fun ws H1 h=>?_) fun k x ws H1 hk hx h=>?_
  · obtain ⟨h1,h2,rfl⟩:=h
    rw [List.take_of_length_le (by omega)] at h1
    exact q H1 h2 h1
  · obtain ⟨h1,h2,rfl⟩:=h
    obtain ⟨a,o,its,v,rfl,ha,ho,hv,hzk⟩:=hp k x hx
    refine yesI ⟨_,rfl,a,o,its,j,v,rfl,rfl,h2 _ _ ha,ho,hv,LcNx.mk hk hn (by rw [List.length_take]; omega) h1 ⟨upd_same,h2.but_ne hD,?_⟩⟩
    rw [List.take_add_one,hzk]
    rfl
section
variable {P:Program} {w:World} {K:PySem.W.Frag} {mg:Str→Option Value} {base:Heap} {C:Addr}
inductive sp_joined (vs:List V) (H:Hp) (Q:VK) (E:XK):Prop
  | mk (x y:V) (es es':List En) (h0:vs=[x,y]) (h1:BarG H x es) (h2:BarG H y es') (q:∀ p H' b,Same H H'→H p=none→BarOf (es++es') b→Dat H' b (.ref p)→Q (.ref p) H'):sp_joined vs H Q E
theorem sc_joined:FnScope ["one","other","bars","ends"] ["one","other"] (defScope s_joined):=⟨rfl,rfl,rfl,by decide +kernel,rfl,by decide +kernel,by decide +kernel⟩
theorem ints_zs {H:Hp} {ys:List V} {ds:List Bd} {g:Bd→Int} {j:Nat} (hp:Paired (BarS H) ys ds) (hg:∀ d xf xl,atI [V.int d.es.length,.int (vals d.es).sum,.int d.lo,.int d.hi,xf,xl] (j:Int)=some (.int (g d))) :
    ∀ (k:Nat) (y:V),ys[k]?=some y→∃ a o its v,y=.ref a∧H a=some o∧Ob o its∧atI its (j:Int)=some v∧((ds.map g).map V.int)[k]?=some v:=fun k y hy=>by
  obtain ⟨d,hd,a,o,xf,xl,e,h2,h3,h4,h5,h6⟩:=Paired.get hp hy
  refine ⟨a,o,_,_,e,h2,h3,hg d xf xl,?_⟩
  rw [List.getElem?_map,List.getElem?_map,hd]
  rfl
theorem ends_zs {H:Hp}:∀ {ys:List V} {ds:List Bd},Paired (BarS H) ys ds→∃ zs ws,Paired (EntG H) zs (ds.map (·.f))∧Paired (EntG H) ws (ds.map (·.l)) ∧
    (∀ (k:Nat) (y:V),ys[k]?=some y→∃ a o its v,y=.ref a∧H a=some o∧Ob o its∧atI its 4=some v∧zs[k]?=some v)∧∀ (k:Nat) (y:V),ys[k]?=some y→∃ a o its v,y=.ref a∧H a=some o∧Ob o its∧atI its 5=some v∧ws[k]?=some v
  | _,_,.nil=>⟨[],[],.nil,.nil,fun k y h=>by simp at h,fun k y h=>by simp at h⟩
  | _,_,.cons ⟨a,o,xf,xl,e,h2,h3,h4,h5,h6⟩ r=>by
    obtain ⟨zs,ws,p1,p2,q1,q2⟩:=ends_zs r
    refine ⟨xf::zs,xl::ws,.cons h4 p1,.cons h5 p2,fun k y hy=>?_,fun k y hy=>?_⟩
    · cases k with
      | zero =>
        have hy':=Option.some.inj hy
        exact ⟨a,o,_,xf,by rw [← hy']; exact e,h2,h3,atI_nat (j:=4) rfl,rfl⟩
      | succ k=>exact q1 k y hy
    · cases k with
      | zero =>
        have hy':=Option.some.inj hy
        exact ⟨a,o,_,xl,by rw [← hy']; exact e,h2,h3,atI_nat (j:=5) rfl,rfl⟩
      | succ k=>exact q2 k y hy
set_option maxHeartbeats 4000000 in
theorem joined (T:Txt K mg C):Can P w K mg base 5 "joined" ["one","other"] sp_joined:=by
  refine fn_can T.f_joined sc_joined (fun vs H Q E h=>?_) (fun f cdv A outer s H vs Q E hr h=>?_)
  · obtain ⟨x,y,es,es',rfl,_⟩:=h
    rfl
  · obtain ⟨x,y,es,es',rfl,h1,h2,q⟩:=h
    refine ⟨_,pss_cons (ps_setLC (i:=2) rfl rfl rfl (lcS sc_joined) (pi_tupK K (pe_tup (pa2 (pv 0) (pv 1)))) (fun _ _ _ _=>pts_one (pt_cmpR op_gt (pe_ix ix_ob (pv 0) pe_int (fun _ _=>rfl)) pe_int (nomark _))) (fun _ _ _ _=>pv 0))
      (pss_cons (ps_if (pt_not (pt_truth (pv 2) (fun _=>rfl))) (pss_one (ps_ret (pe_can0 (empty T) hr))) pss_nil)
      (pss_cons (ps_set (i:=3) sc_joined.nd rfl (Or.inl rfl) (pe_can (in_order T) hr (pa1 (pe_op op_cat (pe_lc rfl (lcS sc_joined) (pi_listK K (pv 2)) (fun _ _ _ _=>pts_nil) (fun _ _ _ _=>pe_ix ix_ob (pv 0) pe_int (fun _ _=>rfl))) (pe_lc rfl (lcS sc_joined) (pi_listK K (pv 2)) (fun _ _ _ _=>pts_nil) (fun _ _ _ _=>pe_ix ix_ob (pv 0) pe_int (fun _ _=>rfl)))))))
      (pss_one (ps_ret (pe_tup (pa_cons (pe_b (call_sum_seqK K rfl) T.b_sum boot_sum (pa1 (pe_lc rfl (lcS sc_joined) (pi_listK K (pv 2)) (fun _ _ _ _=>pts_nil) (fun _ _ _ _=>pe_ix ix_ob (pv 0) pe_int (fun _ _=>rfl)))))
        (pa_cons (pe_b (call_sum_seqK K rfl) T.b_sum boot_sum (pa1 (pe_lc rfl (lcS sc_joined) (pi_listK K (pv 2)) (fun _ _ _ _=>pts_nil) (fun _ _ _ _=>pe_ix ix_ob (pv 0) pe_int (fun _ _=>rfl)))))
        (pa_cons (pe_b (call_min_list K rfl) T.b_min boot_min (pa1 (pe_lc rfl (lcS sc_joined) (pi_listK K (pv 2)) (fun _ _ _ _=>pts_nil) (fun _ _ _ _=>pe_ix ix_ob (pv 0) pe_int (fun _ _=>rfl)))))
        (pa_cons (pe_b (call_max_list K rfl) T.b_max boot_max (pa1 (pe_lc rfl (lcS sc_joined) (pi_listK K (pv 2)) (fun _ _ _ _=>pts_nil) (fun _ _ _ _=>pe_ix ix_ob (pv 0) pe_int (fun _ _=>rfl)))))
        (pa_cons (pe_ix (ix_listK K) (pv 3) pe_int (fun _ _=>rfl)) (pa_cons (pe_ix (ix_listK K) (pv 3) (pe_un un_neg pe_int) (fun _ _=>rfl)) pa_nil))))))))))),?_⟩
    refine ⟨_,rfl,_,rfl,two_line,fun t ht=>⟨t,rfl,⟨_,.of upd_same⟩,fun D hD=>?_⟩⟩
    have st:Same H (upd H t (.tup [x,y])):=Same.upd ht
    have hD0:H D=none:=st.free hD
    have pb:Paired (BarG H) [x,y] [es,es']:=.cons h1 (.cons h2 .nil)
    refine lc_tup (xs:=[x,y]) (fun i ys H1=>H1 D=some (.lst ys)∧ys.length≤i∧Same (upd H t (.tup [x,y])) H1∧∃ ds,Paired (BarS H) ys ds∧alls ds=([es,es'].take i).flatten) ⟨upd_same,Nat.zero_le _,Same.upd hD,[],.nil,rfl⟩ (fun i ys H1 h=>⟨h.1,h.2.2.1.sqT (.of upd_same)⟩) (fun ys H1 h=>?_) fun i b ys H1 hi hx h=>?_
    · obtain ⟨d1,d2,d3,ds,d4,d5⟩:=h
      have s1:Same H H1:=st.trans d3
      have d4:=Paired.mono2 (fun _ _ z=>BarS.same s1 z) d4
      have d5':alls ds=es++es':=by rw [d5]; simp
      have d2':ys.length≤2:=d2
      have dl:ys.length=ds.length:=d4.length
      have dok:∀ d ∈ ds,d.Ok:=fun d hd=>by
        obtain ⟨k,hk,rfl⟩:=List.getElem_of_mem hd
        obtain ⟨_,_,_,_,_,_,_,_,_,_,_,h⟩:=Paired.getR d4 (List.getElem?_eq_getElem hk)
        exact h
      refine ⟨_,rfl,_,.inl ⟨ys,.of d1,rfl⟩,?_⟩
      cases hys:ys with
      | nil =>
        refine iteT ⟨rfl,fun p' H2 s2 hp' hd=>q p' H2 _ (s1.trans s2) (s1.free hp') (.non ?_ rfl) hd⟩
        rw [hys] at dl
        have:ds=[]:=List.eq_nil_of_length_eq_zero dl.symm
        rw [← d5',this]
        rfl
      | cons y0 yr =>
        have hye:(!(y0::yr).isEmpty)=true:=rfl
        rw [hye]
        refine iteF ?_
        have hne:ds≠[]:=fun z=>by rw [hys,z] at dl; cases dl
        obtain ⟨zs,ws,p1,p2,q1,q2⟩:=ends_zs d4
        have lz:zs.length=ys.length:=by rw [p1.length,List.length_map]; omega
        have lw:ws.length=ys.length:=by rw [p2.length,List.length_map]; omega
        refine ⟨_,rfl,D,rfl,⟨ys,.of d1⟩,fun D1 hD1=>lc_ixG d1 (by omega) lz q1 hD1 fun H2 s2 g1=>?_⟩
        have d42:=Paired.mono2 (fun _ _ z=>BarS.same s2 z) d4
        refine ⟨_,rfl,D,rfl,⟨ys,.of (s2 _ _ d1)⟩,fun D2 hD2=>lc_ixG (s2 _ _ d1) (by omega) lw (fun k y hy=>by
          obtain ⟨a,o,its,v,e1,e2,e3,e4,e5⟩:=q2 k y hy
          exact ⟨a,o,its,v,e1,s2 _ _ e2,e3,e4,e5⟩) hD2 fun H3 s3 g2=>?_⟩
        refine ⟨D1,D2,_,_,rfl,rfl,s3 _ _ g1,g2,line1000 (by omega),fun D3 hD3=>?_⟩
        have s13:Same H1 H3:=s2.trans s3
        have s14:Same H1 (upd H3 D3 (.lst (zs++ws))):=s13.trans (Same.upd hD3)
        refine ⟨D3,_,zs++ws,ds.map (·.f)++ds.map (·.l),rfl,upd_same,.inl rfl,Paired.mono2 (fun _ _ z=>EntG.same s14 z) (by
            have:∀ {xs xs':List V} {ys ys':List En},Paired (EntG H1) xs ys→Paired (EntG H1) xs' ys'→Paired (EntG H1) (xs++xs') (ys++ys'):=fun {xs xs' ys ys'} a b=>by
              induction a with
              | nil=>exact b
              | cons r _ ih=>exact .cons r ih
            exact this p1 p2),by rw [List.length_append,List.length_map,List.length_map]; omega,fun E5 H5 es5 pp s5 hE5 g5 pe5 pm ps=>?_⟩
        have s15:Same H1 H5:=s14.trans s5
        have d45:=Paired.mono2 (fun _ _ z=>BarS.same s15 z) d4
        refine ⟨_,rfl,D,rfl,⟨ys,.of (s15 _ _ d1)⟩,fun D6 hD6=>lc_ixG (s15 _ _ d1) (by omega) (by rw [List.length_map,List.length_map]; omega) (ints_zs (j:=0) (g:=fun d=>(d.es.length:Int)) d45 fun d xf xl=>atI_nat (j:=0) rfl) hD6 fun H6 s6 g6=>⟨D6,_,rfl,.inl (.of g6),?_⟩⟩
        refine ⟨_,rfl,D,rfl,⟨ys,.of ((s15.trans s6) _ _ d1)⟩,fun D7 hD7=>lc_ixG ((s15.trans s6) _ _ d1) (by omega) (by rw [List.length_map,List.length_map]; omega) (ints_zs (j:=1) (g:=fun d=>(vals d.es).sum) (Paired.mono2 (fun _ _ z=>BarS.same s6 z) d45) fun d xf xl=>atI_nat (j:=1) rfl) hD7 fun H7 s7 g7=>⟨D7,_,rfl,.inl (.of g7),?_⟩⟩
        have s57:Same H5 H7:=s6.trans s7
        refine ⟨_,rfl,D,rfl,⟨ys,.of ((s15.trans s57) _ _ d1)⟩,fun D8 hD8=>lc_ixG ((s15.trans s57) _ _ d1) (by omega) (by rw [List.length_map,List.length_map]; omega) (ints_zs (j:=2) (g:=fun d=>d.lo) (Paired.mono2 (fun _ _ z=>BarS.same s57 z) d45) fun d xf xl=>atI_nat (j:=2) rfl) hD8 fun H8 s8 g8=>⟨D8,_,rfl,.of g8,by simpa using hne,fun lo l1 l2=>?_⟩⟩
        have s58:Same H5 H8:=s57.trans s8
        refine ⟨_,rfl,D,rfl,⟨ys,.of ((s15.trans s58) _ _ d1)⟩,fun D9 hD9=>lc_ixG ((s15.trans s58) _ _ d1) (by omega) (by rw [List.length_map,List.length_map]; omega) (ints_zs (j:=3) (g:=fun d=>d.hi) (Paired.mono2 (fun _ _ z=>BarS.same s58 z) d45) fun d xf xl=>atI_nat (j:=3) rfl) hD9 fun H9 s9 g9=>⟨D9,_,rfl,.of g9,by simpa using hne,fun hi' l3 l4=>?_⟩⟩
        have s59:Same H5 H9:=s58.trans s9
        have pm':=pick_perm pm
        have pe9:Paired (EntT H9) es5 (pick (ds.map (·.f)++ds.map (·.l)) pp):=Paired.mono2 (fun _ _ z=>EntT.same s59 z) pe5
        cases hpk:pick (ds.map (·.f)++ds.map (·.l)) pp with
        | nil =>
          rw [hpk] at pm'
          have:=pm'.length_eq
          rw [List.length_append,List.length_map,List.length_map] at this
          have:ds.length=0:=by simp at this; omega
          exact absurd (List.eq_nil_of_length_eq_zero this) hne
        | cons fe re =>
        rcases List.eq_nil_or_concat (pick (ds.map (·.f)++ds.map (·.l)) pp) with z | ⟨rl,le,hpl⟩
        · rw [hpk] at z; cases z
        rw [List.concat_eq_append] at hpl
        obtain ⟨yf,ef,rf⟩:=Paired.getR pe9 (i:=0) (y:=fe) (by rw [hpk]; rfl)
        obtain ⟨yl,el,rl'⟩:=Paired.getR pe9 (i:=rl.length) (y:=le) (by rw [hpl]; simp)
        have hlast:∃ yr',es5=yr'++[yl]:=by
          rcases List.eq_nil_or_concat es5 with z | ⟨yr',yl',hyr⟩
          · rw [z] at ef; cases ef
          · rw [List.concat_eq_append] at hyr
            refine ⟨yr',?_⟩
            have l1:es5.length=rl.length + 1:=by rw [pe9.length,hpl]; simp
            have l2:yr'.length=rl.length:=by rw [hyr] at l1; simpa using l1
            rw [hyr,← l2] at el
            rw [hyr]
            simp at el
            rw [el]
        obtain ⟨yr',hyr⟩:=hlast
        have b1:=pick_first pm ps hpk
        have b2:=pick_last pm ps hpl
        have hbar:=(join_bar dok l1 l2 l3 l4 b1.1 b1.2 b2.1 b2.2).of
        rw [← alls_sum,d5'] at hbar
        refine ⟨_,rfl,E5,es5,_,_,rfl,rfl,.of (s59 _ _ g5),atI_nat (j:=0) ef,_,rfl,_,rfl,E5,es5,_,_,rfl,rfl,.of (s59 _ _ g5),by rw [hyr]; exact atI_last _ _,line1000 (by show 6≤1000; decide),fun p10 hp10=>?_⟩
        refine q p10 _ _ ((s1.trans (s15.trans s59)).trans (Same.upd hp10)) ((s1.trans (s15.trans s59)).free hp10) hbar ?_
        refine dat_bar ?_ (rf.same (Same.upd hp10)) (rl'.same (Same.upd hp10))
        rw [upd_same,alls_len,d5']
    · obtain ⟨d1,d2,d3,ds,d4,d5⟩:=h
      obtain ⟨es0,he0,hb⟩:=Paired.get pb hx
      have s1:Same H H1:=st.trans d3
      have etk:([es,es'].take (i + 1)).flatten=([es,es'].take i).flatten++es0:=by rw [List.take_add_one,he0]; simp
      cases hb with
      | non a o e h ob he =>
        subst e
        refine ⟨_,rfl,a,o,_,_,_,rfl,rfl,s1 _ _ h,ob,atI_nat (j:=0) rfl,_,_,rfl,rfl,_,rfl,iteF (LcNo.mk hi ⟨d1,by omega,d3,ds,d4,?_⟩)⟩
        rw [etk,he,d5]
        simp
      | some d he h =>
        obtain ⟨a,o,xf,xl,rfl,h2,h3,h4,h5,h6⟩:=h
        have hpos:0 < d.es.length:=List.length_pos_of_mem h6.h5
        have hdec:decide ((0:Int) < (d.es.length:Int))=true:=decide_eq_true (by omega)
        refine ⟨_,rfl,a,o,_,_,_,rfl,rfl,s1 _ _ h2,h3,atI_nat (j:=0) rfl,_,_,rfl,rfl,_,rfl,?_⟩
        rw [hdec]
        refine iteT ⟨_,rfl,LcNx.mk hi (by show 2≤1000; decide) d2 d1 ⟨upd_same,by rw [List.length_append]; show _ + 1≤_; omega,d3.but_ne hD,ds++[d],Paired.snoc ⟨a,o,xf,xl,rfl,h2,h3,h4,h5,h6⟩ d4,?_⟩⟩
        unfold alls at d5 ⊢
        rw [List.map_append,List.flatten_append,d5,etk,he]
        simp
end
end Pr
namespace L2
open PySem PySem.Spec PyProof.Rows
mutual
def noL:PyData→Bool
  | .list _=>false
  | .tuple ds=>noLs ds
  | .dict _=>false
  | _=>true
def noLs:List PyData→Bool
  | []=>true
  | d::ds=>noL d && noLs ds
end
mutual
theorem Dat.tups {H H':Hp} (s:∀ b xs,H b=some (.tup xs)→H' b=some (.tup xs)):∀ (d:PyData) (v:V),noL d=true→Dat H d v→Dat H' d v
  | .none,v,_,h=>by unfold Dat at h ⊢; exact h
  | .bool _,v,_,h=>by unfold Dat at h ⊢; exact h
  | .int _,v,_,h=>by unfold Dat at h ⊢; exact h
  | .str _,v,_,h=>by unfold Dat at h ⊢; exact h
  | .list ds,v,n,h=>by unfold noL at n; cases n
  | .tuple ds,v,n,h=>by
    unfold noL at n
    unfold Dat at h ⊢
    obtain ⟨a,xs,e,h1,h2⟩:=h
    exact ⟨a,xs,e,s _ _ h1,DatAll.tups s ds xs n h2⟩
  | .dict _,v,n,h=>by unfold noL at n; cases n
theorem DatAll.tups {H H':Hp} (s:∀ b xs,H b=some (.tup xs)→H' b=some (.tup xs)):∀ (ds:List PyData) (xs:List V),noLs ds=true→DatAll H ds xs→DatAll H' ds xs
  | [],xs,_,h=>by unfold DatAll at h ⊢; exact h
  | d::ds,xs,n,h=>by
    unfold noLs at n
    rw [Bool.and_eq_true] at n
    unfold DatAll at h ⊢
    obtain ⟨x,r,e,h1,h2⟩:=h
    exact ⟨x,r,e,Dat.tups s d x n.1 h1,DatAll.tups s ds r n.2 h2⟩
end
end L2
namespace Ent
open PySem
theorem bar_noL {es:List En} {b:PyData} (h:BarOf es b):L2.noL b=true:=by
  cases h with
  | non _ e=>rw [e]; rfl
  | some lo hi f l h1 h2 h3 h4 h5 h6 h7 h8 e=>rw [e]; rfl
end Ent
namespace Pr
open PySem L2 PyProof.Rows Ent
end Pr
namespace Ent
open PySem
theorem lf_bar {es:List En} {b:PyData} (hk:∀ e ∈ es,EnOk e) (hn:es.length≤1000) (h:BarOf es b):Lf b∧b.bulk≤40∧b.depth≤2:=by
  cases h with
  | non e1 e2 =>
    subst e2
    refine ⟨lf_tuple fun d hd=>?_,by decide,by decide⟩
    simp only [List.mem_cons,List.not_mem_nil,or_false] at hd
    rcases hd with rfl | rfl | rfl | rfl | rfl | rfl
    · exact lf_int (by decide)
    · exact lf_int (by decide)
    all_goals exact lf_none
  | some lo hi f l h1 h2 h3 h4 h5 h6 h7 h8 e =>
    subst e
    have hv:∀ v ∈ vals es,v.natAbs < 10 ^ 30:=fun v hv=>by
      obtain ⟨x,hx,rfl⟩:=List.mem_map.mp hv
      exact (hk x hx).v
    have hs:=sum_bound hv
    have hl:(vals es).length=es.length:=List.length_map ..
    refine ⟨lf_tuple fun d hd=>?_,?_,?_⟩
    · simp only [List.mem_cons,List.not_mem_nil,or_false] at hd
      rcases hd with rfl | rfl | rfl | rfl | rfl | rfl
      · exact lf_int (Nat.lt_of_le_of_lt (by rw [Int.natAbs_natCast]; exact hn) (by decide +kernel))
      · refine lf_int (Nat.lt_of_le_of_lt hs ?_)
        rw [hl]
        exact Nat.lt_of_le_of_lt (Nat.mul_le_mul_right _ hn) (by decide +kernel)
      · exact lf_int (le40 (hv _ h1))
      · exact lf_int (le40 (hv _ h3))
      · exact lf_eD (hk _ h5)
      · exact lf_eD (hk _ h7)
    · have a:=bulk_eD (hk _ h5)
      have b:=bulk_eD (hk _ h7)
      unfold barD
      simp only [PyData.bulk,PyData.bulkAll]
      omega
    · unfold barD
      simp only [PyData.depth,PyData.depthAll,depth_eD]
      omega
end Ent
namespace Pr
open PySem L2 PyProof.Rows Ent
theorem ent_of_dat {H:Hp} {x:V} {e:En} (h:Dat H (eD e) x):EntT H x e:=by
  unfold eD Dat at h
  obtain ⟨a,xs,e1,h1,h2⟩:=h
  unfold DatAll at h2
  obtain ⟨x1,r1,rfl,d1,h2⟩:=h2
  unfold DatAll at h2
  obtain ⟨x2,r2,rfl,d2,h2⟩:=h2
  unfold DatAll at h2
  obtain ⟨x3,r3,rfl,d3,h2⟩:=h2
  unfold DatAll at h2
  unfold Dat at d1 d2 d3
  subst h2 d1 d2 d3
  exact ⟨a,e1,h1⟩
def BT (H:Hp) (x:V) (es:List En):Prop:=∃ p b,x=.ref p∧Dat H b (.ref p)∧BarOf es b
theorem BT.same {H H':Hp} (s:Same H H') {x:V} {es:List En} (h:BT H x es):BT H' x es:=by
  obtain ⟨p,b,e,d,o⟩:=h
  exact ⟨p,b,e,d.same s _ _,o⟩
theorem BT.tups {H H':Hp} (s:∀ b xs,H b=some (.tup xs)→H' b=some (.tup xs)) {x:V} {es:List En} (h:BT H x es):BT H' x es:=by
  obtain ⟨p,b,e,d,o⟩:=h
  exact ⟨p,b,e,Dat.tups s _ _ (bar_noL o) d,o⟩
theorem BT.cases {H:Hp} {x:V} {es:List En} (h:BT H x es):(∃ p,x=.ref p∧es=[]∧H p=some (.tup [.int 0,.int 0,.non,.non,.non,.non])) ∨
    ∃ (p:Addr) (d:Bd) (xf xl:V),x=.ref p∧es=d.es∧d.Ok∧H p=some (.tup [.int d.es.length,.int (vals d.es).sum,.int d.lo,.int d.hi,xf,xl])∧EntT H xf d.f∧EntT H xl d.l:=by
  obtain ⟨p,b,rfl,d,o⟩:=h
  cases o with
  | non he e =>
    subst e
    left
    unfold emptyD Dat at d
    obtain ⟨a,xs,e1,h1,h2⟩:=d
    cases e1
    unfold DatAll at h2
    obtain ⟨x1,r1,rfl,d1,h2⟩:=h2
    unfold DatAll at h2
    obtain ⟨x2,r2,rfl,d2,h2⟩:=h2
    unfold DatAll at h2
    obtain ⟨x3,r3,rfl,d3,h2⟩:=h2
    unfold DatAll at h2
    obtain ⟨x4,r4,rfl,d4,h2⟩:=h2
    unfold DatAll at h2
    obtain ⟨x5,r5,rfl,d5,h2⟩:=h2
    unfold DatAll at h2
    obtain ⟨x6,r6,rfl,d6,h2⟩:=h2
    unfold DatAll at h2
    unfold Dat at d1 d2 d3 d4 d5 d6
    subst h2 d1 d2 d3 d4 d5 d6
    exact ⟨p,rfl,he,h1⟩
  | some lo hi f l g1 g2 g3 g4 g5 g6 g7 g8 e =>
    subst e
    right
    unfold barD Dat at d
    obtain ⟨a,xs,e1,h1,h2⟩:=d
    cases e1
    unfold DatAll at h2
    obtain ⟨x1,r1,rfl,d1,h2⟩:=h2
    unfold DatAll at h2
    obtain ⟨x2,r2,rfl,d2,h2⟩:=h2
    unfold DatAll at h2
    obtain ⟨x3,r3,rfl,d3,h2⟩:=h2
    unfold DatAll at h2
    obtain ⟨x4,r4,rfl,d4,h2⟩:=h2
    unfold DatAll at h2
    obtain ⟨x5,r5,rfl,d5,h2⟩:=h2
    unfold DatAll at h2
    obtain ⟨x6,r6,rfl,d6,h2⟩:=h2
    unfold DatAll at h2
    have e5:=ent_of_dat d5
    have e6:=ent_of_dat d6
    unfold Dat at d1 d2 d3 d4
    subst h2 d1 d2 d3 d4
    exact ⟨p,⟨es,lo,hi,f,l⟩,x5,x6,rfl,rfl,⟨g1,g2,g3,g4,g5,g6,g7,g8⟩,h1,e5,e6⟩
theorem BT.g {H:Hp} {x:V} {es:List En} (h:BT H x es):BarG H x es:=by
  rcases (BT.cases h) with ⟨p,e,he,h⟩ | ⟨p,d,xf,xl,e,he,ok,h,hf,hl⟩
  · exact .non p _ e h (.inr rfl) he
  · exact .some d he ⟨p,_,xf,xl,e,h,.inr rfl,hf.g,hl.g,ok⟩
end Pr
namespace L2
open PySem PySem.Spec PyProof.Rows
section
variable {κ:Type} [DecidableEq κ]
def valV (kvs:List (κ × V)) (k:κ):Option V:=(kvs.find? fun kv=>decide (kv.1=k)).map (·.2)
def putK (kvs:List (κ × V)) (k:κ) (v:V):List (κ × V) :=
  if (kvs.any fun kv=>decide (kv.1=k))=true then kvs.map (fun kv=>if kv.1=k then (kv.1,v) else kv) else kvs++[(k,v)]
theorem valV_pos {p:κ × V} {r:List (κ × V)} {k:κ} (e:p.1=k):valV (p::r) k=some p.2:=by simp [valV,List.find?_cons,e]
theorem valV_neg {p:κ × V} {r:List (κ × V)} {k:κ} (e:¬ p.1=k):valV (p::r) k=valV r k:=by simp [valV,List.find?_cons,e]
theorem valV_any (k:κ):∀ kvs:List (κ × V),(kvs.any fun kv=>decide (kv.1=k))=(valV kvs k).isSome
  | []=>rfl
  | p::r=>by
    rw [List.any_cons]
    by_cases e:p.1=k
    · simp only [valV_pos e,decide_eq_true e,Bool.true_or,Option.isSome_some]
    · rw [valV_neg e,decide_eq_false e,Bool.false_or]; exact valV_any k r
theorem valV_map (k j:κ) (y:V):∀ kvs:List (κ × V),valV (kvs.map fun kv=>if kv.1=k then (kv.1,y) else kv) j=(valV kvs j).map fun x=>if j=k then y else x
  | []=>rfl
  | p::r=>by
    have ih:=valV_map k j y r
    rw [List.map_cons]
    by_cases h:p.1=k
    · rw [if_pos h]
      by_cases e:p.1=j
      · rw [valV_pos (p:=(p.1,y)) e,valV_pos e,Option.map_some,if_pos (e.symm.trans h)]
      · rw [valV_neg (p:=(p.1,y)) e,valV_neg e,ih]
    · rw [if_neg h]
      by_cases e:p.1=j
      · rw [valV_pos (p:=p) e,valV_pos e,Option.map_some,if_neg (fun z=>h (e.trans z))]
      · rw [valV_neg (p:=p) e,valV_neg e,ih]
theorem valV_snoc (k j:κ) (y:V):∀ kvs:List (κ × V),valV kvs k=none→valV (kvs++[(k,y)]) j=if j=k then some y else valV kvs j
  | [],_=>by
    by_cases e:k=j
    · rw [if_pos e.symm]; exact valV_pos (p:=(k,y)) e
    · rw [if_neg (fun z=>e z.symm)]; exact valV_neg (p:=(k,y)) e
  | p::r,hn=>by
    rw [List.cons_append]
    have hk:¬ p.1=k:=fun z=>by rw [valV_pos z] at hn; cases hn
    rw [valV_neg hk] at hn
    have ih:=valV_snoc k j y r hn
    by_cases e:p.1=j
    · rw [valV_pos e,valV_pos e,if_neg (fun z=>hk (e.trans z))]
    · rw [valV_neg e,valV_neg e,ih]
theorem valV_put (kvs:List (κ × V)) (k j:κ) (y:V):valV (putK kvs k y) j=if j=k then some y else valV kvs j:=by
  unfold putK
  by_cases a:(kvs.any fun kv=>decide (kv.1=k))=true
  · rw [if_pos a,valV_map]
    rw [valV_any] at a
    by_cases e:j=k
    · obtain ⟨x,hx⟩:=Option.isSome_iff_exists.mp a
      rw [if_pos e,e,hx,Option.map_some,if_pos rfl]
    · rw [if_neg e]
      cases valV kvs j with
      | none=>rfl
      | some x=>rw [Option.map_some,if_neg e]
  · rw [if_neg a]
    refine valV_snoc k j y kvs ?_
    rw [valV_any] at a
    cases q:valV kvs k with
    | none=>rfl
    | some x=>rw [q] at a; exact (a rfl).elim
theorem length_putK (kvs:List (κ × V)) (k:κ) (v:V):(putK kvs k v).length≤kvs.length + 1:=by
  unfold putK
  split
  · rw [List.length_map]; omega
  · rw [List.length_append,List.length_cons,List.length_nil]; omega
theorem putK_new {kvs:List (κ × V)} {k:κ} (v:V) (h:valV kvs k=none):putK kvs k v=kvs++[(k,v)]:=by
  unfold putK
  rw [valV_any,h]
  exact if_neg (by decide)
theorem RelO.isSome_eq {o:Option V} {u:Option Value} (r:RelO o u):o.isSome=u.isSome:=by
  cases o with
  | none=>cases u with
    | none=>rfl
    | some _=>exact (show False from r).elim
  | some _=>cases u with
    | none=>exact (show False from r).elim
    | some _=>rfl
theorem RelO.getD {o:Option V} {u:Option Value} {d:V} {d':Value} (r:RelO o u) (rd:RelV d d'):RelV (o.getD d) (u.getD d'):=by
  cases o with
  | none=>cases u with
    | none=>exact rd
    | some _=>exact (show False from r).elim
  | some _=>cases u with
    | none=>exact (show False from r).elim
    | some _=>exact r
theorem KV.val {kvs:List (κ × V)} {vs:List (κ × Value)} (r:KV kvs vs) (k:κ):RelO (valV kvs k) (valueAt vs k):=by
  unfold KV at r
  induction r with
  | nil=>exact True.intro
  | @cons p q ps qs h t ih =>
    obtain ⟨h1,h2⟩:=h
    by_cases e:p.1=k
    · have e':q.1=k:=h1.symm.trans e
      have b:valueAt (q::qs) k=some q.2:=by simp [valueAt,List.find?_cons,e']
      rw [valV_pos e,b]; exact h2
    · have e':¬ q.1=k:=fun z=>e (h1.trans z)
      have b:valueAt (q::qs) k=valueAt qs k:=by simp [valueAt,List.find?_cons,e']
      rw [valV_neg e,b]; exact ih
theorem KV.any {kvs:List (κ × V)} {vs:List (κ × Value)} (r:KV kvs vs) (k:κ):(kvs.any fun kv=>decide (kv.1=k))=vs.any fun kv=>decide (kv.1=k):=by
  unfold KV at r
  induction r with
  | nil=>rfl
  | cons h t ih=>rw [List.any_cons,List.any_cons,ih,h.1]
theorem KV.repl {kvs:List (κ × V)} {vs:List (κ × Value)} (r:KV kvs vs) (k:κ) {y:V} {u:Value} (ry:RelV y u) :
    KV (kvs.map fun kv=>if kv.1=k then (kv.1,y) else kv) (vs.map fun kv=>if kv.1=k then (kv.1,u) else kv):=by
  unfold KV at r ⊢
  induction r with
  | nil=>exact .nil
  | @cons p q ps qs h t ih =>
    rw [List.map_cons,List.map_cons]
    refine .cons ?_ ih
    obtain ⟨h1,h2⟩:=h
    by_cases e:p.1=k
    · rw [if_pos e,if_pos (h1.symm.trans e)]; exact ⟨h1,ry⟩
    · rw [if_neg e,if_neg (fun z=>e (h1.trans z))]; exact ⟨h1,h2⟩
theorem KV.put {kvs:List (κ × V)} {vs:List (κ × Value)} (r:KV kvs vs) (k:κ) {y:V} {u:Value} (ry:RelV y u):KV (putK kvs k y) (stored vs k u):=by
  unfold putK stored
  rw [r.any k]
  by_cases e:(vs.any fun kv=>decide (kv.1=k))=true
  · rw [if_pos e,if_pos e]; exact r.repl k ry
  · rw [if_neg e,if_neg e]; exact PySem.Paired.snoc r ⟨rfl,ry⟩
theorem KV.length {kvs:List (κ × V)} {vs:List (κ × Value)} (r:KV kvs vs):kvs.length=vs.length:=Paired.length r
end
theorem kV_is {P:Program} {w:World} {k:Key} {u:Value} (r:RelV (kV k) u):(mixKind P w).is k u=true:=by
  cases k with
  | inl i=>obtain ⟨t,e⟩:=(show ∃ t,u=Value.int i t from r); subst e; exact mixKind_int P w i t
  | inr x=>obtain ⟨t,e⟩:=(show ∃ t,u=Value.str x t from r); subst e; exact mixKind_str P w x t
theorem items_are {P:Program} {w:World}:∀ {ks:List Key} {us:List Value},Vals (ks.map kV) us→ItemsAre (mixKind P w) ks us
  | [],_,r=>by rw [List.map_nil] at r; cases r; exact .nil
  | k::ks,_,r=>by
    rw [List.map_cons] at r
    cases r with
    | cons h t=>exact .cons (kV_is h) (items_are t)
abbrev KT (H:Hp):List (List Key × V)→List (List Key × Addr × Value)→Prop:=Paired fun p q=>p.1=q.1∧H q.2.1=some (.tup (p.1.map kV))∧RelV p.2 q.2.2
theorem KT.val {H:Hp} {kvs:List (List Key × V)} {xs:List (List Key × Addr × Value)} (r:KT H kvs xs) (k:List Key):RelO (valV kvs k) ((atKey xs k).map (·.2)):=by
  induction r with
  | nil=>exact True.intro
  | @cons p q ps qs h t ih =>
    obtain ⟨h1,_,h2⟩:=h
    by_cases e:p.1=k
    · have e':q.1=k:=h1.symm.trans e
      have b:atKey (q::qs) k=some q.2:=by simp [atKey,List.find?_cons,e']
      rw [valV_pos e,b]; exact h2
    · have e':¬ q.1=k:=fun z=>e (h1.trans z)
      have b:atKey (q::qs) k=atKey qs k:=by simp [atKey,List.find?_cons,e']
      rw [valV_neg e,b]; exact ih
theorem KT.repl {H:Hp} {kvs:List (List Key × V)} {xs:List (List Key × Addr × Value)} (r:KT H kvs xs) (k:List Key) {y:V} {u:Value} (ry:RelV y u) :
    KT H (kvs.map fun kv=>if kv.1=k then (kv.1,y) else kv) (xs.map (putAt k u)):=by
  induction r with
  | nil=>exact .nil
  | @cons p q ps qs h t ih =>
    rw [List.map_cons,List.map_cons]
    refine .cons ?_ ih
    obtain ⟨h1,h2,h3⟩:=h
    unfold putAt
    by_cases e:p.1=k
    · rw [if_pos e,if_pos (h1.symm.trans e)]; exact ⟨h1,h2,ry⟩
    · rw [if_neg e,if_neg (fun z=>e (h1.trans z))]; exact ⟨h1,h2,h3⟩
theorem KT.put {H:Hp} {kvs:List (List Key × V)} {xs:List (List Key × Addr × Value)} (r:KT H kvs xs) (k:List Key) {b:Addr} {y:V} {u:Value} (hb:H b=some (.tup (k.map kV))) (ry:RelV y u) :
    KT H (putK kvs k y) (storedH xs k b u):=by
  have e:(kvs.any fun kv=>decide (kv.1=k))=(atKey xs k).isSome:=by
    rw [valV_any,(r.val k).isSome_eq,Option.isSome_map]
  unfold putK storedH
  rw [e]
  by_cases q:(atKey xs k).isSome=true
  · rw [if_pos q,if_pos q]; exact r.repl k ry
  · rw [if_neg q,if_neg q]; exact PySem.Paired.snoc r ⟨rfl,hb,ry⟩
theorem KT.keeps {H H':Hp} {kvs:List (List Key × V)} {xs:List (List Key × Addr × Value)} (r:KT H kvs xs) (ht:∀ b ys,H b=some (.tup ys)→H' b=some (.tup ys)):KT H' kvs xs :=
  Paired.mapP r fun _ _ z=>⟨z.1,ht _ _ z.2.1,z.2.2⟩
section
variable {P:Program} {w:World} {H:Hp} {h:Heap} {a:Addr}
theorem rd_of {u:HO} (ok:HOk P w H h) (e:Rd H a u):ObjOk P w H h a u:=e.ok ok
theorem dk_rd {kvs:List (Key × V)} (ok:HOk P w H h) (e:Rd H a (.dK kvs)):kvs.length≤sizeLine∧(a == sysModules)=false∧∃ vs,KV kvs vs∧h.DictOf (mixKind P w) a vs :=
  show ObjOk P w H h a (.dK kvs) from rd_of ok e
theorem dk_of {kvs:List (Key × V)} (ok:HOk P w H h) (e:H a=some (.dK kvs)):kvs.length≤sizeLine∧(a == sysModules)=false∧∃ vs,KV kvs vs∧h.DictOf (mixKind P w) a vs:=dk_rd ok (.inl e)
theorem key_of {ks:List Key} (ok:HOk P w H h) (e:H a=some (.tup (ks.map kV))):(tupleKind (mixKind P w)).is h ks a:=by
  obtain ⟨_,its,r,o,h1,h2,n,h3⟩:=(show ObjOk P w H h a (.tup (ks.map kV)) from ok a _ e)
  exact ⟨o,its.toArray,n,h1,h2,h3,by simpa using items_are r⟩
theorem dt_rd {kvs:List (List Key × V)} (ok:HOk P w H h) (e:Rd H a (.dT kvs)):kvs.length≤sizeLine∧(a == sysModules)=false ∧
    ∃ xs,KT H kvs xs∧h.DictOfH (tupleKind (mixKind P w)) a xs:=by
  obtain ⟨z,y,xs,r,o,es,ep,h1,h2,h3,h4,h5⟩:=(show ObjOk P w H h a (.dT kvs) from rd_of ok e)
  refine ⟨z,y,xs,r,o,es,ep,h1,h2,h3,h4,fun x hx=>?_,h5⟩
  have all:∀ {l:List (List Key × V)} {m:List (List Key × Addr × Value)},KT H l m→∀ x ∈ m,(tupleKind (mixKind P w)).is h x.1 x.2.1:=by
    intro l m q
    induction q with
    | nil=>intro x hx; exact nomatch hx
    | @cons p q ps qs hq t ih =>
      intro x hx
      rcases List.mem_cons.mp hx with e | hx
      · subst e
        exact key_of ok (by rw [← hq.1]; exact hq.2.1)
      · exact ih x hx
  exact all r x hx
theorem dt_of {kvs:List (List Key × V)} (ok:HOk P w H h) (e:H a=some (.dT kvs)):kvs.length≤sizeLine∧(a == sysModules)=false ∧
    ∃ xs,KT H kvs xs∧h.DictOfH (tupleKind (mixKind P w)) a xs:=dt_rd ok (.inl e)
end
def DGet (H:Hp) (a:Addr) (y:V) (r:Option V):Prop :=
  (∃ kvs k,Rd H a (.dK kvs)∧y=kV k∧r=valV kvs k)∨∃ kvs k b,Rd H a (.dT kvs)∧y=.ref b∧H b=some (.tup (k.map kV))∧r=valV kvs k
def DPut (H:Hp) (a:Addr) (y v:V) (H':Hp):Prop :=
  (∃ kvs k,H a=some (.dK kvs)∧y=kV k∧kvs.length < sizeLine∧H'=upd H a (.dK (putK kvs k v))) ∨
  ∃ kvs k b,H a=some (.dT kvs)∧y=.ref b∧H b=some (.tup (k.map kV))∧kvs.length < sizeLine∧H'=upd H a (.dT (putK kvs k v))
theorem DGet.k {H:Hp} {a:Addr} {kvs:List (Key × V)} {k:Key} (e:H a=some (.dK kvs)):DGet H a (kV k) (valV kvs k):=.inl ⟨kvs,k,.inl e,rfl,rfl⟩
theorem DPut.k {H:Hp} {a:Addr} {kvs:List (Key × V)} {k:Key} {v:V} (e:H a=some (.dK kvs)) (hl:kvs.length < sizeLine):DPut H a (kV k) v (upd H a (.dK (putK kvs k v))):=.inl ⟨kvs,k,e,rfl,hl,rfl⟩
section
variable {X:Cx} {pins:List (Addr × Obj)} {σ:St} {H:Hp} {s:Shared} {a:Addr} {y v:V} {u r:Value} {o:Option V} {A:Around} {E:Value→Shared→Prop}
theorem Inv.big (I:Inv X pins σ H s):sysModules < s.heap.objs.size:=by
  have h:mainGlobals < s.heap.objs.size:=(I.mod.glob.keeps I.bk).lt
  exact Nat.lt_trans (by decide) h
theorem d_getItem {Q:Value→Shared→Prop} (hu:A.units + 1 < cLine) (I:Inv X pins σ H s) (g:DGet H a y (some v)) (ry:RelV y u) (h:∀ w' s',Inv X pins σ H s'→RelV v w'→Q w' s') :
    wpAny (model X.prog X.w) A (getItem (.ref a) u) Q E s:=by
  rcases g with ⟨kvs,k,e,ey,l⟩ | ⟨kvs,k,b,e,ey,eb,l⟩
  · subst ey
    obtain ⟨z,hd,vs,rel,dd⟩:=dk_rd I.hok e
    obtain ⟨w',hw,rw'⟩:=RelO.some_of (v:=v) (o:=valueAt vs k) (by rw [l]; exact rel.val k)
    exact wpAny_getItem_of (kV_is ry) dd.mapOf hw (h w' _ (I.tok _) rw')
  · subst ey
    cases (show u=Value.ref b from ry)
    obtain ⟨z,hd,xs,rel,dd⟩:=dt_rd I.hok e
    obtain ⟨w',hw,rw'⟩:=RelO.some_of (v:=v) (o:=(atKey xs k).map (·.2)) (by rw [l]; exact rel.val k)
    obtain ⟨p,hp,hp2⟩:=Option.map_eq_some_iff.mp hw
    refine wpAny_getItem_heap (tupleKind_room_in1 hu) (key_of I.hok eb) dd hp ?_
    rw [hp2]
    exact h w' _ (I.tok _) rw'
theorem d_write {h':Heap} {t':Nat} {ob:HO} (I:Inv X pins σ H s) (mu:Mut (H a)) (hs:Heap.SameBut a s.heap h') (he:∃ q,h'.get? a=some q) (new:ObjOk X.prog X.w (upd H a ob) h' a ob) :
    Inv X pins σ (upd H a ob) { s with heap:=h',toks:=t' } :=
  I.write (x:=a) (e:=a) mu (.inl rfl) (fun b q hb z=>(hs.2 b hb).trans z) he new
theorem dk_new {P:Program} {w:World} {H':Hp} {h':Heap} {kvs:List (Key × V)} {vs:List (Key × Value)} (z:kvs.length≤sizeLine) (hd:(a == sysModules)=false) (rel:KV kvs vs) (dd:h'.DictOf (mixKind P w) a vs) :
    ObjOk P w H' h' a (.dK kvs):=⟨z,hd,vs,rel,dd⟩
theorem d_setItem {H':Hp} {Q:Unit→Shared→Prop} (hu:A.units + 1 < cLine) (I:Inv X pins σ H s) (g:DPut H a y v H') (ry:RelV y u) (rv:RelV v r) (h:∀ s',Inv X pins σ H' s'→Q () s') :
    wpAny (model X.prog X.w) A (setItem (.ref a) u r) Q E s:=by
  rcases g with ⟨kvs,k,e,ey,l,eH⟩ | ⟨kvs,k,b,e,ey,eb,l,eH⟩
  · subst ey eH
    obtain ⟨z,hd,vs,rel,dd⟩:=dk_of I.hok e
    have hz:vs.length≤sizeLine:=by rw [← rel.length]; exact z
    have hl:(putK kvs k v).length≤sizeLine:=by have:=length_putK kvs k v; omega
    refine wpAny_setItem_pairs (hsz:=hz) (kV_is ry) dd fun h' dd' hs=>h _ ?_
    have he:∃ q,h'.get? a=some q:=let ⟨q,_,_,hq,_⟩:=dd'; ⟨q,hq⟩
    exact d_write I (by rw [e]; exact True.intro) hs he (dk_new hl hd (rel.put k rv) dd')
  · subst ey eH
    cases (show u=Value.ref b from ry)
    obtain ⟨z,hd,xs,rel,dd⟩:=dt_of I.hok e
    have hz:xs.length≤sizeLine:=by rw [← Paired.length rel]; exact z
    have hl:(putK kvs k v).length≤sizeLine:=by have:=length_putK kvs k v; omega
    refine wpAny_setItem_heap (hsz:=hz) (tupleKind_room_in1 hu) (key_of I.hok eb) dd fun h' dd' hs=>h _ ?_
    obtain ⟨q,es,ep,hq,h2,h3,h4,_,h5⟩:=dd'
    refine d_write I (by rw [e]; exact True.intro) hs ⟨q,hq⟩ ⟨hl,hd,_,(rel.put k eb rv).keeps fun c ys ec=>?_,q,es,ep,hq,h2,h3,h4,h5⟩
    rw [upd_ne (ne_of ec e (fun z=>nomatch z))]
    exact ec
end
section
variable {X:Cx} {pins:List (Addr × Obj)} {σ:St} {H:Hp} {s:Shared} {a:Addr} {kvs:List (Key × V)} {k:Key} {u:Value} {A:Around} {E:Value→Shared→Prop}
end
def NoSl (i:Expr):Prop:=∀ ov iv,subscripted i false ov iv=operate [ov,iv] (getItem ov iv)
theorem subD_of {prog:Program} {w:World} {A:Around} {E:Value→Shared→Prop} {s:Shared} {env:Env} {value slice:Expr} {pos:Pos} {T id:String} {Q:Value→Shared→Prop}
    (hl:typeLookup (.type T) "__getitem__"=pure (some (.builtin id))) (hs:NoSl slice)
    (h:wpAny (model prog w) A (eval value env) (fun o s₁=>wpAny (model prog w) A (eval slice env) (fun i s₂=>s₂.TypeIs o T∧wpAny (model prog w) A (getItem o i) Q E s₂) E s₁) E s) :
    wpAny (model prog w) A (eval (.Subscript value slice pos) env) Q E s:=by
  refine Subscript_ (wpAny_mono h (fun o s₁ h₁=>wpAny_mono h₁ (fun i s₂ h₂=>?_) fun _ _ x=>x) fun _ _ x=>x)
  obtain ⟨hT,h₂⟩:=h₂
  unfold subscriptTail
  refine wpAny_bind ?_
  rw [getitemInPython_of_ne hT.not_modules]
  refine wpAny_bind (wpAny_specialOf hT hl ?_)
  have fin:wpAny (model prog w) A (subscripted slice false o i) (fun r s₃=>wpAny (model prog w) A (letTemporaryGo value o r >>= fun _=>pure r) Q E s₃) E s₂:=by
    rw [hs o i]
    exact wpAny_operating (wpAny_mono h₂ (fun r s₃ h₃=>wpAny_bind (wpAny_letTemporaryGo (wpAny_pure h₃))) fun _ _ x=>x)
  first
    | exact wpAny_pure (wpAny_bind fin)
    | exact wpAny_bind (wpAny_pure (wpAny_bind fin))
    | exact wpAny_bind fin
theorem dict_typeIs {X:Cx} {pins:List (Addr × Obj)} {σ:St} {H:Hp} {s:Shared} {a:Addr} {y:V} {o:Option V} (I:Inv X pins σ H s) (g:DGet H a y o):s.TypeIs (.ref a) "dict":=by
  rcases g with ⟨kvs,k,e,_,_⟩ | ⟨kvs,k,b,e,_,_,_⟩
  · obtain ⟨_,_,vs,_,dd⟩:=dk_rd I.hok e
    exact dd.typeIs
  · obtain ⟨_,_,xs,_,dd⟩:=dt_rd I.hok e
    exact dd.typeIs
def tDGet (td ty:TE):TE:=fun σ H Q=>td σ H fun x H1=>ty σ H1 fun y H2=>∃ a v,x=.ref a∧DGet H2 a y (some v)∧Q v H2
def sDPut (td ty tv:TE):TS:=fun D σ H=>tv σ H fun v H1=>td σ H1 fun x H2=>ty σ H2 fun y H3=>∃ a H4,x=.ref a∧DPut H3 a y v H4∧D.nx σ H4
section
variable {X:Cx} {o i e value:Expr} {pos pos' tpos:Pos} {td ty tv:TE}
theorem pe_dget (hu:X.A.units + 1 < cLine) (ho:PE X o td) (hi:PE X i ty) (hs:NoSl i):PE X (.Subscript o i pos) (tDGet td ty):=by
  refine ⟨?_⟩
  intro pins s σ H Q I h
  refine subD_of PySem.F.slot_dict_getitem.lookup hs (thn (ho pins s σ H _ I h) fun u s1 ⟨x,H1,I1,rx,q1⟩=>thn (hi pins s1 σ H1 _ I1 q1) fun iv s2 ⟨y,H2,I2,ry,a,v,ex,g,q2⟩=>?_)
  subst ex
  obtain rfl:u=Value.ref a:=rx
  exact ⟨dict_typeIs I2 g,d_getItem hu I2 g ry fun w' s3 I3 rw'=>⟨v,H2,I3,rw',q2⟩⟩
theorem ps_dput (hu:X.A.units + 1 < cLine) (ho:PE X o td) (hi:PE X i ty) (hv:PE X value tv) (hs:swapsWith value (some (.Subscript o i pos')) pos.line X.env=pure false) :
    PS X (.Assign [.Subscript o i pos'] value pos) (sDPut td ty tv):=by
  refine ⟨?_⟩
  intro pins s σ H D I h
  refine wpAny_Assign_Subscript (thn (hv pins s σ H _ I h) fun r s1 ⟨v,H1,I1,rv,q1⟩=>thn (ho pins s1 σ H1 _ I1 q1) fun u s2 ⟨x,H2,I2,rx,q2⟩=>thn (hi pins s2 σ H2 _ I2 q2) fun iv s3 ⟨y,H3,I3,ry,a,H4,ex,g,q3⟩=>?_) hs
  subst ex
  obtain rfl:u=Value.ref a:=rx
  exact d_setItem hu I3 g ry rv fun s4 I4=>⟨σ,H4,I4,q3⟩
end
theorem dk_empty {P:Program} {w:World} {H:Hp} (h:Heap) (hb:sysModules < h.objs.size):ObjOk P w H (h.push { cls:=.type "dict",data:=.dict #[] }) h.objs.size (.dK []) :=
  ⟨Nat.zero_le _,beq_eq_false_iff_ne.mpr (Ne.symm (Nat.ne_of_lt hb)),[],.nil,Heap.DictOf.new h⟩
def tDNewK:TE:=fun _ H Q=>∀ p,H p=none→Q (.ref p) (upd H p (.dK []))
section
variable {X:Cx} {pos:Pos}
theorem pe_dnewK:PE X (.Dict [] [] pos) tDNewK:=.mk fun pins s σ H Q I h =>
  wpAny_Dict_empty ⟨.ref s.heap.objs.size,_,I.laid (a:=s.heap.objs.size) (o:=.dK []) (t':=s.toks) (fun _ _ q=>Heap.get?_push_of_some _ q) (Nat.le_refl _) (dk_empty s.heap I.big),rfl,h _ (I.hok.fresh (Nat.le_refl _))⟩
end
structure M2 (X:Cx) (o:Expr) (m:Str) (apos:Pos) (e f:Expr) (cpos:Pos):Prop where
  base:attributeBase o m X.env (eval o X.env)=eval o X.env
  few:((backTo cpos (starEach [e,f] X.env)).all (fun x=>!x.1) && (backToKw cpos (keywordEach [] X.env)).all (fun x=>x.1.isSome)
    && decide (([e,f]:List Expr).length + ([]:List Keyword).length + (if ([]:List Keyword).isEmpty then 0 else 1) < 30))=true
  line:(apos.endLine == cpos.line)=true
  trees:backTo cpos (starEach [e,f] X.env)=[(false,eval e X.env),(false,eval f X.env)]
def IsD (H:Hp) (a:Addr):Prop:=(∃ kvs,Rd H a (.dK kvs))∨∃ kvs,Rd H a (.dT kvs)
theorem isD_at {X:Cx} {pins:List (Addr × Obj)} {σ:St} {H:Hp} {s:Shared} {a:Addr} (I:Inv X pins σ H s) (d:IsD H a) :
    s.TypeIs (.ref a) "dict"∧(∀ b,Value.ref a=.ref b→∃ ob,s.heap.get? b=some ob∧ob.dict=none)∧(a == sysModules)=false:=by
  rcases d with ⟨kvs,e⟩ | ⟨kvs,e⟩
  · obtain ⟨_,hd,vs,_,dd⟩:=dk_rd I.hok e
    refine ⟨dd.typeIs,fun b q=>?_,hd⟩
    cases q
    obtain ⟨ob,_,_,h1,h2,_⟩:=dd
    exact ⟨ob,h1,h2.2.1⟩
  · obtain ⟨_,hd,xs,_,dd⟩:=dt_rd I.hok e
    refine ⟨dd.typeIs,fun b q=>?_,hd⟩
    cases q
    obtain ⟨ob,_,_,h1,h2,_⟩:=dd
    exact ⟨ob,h1,h2.2.1⟩
section
variable {X:Cx} {pins:List (Addr × Obj)} {σ:St} {H:Hp} {s:Shared} {a:Addr} {y d:V} {u r:Value} {o:Option V} {A:Around} {E:Value→Shared→Prop}
theorem d_get2 {Q:Value→Shared→Prop} (hu:A.units + 1 < cLine) (I:Inv X pins σ H s) (g:DGet H a y o) (ry:RelV y u) (rd:RelV d r) (h:∀ w' s',Inv X pins σ H s'→RelV (o.getD d) w'→Q w' s') :
    wpAny (model X.prog X.w) A (call (.builtin "dict.get") [.ref a,u,r]) Q E s:=by
  rcases g with ⟨kvs,k,e,ey,l⟩ | ⟨kvs,k,b,e,ey,eb,l⟩
  · subst ey
    obtain ⟨z,hd,vs,rel,dd⟩:=dk_rd I.hok e
    refine call_meetsIn PySem.F.slot_dict_get dd.typeIs PySem.F.entry_dict_get (PySem.F.args_dict_get_3 _ _ _) (meets_dict_get_default (mixKind X.prog X.w) a (kV_is ry) hd r) ⟨_,dd.mapOf,h _ _ (I.tok _) ?_⟩
    rw [l]
    exact (rel.val k).getD rd
  · subst ey
    cases (show u=Value.ref b from ry)
    obtain ⟨z,hd,xs,rel,dd⟩:=dt_rd I.hok e
    refine call_meetsIn PySem.F.slot_dict_get dd.typeIs PySem.F.entry_dict_get (PySem.F.args_dict_get_3 _ _ _) (meetsH_dict_get_default (tupleKind (mixKind X.prog X.w)) a b hd r) ⟨tupleKind_room_in1 hu,k,xs,key_of I.hok eb,dd,h _ _ (I.tok _) ?_⟩
    rw [l]
    exact (rel.val k).getD rd
end
def tDGet2 (td ty tx:TE):TE:=fun σ H Q=>td σ H fun x H1=>∃ a,x=.ref a∧IsD H1 a∧ty σ H1 fun y H2=>tx σ H2 fun z H3=>∃ o,DGet H3 a y o∧Q (o.getD z) H3
section
variable {X:Cx} {o e f:Expr} {apos cpos:Pos} {td ty tx:TE}
theorem pe_dget2 (hu:X.A.units + 1 < cLine) (ho:PE X o td) (he:PE X e ty) (hf:PE X f tx) (m:M2 X o "get" apos e f cpos):PE X (.Call (.Attribute o "get" apos) [e,f] [] cpos) (tDGet2 td ty tx):=by
  refine ⟨?_⟩
  intro pins s σ H Q I h
  refine wpAny_Call_method m.base m.few m.line PySem.F.plainAttrs_dict PySem.F.slot_dict_get PySem.F.type_dict_get (thn (ho pins s σ H _ I h) fun u s1 ⟨x,H1,I1,rx,a,ex,d,q1⟩=>?_)
  subst ex
  obtain rfl:u=Value.ref a:=rx
  obtain ⟨t1,t2,_⟩:=isD_at I1 d
  refine ⟨t1,t2,?_⟩
  rw [m.trees]
  refine Calls.callWith_builtin rfl (Calls.evalArgs_plain (Calls.spliced_cons (thn (he pins s1 σ H1 _ I1 q1) fun iv s2 ⟨y,H2,I2,ry,q2⟩ =>
    Calls.spliced_cons (thn (hf pins s2 σ H2 _ I2 q2) fun fv s3 ⟨z,H3,I3,rz,ov,g,q3⟩=>Calls.spliced_nil ?_))))
  exact d_get2 hu I3 g ry rz fun w' s4 I4 rw'=>⟨_,H3,I4,rw',q3⟩
end
section
variable {X:Cx} {pins:List (Addr × Obj)} {σ:St} {H:Hp} {s:Shared} {a:Addr} {kvs:List (Key × V)} {A:Around} {E:Value→Shared→Prop}
end
section
variable {X:Cx} {pins:List (Addr × Obj)} {σ:St} {H:Hp} {s:Shared} {a:Addr} {y:V} {u:Value} {A:Around} {E:Value→Shared→Prop}
end
end L2
namespace Ss
open PySem
def Rise (xs:Array Nat):Prop:=xs.toList.Pairwise (· < ·)
theorem Rise.lt {xs:Array Nat} (R:Rise xs) {i k:Nat} (h:i < k) (hk:k < xs.size):xs.getD i 0 < xs.getD k 0:=by
  have hl:k < xs.toList.length:=by rw [Array.length_toList]; exact hk
  have:=List.pairwise_iff_getElem.mp R i k (by omega) hl h
  simpa [Array.getD,hk,Nat.lt_trans h hk] using this
theorem go_ok {xs:Array Nat} (R:Rise xs) (j:Nat):∀ (f lo hi:Nat),hi - lo≤f→lo≤hi→hi≤xs.size→(∀ i,i < lo→xs.getD i 0 < j)→(∀ i,hi≤i→i < xs.size→j≤xs.getD i 0) →
    SetTable.below.go xs j f lo hi≤xs.size∧(∀ i,i < SetTable.below.go xs j f lo hi→xs.getD i 0 < j)∧(∀ i,SetTable.below.go xs j f lo hi≤i→i < xs.size→j≤xs.getD i 0)
  | 0,lo,hi,h1,h2,h3,h4,h5=>by
    have e:lo=hi:=by omega
    subst e
    exact ⟨h3,h4,h5⟩
  | f + 1,lo,hi,h1,h2,h3,h4,h5=>by
    unfold SetTable.below.go
    split
    · rename_i hlt
      dsimp only
      have hm:(lo + hi) / 2 < xs.size:=by omega
      have e:xs.getD ((lo + hi) / 2) j=xs.getD ((lo + hi) / 2) 0:=by simp [Array.getD,hm]
      rw [e]
      by_cases hl:xs.getD ((lo + hi) / 2) 0 < j
      · rw [if_pos hl]
        refine go_ok R j f ((lo + hi) / 2 + 1) hi (by omega) (by omega) h3 (fun i hi'=>?_) h5
        rcases Nat.lt_or_ge i ((lo + hi) / 2) with z | z
        · exact Nat.lt_trans (R.lt z hm) hl
        · rw [show i=(lo + hi) / 2 by omega]; exact hl
      · rw [if_neg hl]
        refine go_ok R j f lo ((lo + hi) / 2) (by omega) (by omega) (by omega) h4 (fun i h6 h7=>?_)
        rcases Nat.lt_or_ge ((lo + hi) / 2) i with z | z
        · have:=R.lt z h7; omega
        · rw [show i=(lo + hi) / 2 by omega]; omega
    · have e:lo=hi:=by omega
      subst e
      exact ⟨h3,h4,h5⟩
theorem below_ok {xs:Array Nat} (R:Rise xs) (j:Nat):SetTable.below xs j≤xs.size∧(∀ i,i < SetTable.below xs j→xs.getD i 0 < j)∧(∀ i,SetTable.below xs j≤i→i < xs.size→j≤xs.getD i 0) :=
  go_ok R j xs.size 0 xs.size (by omega) (by omega) (Nat.le_refl _) (fun i h=>by omega) (fun i h1 h2=>by omega)
theorem getD_at {xs:Array Nat} {i:Nat} (h:i < xs.size):xs[i]?=some (xs.getD i 0):=by simp [Array.getD,h]
theorem rise_insert {xs:Array Nat} (R:Rise xs) {j:Nat} (hn:xs[SetTable.below xs j]?≠some j):Rise (SetTable.insertAt xs (SetTable.below xs j) j):=by
  obtain ⟨b1,b2,b3⟩:=below_ok R j
  generalize SetTable.below xs j=p at *
  unfold Rise
  rw [SetTable.toList_insertAt]
  have gl:∀ i (h:i < xs.toList.length),xs.toList[i]=xs.getD i 0:=fun i h=>by
    have h':i < xs.size:=by rw [Array.length_toList] at h; exact h
    simp [Array.getD,h']
  have hd:∀ b ∈ xs.toList.drop p,j < b:=fun b hb=>by
    obtain ⟨i,hi,rfl⟩:=List.getElem_of_mem hb
    rw [List.length_drop,Array.length_toList] at hi
    rw [List.getElem_drop,gl]
    have h1:=b3 (p + i) (by omega) (by omega)
    rcases Nat.lt_or_ge j (xs.getD (p + i) 0) with z | z
    · exact z
    · exfalso
      have e:xs.getD (p + i) 0=j:=by omega
      rcases Nat.eq_zero_or_pos i with z0 | z0
      · subst z0
        exact hn (by rw [getD_at (by omega)]; exact congrArg some e)
      · have:=R.lt (i:=p) (k:=p + i) (by omega) (by omega)
        have:=b3 p (Nat.le_refl _) (by omega)
        omega
  rw [List.pairwise_append]
  refine ⟨R.sublist (List.take_sublist _ _),List.pairwise_cons.mpr ⟨hd,R.sublist (List.drop_sublist _ _)⟩,fun a ha b hb=>?_⟩
  obtain ⟨i,hi,rfl⟩:=List.getElem_of_mem ha
  rw [List.length_take,Array.length_toList] at hi
  rw [List.getElem_take,gl]
  have h1:=b2 i (by omega)
  rcases List.mem_cons.mp hb with e | e
  · rw [e]; exact h1
  · exact Nat.lt_trans h1 (hd b e)
structure G (t:SetTable):Prop where
  r:Rise t.place
  d:t.dummies=#[]
theorem G.slot {t:SetTable} (g:G t) (j:Nat):t.slot j≠.dummy:=by
  unfold SetTable.slot
  dsimp only
  rw [g.d]
  have e:SetTable.has #[] j=false:=rfl
  rw [e]
  split
  · intro z; cases z
  · simp
theorem slot_empty {t:SetTable} {j:Nat} (h:t.slot j=.empty):t.place[SetTable.below t.place j]?≠some j:=by
  unfold SetTable.slot at h
  dsimp only at h
  intro z
  rw [z] at h
  simp at h
theorem probe_ok {t:SetTable} (g:G t) (ha:Nat→Int) (h:Int):∀ (f:Nat) (p:SetTable.Probe) (j:Nat) (d:Option Nat),SetTable.probe.go t ha h f p=some (.empty j d)→t.slot j=.empty∧d=p.dummy
  | 0,p,j,d,e=>by simp [SetTable.probe.go] at e
  | f + 1,p,j,d,e=>by
    unfold SetTable.probe.go at e
    cases hs:t.slot p.j with
    | empty =>
      rw [hs] at e
      simp at e
      obtain ⟨rfl,rfl⟩:=e
      exact ⟨hs,rfl⟩
    | dummy=>exact absurd hs (g.slot _)
    | live i =>
      rw [hs] at e
      dsimp only at e
      split at e
      · cases e
      · have ih:=probe_ok g ha h f _ j d e
        refine ⟨ih.1,ih.2.trans ?_⟩
        unfold SetTable.advance
        split <;> rfl
theorem freeSlot_ok {t:SetTable} (g:G t) {h:Int} {sl:Nat} {wd:Bool} (e:t.freeSlot h=some (sl,wd)):t.slot sl=.empty:=by
  unfold SetTable.freeSlot at e
  split at e
  · rename_i j dummy hp
    have:=probe_ok g _ h _ _ j dummy hp
    have hd:dummy=none:=this.2
    subst hd
    simp at e
    rw [← e.1]
    exact this.1
  · cases e
theorem standIn_G (t:SetTable) (n:Nat):G (t.standIn n):=⟨by
  show (Array.range n).toList.Pairwise (· < ·)
  rw [Array.toList_range]
  exact List.pairwise_lt_range,rfl⟩
theorem put_G {t:SetTable} (g:G t) {j:Nat} (h:t.slot j=.empty):G (t.put j).1:=⟨rise_insert g.r (slot_empty h),by
  show (if SetTable.has t.dummies j then SetTable.eraseAt t.dummies (SetTable.below t.dummies j) else t.dummies)=#[]
  rw [g.d]
  have e:SetTable.has #[] j=false:=rfl
  rw [e]
  rfl⟩
theorem layNew_G {t:SetTable} (g:G t) (es:Array (Int × Value)) (h:Int) (x:Value):G (layNew t es h x).2.1∧(layNew t es h x).2.1.led=t.led:=by
  unfold layNew
  split
  · rename_i sl wd e
    have g':=put_G g (freeSlot_ok g e)
    dsimp only
    unfold SetTable.orStandIn
    split
    · exact ⟨g',rfl⟩
    · exact ⟨standIn_G _ _,rfl⟩
  · exact ⟨standIn_G _ _,rfl⟩
theorem live_sub (f:Nat→Option Nat):∀ l:List Nat,((l.filterMap fun j=>(f j).map fun k=>(j,k)).map (·.1)).Sublist l
  | []=>List.Sublist.slnil
  | a::l=>by
    rw [List.filterMap_cons]
    cases e:f a with
    | none=>exact (live_sub f l).cons _
    | some k=>exact (live_sub f l).cons_cons _
theorem relayAll_G {t:SetTable} (es:Array (Int × Value)) (n:Nat):G (relayAll t es n).2.1∧(relayAll t es n).2.1.led=t.led:=by
  unfold relayAll
  split
  · rename_i t' order e
    dsimp only
    split
    · unfold SetTable.relaid SetTable.laid at e
      cases ho:SetTable.layClean (SetTable.sizeAbove n - 1) (es.map (·.1)) with
      | none=>rw [ho] at e; cases e
      | some owner =>
        rw [ho] at e
        simp only [Option.bind_eq_bind,Option.bind_some,Option.pure_def,Option.some.injEq,Prod.mk.injEq] at e
        obtain ⟨rfl,_⟩:=e
        refine ⟨⟨?_,rfl⟩,rfl⟩
        show (List.toArray _).toList.Pairwise (· < ·)
        exact List.pairwise_lt_range.sublist (live_sub (fun j=>owner.getD j none) _)
    · exact ⟨standIn_G _ _,rfl⟩
  · exact ⟨standIn_G _ _,rfl⟩
end Ss
namespace Ss
open PySem
abbrev byText (w:World):Bool:=w.params.followText "set-order"
def SetG (w:World) (h:Heap) (a:Addr) (es:Array (Int × Value)):Prop :=
  ∃ ep t,h.get? a=some { cls:=.type "set",dict:=none,data:=.set es ep t }∧t.fits es.size=true∧G t∧(byText w=true∨t.led=true)
theorem SetG.at {w:World} {h h':Heap} {a:Addr} {es:Array (Int × Value)} (x:SetG w h a es) (k:∀ o,h.get? a=some o→h'.get? a=some o):SetG w h' a es:=by
  obtain ⟨ep,t,ho,r⟩:=x
  exact ⟨ep,t,k _ ho,r⟩
theorem SetG.lt {w:World} {h:Heap} {a:Addr} {es:Array (Int × Value)} (x:SetG w h a es):a < h.objs.size:=by
  obtain ⟨ep,t,ho,r⟩:=x
  exact Heap.lt_size ho
section
variable {prog:Program} {w:World} {K:Type} [DecidableEq K] {knd:KeyKind prog w K} {A:Around} {E:Value→Shared→Prop} {s:Shared} {a:Addr} {es:Array (Int × Value)}
theorem SetG.type (x:SetG w s.heap a es):s.TypeIs (.ref a) "set":=by
  obtain ⟨ep,t,ho,r⟩:=x
  exact ⟨_,ho,rfl⟩
theorem gave {b:Bool} {Q:Unit→Shared→Prop} (h:Q () s):wpAny (model prog w) A (match b with | true=>rule "set.scan.the-table-gave-way" | false=>pure ()) Q E s:=by
  cases b
  · exact wpAny_pure h
  · exact wpAny_rule h
def Added (knd:KeyKind prog w K) (k:K) (key:Value) (es es':Array (Int × Value)):Prop :=
  ((∃ e ∈ es.toList,knd.is k e.2=true)∧es'=es)∨((∀ e ∈ es.toList,knd.is k e.2=false)∧es'.toList.Perm (es.toList++[(knd.hash k,key)]))
theorem store {ep:Nat} {t:SetTable} {es':Array (Int × Value)} {t':SetTable} {Q:Unit→Shared→Prop} (ho:s.heap.get? a=some { cls:=.type "set",dict:=none,data:=.set es ep t }) (hz:es'.size≤sizeLine)
    (h:∀ h',Heap.SameBut a s.heap h'→h'.get? a=some { cls:=.type "set",dict:=none,data:=.set es' (ep + 1) t' }→Q () { s with heap:=h' }):wpAny (model prog w) A (storeSet a es' t') Q E s:=by
  refine wpAny_storeSet_of ho rfl (h _ (Heap.SameBut.update _ _ _) ?_) hz
  have:=Heap.get?_update_self (Obj.putSet es' t') ho (by rw [putSet_of es' t' rfl]; rfl)
  rwa [putSet_of es' t' rfl] at this
theorem addH {k:K} {x:Value} {Q:Bool→Shared→Prop} (hk:knd.is k x=true) (hx:x.scannable=true) (hS:SetG w s.heap a es) (hel:ElemsOf knd es.toList) (hb:es.size + 1 < scanBound)
    (h:∀ b h' es',Heap.SameBut a s.heap h'→SetG w h' a es'→Added knd k x es es'→Q b { s with heap:=h' }):wpAny (model prog w) A (setAddHashed a x (knd.hash k)) Q E s:=by
  obtain ⟨ep,t,ho,hf,g,hl⟩:=hS
  unfold setAddHashed setAddHashedIn
  refine wpAny_holding (wpAny_bind (wpAny_setState_of ho rfl hf ?_))
  dsimp only
  rw [byScan_of hx (by omega) hel,if_pos rfl]
  unfold setAddByScan
  refine wpAny_bind (wpAny_bind (wpAny_rule (wpAny_bind (wpAny_setScan_of hk ho rfl hf hel ?_))))
  cases hr:List.findIdx? (fun e=>knd.is k e.2) es.toList with
  | some j =>
    obtain ⟨hj,hpj,_⟩:=List.findIdx?_eq_some_iff_getElem.mp hr
    exact wpAny_pure (wpAny_pure (h false s.heap es (Heap.SameBut.refl _ _) ⟨ep,t,ho,hf,g,hl⟩ (.inl ⟨⟨_,List.getElem_mem hj,hpj⟩,rfl⟩)))
  | none =>
    have hno:∀ e ∈ es.toList,knd.is k e.2=false:=List.findIdx?_eq_none_iff.mp hr
    dsimp only
    have p1:=layNew_perm t es (knd.hash k) x
    have f1:=layNew_fits t es (knd.hash k) x
    have g1:=layNew_G g es (knd.hash k) x
    generalize layNew t es (knd.hash k) x=L at p1 f1 g1 ⊢
    obtain ⟨es1,t1,wd,gv⟩:=L
    dsimp only at p1 f1 g1 ⊢
    rw [Array.toList_push] at p1
    have z1:es1.size=es.size + 1:=by have:=p1.length_eq; simpa using this
    refine wpAny_bind (gave ?_)
    have tail:∀ t2:SetTable,t2.fits es1.size=true→G t2→t2.led=t.led→wpAny (model prog w) A (do
        storeSet a es1 t2
        if (!wd && t2.tooFull)=true then do
            (match (relayAll t2 es1 (SetTable.grown es1.size)).2.2 with | true=>rule "set.scan.the-table-gave-way" | false=>pure ())
            storeSet a (relayAll t2 es1 (SetTable.grown es1.size)).1 (relayAll t2 es1 (SetTable.grown es1.size)).2.1
            pure (some true)
          else pure (some true)) (fun r s'=>r=some true∧∃ h' es',s'={ s with heap:=h' }∧Heap.SameBut a s.heap h'∧SetG w h' a es'∧Added knd k x es es') E s:=by
      intro t2 f2 g2 l2
      refine wpAny_bind (store ho (fits_of_scanBound (by omega)) fun h1 b1 o1=>?_)
      split
      · have p2:=relayAll_perm t2 es1 (SetTable.grown es1.size)
        have f3:=relayAll_fits t2 es1 (SetTable.grown es1.size)
        have g3:=relayAll_G (t:=t2) es1 (SetTable.grown es1.size)
        generalize relayAll t2 es1 (SetTable.grown es1.size)=M at p2 f3 g3 ⊢
        obtain ⟨es2,t3,gv2⟩:=M
        dsimp only at p2 f3 g3 ⊢
        have z2:es2.size=es1.size:=by have:=p2.length_eq; simpa using this
        refine wpAny_bind (gave (wpAny_bind (store (s:={ s with heap:=h1 }) o1 (fits_of_scanBound (by omega)) fun h2 b2 o2=>?_)))
        exact wpAny_pure ⟨rfl,h2,es2,rfl,b1.trans b2,⟨_,t3,o2,f3,g3.1,by rw [g3.2,l2]; exact hl⟩,.inr ⟨hno,p2.trans p1⟩⟩
      · exact wpAny_pure ⟨rfl,h1,es1,rfl,b1,⟨_,t2,o1,f2,g2,by rw [l2]; exact hl⟩,.inr ⟨hno,p1⟩⟩
    have fin:∀ (r:Option Bool) (s':Shared),(r=some true∧∃ h' es',s'={ s with heap:=h' }∧Heap.SameBut a s.heap h'∧SetG w h' a es'∧Added knd k x es es') →
        wpAny (model prog w) A (match r with | some added=>pure added | none=>setAddHashedIn a x (knd.hash k) 99999) Q E s':=by
      rintro r s' ⟨rfl,h',es',rfl,b,S,ad⟩
      exact wpAny_pure (h true h' es' b S ad)
    split
    · refine wpAny_bind ?_
      rw [hashByValue_scannable 8 hx]
      refine wpAny_pure (wpAny_mono (tail _ ?_ ?_ ?_) (fun r s' z=>fin r s' z) fun _ _ e=>e)
      · split
        · exact f1
        · exact SetTable.fits_plain_off f1
      · split
        · exact g1.1
        · exact ⟨g1.1.r,g1.1.d⟩
      · split <;> exact g1.2
    · refine wpAny_bind (wpAny_pure ?_)
      rw [if_pos rfl]
      exact wpAny_mono (tail _ f1 g1.1 g1.2) (fun r s' z=>fin r s' z) fun _ _ e=>e
theorem add {k:K} {x:Value} {Q:Value→Shared→Prop} (hk:knd.is k x=true) (hx:x.scannable=true) (hS:SetG w s.heap a es) (hel:ElemsOf knd es.toList) (hb:es.size + 1 < scanBound)
    (h:∀ h' es',Heap.SameBut a s.heap h'→SetG w h' a es'→Added knd k x es es'→Q .none { s with heap:=h',toks:=s.toks + 1 }):wpAny (model prog w) A (call (.builtin "set.add") [.ref a,x]) Q E s:=by
  refine wpAny_call_entry F.slot_set_add hS.type F.entry_set_add ?_ (F.args_set_add_2 _ _)
  unfold Builtin.«set.add» Builtin.Frozenset.oneOther
  simp only [List.isEmpty_nil,bind_assoc]
  unfold Builtin.Frozenset.addrOf setAdd
  refine wpAny_bind (wpAny_pure (wpAny_bind (wpAny_pure (wpAny_bind (wpAny_holding (wpAny_bind (knd.pyHash hk ?_)))))))
  exact addH (s:={ s with toks:=s.toks + 1 }) hk hx hS hel hb fun b h' es' sb S' ad=>wpAny_pure ⟨_,rfl,h h' es' sb S' ad⟩
theorem new {Q:Value→Shared→Prop} (h:∀ o:Obj,SetG w (s.heap.push o) s.heap.objs.size #[]→Q (.ref s.heap.objs.size) { s with heap:=s.heap.push o }):wpAny (model prog w) A (newSet (.type "set")) Q E s:=by
  unfold newSet setsByText
  refine wpAny_bind (wpAny_bind (wpAny_askSetting (wpAny_pure ?_)))
  dsimp only
  simp only [newObj]
  refine wpAny_bind (wpAny_alloc (wpAny_pure (h _ ⟨0,_,Heap.get?_push_size _ rfl,rfl,⟨List.Pairwise.nil,rfl⟩,?_⟩)))
  show byText w=true∨(!(byText w))=true
  cases byText w
  · exact .inr rfl
  · exact .inl rfl
end
end Ss
namespace Ss
open PySem
theorem nx_ex:∃ (dr:Array (Int × Value)→SetTable→Bool) (ml:Array (Int × Value)→SetTable→Sem Unit),(∀ es t,ml es t=(do if !t.led && !es.isEmpty then unsupported "set:maker-not-led"))∧(∀ a,setDrawn a=(do
    let (es,_,t) ← setState a
    let b ← setsByText
    return !b && dr es t))∧(∀ a sl gv e0,setNext a sl gv e0=(do
    let (es,ep,t) ← setState a
    if ← setsByText then
      if ep != e0 then unsupported "set_iterator.__next__:elements-changed"
      return ((← setWalk a)[gv]?).map fun e=>(e.2,sl)
    if dr es t then unsupported "set_iterator.__next__:the-table-is-plain-no-more"
    ml es t
    let i:=SetTable.below t.place sl
    return match es[i]?,t.place[i]? with
      | some (_,x),some j=>some (x,j + 1)
      | _,_=>none)):=⟨_,_,fun _ _=>rfl,fun _=>rfl,fun _ _ _ _=>rfl⟩
theorem erase_perm {α:Type}:∀ {l:List α} {i:Nat} (h:i < l.length),(l[i]::l.eraseIdx i).Perm l
  | a::l,0,h=>List.Perm.refl _
  | a::l,i + 1,h=>by
    have ih:=erase_perm (l:=l) (i:=i) (by simpa using h)
    simp only [List.getElem_cons_succ,List.eraseIdx_cons_succ]
    exact (List.Perm.swap _ _ _).trans (ih.cons _)
theorem pick_go {α:Type} (nx:Nat→Nat):∀ (f k:Nat) (l:List α) (out:Array α),f=l.length→(pickOrder.go nx f k l out).toList.Perm (out.toList++l)
  | 0,k,l,out,h=>by
    have e:l=[]:=List.eq_nil_of_length_eq_zero h.symm
    subst e
    simp [pickOrder.go]
  | f + 1,k,l,out,h=>by
    have hl:nx k % l.length < l.length:=Nat.mod_lt _ (by omega)
    unfold pickOrder.go
    rw [List.getElem?_eq_getElem hl]
    dsimp only
    have ih:=pick_go nx f (k + 1) (l.eraseIdx (nx k % l.length)) (out.push l[nx k % l.length]) (by rw [List.length_eraseIdx]; rw [if_pos hl]; omega)
    refine ih.trans ?_
    rw [Array.toList_push,List.append_assoc]
    exact (erase_perm hl).append_left _
theorem pick_perm {α:Type} (nx:Nat→Nat) (xs:Array α):(pickOrder nx xs).toList.Perm xs.toList:=by
  have:=pick_go nx xs.size 0 xs.toList #[] (by simp)
  unfold pickOrder
  simpa using this
section
variable {prog:Program} {w:World} {A:Around} {E:Value→Shared→Prop} {s:Shared}
theorem choose_ok {src:Source} {n:Nat} {Q:Nat→Shared→Prop} (hn:n≠0) (h:∀ k d,k < n→Q k { s with drawn:=d }):wpAny (model prog w) A (choose src n) Q E s:=fun Γ p hΓ=>by
  show Sem.wp _ _ (.choose src n .pure) _ _ _ _
  rw [Sem.wp_choose]
  exact ⟨hn,h _ _ (Nat.mod_lt _ (Nat.pos_of_ne_zero hn))⟩
theorem draw_ok {α:Type}:∀ (n:Nat) (xs:List α) (s:Shared) (Q:List α→Shared→Prop),n=xs.length→(∀ ys d,ys.Perm xs→Q ys { s with drawn:=d })→wpAny (model prog w) A (drawOrder n xs) Q E s
  | 0,xs,s,Q,hn,h=>by
    have e:xs=[]:=List.eq_nil_of_length_eq_zero hn.symm
    subst e
    exact wpAny_pure (h [] s.drawn (List.Perm.refl _))
  | n + 1,[],s,Q,hn,h=>by cases hn
  | n + 1,x::xs,s,Q,hn,h=>by
    unfold drawOrder
    refine wpAny_bind (choose_ok (by simp) fun i d hi=>?_)
    rw [List.getElem?_eq_getElem hi]
    dsimp only
    refine wpAny_bind (draw_ok n _ _ _ (by rw [List.length_eraseIdx,if_pos hi]; simp at hn ⊢; omega) fun ys d' hp=>wpAny_pure (h _ d' ?_))
    exact (hp.cons _).trans (erase_perm hi)
end
end Ss
namespace Ss
open PySem PyProof.Rows
namespace SF
theorem owner:Manifest.owners.lookup (String.ofList ['r','o','t','a','r','e','t','i','_','t','e','s'].reverse)=some Manifest.sig_set_iterator:=by kernel_rfl
theorem next:Slot "set_iterator" "__next__" "set_iterator.__next__" :=
  .of (owner:="set_iterator") (n:="__next__") (by rw [typeLookup_type,builtinLookup_eq_fast]; kernel_rfl) (by decide +kernel) (by decide +kernel) (by decide +kernel)
    (by first | exact .inl (by decide +kernel) | exact .inr (by decide +kernel)) (by rw [isSubtype_type]; kernel_rfl)
theorem entry_next:entryFor table "set_iterator.__next__"=some Builtin.«set_iterator.__next__»:=entryFor_of_tree (by kernel_rfl)
theorem args_next (a:Value):argsOk "set_iterator.__next__" ⟨[a],[]⟩:=by
  unfold argsOk; rw [signature?_of (id:="set_iterator.__next__") (n:=['_','_','t','x','e','n','_','_']) (o:=['r','o','t','a','r','e','t','i','_','t','e','s']) (by kernel_rfl) owner]; kernel_rfl
theorem iter:Slot "set_iterator" "__iter__" "set_iterator.__iter__" :=
  .of (owner:="set_iterator") (n:="__iter__") (by rw [typeLookup_type,builtinLookup_eq_fast]; kernel_rfl) (by decide +kernel) (by decide +kernel) (by decide +kernel)
    (by first | exact .inl (by decide +kernel) | exact .inr (by decide +kernel)) (by rw [isSubtype_type]; kernel_rfl)
theorem args_iter (a:Value):argsOk "set_iterator.__iter__" ⟨[a],[]⟩:=by
  unfold argsOk; rw [signature?_of (id:="set_iterator.__iter__") (n:=['_','_','r','e','t','i','_','_']) (o:=['r','o','t','a','r','e','t','i','_','t','e','s']) (by kernel_rfl) owner]; kernel_rfl
theorem entry_iter:entryFor table "set_iterator.__iter__"=some Builtin.«dict_keyiterator.__iter__» :=
  entryFor_alias (id':="dict_keyiterator.__iter__") (by kernel_rfl) (by first | rfl | decide +kernel | (unfold String.splitOn; simp +decide [String.splitOnAux])) (by decide +kernel) (by kernel_rfl)
theorem entry_set:entryFor table "set.__iter__"=some Builtin.«frozenset.__iter__» :=
  entryFor_alias (id':="frozenset.__iter__") (by kernel_rfl) rfl (by decide +kernel) (by kernel_rfl)
end SF
end Ss
namespace Ss
open PySem PyProof.Rows
abbrev Rc (fst:Value) (i:Nat) (a:Addr) (n ep:Nat):Obj:={ cls:=.type "set_iterator",dict:=none,data:=.fields #[fst,rawInt i,.ref a,rawInt n,rawInt ep] }
abbrev So (es:Array (Int × Value)) (ep:Nat) (t:SetTable):Obj:={ cls:=.type "set",dict:=none,data:=.set es ep t }
section
variable {prog:Program} {w:World} {A:Around} {E:Value→Shared→Prop} {s:Shared} {it a:Addr} {es:Array (Int × Value)} {ep:Nat} {t:SetTable}
theorem self_ok {fst:Value} {i n:Nat} {Q:Value→Shared→Prop} (hit:s.heap.get? it=some (Rc fst i a n ep)) (h:Q (.ref it) s):wpAny (model prog w) A (pyIter (.ref it)) Q E s:=by
  have hT:s.TypeIs (.ref it) "set_iterator":=⟨_,hit,rfl⟩
  refine wpAny_pyIter_slot hT SF.iter (wpAny_call_entry SF.iter hT SF.entry_iter ?_ (SF.args_iter _))
  show wpAny _ _ (ret (.ref it)) _ _ s
  exact wpAny_pure ⟨_,rfl,"set_iterator",_,hT,SF.next.lookup,h⟩
theorem next_item {sl i nx:Nat} {x:Value} {Q:Option Value→Shared→Prop} (hit:s.heap.get? it=some (Rc (rawInt sl) i a es.size ep)) (hs:s.heap.get? a=some (So es ep t)) (hf:t.fits es.size=true)
    (hsn:∀ (A':Around) (E':Value→Shared→Prop) (Q':Option (Value × Nat)→Shared→Prop),Q' (some (x,nx)) s→wpAny (model prog w) A' (setNext a sl i ep) Q' E' s)
    (hQ:∀ h',h'.get? it=some (Rc (rawInt nx) (i + 1) a es.size ep)→Heap.SameBut it s.heap h'→Q (some x) { s with heap:=h' }):wpAny (model prog w) A (pyNext (.ref it)) Q E s:=by
  have hT:s.TypeIs (.ref it) "set_iterator":=⟨_,hit,rfl⟩
  unfold pyNext
  refine wpAny_bind (wpAny_attempt (wpAny_callSpecial?_slot (name:=Str.ofString "__next__") hT SF.next (wpAny_call_entry SF.next hT SF.entry_next ?_ (SF.args_next _))))
  unfold Builtin.«set_iterator.__next__»
  refine wpAny_bind (wpAny_of_eq (a:=(Value.ref it,[])) rfl ?_)
  refine wpAny_bind (wpAny_fieldsOf hit rfl ?_)
  dsimp only [rawInt]
  refine wpAny_bind (wpAny_setEntries_of hs rfl hf ?_)
  rw [if_neg (by simp)]
  refine wpAny_bind ?_
  simp only [Int.toNat_natCast]
  refine hsn _ _ _ ?_
  dsimp only
  refine wpAny_bind (wpAny_setField_rec hit (by simp) fun h1 o1 b1=>?_)
  refine wpAny_bind (wpAny_setField_rec (s:={ s with heap:=h1 }) o1 (by simp) fun h2 o2 b2=>?_)
  exact wpAny_pure ⟨x,rfl,wpAny_pure (hQ h2 (by simpa [Rc,rawInt] using o2) (b1.trans b2))⟩
theorem next_end {sl i:Nat} {Q:Option Value→Shared→Prop} (hh:A.handled=none) (hit:s.heap.get? it=some (Rc (rawInt sl) i a es.size ep)) (hs:s.heap.get? a=some (So es ep t)) (hf:t.fits es.size=true)
    (hsn:∀ (A':Around) (E':Value→Shared→Prop) (Q':Option (Value × Nat)→Shared→Prop),Q' none s→wpAny (model prog w) A' (setNext a sl i ep) Q' E' s)
    (hQ:∀ h',Heap.ExtBut it s.heap h'→Q none { s with heap:=h' }):wpAny (model prog w) A (pyNext (.ref it)) Q E s:=by
  have hT:s.TypeIs (.ref it) "set_iterator":=⟨_,hit,rfl⟩
  unfold pyNext
  refine wpAny_bind (wpAny_attempt (wpAny_callSpecial?_slot (name:=Str.ofString "__next__") hT SF.next (wpAny_call_entry SF.next hT SF.entry_next ?_ (SF.args_next _))))
  unfold Builtin.«set_iterator.__next__»
  refine wpAny_bind (wpAny_of_eq (a:=(Value.ref it,[])) rfl ?_)
  refine wpAny_bind (wpAny_fieldsOf hit rfl ?_)
  dsimp only [rawInt]
  refine wpAny_bind (wpAny_setEntries_of hs rfl hf ?_)
  rw [if_neg (by simp)]
  refine wpAny_bind ?_
  simp only [Int.toNat_natCast]
  refine hsn _ _ _ ?_
  dsimp only
  refine wpAny_bind (wpAny_setField_rec hit (by simp) fun h1 o1 b1=>?_)
  refine wpAny_bind ?_
  simp only [newExc,newTuple]
  refine wpAny_bind (wpAny_newObj_type ?_ (by size_fits))
  refine wpAny_bind (m:=firstArgMember _ _) (wpAny_of_eq (a:=Value.none) (by first | rfl | (simp only [firstArgMember]; rfl)) ?_)
  refine wpAny_newObj_type ?_ (by size_fits)
  simp only [raiseNew]
  refine wpAny_bind (wpAny_handled ?_)
  first | rw [show A.in1.handled=none from hh] | rw [hh]
  refine wpAny_bind (wpAny_pure (wpAny_throw ?_))
  refine wpAny_bind (wpAny_isInstance (T:="StopIteration") (b:=true) ⟨_,Heap.get?_push_size _ rfl,rfl⟩ isSubtype_stop ?_)
  refine wpAny_pure (hQ _ ?_)
  exact Heap.ExtBut.push (Heap.ExtBut.push (fun b o hb e=>(b1.2 b hb).trans e) _) _
end
end Ss
namespace Ss
open PySem PyProof.Rows
noncomputable def dr:Array (Int × Value)→SetTable→Bool:=nx_ex.choose
theorem dr_ex:∃ (ml:Array (Int × Value)→SetTable→Sem Unit),(∀ es t,ml es t=(do if !t.led && !es.isEmpty then unsupported "set:maker-not-led"))∧(∀ a,setDrawn a=(do
    let (es,_,t) ← setState a
    let b ← setsByText
    return !b && dr es t))∧(∀ a sl gv e0,setNext a sl gv e0=(do
    let (es,ep,t) ← setState a
    if ← setsByText then
      if ep != e0 then unsupported "set_iterator.__next__:elements-changed"
      return ((← setWalk a)[gv]?).map fun e=>(e.2,sl)
    if dr es t then unsupported "set_iterator.__next__:the-table-is-plain-no-more"
    ml es t
    let i:=SetTable.below t.place sl
    return match es[i]?,t.place[i]? with
      | some (_,x),some j=>some (x,j + 1)
      | _,_=>none)):=nx_ex.choose_spec
def slotAt (t:SetTable) (i:Nat):Nat:=if i=0 then 0 else t.place.getD (i - 1) 0 + 1
theorem below_slot {t:SetTable} (R:Rise t.place) {i:Nat} (hi:i≤t.place.size):SetTable.below t.place (slotAt t i)=i:=by
  obtain ⟨b1,b2,b3⟩:=below_ok R (slotAt t i)
  generalize SetTable.below t.place (slotAt t i)=p at *
  unfold slotAt at b2 b3
  by_cases h0:i=0
  · subst h0
    rcases Nat.eq_zero_or_pos p with z | z
    · exact z
    · have:=b2 0 z; simp at this
  · simp only [h0,if_false] at b2 b3
    rcases Nat.lt_trichotomy p i with z | z | z
    · have h1:=b3 p (Nat.le_refl _) (by omega)
      rcases Nat.lt_or_ge p (i - 1) with y | y
      · have:=R.lt y (by omega); omega
      · rw [show p=i - 1 by omega] at h1; omega
    · exact z
    · have h1:=b2 i z
      have:=R.lt (i:=i - 1) (k:=i) (by omega) (by omega)
      omega
section
variable {prog:Program} {w:World} {A:Around} {E:Value→Shared→Prop} {s:Shared} {it a:Addr} {es:Array (Int × Value)} {ep:Nat} {t:SetTable}
theorem byText_ok {Q:Bool→Shared→Prop} (h:Q (byText w) s):wpAny (model prog w) A setsByText Q E s:=wpAny_bind (wpAny_askSetting (wpAny_pure h))
theorem nextC {i:Nat} {gv:Nat} (hb:byText w=false) (hd:dr es t=false) (hs:s.heap.get? a=some (So es ep t)) (hf:t.fits es.size=true) (g:G t) (hl:t.led=true) (hi:i≤es.size) {Q:Option (Value × Nat)→Shared→Prop}
    (h:Q ((es[i]?).map fun e=>(e.2,slotAt t (i + 1))) s):wpAny (model prog w) A (setNext a (slotAt t i) gv ep) Q E s:=by
  have hz:t.place.size=es.size:=by simp [SetTable.fits] at hf; exact hf.1
  obtain ⟨ml,h1,h2,h3⟩:=dr_ex
  rw [h3]
  refine wpAny_bind (wpAny_setState_of hs rfl hf (wpAny_bind (byText_ok ?_)))
  rw [hb,hd,h1,hl]
  simp only [Bool.false_eq_true,if_false,Bool.not_true,Bool.false_and]
  refine wpAny_bind (wpAny_pure ?_)
  rw [below_slot g.r (by omega)]
  refine wpAny_pure ?_
  have e:(match es[i]?,t.place[i]? with | some (_,x),some j=>some (x,j + 1) | _,_=>none)=(es[i]?).map fun e=>(e.2,slotAt t (i + 1)):=by
    rcases Nat.lt_or_ge i es.size with z | z
    · rw [getElem?_pos es i z,getD_at (by omega)]
      simp [slotAt]
    · rw [Array.getElem?_eq_none z]
      rfl
  rw [e]
  exact h
theorem nextA {i:Nat} (hb:byText w=true) (hs:s.heap.get? a=some (So es ep t)) (hf:t.fits es.size=true) {Q:Option (Value × Nat)→Shared→Prop}
    (h:Q (((pickOrder (w.params.setOrder a ep) es)[i]?).map fun e=>(e.2,0)) s):wpAny (model prog w) A (setNext a 0 i ep) Q E s:=by
  obtain ⟨ml,h1,h2,h3⟩:=dr_ex
  rw [h3]
  refine wpAny_bind (wpAny_setState_of hs rfl hf (wpAny_bind (byText_ok ?_)))
  rw [hb]
  simp only [bne_self_eq_false,Bool.false_eq_true,if_false,if_true]
  unfold setWalk
  refine wpAny_bind (wpAny_bind (wpAny_setState_of hs rfl hf (wpAny_bind (byText_ok ?_))))
  rw [hb]
  simp only [if_true]
  exact wpAny_bind (wpAny_askSetting (wpAny_pure (wpAny_pure h)))
theorem walkI {us:List Value} {fst:Nat→Nat} (hne:a≠it) (hl:us.length=es.size) (hf:t.fits es.size=true)
    (hn:∀ (i:Nat) (s:Shared) (A':Around) (E':Value→Shared→Prop) (Q':Option (Value × Nat)→Shared→Prop),i≤es.size→s.heap.get? a=some (So es ep t)→Q' ((us[i]?).map fun x=>(x,fst (i + 1))) s→wpAny (model prog w) A' (setNext a (fst i) i ep) Q' E' s) (hh:A.handled=none) :
    Walks prog w A it [it,a] [it] us.length (fun i v=>us[i]?=some v) (fun i h=>h.get? it=some (Rc (rawInt (fst i)) i a es.size ep)∧h.get? a=some (So es ep t)) where
  sub:=fun b hb=>by simp at hb; simp [hb]
  frame:=fun i h h' st k=>⟨k it (by simp) _ st.1,k a (by simp) _ st.2⟩
  item:=fun i s Q E hi st hQ=>by
    refine next_item (x:=us[i]) (nx:=fst (i + 1)) st.1 st.2 hf (fun A' E' Q' q=>hn i s A' E' Q' (by omega) st.2 (by rw [List.getElem?_eq_getElem hi]; exact q)) fun h' o b=>?_
    exact hQ _ h' s.toks (List.getElem?_eq_getElem hi) ⟨o,(b.2 a hne).trans st.2⟩ fun c o' hc e=>(b.2 c (by simpa using hc)).trans e
  done:=fun s Q E st hQ=>by
    refine next_end hh st.1 st.2 hf (fun A' E' Q' q=>hn _ s A' E' Q' (by omega) st.2 (by rw [List.getElem?_eq_none (Nat.le_refl _)]; exact q)) fun h' b=>?_
    exact hQ h' s.toks fun c o' hc e=>b c o' (by simpa using hc) e
  self:=fun i s Q E st h=>self_ok st.1 h
theorem nextB {tp:Addr} {pl:List Nat} {i p:Nat} {x:Int × Value} {Q:Option Value→Shared→Prop} (hit:s.heap.get? it=some (Rc (.ref tp) i a es.size ep)) (hs:s.heap.get? a=some (So es ep t)) (hf:t.fits es.size=true)
    (ht:s.heap.get? tp=some (seqObj "tuple" (pl.map fun i:Nat=>rawInt i).toArray 0)) (hp:pl[i]?=some p) (hx:es[p]?=some x)
    (hQ:∀ h',h'.get? it=some (Rc (.ref tp) (i + 1) a es.size ep)→Heap.SameBut it s.heap h'→Q (some x.2) { s with heap:=h' }):wpAny (model prog w) A (pyNext (.ref it)) Q E s:=by
  have hT:s.TypeIs (.ref it) "set_iterator":=⟨_,hit,rfl⟩
  unfold pyNext
  refine wpAny_bind (wpAny_attempt (wpAny_callSpecial?_slot (name:=Str.ofString "__next__") hT SF.next (wpAny_call_entry SF.next hT SF.entry_next ?_ (SF.args_next _))))
  unfold Builtin.«set_iterator.__next__»
  refine wpAny_bind (wpAny_of_eq (a:=(Value.ref it,[])) rfl (wpAny_bind (wpAny_fieldsOf hit rfl ?_)))
  dsimp only [rawInt]
  refine wpAny_bind (wpAny_setEntries_of hs rfl hf ?_)
  rw [if_neg (by simp)]
  refine wpAny_bind (wpAny_seqItems ht rfl ?_)
  simp only [Int.toNat_natCast]
  have e:(pl.map fun i:Nat=>rawInt i).toArray[i]?=some (.int (p:Int) 0):=by rw [List.getElem?_toArray,List.getElem?_map,hp]; rfl
  rw [e]
  dsimp only
  unfold setNextDrawn
  refine wpAny_bind (wpAny_bind (wpAny_setState_of hs rfl hf ?_))
  simp only [Int.toNat_natCast,bne_self_eq_false,Bool.false_eq_true,if_false]
  rw [hx]
  refine wpAny_pure (wpAny_bind (wpAny_setField_rec hit (by simp) fun h1 o1 b1=>?_))
  exact wpAny_pure ⟨x.2,rfl,wpAny_pure (hQ h1 (by simpa [Rc,rawInt] using o1) b1)⟩
theorem endB {tp:Addr} {pl:List Nat} {i:Nat} {Q:Option Value→Shared→Prop} (hh:A.handled=none) (hit:s.heap.get? it=some (Rc (.ref tp) i a es.size ep)) (hs:s.heap.get? a=some (So es ep t)) (hf:t.fits es.size=true)
    (ht:s.heap.get? tp=some (seqObj "tuple" (pl.map fun i:Nat=>rawInt i).toArray 0)) (hp:pl.length≤i) (hQ:∀ h',Heap.ExtBut it s.heap h'→Q none { s with heap:=h' }):wpAny (model prog w) A (pyNext (.ref it)) Q E s:=by
  have hT:s.TypeIs (.ref it) "set_iterator":=⟨_,hit,rfl⟩
  unfold pyNext
  refine wpAny_bind (wpAny_attempt (wpAny_callSpecial?_slot (name:=Str.ofString "__next__") hT SF.next (wpAny_call_entry SF.next hT SF.entry_next ?_ (SF.args_next _))))
  unfold Builtin.«set_iterator.__next__»
  refine wpAny_bind (wpAny_of_eq (a:=(Value.ref it,[])) rfl (wpAny_bind (wpAny_fieldsOf hit rfl ?_)))
  dsimp only [rawInt]
  refine wpAny_bind (wpAny_setEntries_of hs rfl hf ?_)
  rw [if_neg (by simp)]
  refine wpAny_bind (wpAny_seqItems ht rfl ?_)
  simp only [Int.toNat_natCast]
  have e:(pl.map fun i:Nat=>rawInt i).toArray[i]?=none:=by rw [List.getElem?_toArray,List.getElem?_map,List.getElem?_eq_none hp]; rfl
  rw [e]
  dsimp only
  refine wpAny_bind (wpAny_setField_rec hit (by simp) fun h1 o1 b1=>?_)
  refine wpAny_bind (wpAny_setField_rec (s:={ s with heap:=h1 }) o1 (by simp) fun h2 o2 b2=>?_)
  refine wpAny_bind ?_
  simp only [newExc,newTuple]
  refine wpAny_bind (wpAny_newObj_type ?_ (by size_fits))
  refine wpAny_bind (m:=firstArgMember _ _) (wpAny_of_eq (a:=Value.none) (by first | rfl | (simp only [firstArgMember]; rfl)) ?_)
  refine wpAny_newObj_type ?_ (by size_fits)
  simp only [raiseNew]
  refine wpAny_bind (wpAny_handled ?_)
  first | rw [show A.in1.handled=none from hh] | rw [hh]
  refine wpAny_bind (wpAny_pure (wpAny_throw ?_))
  refine wpAny_bind (wpAny_isInstance (T:="StopIteration") (b:=true) ⟨_,Heap.get?_push_size _ rfl,rfl⟩ isSubtype_stop ?_)
  refine wpAny_pure (hQ _ ?_)
  exact Heap.ExtBut.push (Heap.ExtBut.push (fun b o hb e=>((b1.trans b2).2 b hb).trans e) _) _
theorem walkB {tp:Addr} {pl:List Nat} (hne:a≠it) (hnt:tp≠it) (hp:pl.Perm (List.range es.size)) (hf:t.fits es.size=true) (hh:A.handled=none) :
    Walks prog w A it [it,a,tp] [it] pl.length (fun i v=>(pl.map fun p=>(es.getD p (0,.none)).2)[i]?=some v) (fun i h=>h.get? it=some (Rc (.ref tp) i a es.size ep)∧h.get? a=some (So es ep t)∧h.get? tp=some (seqObj "tuple" (pl.map fun i:Nat=>rawInt i).toArray 0)) where
  sub:=fun b hb=>by simp at hb; simp [hb]
  frame:=fun i h h' st k=>⟨k it (by simp) _ st.1,k a (by simp) _ st.2.1,k tp (by simp) _ st.2.2⟩
  item:=fun i s Q E hi st hQ=>by
    have hm:pl[i] < es.size:=List.mem_range.mp (hp.mem_iff.mp (List.getElem_mem hi))
    refine nextB (x:=es[pl[i]]) st.1 st.2.1 hf st.2.2 (List.getElem?_eq_getElem hi) (getElem?_pos es _ hm) fun h' o b=>?_
    refine hQ _ h' s.toks ?_ ⟨o,(b.2 a hne).trans st.2.1,(b.2 tp hnt).trans st.2.2⟩ fun c o' hc e=>(b.2 c (by simpa using hc)).trans e
    rw [List.getElem?_map,List.getElem?_eq_getElem hi]
    simp [Array.getD,hm]
  done:=fun s Q E st hQ=>endB hh st.1 st.2.1 hf st.2.2 (Nat.le_refl _) fun h' b=>hQ h' s.toks fun c o' hc e=>b c o' (by simpa using hc) e
  self:=fun i s Q E st h=>self_ok st.1 h
end
end Ss
namespace Ss
open PySem PyProof.Rows
section
variable {prog:Program} {w:World} {A:Around} {E:Value→Shared→Prop} {s:Shared} {a:Addr} {es:Array (Int × Value)}
theorem iter_set {Q:Value→Shared→Prop} (hS:SetG w s.heap a es) (hz:es.size≤4096)
    (h:∀ (it:Addr) (h1:Heap) d (us:List Value) (fp:List Addr) (St:Nat→Heap→Prop),s.heap.objs.size≤it→(∀ b o,s.heap.get? b=some o→h1.get? b=some o)→us.Perm (es.toList.map (·.2))→(∀ b ∈ fp,b=a∨s.heap.objs.size≤b) →
      (∀ A':Around,A'.handled=none→Walks prog w A' it fp [it] us.length (fun i v=>us[i]?=some v) St)→St 0 h1→Q (.ref it) { s with heap:=h1,drawn:=d }):wpAny (model prog w) A (pyIter (.ref a)) Q E s:=by
  have hT:=hS.type
  have hlt:=hS.lt
  obtain ⟨ep,t,ho,hf,g,hl⟩:=hS
  obtain ⟨ml,h1,h2,h3⟩:=dr_ex
  refine wpAny_pyIter_slot hT F.slot_set_iter (wpAny_call_entry F.slot_set_iter hT SF.entry_set ?_ (F.args_set_iter_1 _))
  unfold Builtin.«frozenset.__iter__» Builtin.Frozenset.slot0
  refine wpAny_bind (wpAny_bind (wpAny_of_eq (a:=(Value.ref a,[])) rfl ?_))
  unfold Builtin.Frozenset.addrOf Builtin.Frozenset.sizeOf
  refine wpAny_pure (wpAny_bind (wpAny_bind (wpAny_setEntries_of ho rfl hf (wpAny_pure ?_))))
  rw [h2]
  refine wpAny_bind (wpAny_bind (wpAny_setState_of ho rfl hf (wpAny_bind (byText_ok (wpAny_pure ?_)))))
  have last:∀ (us:List Value) (fst:Nat→Nat),fst 0=0→us.Perm (es.toList.map (·.2)) →
      (∀ (i:Nat) (s:Shared) (A':Around) (E':Value→Shared→Prop) (Q':Option (Value × Nat)→Shared→Prop),i≤es.size→s.heap.get? a=some (So es ep t)→Q' ((us[i]?).map fun x=>(x,fst (i + 1))) s→wpAny (model prog w) A' (setNext a (fst i) i ep) Q' E' s) →
      Q (.ref s.heap.objs.size) { s with heap:=s.heap.push (Rc (rawInt 0) 0 a es.size ep) }:=fun us fst h0 hp hn=>by
    have hul:us.length=es.size:=by have:=hp.length_eq; simpa using this
    refine h s.heap.objs.size _ s.drawn us [s.heap.objs.size,a] _ (Nat.le_refl _) (fun b o e=>Heap.get?_push_of_some _ e) hp (fun b hb=>?_) (fun A' hh'=>walkI (t:=t) (ep:=ep) (fst:=fst) (Nat.ne_of_lt hlt) hul hf hn hh') ⟨?_,Heap.get?_push_of_some _ ho⟩
    · simp at hb
      rcases hb with e | e
      · exact .inr (by rw [e]; exact Nat.le_refl _)
      · exact .inl e
    · rw [h0]; exact Heap.get?_push_size _ rfl
  by_cases hb:byText w=true
  · rw [hb]
    simp only [Bool.not_true,Bool.false_and,Bool.false_eq_true,if_false]
    refine wpAny_bind (wpAny_pure (wpAny_bind (wpAny_setEpoch_of ho rfl hf (wpAny_bind ?_))))
    unfold newFields
    refine wpAny_newObj_type (wpAny_pure ⟨_,rfl,"set_iterator",_,⟨_,Heap.get?_push_size _ rfl,rfl⟩,SF.next.lookup,?_⟩)
    refine last ((pickOrder (w.params.setOrder a ep) es).toList.map (·.2)) (fun _=>0) rfl ((pick_perm _ _).map _) fun i s' A' E' Q' hi hs q=>nextA hb hs hf ?_
    have e:(((pickOrder (w.params.setOrder a ep) es).toList.map (·.2))[i]?).map (fun x=>(x,0))=((pickOrder (w.params.setOrder a ep) es)[i]?).map fun e=>(e.2,0):=by
      rw [List.getElem?_map,Array.getElem?_toList]
      cases (pickOrder (w.params.setOrder a ep) es)[i]? <;> rfl
    rw [← e]
    exact q
  · have hb':byText w=false:=by simpa using hb
    have hled:t.led=true:=hl.resolve_left hb
    rw [hb']
    by_cases hd:dr es t=true
    · rw [hd]
      simp only [Bool.not_false,Bool.true_and,if_true]
      refine wpAny_bind (draw_ok es.size (List.range es.size) s _ (by simp) fun pl d hp=>?_)
      have hpl:pl.length=es.size:=by have:=hp.length_eq; simpa using this
      refine wpAny_bind (wpAny_newTuple ?_ (by rw [List.length_map,hpl,sizeLine_eq]; omega))
      have ho2:(s.heap.push (seqObj "tuple" (pl.map fun i:Nat=>rawInt i).toArray 0)).get? a=some (So es ep t):=Heap.get?_push_of_some _ ho
      refine wpAny_bind (wpAny_setEpoch_of (s:={ s with heap:=s.heap.push (seqObj "tuple" (pl.map fun i:Nat=>rawInt i).toArray 0),drawn:=d }) ho2 rfl hf (wpAny_bind ?_))
      unfold newFields
      refine wpAny_newObj_type (wpAny_pure ⟨_,rfl,"set_iterator",_,⟨_,Heap.get?_push_size _ rfl,rfl⟩,SF.next.lookup,?_⟩)
      have z1:(s.heap.push (seqObj "tuple" (pl.map fun i:Nat=>rawInt i).toArray 0)).objs.size=s.heap.objs.size + 1:=size_push' _ _
      have up:(pl.map fun p=>(es.getD p (0,.none)).2).Perm (es.toList.map (·.2)):=by
        have e:es.toList.map (·.2)=(List.range es.size).map fun p=>(es.getD p (0,.none)).2:=by
          refine List.ext_getElem (by simp) fun i h1 h2=>?_
          have hi:i < es.size:=by simpa using h1
          simp [Array.getD,hi]
        rw [e]
        exact hp.map _
      refine h _ _ d (pl.map fun p=>(es.getD p (0,.none)).2) [s.heap.objs.size + 1,a,s.heap.objs.size] (fun i h=>h.get? (s.heap.objs.size + 1)=some (Rc (.ref s.heap.objs.size) i a es.size ep)∧h.get? a=some (So es ep t)∧h.get? s.heap.objs.size=some (seqObj "tuple" (pl.map fun i:Nat=>rawInt i).toArray 0)) (by rw [z1]; exact Nat.le_succ _) (fun b o e=>Heap.get?_push_of_some _ (Heap.get?_push_of_some _ e)) up (fun b hb=>?_) (fun A' hh'=>?_) ?_
      · simp at hb
        rcases hb with e | e | e
        · exact .inr (by rw [e]; exact Nat.le_succ _)
        · exact .inl e
        · exact .inr (by rw [e]; exact Nat.le_refl _)
      · have W:=walkB (prog:=prog) (w:=w) (it:=s.heap.objs.size + 1) (t:=t) (ep:=ep) (tp:=s.heap.objs.size) (Nat.ne_of_lt (Nat.lt_succ_of_lt hlt)) (Nat.ne_of_lt (Nat.lt_succ_self _)) hp hf hh'
        rw [List.length_map,z1]
        exact W
      · refine ⟨?_,Heap.get?_push_of_some _ ho2,Heap.get?_push_of_some _ (Heap.get?_push_size _ rfl)⟩
        rw [← z1]
        exact Heap.get?_push_size _ rfl
    · have hd':dr es t=false:=by simpa using hd
      rw [hd']
      simp only [Bool.and_false,Bool.false_eq_true,if_false]
      refine wpAny_bind (wpAny_pure (wpAny_bind (wpAny_setEpoch_of ho rfl hf (wpAny_bind ?_))))
      unfold newFields
      refine wpAny_newObj_type (wpAny_pure ⟨_,rfl,"set_iterator",_,⟨_,Heap.get?_push_size _ rfl,rfl⟩,SF.next.lookup,?_⟩)
      refine last (es.toList.map (·.2)) (slotAt t) rfl (List.Perm.refl _) fun i s' A' E' Q' hi hs q=>nextC hb' hd' hs hf g hled hi ?_
      have e:((es.toList.map (·.2))[i]?).map (fun x=>(x,slotAt t (i + 1)))=(es[i]?).map fun e=>(e.2,slotAt t (i + 1)):=by
        rw [List.getElem?_map,Array.getElem?_toList]
        cases es[i]? <;> rfl
      rw [← e]
      exact q
theorem hint_set {Q:Bool→Shared→Prop} (hT:s.TypeIs (.ref a) "set") (h:Q false s):wpAny (model prog w) A (Builtin.List.listLengthHint (.ref a)) Q E s:=by
  unfold Builtin.List.listLengthHint
  refine wpAny_bind (wpAny_specialOf hT PySem.F.slot_set_len.lookup ?_)
  generalize hid:("set.__len__" : String)=id0
  wp_delta
  rw [show splitId id0=some ("set","__len__") from by subst hid; decide +kernel]
  subst hid
  refine wpAny_bind (wpAny_isInstance (T:="set") (b:=true) hT (by rw [isSubtype_type]; kernel_rfl) ?_)
  refine wpAny_ite_split (fun hab=>absurd hab (by decide)) (fun _=>?_)
  refine wpAny_ite_split (fun _=>?_) (fun hab=>absurd (by decide +kernel) hab)
  exact wpAny_bind (wpAny_typeOf hT (wpAny_pure h))
theorem collect_set {R:List Value→Shared→Prop} (hh:A.handled=none) (hS:SetG w s.heap a es) (hz:es.size≤4096)
    (h:∀ (h':Heap) tk d (vs:List Value),(∀ b o,s.heap.get? b=some o→h'.get? b=some o)→vs.Perm (es.toList.map (·.2))→R vs { s with heap:=h',toks:=tk,drawn:=d }):wpAny (model prog w) A (collect (.ref a)) R E s:=by
  have hlt:=hS.lt
  unfold collect
  refine wpAny_bind (wpAny_runValue (codeAny_builtin entry_proto_collect' ?_))
  rw [Around.under_plainId PySem.F.plain_proto_collect _]
  show wpAny _ A.in1 (newList [] >>= fun l=>again (.builtin "list.__iadd__" ⟨[l,.ref a],[]⟩)) _ _ s
  refine wpAny_bind (wpAny_newObj_type (wpAny_pure ⟨plainId_quiet PySem.F.plain_list_iadd _,codeAny_builtin entry_list_iadd' ?_⟩))
  rw [Around.under_plainId PySem.F.plain_list_iadd _]
  show wpAny _ A.in1 (Builtin.List.listExtendWith (.ref s.heap.objs.size) (.ref a) (.ref s.heap.objs.size)) _ _ _
  have oL:(s.heap.push { cls:=.type "list",data:=.seq ([]:List Value).toArray }).get? s.heap.objs.size=some { cls:=.type "list",data:=.seq #[] }:=Heap.get?_push_size _ rfl
  have hS1:SetG w (s.heap.push { cls:=.type "list",data:=.seq ([]:List Value).toArray }) a es:=hS.at fun o e=>Heap.get?_push_of_some _ e
  have z1:(s.heap.push { cls:=.type "list",data:=.seq ([]:List Value).toArray }).objs.size=s.heap.objs.size + 1:=size_push' _ _
  generalize hg:s.heap.push { cls:=.type "list",data:=.seq ([]:List Value).toArray }=G1 at *
  have keep1:∀ b o,s.heap.get? b=some o→G1.get? b=some o:=fun b o e=>by rw [← hg]; exact Heap.get?_push_of_some _ e
  unfold Builtin.List.listExtendWith
  have hT1:=SetG.type (s:={ s with heap:=G1 }) hS1
  refine wpAny_bind (wpAny_typeOf (T:="set") hT1 ?_)
  have e1:Builtin.List.listSameRef (.ref s.heap.objs.size) (.ref a)=false:=by simp [Builtin.List.listSameRef]; exact Nat.ne_of_gt hlt
  have e2:(Value.type "set" == Value.type "list")=false:=by decide
  have e3:(Value.type "set" == Value.type "tuple")=false:=by decide
  simp only [e1,e2,e3,Bool.or_false,Bool.false_eq_true,if_false]
  refine wpAny_bind (iter_set (s:={ s with heap:=G1 }) hS1 hz fun it h1 d us fp St hit hk hp hfp hW hst=>?_)
  have hS2:SetG w h1 a es:=hS1.at fun o e=>hk a o e
  have oL1:=hk _ _ oL
  have hul:us.length≤4096:=by have:=hp.length_eq; simp at this; omega
  have hSf:s.heap.objs.size ∉ fp:=fun hm=>by
    rcases hfp _ hm with z | z
    · exact absurd z (Nat.ne_of_gt hlt)
    · have:G1.objs.size≤s.heap.objs.size:=z
      omega
  have loop:∀ (h2:Heap) (c tk:Nat),St 0 h2→(∀ b o,b≠s.heap.objs.size→G1.get? b=some o→h2.get? b=some o)→h2.get? s.heap.objs.size=some { cls:=.type "list",data:=.seq #[] c } →
      codeAny (model prog w) A (.builtin "list.extend.loop" ⟨[.ref s.heap.objs.size,.ref it,.ref s.heap.objs.size],[]⟩) (fun r s'=>∃ (h':Heap) (tk:Nat) (acc:Array Value) (c':Nat),r=.ok (.ret (.ref s.heap.objs.size))∧s'={ s with heap:=h',toks:=tk,drawn:=d } ∧
        (∀ b o,s.heap.get? b=some o→h'.get? b=some o)∧h'.get? s.heap.objs.size=some { cls:=.type "list",dict:=none,data:=.seq acc c',slots:=#[] }∧acc.toList.Perm (es.toList.map (·.2))) { s with heap:=h2,toks:=tk,drawn:=d }:=by
    intro h2 c tk st2 k2 o2
    refine codeAny_extend_loopS (hW A.in1 hh).toS (by rw [sizeLine_eq]; omega) s.heap.objs.size hSf (.ref s.heap.objs.size) us.length 0 _ #[] c rfl (Nat.zero_le _) st2 o2 (ItemsOf.nil _) fun s' acc c' hm oS hacc=>?_
    have eq:s'={ s with heap:=s'.heap,toks:=s'.toks,drawn:=d }:=Moved.eq_with hm
    refine ⟨s'.heap,s'.toks,acc,c',rfl,eq,fun b o e=>hm.heap b o (fun hmem=>?_) (k2 b o (Nat.ne_of_lt (Heap.lt_size e)) (keep1 b o e)),oS,?_⟩
    · have hb:=Heap.lt_size e
      rcases List.mem_cons.mp hmem with z | z
      · exact absurd z (Nat.ne_of_lt hb)
      · have z':b=it:=by simpa using z
        have h2:s.heap.objs.size≤it:=Nat.le_trans (by show s.heap.objs.size≤G1.objs.size; rw [z1]; exact Nat.le_succ _) hit
        exact absurd hb (by rw [z']; exact Nat.not_lt.mpr h2)
    · have ea:acc.toList=us:=by
        refine List.ext_getElem? fun j=>?_
        rcases Nat.lt_or_ge j acc.size with y | y
        · have q:=hacc.2 j acc[j] (getElem?_pos acc j y)
          rw [q,Array.getElem?_toList,getElem?_pos acc j y]
        · rw [List.getElem?_eq_none (by simpa using y),List.getElem?_eq_none (by have:=hacc.1; omega)]
      rw [ea]
      exact hp
  have fin:∀ (r:Result) (s':Shared),(∃ (h':Heap) (tk:Nat) (acc:Array Value) (c':Nat),r=.ok (.ret (.ref s.heap.objs.size))∧s'={ s with heap:=h',toks:=tk,drawn:=d } ∧
        (∀ b o,s.heap.get? b=some o→h'.get? b=some o)∧h'.get? s.heap.objs.size=some { cls:=.type "list",dict:=none,data:=.seq acc c',slots:=#[] }∧acc.toList.Perm (es.toList.map (·.2)))→∃ v,r=.ok (.ret v)∧wpAny (model prog w) A (match v with
      | .ref b=>(do let o ← load b; match o.data with | .seq xs _=>pure xs.toList | _=>unsupported "internal:collect")
      | _=>unsupported "internal:collect") R E s':=by
    rintro r s' ⟨h',tk,acc,c',rfl,rfl,k,o,p⟩
    exact ⟨_,rfl,wpAny_bind (wpAny_load o (wpAny_pure (h h' tk d acc.toList k p)))⟩
  refine wpAny_bind (wpAny_holding (hint_set (s:={ s with heap:=h1,drawn:=d }) (SetG.type (s:={ s with heap:=h1,drawn:=d }) hS2) ?_))
  refine wpAny_ite_split (fun _=>?_) (fun _=>wpAny_pure ⟨plainId_quiet PySem.F.plain_extend_loop _,codeAny_mono (loop h1 _ _ hst (fun b o _ e=>hk b o e) oL1) fun r s' z=>?_⟩)
  · refine wpAny_bind (wpAny_rule (wpAny_bind ?_))
    show wpAny _ _ (updateSeq s.heap.objs.size (·.push .none) >>= fun _=>updateSeq s.heap.objs.size (·.pop)) _ _ _
    refine wpAny_bind (wpAny_updateSeq oL1 rfl ?_)
    have oL2:=Heap.get?_update_self (Obj.mapSeq (·.push Value.none)) oL1 rfl
    refine wpAny_updateSeq (hz:=by seq_fits) oL2 rfl ?_
    have oL3:=Heap.get?_update_self (Obj.mapSeq (·.pop)) oL2 rfl
    have oth:∀ b o,b≠s.heap.objs.size→h1.get? b=some o→((h1.update s.heap.objs.size (Obj.mapSeq (·.push Value.none))).update s.heap.objs.size (Obj.mapSeq (·.pop))).get? b=some o:=fun b o hb e =>
      (Heap.get?_update_other _ _ (Ne.symm hb)).trans ((Heap.get?_update_other _ _ (Ne.symm hb)).trans e)
    refine wpAny_pure ⟨plainId_quiet PySem.F.plain_extend_loop _,codeAny_mono (loop _ _ _ ((hW A.in1 hh).frame 0 _ _ hst fun b hb o e=>oth b o (fun z=>hSf (z ▸ hb)) e) (fun b o hb e=>oth b o hb (hk b o e)) oL3) fun r s' z=>?_⟩
    obtain ⟨v,rfl,q⟩:=fin r s' z
    exact q
  · obtain ⟨v,rfl,q⟩:=fin r s' z
    exact q
end
end Ss
namespace L2
open PySem PySem.Spec PyProof.Rows
def SetP (P:Program) (w:World) (a:Addr) (ks:List Key) (h:Heap):Prop :=
  ∃ es:Array (Int × Value),Ss.SetG w h a es∧ks.Nodup∧∃ el:List (Int × Value),el.Perm es.toList∧Paired (fun (k:Key) (e:Int × Value)=>(mixKind P w).is k e.2=true∧e.1=(mixKind P w).hash k) ks el
abbrev SetH (P:Program) (w:World) (a:Addr) (ks:List Key):HO:=.ext (SetP P w a ks)
def addK (ks:List Key) (k:Key):List Key:=if ks.any (fun j=>decide (j=k))=true then ks else ks++[k]
theorem addK_in {ks:List Key} {k:Key} (h:k ∈ ks):addK ks k=ks:=if_pos (List.any_eq_true.mpr ⟨k,h,decide_eq_true rfl⟩)
theorem addK_new {ks:List Key} {k:Key} (h:k ∉ ks):addK ks k=ks++[k]:=if_neg fun z=>by
  obtain ⟨j,hj,e⟩:=List.any_eq_true.mp z
  exact h (of_decide_eq_true e ▸ hj)
theorem setH_ok {P:Program} {w:World} {H:Hp} {h:Heap} {a:Addr} {ks:List Key} (x:SetP P w a ks h):ObjOk P w H h a (SetH P w a ks):=by
  refine ⟨x,?_,fun h1 h2 p k=>?_⟩
  · obtain ⟨es,⟨ep,t,ho,_⟩,_⟩:=x
    exact ⟨_,ho⟩
  · obtain ⟨es,g,r⟩:=p
    exact ⟨es,g.at k,r⟩
theorem scan_of {P:Program} {w:World} {k:Key} {v:Value} (h:(mixKind P w).is k v=true):v.scannable=true:=by
  rcases keyIs_shape h with ⟨i,t,rfl,rfl⟩ | ⟨x,t,rfl,rfl⟩ <;> rfl
theorem Paired.mem_right {α β:Type} {F:α→β→Prop}:∀ {xs:List α} {ys:List β},Paired F xs ys→∀ y ∈ ys,∃ x ∈ xs,F x y
  | _,_,.nil,y,h=>by cases h
  | _,_,.cons r t,y,h=>by
    rcases List.mem_cons.mp h with e | h
    · subst e; exact ⟨_,List.mem_cons_self,r⟩
    · obtain ⟨x,hx,z⟩:=Paired.mem_right t y h
      exact ⟨x,List.mem_cons_of_mem _ hx,z⟩
theorem Paired.mem_left {α β:Type} {F:α→β→Prop}:∀ {xs:List α} {ys:List β},Paired F xs ys→∀ x ∈ xs,∃ y ∈ ys,F x y
  | _,_,.nil,y,h=>by cases h
  | _,_,.cons r t,y,h=>by
    rcases List.mem_cons.mp h with e | h
    · subst e; exact ⟨_,List.mem_cons_self,r⟩
    · obtain ⟨x,hx,z⟩:=Paired.mem_left t y h
      exact ⟨x,List.mem_cons_of_mem _ hx,z⟩
theorem Paired.app {α β:Type} {F:α→β→Prop}:∀ {xs xs':List α} {ys ys':List β},Paired F xs ys→Paired F xs' ys'→Paired F (xs++xs') (ys++ys')
  | _,_,_,_,.nil,s=>s
  | _,_,_,_,.cons r t,s=>.cons r (Paired.app t s)
theorem setP_elems {P:Program} {w:World} {ks:List Key} {es:Array (Int × Value)} {el:List (Int × Value)} (p:el.Perm es.toList) (q:Paired (fun (k:Key) (e:Int × Value)=>(mixKind P w).is k e.2=true∧e.1=(mixKind P w).hash k) ks el):ElemsOf (mixKind P w) es.toList:=fun e he=>by
  obtain ⟨k,_,h⟩:=Paired.mem_right q e (p.mem_iff.mpr he)
  exact ⟨⟨k,h.1,h.2⟩,scan_of h.1⟩
section
variable {X:Cx} {pins:List (Addr × Obj)} {σ:St} {H:Hp} {s:Shared}
theorem set_add {D:Addr} {ks:List Key} {k:Key} {u:Value} {Q:Shared→Prop} {E:Value→Shared→Prop} (I:Inv X pins σ H s) (hD:H D=some (SetH X.prog X.w D ks)) (r:RelV (kV k) u) (hz:ks.length < 1000)
    (h:∀ s',Inv X pins σ (upd H D (SetH X.prog X.w D (addK ks k))) s'→Q s'):wpAny (model X.prog X.w) X.A (call (.builtin "set.add") [.ref D,u]) (fun _ s'=>Q s') E s:=by
  have hx:=I.hok D _ hD
  obtain ⟨⟨es,g,nd,el,p,q⟩,_,_⟩:=hx
  have hl:ks.length=es.size:=by have:=Paired.length q; have:=p.length_eq; simp at this; omega
  have hk:(mixKind X.prog X.w).is k u=true:=by
    cases k with
    | inl i=>obtain ⟨t,rfl⟩:=r; exact keyIs_int i t
    | inr x=>obtain ⟨t,rfl⟩:=r; exact keyIs_str x t
  refine Ss.add hk (scan_of hk) g (setP_elems p q) (by have:scanBound=4096:=rfl; omega) fun h' es' sb g' ad=>?_
  refine h _ (I.write (x:=D) (e:=D) (by rw [hD]; trivial) (.inl rfl) (fun b o hb e=>(sb.2 b hb).trans e) (by obtain ⟨ep,t,ho,_⟩:=g'; exact ⟨_,ho⟩) (setH_ok ⟨es',g',?_⟩))
  rcases ad with ⟨⟨e,he,hek⟩,rfl⟩ | ⟨hno,hp⟩
  · have hm:k ∈ ks:=by
      obtain ⟨k',hk',z⟩:=Paired.mem_right q e (p.mem_iff.mpr he)
      rw [(mixKind X.prog X.w).inj _ _ _ hek z.1]
      exact hk'
    rw [addK_in hm]
    exact ⟨nd,el,p,q⟩
  · have hm:k ∉ ks:=fun hm=>by
      obtain ⟨e,he,z⟩:=Paired.mem_left q k hm
      have:=hno e (p.mem_iff.mp he)
      rw [z.1] at this
      cases this
    rw [addK_new hm]
    refine ⟨List.nodup_append.mpr ⟨nd,List.pairwise_singleton _ _,fun a ha b hb=>?_⟩,el++[((mixKind X.prog X.w).hash k,u)],(p.append_right _).trans hp.symm,Paired.app q (.cons ⟨hk,rfl⟩ .nil)⟩
    rw [List.mem_singleton.mp hb]
    exact fun z=>hm (z ▸ ha)
end
theorem eval_SetComp {env:Env} (elt gens scope pos):eval (.SetComp elt gens scope pos) env=comprehension (.SetComp elt gens scope pos) scope env (firstIterPos gens pos) (newSet (.type "set")) (firstAsync gens) (firstIter gens env):=rfl
theorem compStart_set {prog:Program} {w:World} {A:Around} {R:Result→Shared→Prop} {s:Shared} {elt target iter ifs rest scope pos it acc env} (h0:codeAny (model prog w) A (.compLoop (.SetComp elt (⟨target,iter,ifs,0⟩::rest) scope pos) 0 it acc env) R s)
    (h:wpAny (model prog w) A (pyIter it) (fun it' s'=>codeAny (model prog w) A (.compLoop (.SetComp elt (⟨target,iter,ifs,0⟩::rest) scope pos) 0 it' acc env) R s') (notedBy (model prog w) A env fun x s'=>R (.error x) s') s):codeAny (model prog w) A (.compStart (.SetComp elt (⟨target,iter,ifs,0⟩::rest) scope pos) 0 it acc env) R s:=by
  refine codeAny_of_tree ?_
  show wpAny _ _ ((compStart (.SetComp elt (⟨target,iter,ifs,0⟩::rest) scope pos) 0 it acc env).onRaise (fun x=>do noteFrame x env; standAt theWindowsPlace)) _ _ s
  refine wpAny_notedAt (m:=compStart (.SetComp elt (⟨target,iter,ifs,0⟩::rest) scope pos) 0 it acc env) ?_
  unfold compStart
  show wpAny _ A (ask >>= _) _ _ s
  have fin:wpAny (model prog w) A (do standAt iter.pos; again (.compLoop (.SetComp elt (⟨target,iter,ifs,0⟩::rest) scope pos) 0 (← pyIter it) acc env)) (fun r s'=>match r with | .done f=>R (.ok f) s' | .again c'=>c'.quiet=true∧codeAny (model prog w) A c' R s') (notedBy (model prog w) A env fun x s'=>R (.error x) s') s :=
    wpAny_bind (wpAny_standAt (wpAny_bind (wpAny_mono h (fun _ _ z=>wpAny_pure ⟨rfl,z⟩) fun _ _ z=>z)))
  refine wpAny_bind (wpAny_askSetting (wpAny_ite ?_))
  split
  · first | exact wpAny_pure ⟨rfl,h0⟩ | exact wpAny_bind (wpAny_pure (wpAny_pure ⟨rfl,h0⟩))
  · first | exact wpAny_bind (wpAny_rule fin) | (refine wpAny_bind (wpAny_rule ?_); exact fin)
section
variable {X:Cx} {pins:List (Addr × Obj)} {σ:St} {H:Hp} {s:Shared} {xs Ns:List Str} {sc:Scope} {C:Addr} {fp:List Addr}
theorem Inv.startSN {ho:HO} {D:Addr} {h1:Heap} {m:Str→Option Value} {tk:Nat} {w:St} (I:Inv X pins σ H s) (S:LnScope X xs Ns sc) (hf:∀ b ∈ fp,FpOk X pins H b) (hlt:∀ b ∈ fp,b < s.heap.objs.size) (hw:w=xs.map fun _=>none)
    (hD:D=s.heap.objs.size) (hC:s.heap.objs.size≤C) (hDC:C≠D) (hk:∀ b o,s.heap.get? b=some o→h1.get? b=some o) (hn:h1.Ns C m) (hl:ObjOk X.prog X.w (upd H D ho) h1 D ho) :
    Inv (cxLN X xs Ns sc C fp s H) [] (w++σ) (upd H D ho) { s with heap:=h1,toks:=tk }:=by
  have hwl:w.length=xs.length:=by rw [hw,List.length_map]
  have hDle:s.heap.objs.size≤D:=by rw [hD]; exact Nat.le_refl _
  have cells:∀ y c,(clOf sc X.env.cells).lookup y=some c→c < s.heap.objs.size:=fun y c e=>by
    obtain ⟨v,q⟩:=I.cell y c (clOf_sub sc X.env.cells e)
    exact q.lt
  refine ⟨I.okLN S hC hf hlt,rfl,I.bare,Un.laid hk hDle (I.hok.fresh hDle),⟨m,hn,fun i y v e1 e2 e3=>?_⟩,fun y c e=>?_,?_,fun y c e=>?_,fun p hp=>absurd (show p ∈ ([]:List (Addr × Obj)) from hp) (by simp),I.hok.laid hk hDle hl,?_⟩
  · have e1:(xs++Ns)[i]?=some y:=e1
    have e2:(w++σ)[i]?=some (some v):=e2
    rcases Nat.lt_or_ge i xs.length with hi | hi
    · rw [List.getElem?_append_left (by omega),hw,List.getElem?_map,List.getElem?_eq_getElem hi] at e2
      cases e2
    · have e1':Ns[i - xs.length]?=some y:=by rw [List.getElem?_append_right hi] at e1; exact e1
      have e2':σ[i - xs.length]?=some (some v):=by rw [List.getElem?_append_right (by omega),hwl] at e2; exact e2
      have e3':Vis (relabel sc X.env) y:=e3
      have ny:sc.names.lookup y≠some .local:=S.apart y (List.mem_of_getElem? e1')
      have fr:sc.names.lookup y=some .free∧((relabel sc X.env).names.lookup y=some .cell∨(relabel sc X.env).names.lookup y=some .free):=by
        rcases e3' with h | h | h
        · obtain ⟨k',e,q⟩:=relabel_look h
          rcases q with q | ⟨_,q⟩
          · subst q; exact absurd e ny
          · cases q
        · obtain ⟨k',e,q⟩:=relabel_look h
          rcases q with q | ⟨q,_⟩
          · subst q; exact absurd rfl (S.nocell _ (PySem.mem_of_lookup e))
          · exact ⟨by rw [e,q],.inl h⟩
        · obtain ⟨k',e,q⟩:=relabel_look h
          rcases q with q | ⟨_,q⟩
          · exact ⟨by rw [e,← q],.inr h⟩
          · cases q
      have ok:=S.free (y,.free) (PySem.mem_of_lookup fr.1) rfl
      obtain ⟨m0,hn0,hl0⟩:=I.loc
      obtain ⟨u,r,l⟩:=hl0 _ y v (S.sub _ y e1' fr.1) e2' (.inr ok)
      refine ⟨u,r,.inr ⟨fr.2,?_⟩⟩
      rcases l with ⟨k,_⟩ | ⟨_,c,ec,z⟩
      · rcases ok with q | q <;> (rw [show X.env.kindOf y=some .local from k] at q; cases q)
      · obtain ⟨c',ec'⟩:=clOf_has sc X.env.cells (S.cells I.ok) (PySem.mem_of_lookup fr.1)
        have:=clOf_sub sc X.env.cells ec'
        rw [ec] at this
        cases this
        obtain ⟨o,ho,hd⟩:=z
        exact ⟨c,ec',o,hk _ _ ho,hd⟩
  · obtain ⟨v,o,ho,hd⟩:=I.cell y c (clOf_sub sc X.env.cells e)
    exact ⟨v,o,hk _ _ ho,hd⟩
  · show upd H D ho C=none
    rw [upd_ne hDC]
    exact I.hok.fresh hC
  · show upd H D ho c=none
    rw [upd_ne (Nat.ne_of_lt (Nat.lt_of_lt_of_le (cells y c e) hDle))]
    exact I.freeC y c (clOf_sub sc X.env.cells e)
  · show (w++σ).length=(xs++Ns).length
    rw [List.length_append,List.length_append,I.len,hwl,S.len]
end
section
variable {X:Cx} {xs Ns:List Str} {sc:Scope} {elt iter tg:Expr} {ifs:List Expr} {pos:Pos} {wi:TI} {g:TG} {tc:TT} {te:TE}
end
end L2
namespace Sg
open PySem PyProof.Rows
section
variable {prog:Program} {w:World} {A:Around} {E:Value→Shared→Prop} {s:Shared} {a₀:Array Keyed}
end
end Sg
namespace Sg
open PySem PyProof.Rows
end Sg
namespace Sg
open PySem PyProof.Rows
section
variable {prog:Program} {w:World} {A:Around} {E:Value→Shared→Prop} {s:Shared} {a₀:Array Keyed}
end
end Sg
namespace Sg
open PySem PyProof.Rows
section
variable {prog:Program} {w:World} {A:Around} {E:Value→Shared→Prop} {s:Shared} {a₀:Array Keyed}
end
end Sg
namespace Sg
open PySem PyProof.Rows
section
variable {prog:Program} {w:World} {A:Around} {E:Value→Shared→Prop} {s:Shared} {a₀:Array Keyed}
end
end Sg
namespace Sg
open PySem PyProof.Rows
section
variable {prog:Program} {w:World} {A:Around} {E:Value→Shared→Prop} {s:Shared}
end
end Sg
namespace L2
open PySem PySem.Spec PyProof.Rows
theorem vals_ints':∀ {ns:List Int} {us:List Value},IntsAre us ns→Vals (ns.map V.int) us
  | _,_,.nil=>.nil
  | _,_,.cons n t h=>.cons ⟨t,rfl⟩ (vals_ints' h)
theorem Inv.drawn {X:Cx} {pins:List (Addr × Obj)} {σ:St} {H:Hp} {s:Shared} (d:Drawn) (I:Inv X pins σ H s):Inv X pins σ H { s with drawn:=d }:=⟨I.ok,I.os,I.bare,I.base,I.loc,I.cell,I.free,I.freeC,I.pin,I.hok,I.len⟩
inductive cSrt (ns:List Int) (H:Hp) (Q:VK):Prop
  | mk (q:∀ (D:Addr) (ys:List Int),ys.Perm ns→ys.Pairwise (·≤·)→H D=none→Q (.ref D) (upd H D (.lst (ys.map V.int)))):cSrt ns H Q
inductive cSrtS (P:Program) (w:World) (xs:List V) (H:Hp) (Q:VK):Prop
  | mk (p:Addr) (ns:List Int) (e:xs=[.ref p]) (h:H p=some (SetH P w p (ns.map Sum.inl))) (hl:ns.length < 64) (q:cSrt ns H Q):cSrtS P w xs H Q
section
variable {X:Cx}
theorem keys_ints {P:Program} {w:World}:∀ {ns:List Int} {el:List (Int × Value)},Paired (fun (k:Key) (e:Int × Value)=>(mixKind P w).is k e.2=true∧e.1=(mixKind P w).hash k) (ns.map Sum.inl) el→IntsAre (el.map (·.2)) ns
  | [],_,.nil=>.nil
  | n::ns,_,.cons r t=>by
    obtain ⟨r,_⟩:=r
    rcases keyIs_shape (show keyIs (Sum.inl n) _=true from r) with ⟨i,tk,e1,e2⟩ | ⟨x,tk,e1,e2⟩
    · cases e1
      rw [List.map_cons,e2]
      exact .cons n tk (keys_ints t)
    · cases e1
theorem ints_perm {us vs:List Value} (p:us.Perm vs):∀ {ns:List Int},IntsAre vs ns→∃ ms,IntsAre us ms∧ms.Perm ns:=by
  intro ns h
  have a:∀ v ∈ us,∃ n t,v=.int n t:=fun v hv=>h.all v (p.mem_iff.mp hv)
  refine ⟨us.map numOf,intsAre_map us a,?_⟩
  rw [← h.nums]
  exact p.map _
theorem call_sorted_set (P:Program) (w:World) (hc:X.calm=true) (e1:X.prog=P:=by rfl) (e2:X.w=w:=by rfl):CallR X (.builtin "sorted") (cSrtS P w):=by
  subst e1 e2
  intro pins s σ H xs us Q I r h
  obtain ⟨p,ns,rfl,hq,hl,⟨q⟩⟩:=h
  obtain ⟨u,rfl,rx⟩:=vals1 r
  cases rx
  obtain ⟨⟨es,g,nd,el,pe,qe⟩,_,_⟩:=I.hok p _ hq
  have hh:X.A.in1.handled=none:=I.ok.hd hc
  have he:es.size=ns.length:=by have:=Paired.length qe; have:=pe.length_eq; simp at *; omega
  refine Calls.call_function_entry kind_sorted plain_sorted entry_sorted (args_sorted1 _) ?_
  unfold Builtin.«sorted»
  refine wpAny_bind (m:=checkCount "sorted" 1 1 _) (wpAny_pure (wpAny_bind (Ss.collect_set hh g (by omega) fun h' tk d vs keep hv=>?_)))
  obtain ⟨ms,hI,hm⟩:=ints_perm (hv.trans (pe.map (·.2)).symm) (keys_ints qe)
  have hlen:vs.length=ns.length:=by rw [hI.length,hm.length_eq]
  refine wpAny_bind (wpAny_newList ?_ (by rw [hlen,sizeLine_eq]; omega))
  have oL:(h'.push (seqObj "list" vs.toArray 0)).get? h'.objs.size=some (seqObj "list" vs.toArray 0):=Heap.get?_push_size _ rfl
  refine wpAny_bind (wpAny_holding (wpAny_call_entry slot_list_sort (s:={ s with heap:=h'.push (seqObj "list" vs.toArray 0),toks:=tk,drawn:=d }) ⟨_,oL,rfl⟩ entry_list_sort (list_sort_tree oL hI (by omega) fun out ns' h1 h2 h3=>⟨_,rfl,wpAny_pure ⟨_,rfl,?_⟩⟩) (args_list_sort _)))
  have I1:Inv X pins σ H { s with heap:=h',toks:=tk,drawn:=d }:=(I.kept (t':=tk) keep).drawn d
  obtain ⟨e,hat⟩:=sortedHeap_at (vs:=vs) (out:=out) oL
  refine ⟨.ref h'.objs.size,_,I1.laid (s:={ s with heap:=h',toks:=tk,drawn:=d }) (t':=tk) (o:=.lst (ns'.map V.int)) (fun b u e=>?_) (Nat.le_refl _) ⟨by rw [List.length_map,(h2.trans hm).length_eq,sizeLine_eq]; omega,out.toList,e,vals_ints' h1,hat⟩,rfl,q _ ns' (h2.trans hm) h3 (I1.hok.fresh (Nat.le_refl _))⟩
  have hb:h'.get? b=some u:=e
  have hlt:=Heap.lt_size hb
  rw [sortedHeap_old (Nat.ne_of_lt hlt) (by rw [size_push']; exact Nat.lt_succ_of_lt hlt)]
  exact Heap.get?_push_of_some _ hb
end
end L2
namespace Dx
open PySem PySem.Spec PySem.W PySem.Calls PyProof.Rows
def DE (h:Heap) (d:Addr) (es:Array DictEntry) (ep:Nat):Prop:=∃ o,h.get? d=some o∧o.ExactDict∧o.data=.dict es ep
theorem DE.keep {h h':Heap} {d:Addr} {es:Array DictEntry} {ep:Nat} (x:DE h d es ep) (k:∀ o,h.get? d=some o→h'.get? d=some o):DE h' d es ep:=by
  obtain ⟨o,e,r⟩:=x
  exact ⟨o,k o e,r⟩
theorem DE.lt {h:Heap} {d:Addr} {es:Array DictEntry} {ep:Nat} (x:DE h d es ep):d < h.objs.size:=by
  obtain ⟨o,e,_⟩:=x
  exact Heap.lt_size e
theorem DE.ty {s:Shared} {d:Addr} {es:Array DictEntry} {ep:Nat} (x:DE s.heap d es ep):s.TypeIs (.ref d) "dict":=by
  obtain ⟨o,e,r,_⟩:=x
  exact ⟨o,e,r.1⟩
section
variable {prog:Program} {w:World} {A:Around} {E:Value→Shared→Prop} {s:Shared} {d it:Addr} {es:Array DictEntry} {ep i:Nat}
theorem iter {Q:Value→Shared→Prop} (hd:(d == sysModules)=false) (hm:DE s.heap d es ep)
    (q:Q (.ref s.heap.objs.size) { s with heap:=s.heap.push { cls:=.type "dict_keyiterator",data:=.fields #[.ref d,.int 0 0,.int es.size 0,.int ep 0] } }):wpAny (model prog w) A (pyIter (.ref d)) Q E s:=by
  have hT:=hm.ty
  obtain ⟨o,ho,hc,hdat⟩:=hm
  refine wpAny_pyIter_slot hT PySem.F.slot_dict_iter (wpAny_call_entry PySem.F.slot_dict_iter hT PySem.F.entry_dict_iter ?_ (PySem.F.args_dict_iter_1 _))
  unfold Builtin.«dict.__iter__» Builtin.Dict.dictSlotNone
  refine wpAny_bind (wpAny_bind (wpAny_notOrdered_dict hT ?_))
  show wpAny _ _ (pure (Value.ref d)) _ _ s
  refine wpAny_pure ?_
  show wpAny _ _ (Builtin.Dict.showsAll d >>= _) _ _ s
  unfold Builtin.Dict.showsAll
  rw [if_neg (by rw [hd]; simp)]
  refine wpAny_bind (wpAny_pure (wpAny_bind (wpAny_dictEntries ho hdat (wpAny_bind (wpAny_dictEpoch ho hdat (wpAny_bind (wpAny_newObj_type (wpAny_pure ⟨_,rfl,"dict_keyiterator",_,⟨_,Heap.get?_push_size _ rfl,rfl⟩,PySem.F.slot_dict_keyiterator_next.lookup,?_⟩))))))))
  simpa [rawInt] using q
theorem next {e:DictEntry} {Q:Option Value→Shared→Prop} (hit:s.heap.IsKeyIter it d i es.size ep) (hm:DE s.heap d es ep) (hx:es[i]?=some e)
    (q:∀ h',h'.IsKeyIter it d (i + 1) es.size ep→Heap.SameBut it s.heap h'→Q (some e.key) { s with heap:=h' }):wpAny (model prog w) A (pyNext (.ref it)) Q E s:=by
  have hT:=hit.typeIs
  obtain ⟨o,ho,hc,hd⟩:=hit
  obtain ⟨od,hod,hcd,hdd⟩:=hm
  have hown:Builtin.Dict_items.ownsTuple "dict_keyiterator"=false:=by decide
  obtain ⟨hlt,he⟩:=Array.getElem?_eq_some_iff.mp hx
  unfold pyNext
  refine wpAny_bind (wpAny_attempt (wpAny_callSpecial?_slot (name:=Str.ofString "__next__") hT PySem.F.slot_dict_keyiterator_next (wpAny_call_entry PySem.F.slot_dict_keyiterator_next hT PySem.F.entry_dict_keyiterator_next ?_ (PySem.F.args_dict_keyiterator_next_1 _))))
  refine wpAny_bind (wpAny_pure (wpAny_bind (wpAny_bind ?_)))
  first | refine wpAny_bind (wpAny_typeNameOfWhole_keyiter hT (wpAny_pure (wpAny_bind (wpAny_fieldsOf ho hd ?_)))) | refine wpAny_bind (wpAny_typeNameOf_keyiter hT (wpAny_pure (wpAny_bind (wpAny_fieldsOf ho hd ?_))))
  simp only [hown,Bool.false_eq_true,if_false]
  show wpAny _ _ (if (Value.ref d == Value.none)=true then _ else _) _ _ s
  rw [if_neg (show ¬ ((Value.ref d == Value.none)=true) by simp)]
  refine wpAny_bind (wpAny_pure (wpAny_bind (wpAny_dictEntries hod hdd ?_)))
  rw [if_neg (by simp)]
  refine wpAny_bind (wpAny_pure (wpAny_bind (wpAny_dictEpoch hod hdd ?_)))
  rw [if_neg (by simp)]
  refine wpAny_pure ?_
  simp only [show ¬ ((i:Int) < 0) by omega,if_false,Int.toNat_natCast,hx]
  refine wpAny_bind ?_
  first | refine wpAny_bind (wpAny_typeNameOfWhole_keyiter hT (wpAny_pure (wpAny_bind (wpAny_isOneOf_keyiter hT ?_)))) | refine wpAny_bind (wpAny_typeNameOf_keyiter hT (wpAny_pure (wpAny_bind (wpAny_isOneOf_keyiter hT ?_))))
  show wpAny _ _ (setField (.ref it) 1 (rawInt ((i:Int) + 1)) >>= _) _ _ s
  refine wpAny_bind (wpAny_setField ho hd (by simp) ?_)
  have hit':(s.heap.update it (Obj.mapFields fun z=>z.setIfInBounds 1 (rawInt ((i:Int) + 1)))).IsKeyIter it d (i + 1) es.size ep :=
    ⟨_,Heap.get?_update_self _ ho (Obj.isFreed_of_fields (Obj.data_mapFields hd _)),(Obj.cls_mapFields ..).trans hc,by rw [Obj.data_mapFields hd]; simp [rawInt]⟩
  refine wpAny_bind (wpAny_holding (wpAny_bind (wpAny_isOneOf_keyiter (s:={ s with heap:=s.heap.update it (Obj.mapFields fun z=>z.setIfInBounds 1 (rawInt ((i:Int) + 1))) }) hit'.typeIs ?_)))
  show wpAny _ _ (pure e.key) _ _ _
  exact wpAny_pure (wpAny_pure ⟨_,rfl,wpAny_pure (q _ hit' (Heap.SameBut.update ..))⟩)
theorem stop {Q:Option Value→Shared→Prop} (hh:A.handled=none) (hge:es.size≤i) (hit:s.heap.IsKeyIter it d i es.size ep) (hm:DE s.heap d es ep)
    (q:∀ h',Heap.ExtBut it s.heap h'→Q none { s with heap:=h' }):wpAny (model prog w) A (pyNext (.ref it)) Q E s:=by
  have hT:=hit.typeIs
  obtain ⟨o,ho,hc,hd⟩:=hit
  obtain ⟨od,hod,hcd,hdd⟩:=hm
  have hown:Builtin.Dict_items.ownsTuple "dict_keyiterator"=false:=by decide
  unfold pyNext
  refine wpAny_bind (wpAny_attempt (wpAny_callSpecial?_slot (name:=Str.ofString "__next__") hT PySem.F.slot_dict_keyiterator_next (wpAny_call_entry PySem.F.slot_dict_keyiterator_next hT PySem.F.entry_dict_keyiterator_next ?_ (PySem.F.args_dict_keyiterator_next_1 _))))
  refine wpAny_bind (wpAny_pure (wpAny_bind (wpAny_bind ?_)))
  first | refine wpAny_bind (wpAny_typeNameOfWhole_keyiter hT (wpAny_pure (wpAny_bind (wpAny_fieldsOf ho hd ?_)))) | refine wpAny_bind (wpAny_typeNameOf_keyiter hT (wpAny_pure (wpAny_bind (wpAny_fieldsOf ho hd ?_))))
  simp only [hown,Bool.false_eq_true,if_false]
  show wpAny _ _ (if (Value.ref d == Value.none)=true then _ else _) _ _ s
  rw [if_neg (show ¬ ((Value.ref d == Value.none)=true) by simp)]
  refine wpAny_bind (wpAny_pure (wpAny_bind (wpAny_dictEntries hod hdd ?_)))
  rw [if_neg (by simp)]
  refine wpAny_bind (wpAny_pure (wpAny_bind (wpAny_dictEpoch hod hdd ?_)))
  rw [if_neg (by simp)]
  refine wpAny_pure ?_
  simp only [show ¬ ((i:Int) < 0) by omega,if_false,Int.toNat_natCast,Array.getElem?_eq_none hge]
  refine wpAny_bind ?_
  first | refine wpAny_bind (wpAny_typeNameOfWhole_keyiter hT (wpAny_pure ?_)) | refine wpAny_bind (wpAny_typeNameOf_keyiter hT (wpAny_pure ?_))
  show wpAny _ _ (setField (.ref it) 0 .none >>= _) _ _ s
  refine wpAny_bind (wpAny_setField ho hd (by simp) ?_)
  show wpAny _ _ (newExc (.type "StopIteration") [] >>= _) _ _ _
  simp only [newExc,newTuple]
  refine wpAny_bind (wpAny_bind (wpAny_newObj_type (wpAny_bind (m:=firstArgMember _ _) (wpAny_of_eq (a:=Value.none) (by first | rfl | (simp only [firstArgMember]; rfl)) (wpAny_newObj_type ?_ (by size_fits)))) (by size_fits)))
  simp only [raiseNew]
  refine wpAny_bind (wpAny_handled ?_)
  rw [show A.in1.handled=none from hh]
  refine wpAny_bind (wpAny_pure (wpAny_throw ?thr))
  case thr=>exact wpAny_bind (wpAny_isInstance (T:="StopIteration") (b:=true) ⟨_,Heap.get?_push_size _ rfl,rfl⟩ isSubtype_stop (wpAny_pure (q _ (((Heap.SameBut.update ..).extBut.push _).push _))))
theorem walks (hh:A.handled=none) (I:Addr) (hne:d≠I):Walks prog w A I [I,d] [I] es.size (fun i v=>∃ e,es[i]?=some e∧v=e.key) (fun i h=>h.IsKeyIter I d i es.size ep∧DE h d es ep) where
  sub:=fun b hb=>by simp at hb; simp [hb]
  frame:=fun _ _ _ st hk=>⟨st.1.at fun o e=>hk I (by simp) o e,st.2.keep fun o e=>hk d (by simp) o e⟩
  item:=fun i s Q E hi st hQ=>by
    obtain ⟨e,hx⟩:∃ e,es[i]?=some e:=⟨es[i],Array.getElem?_eq_getElem hi⟩
    refine next st.1 st.2 hx fun h' hit' hs'=>hQ e.key h' s.toks ⟨e,hx,rfl⟩ ⟨hit',st.2.keep fun o z=>?_⟩ fun b o hb z=>hs'.extBut b o (fun h=>hb (by simp [h])) z
    exact hs'.extBut d o hne z
  done:=fun s Q E st hQ=>stop hh (Nat.le_refl _) st.1 st.2 fun h' he'=>hQ h' s.toks fun b o hb e=>he' b o (fun h=>hb (by simp [h])) e
  self:=fun _ _ _ _ st hQ=>wpAny_pyIter_keyiter st.1 hQ
theorem src (lo:(d == sysModules)=false):KdlSrc prog w "dict" d d es.size (fun i v=>∃ e,es[i]?=some e∧v=e.key) (fun h=>DE h d es ep) where
  type:=fun _ hm=>hm.ty
  there:=fun _ hm=>⟨hm.lt,hm.lt⟩
  keep:=fun _ _ hm hk=>hm.keep fun o e=>hk d (.inl rfl) o e
  notList:=by decide
  notTuple:=by decide
  hint:=fun _ _ _ _ hm hq=>kdl_hint_dict hm.ty hq
  iter:=fun _ s hh hm=>⟨_,_,(fun _ _ hq=>iter lo hm hq),walks hh _ (Nat.ne_of_lt hm.lt),⟨⟨_,Heap.get?_push_size _ rfl,rfl,rfl⟩,hm.keep fun o e=>Heap.get?_push_of_some _ e⟩⟩
end
end Dx
namespace L2
open PySem PySem.Spec PySem.W PyProof.Rows
theorem pairs_ints {P:Program} {w:World}:∀ {es:List DictEntry} {kvs:List (Key × Value)} {ns:List Int},Pairs (mixKind P w) es kvs→kvs.map (·.1)=ns.map Sum.inl→IntsAre (es.map (·.key)) ns
  | _,_,[],.nil,_=>.nil
  | _,_,n::ns,.nil,h=>by cases h
  | _,_,[],.cons _ _ _,h=>by cases h
  | _,_,n::ns,.cons (kv:=kv) r _ t,h=>by
    rw [List.map_cons,List.map_cons] at h
    have h1:=(List.cons.inj h).1
    have h2:=(List.cons.inj h).2
    rcases keyIs_shape (show keyIs kv.1 _=true from r) with ⟨i,tk,e1,e2⟩ | ⟨x,tk,e1,e2⟩
    · rw [h1] at e1
      cases e1
      rw [List.map_cons,e2]
      exact .cons n tk (pairs_ints t h2)
    · rw [h1] at e1
      cases e1
theorem kv_keys {κ:Type}:∀ {a:List (κ × V)} {b:List (κ × Value)},KV a b→b.map (·.1)=a.map (·.1)
  | _,_,.nil=>rfl
  | _,_,.cons (a:=x) (b:=y) h t=>by rw [List.map_cons,List.map_cons,kv_keys t,h.1]
inductive cSrtD (xs:List V) (H:Hp) (Q:VK):Prop
  | mk (p:Addr) (kvs:List (Key × V)) (ns:List Int) (e:xs=[.ref p]) (h:H p=some (.dK kvs)) (hk:kvs.map (·.1)=ns.map Sum.inl) (hl:ns.length < 64) (q:cSrt ns H Q):cSrtD xs H Q
theorem call_sorted_dK {X:Cx} (hc:X.calm=true):CallR X (.builtin "sorted") cSrtD:=by
  intro pins s σ H xs us Q I r h
  obtain ⟨p,kvs,ns,rfl,hq,hk,hl,⟨q⟩⟩:=h
  obtain ⟨u,rfl,rx⟩:=vals1 r
  cases rx
  obtain ⟨z,hd,vs0,kv,o,es,ep,h1,h2,h3,h4,h5,h6⟩:=(show ObjOk X.prog X.w H s.heap p (.dK kvs) from I.hok p _ hq)
  have hh:X.A.in1.handled=none:=I.ok.hd hc
  have hkk:vs0.map (·.1)=ns.map Sum.inl:=by
    rw [← hk]
    exact kv_keys kv
  have hes:=pairs_ints h5 hkk
  have hsz:es.size=ns.length:=by
    have:=hes.length
    rw [List.length_map,Array.length_toList] at this
    exact this
  refine Calls.call_function_entry kind_sorted plain_sorted entry_sorted (args_sorted1 _) ?_
  unfold Builtin.«sorted»
  refine wpAny_bind (m:=checkCount "sorted" 1 1 _) (wpAny_pure (wpAny_bind (kdu_collect (Dx.src (es:=es) (ep:=ep) hd) hh ⟨o,h1,h2,h3⟩ (by rw [hsz,sizeLine_eq]; omega) fun h' tk acc keep hacc=>?_)))
  have eacc:acc.toList=es.toList.map (·.key):=by
    refine List.ext_getElem? fun j=>?_
    rw [List.getElem?_map,Array.getElem?_toList,Array.getElem?_toList]
    by_cases hj:j < acc.size
    · obtain ⟨e,he,hv⟩:=hacc.2 j acc[j] (Array.getElem?_eq_getElem hj)
      rw [Array.getElem?_eq_getElem hj,he,hv]
      rfl
    · have e1:=hacc.1
      rw [Array.getElem?_eq_none (by omega),Array.getElem?_eq_none (by omega)]
      rfl
  rw [eacc]
  generalize es.toList.map (·.key)=vs at hes
  have hlen:vs.length=ns.length:=hes.length
  refine wpAny_bind (wpAny_newList ?_ (by rw [hlen,sizeLine_eq]; omega))
  have oL:(h'.push (seqObj "list" vs.toArray 0)).get? h'.objs.size=some (seqObj "list" vs.toArray 0):=Heap.get?_push_size _ rfl
  refine wpAny_bind (wpAny_holding (wpAny_call_entry slot_list_sort (s:={ s with heap:=h'.push (seqObj "list" vs.toArray 0),toks:=tk }) ⟨_,oL,rfl⟩ entry_list_sort (list_sort_tree oL hes (by omega) fun out ns' h1 h2 h3=>⟨_,rfl,wpAny_pure ⟨_,rfl,?_⟩⟩) (args_list_sort _)))
  have I1:Inv X pins σ H { s with heap:=h',toks:=tk }:=I.kept (t':=tk) keep
  obtain ⟨e,hat⟩:=sortedHeap_at (vs:=vs) (out:=out) oL
  refine ⟨.ref h'.objs.size,_,I1.laid (s:={ s with heap:=h',toks:=tk }) (t':=tk) (o:=.lst (ns'.map V.int)) (fun b u e=>?_) (Nat.le_refl _) ⟨by rw [List.length_map,h2.length_eq,sizeLine_eq]; omega,out.toList,e,vals_ints' h1,hat⟩,rfl,q _ ns' h2 h3 (I1.hok.fresh (Nat.le_refl _))⟩
  have hb:h'.get? b=some u:=e
  have hlt:=Heap.lt_size hb
  rw [sortedHeap_old (Nat.ne_of_lt hlt) (by rw [size_push']; exact Nat.lt_succ_of_lt hlt)]
  exact Heap.get?_push_of_some _ hb
end L2
namespace L2
open PySem PySem.Spec PyProof.Rows
section
variable {X:Cx} {a b c d:Expr} {ta tb tc td:TE} {pos:Pos}
end
end L2
namespace L2
open PySem PySem.Spec PyProof.Rows
section
variable {X:Cx}
end
end L2
namespace Pr
open PySem L2 PyProof.Rows Ent
abbrev Pr1:=Int × List En
def grp (n:Int) (prs:List Pr1):List En:=(prs.filter fun p=>decide (p.1=n)).flatMap (·.2)
def PairT (H:Hp) (y:V) (p:Pr1):Prop:=∃ a v,y=.ref a∧H a=some (.tup [.int p.1,v])∧BT H v p.2
theorem PairT.same {H H':Hp} (s:Same H H') {y:V} {p:Pr1} (h:PairT H y p):PairT H' y p:=by
  obtain ⟨a,v,e,h1,h2⟩:=h
  exact ⟨a,v,e,s _ _ h1,h2.same s⟩
theorem PairT.tups {H H':Hp} (s:∀ b xs,H b=some (.tup xs)→H' b=some (.tup xs)) {y:V} {p:Pr1} (h:PairT H y p):PairT H' y p:=by
  obtain ⟨a,v,e,h1,h2⟩:=h
  exact ⟨a,v,e,s _ _ h1,h2.tups s⟩
theorem grp_snoc (n:Int) (prs:List Pr1) (p:Pr1):grp n (prs++[p])=if p.1=n then grp n prs++p.2 else grp n prs:=by
  unfold grp
  rw [List.filter_append,List.flatMap_append]
  by_cases h:p.1=n
  · rw [if_pos h]; simp [h]
  · rw [if_neg h]; simp [h]
theorem grp_none {n:Int} {prs:List Pr1} (h:n ∉ prs.map (·.1)):grp n prs=[]:=by
  unfold grp
  rw [show prs.filter (fun p=>decide (p.1=n))=[] from ?_]
  · rfl
  · rw [List.filter_eq_nil_iff]
    intro p hp z
    exact h (List.mem_map.mpr ⟨p,hp,of_decide_eq_true z⟩)
theorem put_keys {κ:Type} [DecidableEq κ] (kvs:List (κ × V)) (k:κ) (v:V):(putK kvs k v).map (·.1)=if k ∈ kvs.map (·.1) then kvs.map (·.1) else kvs.map (·.1)++[k]:=by
  unfold putK
  by_cases h:(kvs.any fun kv=>decide (kv.1=k))=true
  · rw [if_pos h]
    obtain ⟨x,hx,e⟩:=List.any_eq_true.mp h
    rw [if_pos (List.mem_map.mpr ⟨x,hx,of_decide_eq_true e⟩),List.map_map]
    refine List.map_congr_left fun y _=>?_
    show (if y.1=k then (y.1,v) else y).1=y.1
    split <;> rfl
  · rw [if_neg h,if_neg,List.map_append]
    · rfl
    · intro z
      obtain ⟨x,hx,e⟩:=List.mem_map.mp z
      exact h (List.any_eq_true.mpr ⟨x,hx,decide_eq_true e⟩)
theorem few2 {α:Type} [DecidableEq α]:∀ {l zs:List α},l.Nodup→(∀ x ∈ l,x ∈ zs)→l.length≤zs.length
  | [],_,_,_=>Nat.zero_le _
  | x::t,zs,nd,h=>by
    have nd':=List.nodup_cons.mp nd
    have hx:=h x List.mem_cons_self
    have:=few2 (zs:=zs.erase x) nd'.2 fun y hy=>by
      have ne:y≠x:=fun z=>nd'.1 (z ▸ hy)
      exact (List.mem_erase_of_ne ne).mpr (h y (List.mem_cons_of_mem _ hy))
    rw [List.length_erase_of_mem hx] at this
    have:0 < zs.length:=List.length_pos_of_mem hx
    rw [List.length_cons]
    omega
structure GD (H:Hp) (kvs:List (Key × V)) (ns:List Int) (prs:List Pr1):Prop where
  k:kvs.map (·.1)=ns.map Sum.inl
  nd:ns.Nodup
  m:∀ n,n ∈ ns↔n ∈ prs.map (·.1)
  v:∀ n ∈ ns,∃ v,valV kvs (.inl n)=some v∧BT H v (grp n prs)
  z:∀ n,n ∉ ns→valV kvs (.inl n)=none
theorem GD.tups {H H':Hp} (s:∀ b xs,H b=some (.tup xs)→H' b=some (.tup xs)) {kvs:List (Key × V)} {ns:List Int} {prs:List Pr1} (g:GD H kvs ns prs):GD H' kvs ns prs :=
  ⟨g.k,g.nd,g.m,fun n hn=>by obtain ⟨v,e,h⟩:=g.v n hn; exact ⟨v,e,h.tups s⟩,g.z⟩
theorem GD.put {H:Hp} {kvs:List (Key × V)} {ns:List Int} {prs:List Pr1} (g:GD H kvs ns prs) {n:Int} {es:List En} {v:V} (h:BT H v (grp n prs++es)):∃ ns',GD H (putK kvs (.inl n) v) ns' (prs++[(n,es)]):=by
  have mk:(Sum.inl n:Key) ∈ kvs.map (·.1)↔n ∈ ns:=by
    rw [g.k,List.mem_map]
    exact ⟨fun ⟨x,hx,e⟩=>by cases e; exact hx,fun h=>⟨n,h,rfl⟩⟩
  have mm:∀ x,x ∈ (prs++[(n,es)]).map (·.1)↔x ∈ ns∨x=n:=fun x=>by
    rw [List.map_append,List.mem_append,← g.m]
    simp
  have vv:∀ x v',x≠n→valV kvs (.inl x)=some v'→valV (putK kvs (.inl n) v) (.inl x)=some v':=fun x v' hx e=>by
    rw [valV_put,if_neg (fun z=>hx (Sum.inl.inj z))]; exact e
  have vn:valV (putK kvs (.inl n) v) (.inl n)=some v:=by rw [valV_put,if_pos rfl]
  have gn:∀ x,x≠n→grp x (prs++[(n,es)])=grp x prs:=fun x hx=>by rw [grp_snoc,if_neg (fun z=>hx z.symm)]
  have ge:grp n (prs++[(n,es)])=grp n prs++es:=by rw [grp_snoc,if_pos rfl]
  by_cases hn:n ∈ ns
  · refine ⟨ns,?_,g.nd,fun x=>?_,fun x hx=>?_,fun x hx=>?_⟩
    · rw [put_keys,if_pos (mk.mpr hn),g.k]
    · rw [mm]
      exact ⟨.inl,fun h=>h.elim id fun e=>e ▸ hn⟩
    · by_cases e:x=n
      · rw [e]; exact ⟨v,vn,by rw [ge]; exact h⟩
      · obtain ⟨v',e1,h1⟩:=g.v x hx
        exact ⟨v',vv x v' e e1,by rw [gn x e]; exact h1⟩
    · have e:x≠n:=fun z=>hx (z ▸ hn)
      rw [valV_put,if_neg (fun z=>e (Sum.inl.inj z))]
      exact g.z x hx
  · refine ⟨ns++[n],?_,?_,fun x=>?_,fun x hx=>?_,fun x hx=>?_⟩
    · rw [put_keys,if_neg (fun z=>hn (mk.mp z)),g.k,List.map_append]; rfl
    · rw [List.nodup_append]
      refine ⟨g.nd,by simp,fun a ha b hb z=>?_⟩
      rw [List.mem_singleton.mp hb] at z
      exact hn (z ▸ ha)
    · rw [mm,List.mem_append,List.mem_singleton]
    · by_cases e:x=n
      · rw [e]; exact ⟨v,vn,by rw [ge]; exact h⟩
      · have hx':x ∈ ns:=(List.mem_append.mp hx).elim id fun z=>absurd (List.mem_singleton.mp z) e
        obtain ⟨v',e1,h1⟩:=g.v x hx'
        exact ⟨v',vv x v' e e1,by rw [gn x e]; exact h1⟩
    · have e:x≠n:=fun z=>hx (List.mem_append_right _ (List.mem_singleton.mpr z))
      rw [valV_put,if_neg (fun z=>e (Sum.inl.inj z))]
      exact g.z x fun z=>hx (List.mem_append_left _ z)
section
variable {P:Program} {w:World} {K:PySem.W.Frag} {mg:Str→Option Value} {base:Heap} {C:Addr}
inductive sp_gathered (vs:List V) (H:Hp) (Q:VK) (E:XK):Prop
  | mk (a:Addr) (xs:List V) (prs:List Pr1) (e:vs=[.ref a]) (ha:H a=some (.lst xs)) (hp:Paired (PairT H) xs prs) (hl:prs.length < 64)
      (q:∀ D ys (ms:List Int) H',Same H H'→H D=none→H' D=some (.lst ys)→Paired (PairT H') ys (ms.map fun n=>(n,grp n prs))→ms.Nodup→ms.Pairwise (·≤·)→(∀ n,n ∈ ms↔n ∈ prs.map (·.1))→Q (.ref D) H'):sp_gathered vs H Q E
theorem sc_gathered:FnScope ["pairs","found","number","bar"] ["pairs"] (defScope s_gathered):=⟨rfl,rfl,rfl,by decide +kernel,rfl,by decide +kernel,by decide +kernel⟩
theorem hu_of {k:Nat} {A:Around} (hr:Room k A):A.units + 1 < cLine:=by have:=hr.units; omega
set_option maxHeartbeats 4000000 in
theorem gathered (T:Txt K mg C):Can P w K mg base 6 "gathered" ["pairs"] sp_gathered:=by
  refine fn_can T.f_gathered sc_gathered (fun vs H Q E h=>?_) (fun f cdv A outer s H vs Q E hr h=>?_)
  · obtain ⟨a,xs,prs,rfl,_⟩:=h
    rfl
  · obtain ⟨a,xs,prs,rfl,ha,hp,hl,q⟩:=h
    refine ⟨_,(pss_cons (ps_set (i:=1) sc_gathered.nd rfl (Or.inr rfl) pe_dnewK)
      (pss_cons (ps_for PassesOwn.never rfl (pi_listK K (pv 0)) (pg_tupK K rfl (pgs_cons (pg_name (i:=2) sc_gathered.nd rfl (Or.inl rfl)) (pgs_cons (pg_name (i:=3) sc_gathered.nd rfl (Or.inl rfl)) pgs_nil)))
        (pss_one (ps_dput (hu_of hr) (pv 1) (pv 2) (pe_can (joined T) hr (pa2 (pe_dget2 (hu_of hr) (pv 1) (pv 2) (pe_can0 (empty T) hr) ⟨rfl,rfl,rfl,rfl⟩) (pv 3))) rfl)))
      (pss_one (ps_ret (pe_ln (xs:=["number"]) (Ns:=["pairs","found","number'","bar"]) rfl (lnS _ sc_gathered) (pi_listK K (pe_b (call_sorted_dK rfl) T.b_sorted boot_sorted (pa1 (pv 1)))) (pg_one (lnS _ sc_gathered)) (fun _ _ _ _=>pts_nil) (fun _ _ _ _=>(pe_tup (pa2 (pv 0) (pe_dget (hu_of hr) (pv 2) (pv 0) (fun _ _=>rfl)))))))))),?_⟩
    have xl:=Paired.length hp
    intro F hF
    have s1:Same H (upd H F (.dK [])):=Same.upd hF
    have hF1:(upd H F (.dK [])) F=some (.dK []):=upd_same
    generalize (upd H F (.dK []))=H1 at s1 hF1
    refine ⟨_,rfl,a,rfl,⟨_,.of (s1 _ _ ha)⟩,for_list (K:=K) (a:=a) (xs:=xs) (fun i σ H2=>∃ v2 v3 kvs ns,σ=[some (.ref a),some (.ref F),v2,v3]∧Same H H2∧H2 F=some (.dK kvs)∧GD H2 kvs ns (prs.take i)) ⟨_,_,[],[],rfl,s1,hF1,⟨rfl,List.nodup_nil,fun n=>by simp,(fun n h=>nomatch h),fun n _=>rfl⟩⟩ (fun i σ H2 _ ⟨_,_,_,_,_,s2,_⟩=>.of (s2 _ _ ha)) ?turn ?fin⟩
    case turn =>
      rintro i x σ H2 hx ⟨v2,v3,kvs,ns,rfl,s2,hF2,g⟩
      obtain ⟨pr,hpr,t,bv,rfl,ht,hbv⟩:=Paired.get hp hx
      have kl:kvs.length < sizeLine:=by
        have e1:kvs.length=ns.length:=by have:=congrArg List.length g.k; rw [List.length_map,List.length_map] at this; exact this
        have e2:=few2 g.nd fun n hn=>(g.m n).mp hn
        rw [List.length_map,List.length_take] at e2
        rw [sizeLine_eq]
        omega
      refine ⟨t,_,rfl,.of (s2 _ _ ht),rfl,_,_,rfl,_,_,rfl,rfl,?_⟩
      refine ⟨_,rfl,F,rfl,.inl ⟨kvs,.inl hF2⟩,_,rfl,rfl,fun e0 H3 s3 he0 hd3=>?_⟩
      have hF3:=s3 _ _ hF2
      refine ⟨_,DGet.k (k:=.inl pr.1) hF3,_,rfl,?_⟩
      have tk:prs.take (i + 1)=prs.take i++[(pr.1,pr.2)]:=by rw [List.take_add_one,hpr]; rfl
      have bx:BT H3 ((valV kvs (.inl pr.1)).getD (.ref e0)) (grp pr.1 (prs.take i)):=by
        by_cases hn:pr.1 ∈ ns
        · obtain ⟨v,e,h⟩:=g.v _ hn
          rw [e]
          exact h.same s3
        · rw [g.z _ hn,grp_none (fun z=>hn ((g.m _).mpr z))]
          exact ⟨e0,emptyD,rfl,hd3,.non rfl rfl⟩
      have s23:=s2.trans s3
      refine ⟨_,_,_,_,rfl,bx.g,(hbv.same s23).g,fun p4 H4 b4 s4 hp4 ho4 hd4=>?_⟩
      have hF4:=s4 _ _ hF3
      refine ⟨_,rfl,_,rfl,F,_,rfl,DPut.k (k:=.inl pr.1) hF4 kl,?_⟩
      have tp:∀ b xs,H4 b=some (.tup xs)→(upd H4 F (.dK (putK kvs (.inl pr.1) (.ref p4)))) b=some (.tup xs):=fun b xs h=>by
        rw [upd_ne (fun z=>by rw [z,hF4] at h; cases h)]; exact h
      obtain ⟨ns',g'⟩:=((g.tups fun b xs h=>s4 _ _ (s3 _ _ h))).put (n:=pr.1) (es:=pr.2) (v:=.ref p4) ⟨p4,b4,rfl,hd4,ho4⟩
      refine ⟨_,_,_,ns',rfl,fun b o h=>?_,upd_same,?_⟩
      · rw [upd_ne (ne_of_none h hF)]
        exact s4 _ _ (s23 _ _ h)
      · rw [tk]
        exact g'.tups tp
    case fin =>
      rintro σ H2 ⟨v2,v3,kvs,ns,rfl,s2,hF2,g⟩
      rw [xl,List.take_length] at g
      have nl:ns.length < 64:=by
        have:=few2 g.nd fun n hn=>(g.m n).mp hn
        rw [List.length_map] at this
        omega
      refine ⟨_,rfl,F,kvs,ns,rfl,hF2,g.k,nl,⟨fun D ms pm srt hD=>?_⟩⟩
      have s3:Same H2 (upd H2 D (.lst (ms.map V.int))):=Same.upd hD
      have hD3:(upd H2 D (.lst (ms.map V.int))) D=some (.lst (ms.map V.int)):=upd_same
      generalize (upd H2 D (.lst (ms.map V.int)))=H3 at s3 hD3
      have hF3:=s3 _ _ hF2
      have g3:GD H3 kvs ns prs:=g.tups fun b xs h=>s3 _ _ h
      refine ⟨D,rfl,⟨_,.of hD3⟩,fun G hG=>?_⟩
      refine lcN_list (xs:=ms.map V.int) (fun i ys H4=>H4 G=some (.lst ys)∧Same H3 H4∧Paired (PairT H4) ys ((ms.take i).map fun n=>(n,grp n prs))) ⟨upd_same,Same.upd hG,.nil⟩ (fun i ys H4 h=>⟨h.1,.of (h.2.1 _ _ hD3)⟩) (fun ys H4 h=>?_) (fun i x ys H4 u hu2 hi hx h=>?_)
      · obtain ⟨d1,d2,d3⟩:=h
        rw [List.length_map,List.take_length] at d3
        exact q G ys ms H4 (s2.trans (s3.trans d2)) (s2.free (s3.free hG)) d1 d3 (pm.nodup_iff.mpr g.nd) srt fun n=>(pm.mem_iff).trans (g.m n)
      · obtain ⟨d1,d2,d3⟩:=h
        obtain ⟨u1,rfl⟩:=len1 hu2
        obtain ⟨n,hn,rfl⟩:=int_of_map hx
        rw [List.length_map] at hi
        have hnn:n ∈ ns:=pm.mem_iff.mp (List.mem_of_getElem? hn)
        obtain ⟨v,ev,bv⟩:=g3.v n hnn
        have ml:ms.length < 64:=by rw [pm.length_eq]; exact nl
        have yl:=Paired.length d3
        rw [List.length_map,List.length_take] at yl
        refine ⟨⟨[_],rfl,rfl⟩,yesI ⟨_,rfl,_,rfl,_,rfl,F,v,rfl,by have:=DGet.k (k:=.inl n) (d2 _ _ hF3); rw [ev] at this; exact this,two_line,fun t ht=>?_⟩⟩
        have s5:Same H4 (upd H4 t (.tup [.int n,v])):=Same.upd ht
        have ht5:(upd H4 t (.tup [.int n,v])) t=some (.tup [.int n,v]):=upd_same
        generalize (upd H4 t (.tup [.int n,v]))=H5 at s5 ht5
        have hG5:=s5 _ _ d1
        have tp:∀ b xs,H5 b=some (.tup xs)→(upd H5 G (.lst (ys++[.ref t]))) b=some (.tup xs):=fun b xs h=>by
          rw [upd_ne (fun z=>by rw [z,hG5] at h; cases h)]; exact h
        refine LcNx.mk (by rw [List.length_map]; exact hi) (by rw [List.length_map]; omega) (by omega) hG5 ⟨upd_same,fun b o h=>?_,?_⟩
        · rw [upd_ne (ne_of_none h hG)]
          exact s5 _ _ (d2 _ _ h)
        · rw [List.take_add_one,hn,List.map_append]
          refine Paired.snoc ?_ (Paired.mapP d3 fun _ _ z=>(z.same s5).tups tp)
          exact PairT.tups tp ⟨t,v,rfl,ht5,(bv.same d2).same s5⟩
end
end Pr
namespace Pr
open PySem L2 PyProof.Rows Ent
def own (st:List Lad.Step) (r:Nat) (n:Int) (es:List En):List En:=es.filter fun e=>decide (Lad.ur st r e.1=n)
theorem grp_own (st:List Lad.Step) (r:Nat) (n:Int):∀ es:List En,grp n (es.map fun e=>(Lad.ur st r e.1,[e]))=own st r n es
  | []=>rfl
  | e::t=>by
    have ih:=grp_own st r n t
    unfold grp own at ih ⊢
    rw [List.map_cons,List.filter_cons,List.filter_cons]
    by_cases h:Lad.ur st r e.1=n
    · rw [if_pos (decide_eq_true h),if_pos (decide_eq_true h),List.flatMap_cons,ih]
      rfl
    · rw [if_neg (by simp [h]),if_neg (by simp [h]),ih]
theorem en_wide {e:En} (h:EnOk e) : -W30 < e.1∧e.1 < W30:=by
  have h1:=h.m
  have h30:((10:Nat) ^ 30)=1000000000000000000000000000000:=by decide +kernel
  have hW:W30=1000000000000000000000000000000:=rfl
  rw [h30] at h1
  omega
section
variable {P:Program} {w:World} {K:PySem.W.Frag} {mg:Str→Option Value} {base:Heap} {C:Addr}
inductive sp_bars_of (C:Addr) (vs:List V) (H:Hp) (Q:VK) (E:XK):Prop
  | mk (x a:Addr) (o:HO) (xs:List V) (es:List En) (r:Nat) (b:Int) (ps:List Int) (rows:List Lad.Step) (e:vs=[.ref x,.int (r:Int),.ref a]) (hL:LadAt C H x b ps rows) (ok:LadOk b ps rows) (hr:r≤rows.length) (ha:H a=some o) (ho:Ob o xs) (hx:Paired (EntG H) xs es) (hl:es.length < 64) (ek:∀ e ∈ es,EnOk e)
      (q:∀ D ys (ms:List Int) H',Same H H'→H D=none→H' D=some (.lst ys)→Paired (PairT H') ys (ms.map fun n=>(n,own (allSt b ps rows) r n es))→ms.Nodup→ms.Pairwise (·≤·)→(∀ n,n ∈ ms↔∃ e ∈ es,Lad.ur (allSt b ps rows) r e.1=n)→Q (.ref D) H'):sp_bars_of C vs H Q E
theorem sc_bars_of:FnScope ["ladder","roll","entries"] ["ladder","roll","entries"] (defScope s_bars_of):=⟨rfl,rfl,rfl,by decide +kernel,rfl,by decide +kernel,by decide +kernel⟩
set_option maxHeartbeats 4000000 in
theorem bars_of (T:Txt K mg C):Can P w K mg base 7 "bars_of" ["ladder","roll","entries"] (sp_bars_of C):=by
  refine fn_can T.f_bars_of sc_bars_of (fun vs H Q E h=>?_) (fun f cdv A outer s H vs Q E hr h=>?_)
  · obtain ⟨x,a,o,xs,es,r,b,ps,rows,rfl,_⟩:=h
    rfl
  · obtain ⟨x,a,o,xs,es,r,b,ps,rows,rfl,hL,ok,hrl,ha,ho,hx,hl,ek,q⟩:=h
    refine ⟨_,(pss_cons (ps_expr (pe_can (need_roll T) hr (pa3 (pv 1) pe_int (pe_op op_sub (pe_canM0 (pv 0) T.cl (rolls T) hr) pe_int))))
      (pss_one (ps_ret (pe_can (gathered T) hr (pa1 (pe_lc rfl (lcS sc_bars_of) (pi_seq (pv 2)) (fun _ _ _ _=>pts_nil) (fun _ _ _ _=>(pe_tup (pa2 (pe_canM (pv 1) T.cl (bar_at T) hr (pa2 (pv 2) (pe_ix ix_ob (pv 0) pe_int (fun _ _=>rfl)))) (pe_can (bar_of T) hr (pa1 (pe_lst (pa1 (pv 0)))))))))))))),?_⟩
    obtain ⟨dx,fa,fo,fc,hi⟩:=lad_ins hL
    have xl:=Paired.length hx
    refine ⟨_,rfl,_,rfl,x,dx,_,rfl,hi,flds_no _ _ _ (by decide) (by decide) (by decide),x,b,ps,rows,rfl,hL,_,_,rfl,rfl,(r:Int),0,_,rfl,by omega,by omega,?_⟩
    refine ⟨_,rfl,a,o,xs,rfl,ha,ho,fun J hJ D hD=>?_⟩
    refine lc_it hJ (fun i ys H1=>H1 D=some (.lst ys)∧Same H H1∧Paired (PairT H1) ys ((es.take i).map fun e=>(Lad.ur (allSt b ps rows) r e.1,[e]))) ⟨upd_same,Same.upd hD,.nil⟩ (fun i ys H1 h=>⟨h.1,h.2.1 _ _ ha⟩) (fun ys H1 h=>?_) fun i v ys H1 hi' hv h=>?_
    · obtain ⟨d1,d2,d3⟩:=h
      rw [List.take_of_length_le (by omega)] at d3
      refine ⟨D,ys,_,rfl,d1,d3,by rw [List.length_map]; exact hl,fun G zs ms H2 s2 hG hG2 hz nd srt mem=>?_⟩
      refine q G zs ms H2 (d2.trans s2) (d2.free hG) hG2 ?_ nd srt fun n=>?_
      · have e:(fun n=>(n,grp n (es.map fun e=>(Lad.ur (allSt b ps rows) r e.1,[e]))))=fun n=>(n,own (allSt b ps rows) r n es):=funext fun n=>by rw [grp_own]
        rw [e] at hz
        exact hz
      · rw [mem,List.map_map,List.mem_map]
        exact Iff.rfl
    · obtain ⟨d1,d2,d3⟩:=h
      obtain ⟨e,he,b',ob,rfl,hb,hob⟩:=Paired.get hx hv
      have ew:=en_wide (ek e (List.mem_of_getElem? he))
      have yl:=Paired.length d3
      rw [List.length_map,List.length_take] at yl
      refine yesI ⟨_,rfl,x,dx,_,rfl,d2 _ _ hi,flds_no _ _ _ (by decide) (by decide) (by decide),_,rfl,_,rfl,b',ob,_,_,_,rfl,rfl,d2 _ _ hb,hob,rfl,x,(r:Int),e.1,b,ps,rows,rfl,hL.same d2,ok,by omega,by omega,ew.1,ew.2,fun H2 s2=>?_⟩
      rw [ur_allSt]
      refine ⟨_,rfl,line1 (by show 1≤1000; decide),fun l hl2=>?_⟩
      have s3:Same H2 (upd H2 l (.lst [.ref b'])):=Same.upd hl2
      have hl3:(upd H2 l (.lst [.ref b'])) l=some (.lst [.ref b']):=upd_same
      generalize (upd H2 l (.lst [.ref b']))=H3 at s3 hl3
      have s13:=s2.trans s3
      refine ⟨l,_,[.ref b'],[e],rfl,hl3,.inl rfl,.cons ⟨b',ob,rfl,s13 _ _ (d2 _ _ hb),hob⟩ .nil,by show 1 < 64; decide,fun p4 H4 b4 s4 hp4 ho4 hd4=>⟨two_line,fun t ht=>?_⟩⟩
      have s5:Same H4 (upd H4 t (.tup [.int (Lad.ur (allSt b ps rows) r e.1),.ref p4])):=Same.upd ht
      have ht5:(upd H4 t (.tup [.int (Lad.ur (allSt b ps rows) r e.1),.ref p4])) t=some (.tup [.int (Lad.ur (allSt b ps rows) r e.1),.ref p4]):=upd_same
      generalize (upd H4 t (.tup [.int (Lad.ur (allSt b ps rows) r e.1),.ref p4]))=H5 at s5 ht5
      have s15:=s13.trans (s4.trans s5)
      have hD5:=s15 _ _ d1
      have tp:∀ b xs,H5 b=some (.tup xs)→(upd H5 D (.lst (ys++[.ref t]))) b=some (.tup xs):=fun b xs h=>by
        rw [upd_ne (fun z=>by rw [z,hD5] at h; cases h)]; exact h
      refine LcNx.mk hi' (by omega) (by omega) hD5 ⟨upd_same,(d2.trans s15).but_ne hD,?_⟩
      rw [List.take_add_one,he,List.map_append]
      refine Paired.snoc ?_ (Paired.mapP d3 fun _ _ z=>(z.same s15).tups tp)
      exact PairT.tups tp ⟨t,.ref p4,rfl,ht5,⟨p4,b4,rfl,Dat.same s5 _ _ hd4,ho4⟩⟩
end
end Pr
namespace L2
open PySem PySem.Spec PyProof.Rows
section
variable {prog:Program} {w:World} {A:Around} {R:Result→Shared→Prop} {s:Shared} {elt t0 i0 t1 i1:Expr} {ifs:List Expr} {scope:Scope} {pos:Pos} {it acc:Value} {env:Env}
end
section
variable {X:Cx} {xs1 xs2 Ns:List Str} {sc:Scope} {elt iter tg i1 tg1:Expr} {ifs:List Expr} {pos:Pos} {wi wi2:TI} {g g2:TG} {tc:TT} {te:TE}
theorem pg_at {xs Ns:List Str} {x:Str} {i:Nat} {p1:Pos} (S:LnScope X xs Ns sc) (hx:x ∈ xs) (hi:(xs++Ns)[i]?=some x):∀ C fp s0 H0,PG (cxLN X xs Ns sc C fp s0 H0) (.Name x p1) (gName i):=fun C fp s0 H0=>by
  have lx:(relabel sc X.env).names.lookup x=some .local:=lookup_relabel_local (S.loc x hx)
  exact pg_name (X:=cxLN X xs Ns sc C fp s0 H0) (i:=i) S.all hi (.inl lx) (.inr lx)
end
end L2
namespace L2
open PySem PySem.Spec PyProof.Rows
inductive IsDc:HO→Prop
  | k (kvs:List (Key × V)):IsDc (.dK kvs)
  | t (kvs:List (List Key × V)):IsDc (.dT kvs)
section
variable {X:Cx} {pins:List (Addr × Obj)} {σ:St} {H:Hp} {s:Shared} {a:Addr} {u:HO} {o:Obj}
theorem dc_upd {P:Program} {w:World} {h:Heap} (hu:IsDc u) (v:HO) (hv:∀ xs,H a≠some (.tup xs)) (x:ObjOk P w H h a u):ObjOk P w (upd H a v) h a u:=by
  cases hu with
  | k kvs=>exact x
  | t kvs =>
    obtain ⟨z,y,xs,r,rest⟩:=x
    exact ⟨z,y,xs,Paired.mapP r fun p q z=>⟨z.1,by rw [upd_ne (fun e=>hv _ (by rw [← e]; exact z.2.1))]; exact z.2.1,z.2.2⟩,rest⟩
theorem Inv.swapDc (I:Inv X pins σ H s) {c v:HO} (e:H a=some c) (hc:∀ xs,c≠.tup xs) (hc2:∀ y,c≠.own y) (hc3:∀ ps,c≠.tbl ps) (h0:∀ o' u',X.H₀ a=some (.frz o' u')→c=.frz o' u'→v=.frz o' u') (new:ObjOk X.prog X.w (upd H a v) s.heap a v):Inv X pins σ (upd H a v) s:=by
  have na:∀ {b},H b=none→b≠a:=fun {b} q z=>by rw [z,e] at q; cases q
  refine ⟨I.ok,I.os,I.bare,⟨I.base.keep,I.base.slot,fun b o q n hx=>?_,I.base.there,fun b xs q=>?_,fun b o' u' q=>?_,fun b ps q=>?_⟩,I.loc,I.cell,?_,fun y d q=>?_,fun p hp=>?_,fun b ob q=>?_,I.len⟩
  · have z:=I.base.free b o q n hx
    rw [upd_ne (na z)]; exact z
  · have z:=I.base.tups b xs q
    rw [upd_ne (fun w=>by rw [w,e] at z; cases z; exact hc _ rfl)]; exact z
  · have z:=I.base.frzs b o' u' q
    by_cases hb:b=a
    · subst hb
      rw [e] at z
      rw [upd_same,h0 o' u' q (Option.some.inj z)]
    · rw [upd_ne hb]; exact z
  · obtain ⟨m,z⟩:=I.base.tbls b ps q
    exact ⟨m,by rw [upd_ne (fun w=>by rw [w,e] at z; cases z; exact hc3 _ rfl)]; exact z⟩
  · rw [upd_ne (na I.free)]; exact I.free
  · rw [upd_ne (na (I.freeC y d q))]; exact I.freeC y d q
  · obtain ⟨e1,e2,e3⟩:=I.pin p hp
    exact ⟨e1,by rw [upd_ne (na e2)]; exact e2,e3⟩
  · by_cases hb:b=a
    · subst hb
      rw [upd_same] at q
      cases q
      exact new
    · rw [upd_ne hb] at q
      refine (I.hok b ob q).stay (fun _ _ _ z=>z) (fun d z=>?_) fun d xs z=>?_
      · rw [upd_ne (fun w=>by rw [w,e] at z; cases z; exact hc2 _ rfl)]; exact z
      · rw [upd_ne (fun w=>by rw [w,e] at z; cases z; exact hc _ rfl)]; exact z
theorem Inv.freeze (I:Inv X pins σ H s) (hu:IsDc u) (e:H a=some u) (ho:s.heap.get? a=some o):Inv X pins σ (upd H a (.frz o u)) s:=by
  have hx:=I.hok a u e
  have ht:∀ xs,u≠.tup xs:=fun xs z=>by rw [z] at hu; cases hu
  refine I.swapDc e ht (fun y z=>by rw [z] at hu; cases hu) (fun y z=>by rw [z] at hu; cases hu) (fun o' u' _ z=>by rw [z] at hu; cases hu) ⟨ho,dc_upd hu _ (fun xs q=>?_) hx⟩
  rw [e] at q
  exact ht xs (Option.some.inj q)
theorem Inv.thaw (I:Inv X pins σ H s) (hu:IsDc u) (e:H a=some (.frz o u)) (h0:∀ o' u',X.H₀ a≠some (.frz o' u')):Inv X pins σ (upd H a u) s:=by
  obtain ⟨_,hx⟩:=(show ObjOk X.prog X.w H s.heap a (.frz o u) from I.hok a _ e)
  refine I.swapDc e (fun xs z=>nomatch z) (fun y z=>nomatch z) (fun ps z=>nomatch z) (fun o' u' q _=>absurd q (h0 o' u')) (dc_upd hu _ (fun xs q=>?_) hx)
  rw [e] at q
  cases q
end
end L2
namespace L2
open PySem PySem.Spec PyProof.Rows
theorem pairs_at {P:Program} {w:World}:∀ {es:List DictEntry} {kvs:List (Key × Value)},Pairs (mixKind P w) es kvs→es.length=kvs.length∧∀ {i:Nat} {p:Key × Value},kvs[i]?=some p→∃ e,es[i]?=some e∧(mixKind P w).is p.1 e.key=true
  | _,_,.nil=>⟨rfl,fun h=>by simp at h⟩
  | _,_,.cons (kv:=kv) r _ t=>by
    obtain ⟨h1,h2⟩:=pairs_at t
    refine ⟨by rw [List.length_cons,List.length_cons,h1],fun {i p} h=>?_⟩
    cases i with
    | zero=>cases h; exact ⟨_,rfl,r⟩
    | succ i=>exact h2 (show _=some p from h)
theorem rel_key {k:Key} {u:Value} (h:keyIs k u=true):RelV (kV k) u:=by
  rcases keyIs_shape h with ⟨i,t,rfl,rfl⟩ | ⟨x,t,rfl,rfl⟩
  · exact ⟨t,rfl⟩
  · exact ⟨t,rfl⟩
theorem kv_at {a:List (Key × V)} {b:List (Key × Value)} (h:KV a b) {i:Nat} {p:Key × V} (hp:a[i]?=some p):∃ q,b[i]?=some q∧q.1=p.1:=by
  obtain ⟨q,e,r⟩:=Paired.get h hp
  exact ⟨q,e,r.1.symm⟩
def Itk (a:Addr) (o:Obj) (kvs:List (Key × V)):It where
  go:=fun i H=>H a=some (.frz o (.dK kvs))∧i < kvs.length
  yld:=fun i H x H'=>H'=H∧∃ p:Key × V,x=kV p.1∧kvs[i]?=some p
  stop:=fun i H=>H a=some (.frz o (.dK kvs))∧kvs.length≤i
theorem turn_dK {P:Program} {w:World} {K:PySem.W.Frag} {tg:Expr} {a it:Addr} {o:Obj} {es:Array DictEntry} {ep:Nat} {kvs:List (Key × V)} (hne:it≠a) (hx:o.ExactDict) (hd:o.data=.dict es ep):Turn P w K tg (Itk a o kvs) [it] it (fun i h=>h.IsKeyIter it a i es.size ep) where
  mem:=by simp
  obj:=fun i h st b hb=>by
    have e:b=it:=by simpa using hb
    subst e
    obtain ⟨o,e,c,d⟩:=st
    exact ⟨o,e,fun v z=>by rw [d] at z; cases z⟩
  keep:=fun i h h' st k=>st.at fun o e=>k it (by simp) o e
  item:=by
    intro X hP hw hK hc i pins s σ H E I hf st hg
    subst hP hw hK
    obtain ⟨hq,hlt⟩:=hg
    obtain ⟨ho,z,hsm,vs0,kv,o2,es2,ep2,h1,h2,h3,h4,h5,h6⟩:=(show ObjOk X.prog X.w H s.heap a (.frz o (.dK kvs)) from I.hok a _ hq)
    rw [ho] at h1
    cases h1
    rw [hd] at h3
    cases h3
    obtain ⟨f0,f1,f2,f3,f4,f5⟩:=hf it (by simp)
    obtain ⟨p,hp⟩:∃ p,kvs[i]?=some p:=⟨kvs[i],List.getElem?_eq_getElem hlt⟩
    obtain ⟨q,hq2,eq⟩:=kv_at kv hp
    obtain ⟨e,he,hk⟩:=(pairs_at h5).2 hq2
    rw [Array.getElem?_toList] at he
    rw [eq] at hk
    refine Dx.next st ⟨o,ho,hx,hd⟩ he fun h' st' sb=>?_
    have I1:Inv X pins σ H { s with heap:=h' }:=I.turned (t':=s.toks) (fun b o hb e=>(sb.2 b hb).trans e) f0 f1 f3 f4 f5
    obtain ⟨oi,ei,ci,di⟩:=id st'
    exact ⟨_,rfl,go_of (s:={ s with heap:=h' }) ei ci di (by decide) ⟨kV p.1,H,I1,rel_key hk,⟨rfl,p,rfl,hp⟩,st',fun b hb=>(hf b hb).1⟩⟩
  done:=by
    intro X hP hw hK hc i pins s σ H E I hf st hg
    subst hP hw hK
    obtain ⟨hq,hle⟩:=hg
    obtain ⟨ho,z,hsm,vs0,kv,o2,es2,ep2,h1,h2,h3,h4,h5,h6⟩:=(show ObjOk X.prog X.w H s.heap a (.frz o (.dK kvs)) from I.hok a _ hq)
    rw [ho] at h1
    cases h1
    rw [hd] at h3
    cases h3
    obtain ⟨f0,f1,f2,f3,f4,f5⟩:=hf it (by simp)
    have hlen:kvs.length=vs0.length:=Paired.length kv
    have hes:=(pairs_at h5).1
    rw [Array.length_toList] at hes
    exact Dx.stop (I.ok.hd hc) (by omega) st ⟨o,ho,hx,hd⟩ fun h' eb=>⟨rfl,I.turned (t':=s.toks) (fun b o hb e=>eb b o hb e) f0 f1 f3 f4 f5⟩
  self:=fun _ _ _ _ _ st h=>wpAny_pyIter_keyiter st h
inductive iDK (te:TE) (σ:St) (H:Hp) (R:It→Hp→Prop):Prop
  | mk (h:te σ H fun x H1=>∃ a kvs,x=.ref a∧H1 a=some (.dK kvs)∧∀ o,R (Itk a o kvs) (upd H1 a (.frz o (.dK kvs)))):iDK te σ H R
theorem pi_dK {X:Cx} {tg e:Expr} {te:TE} (he:PE X e te):PI X tg e (iDK te):=by
  intro pins s σ H R I h
  obtain ⟨h⟩:=h
  refine thn (he pins s σ H _ I h) fun v s1 ⟨x,H1,I1,r1,a,kvs,e,hq,q⟩=>?_
  subst e
  cases r1
  obtain ⟨z,hsm,vs0,kv,o,es,ep,h1,h2,h3,h4,h5,h6⟩:=(show ObjOk X.prog X.w H1 s1.heap a (.dK kvs) from I1.hok a _ hq)
  refine Dx.iter hsm ⟨o,h1,h2,h3⟩ ?_
  have I2:Inv X pins σ H1 { s1 with heap:=s1.heap.push { cls:=.type "dict_keyiterator",data:=.fields #[.ref a,.int 0 0,.int es.size 0,.int ep 0] } }:=I1.kept (t':=s1.toks) fun b o e=>Heap.get?_push_of_some _ e
  have hlt:=Heap.lt_size h1
  refine ⟨s1.heap.objs.size,[s1.heap.objs.size],_,_,_,rfl,I2.freeze (.k kvs) hq (Heap.get?_push_of_some _ h1),turn_dK (Nat.ne_of_gt hlt) h2 h3,⟨_,Heap.get?_push_size _ rfl,rfl,rfl⟩,fun b hb=>?_,q o⟩
  have e:b=s1.heap.objs.size:=by simpa using hb
  subst e
  exact I1.fpOk (Nat.le_refl _) (by rw [upd_ne (Nat.ne_of_gt hlt)]; exact I1.hok.fresh (Nat.le_refl _))
end L2
namespace L2
open PySem PySem.Spec PyProof.Rows
section
variable {prog:Program} {w:World} {A:Around} {R:Result→Shared→Prop} {s:Shared} {elt t0 i0 t1 i1:Expr} {ifs:List Expr} {scope:Scope} {pos:Pos} {it acc:Value} {env:Env}
theorem compTurn_set2_0 (elt t0 i0 t1 i1:Expr) (ifs:List Expr) (scope:Scope) (pos:Pos) (it acc:Value) (env:Env) :
    compTurn (.SetComp elt [⟨t0,i0,[],0⟩,⟨t1,i1,ifs,0⟩] scope pos) 0 it acc env=(do
      standAt i0.pos
      match ← pyNext it with
      | none=>pure (.done .next)
      | some v =>
        letOwnedTupleGo t0 it v
        assign t0 env v
        let x ← eval i1 env
        standAt i1.pos
        let x ← foldedSetIterable i1 env x
        let _ ← runOwn (.compStart (.SetComp elt [⟨t0,i0,[],0⟩,⟨t1,i1,ifs,0⟩] scope pos) 1 (← holding [x] (pyIter x)) acc env) env
        again (.compLoop (.SetComp elt [⟨t0,i0,[],0⟩,⟨t1,i1,ifs,0⟩] scope pos) 0 it acc env)):=by
  unfold compTurn
  simp only [List.getElem?_cons_zero,List.getElem?_cons_succ,bind_assoc,pure_bind,Nat.zero_add,List.forIn_nil]
  rfl
theorem compTurn_set2_1 (elt t0 i0 t1 i1:Expr) (ifs:List Expr) (scope:Scope) (pos:Pos) (it acc:Value) (env:Env) :
    compTurn (.SetComp elt [⟨t0,i0,[],0⟩,⟨t1,i1,ifs,0⟩] scope pos) 1 it acc env=(do
      standAt i1.pos
      match ← pyNext it with
      | none=>pure (.done .next)
      | some v =>
        letOwnedTupleGo t1 it v
        assign t1 env v
        let mut ok:=true
        for c in ifs do
          if ok then ok ← isTrue c env (eval c env)
        if ok then
          (do let y ← eval elt env; standAt elt.pos; let _ ← call (.builtin "set.add") [acc,y])
        again (.compLoop (.SetComp elt [⟨t0,i0,[],0⟩,⟨t1,i1,ifs,0⟩] scope pos) 1 it acc env)):=by rfl
theorem compStart_set2 {E:Value→Shared→Prop}
    (h0:codeAny (model prog w) A (.compLoop (.SetComp elt [⟨t0,i0,[],0⟩,⟨t1,i1,ifs,0⟩] scope pos) 1 it acc env) R s)
    (h:wpAny (model prog w) A (pyIter it) (fun it' s'=>codeAny (model prog w) A (.compLoop (.SetComp elt [⟨t0,i0,[],0⟩,⟨t1,i1,ifs,0⟩] scope pos) 1 it' acc env) R s')
      (notedBy (model prog w) A env fun x s'=>R (.error x) s') s) :
    codeAny (model prog w) A (.compStart (.SetComp elt [⟨t0,i0,[],0⟩,⟨t1,i1,ifs,0⟩] scope pos) 1 it acc env) R s:=by
  refine codeAny_of_tree ?_
  show wpAny _ _ ((compStart (.SetComp elt [⟨t0,i0,[],0⟩,⟨t1,i1,ifs,0⟩] scope pos) 1 it acc env).onRaise (fun x=>do noteFrame x env; standAt theWindowsPlace)) _ _ s
  refine wpAny_notedAt ?_
  unfold compStart
  show wpAny _ _ (ask >>= _) _ _ s
  refine wpAny_bind (wpAny_askSetting (wpAny_ite ?_))
  split
  · first
      | exact wpAny_bind (wpAny_pure (wpAny_pure (And.intro rfl h0)))
      | exact wpAny_pure (And.intro rfl h0)
  · first
      | exact wpAny_bind (wpAny_rule (wpAny_bind (wpAny_standAt (wpAny_bind (wpAny_mono h (fun it' s' h'=>wpAny_pure (And.intro rfl h')) fun _ _ x=>x)))))
      | (refine wpAny_bind (wpAny_rule ?_); show wpAny _ _ (standAt i1.pos >>= _) _ _ s; exact wpAny_bind (wpAny_standAt (wpAny_bind (wpAny_mono h (fun it' s' h'=>wpAny_pure (And.intro rfl h')) fun _ _ x=>x))))
theorem compLoop_set2_0 (I:Nat→Shared→Prop)
    (turn:∀ n s,I n s→wpAny (model prog w) A (pyNext it) (fun r s1=>match r with
      | none=>R (.ok .next) s1
      | some v=>wpAny (model prog w) A (letOwnedTupleGo t0 it v) (fun _ s1=>wpAny (model prog w) A (assign t0 env v) (fun _ s2 =>
          wpAny (model prog w) A (eval i1 env) (fun x s3=>wpAny (model prog w) A (pyIter x) (fun it2 s4 =>
            codeAny (model prog w) A (.compStart (.SetComp elt [⟨t0,i0,[],0⟩,⟨t1,i1,ifs,0⟩] scope pos) 1 it2 acc env) (fun r s5=>match r with | .ok _=>∃ m,m < n∧I m s5 | .error _=>False) s4) (fun _ _=>False) s3) (fun _ _=>False) s2) (fun _ _=>False) s1) (fun _ _=>False) s1) (fun _ _=>False) s)
    (n:Nat) (h:I n s) (hs:∀ v,foldedSetIterable i1 env v=pure v) :
    codeAny (model prog w) A (.compLoop (.SetComp elt [⟨t0,i0,[],0⟩,⟨t1,i1,ifs,0⟩] scope pos) 0 it acc env) R s:=by
  refine codeAny_loop rfl I (fun n s hI=>?_) n h
  show wpAny _ A ((compTurn (.SetComp elt [⟨t0,i0,[],0⟩,⟨t1,i1,ifs,0⟩] scope pos) 0 it acc env).onRaise (fun x=>do noteFrame x env; theTreesLotGoes x)) _ _ s
  refine wpAny_noted ?_
  rw [compTurn_set2_0]
  refine wpAny_bind (wpAny_standAt (wpAny_bind (wpAny_mono (turn n s hI) (fun r s1 h1=>?_) fun _ _ h'=>h'.elim)))
  cases r with
  | none=>exact wpAny_pure h1
  | some v =>
    refine wpAny_bind (wpAny_mono h1 (fun _ s1 h1=>?_) fun _ _ h'=>h'.elim)
    refine wpAny_bind (wpAny_mono h1 (fun _ s2 h2=>wpAny_bind (wpAny_mono h2 (fun x s3 h3=>?_) fun _ _ h'=>h'.elim)) fun _ _ h'=>h'.elim)
    refine wpAny_bind (wpAny_standAt ?_)
    rw [hs]
    refine wpAny_bind (wpAny_pure (wpAny_bind (wpAny_holding (wpAny_mono h3 (fun it2 s4 h4=>?_) fun _ _ h'=>h'.elim))))
    refine wpAny_bind (wpAny_runOwn ?_)
    rw [Around.mark_none]
    refine codeAny_mono h4 fun r s5 h5=>?_
    cases r with
    | ok f=>exact wpAny_pure ⟨rfl,h5⟩
    | error e=>exact h5.elim
theorem compLoop_set2_1 (I:Nat→Shared→Prop)
    (turn:∀ n s,I n s→wpAny (model prog w) A (pyNext it) (fun r s1=>match r with
      | none=>R (.ok .next) s1
      | some v=>wpAny (model prog w) A (letOwnedTupleGo t1 it v) (fun _ s1=>wpAny (model prog w) A (assign t1 env v) (fun _ s2 =>
          wpAny (model prog w) A (forIn ifs true fun c r=>if r=true then do let ok ← isTrue c env (eval c env); pure (ForInStep.yield ok) else pure (ForInStep.yield r)) (fun ok s3 =>
            if ok=true then wpAny (model prog w) A (eval elt env) (fun x s4 =>
              wpAny (model prog w) A (call (.builtin "set.add") [acc,x]) (fun _ s5=>∃ m,m < n∧I m s5) (fun _ _=>False) s4) (fun _ _=>False) s3
            else ∃ m,m < n∧I m s3) (fun _ _=>False) s2) (fun _ _=>False) s1) (fun _ _=>False) s1) (fun _ _=>False) s)
    (n:Nat) (h:I n s) :
    codeAny (model prog w) A (.compLoop (.SetComp elt [⟨t0,i0,[],0⟩,⟨t1,i1,ifs,0⟩] scope pos) 1 it acc env) R s:=by
  refine codeAny_loop rfl I (fun n s hI=>?_) n h
  show wpAny _ A ((compTurn (.SetComp elt [⟨t0,i0,[],0⟩,⟨t1,i1,ifs,0⟩] scope pos) 1 it acc env).onRaise (fun x=>do noteFrame x env; theTreesLotGoes x)) _ _ s
  refine wpAny_noted ?_
  rw [compTurn_set2_1]
  refine wpAny_bind (wpAny_standAt (wpAny_bind (wpAny_mono (turn n s hI) (fun r s1 h1=>?_) fun _ _ h'=>h'.elim)))
  cases r with
  | none=>exact wpAny_pure h1
  | some v =>
    refine wpAny_bind (wpAny_mono h1 (fun _ s1 h1=>?_) fun _ _ h'=>h'.elim)
    refine wpAny_bind (wpAny_mono h1 (fun _ s2 h2=>wpAny_bind (wpAny_mono h2 (fun ok s3 h3=>?_) fun _ _ h'=>h'.elim)) fun _ _ h'=>h'.elim)
    cases ok with
    | false=>exact wpAny_pure ⟨rfl,h3⟩
    | true =>
      exact wpAny_bind (wpAny_bind (wpAny_mono h3 (fun x s4 h4=>wpAny_bind (wpAny_standAt (wpAny_bind (wpAny_mono h4 (fun _ s5 h5=>wpAny_pure (wpAny_pure ⟨rfl,h5⟩)) fun _ _ h'=>h'.elim)))) fun _ _ h'=>h'.elim))
end
def scIn (P:Program) (w:World) (n:Nat) (g:TG) (tc:TT) (te:TE) (σ:St) (J:It) (D:Addr) (ks:List Key) (H:Hp) (Fin:List Key→Hp→Prop):Prop :=
  ∃ W:Nat→Nat→List Key→Hp→Prop,(∃ m,W 0 m ks H)∧∀ i m ks H,W i m ks H→H D=some (SetH P w D ks) ∧
    ((J.stop i H∧Fin ks H)∨(J.go i H∧∀ x H' (u:St),u.length=n→J.yld i H x H'→g x (u++σ) H' fun σ2 H2=>(∃ u2:St,u2.length=n∧σ2=u2++σ)∧tc σ2 H2 fun b H3=>if b=true then te σ2 H3 fun y H4=>H4 D=some (SetH P w D ks)∧ks.length < 1000∧∃ k,y=kV k∧∃ m',m' < m∧W (i + 1) m' (addK ks k) (upd H4 D (SetH P w D (addK ks k)))
      else ∃ m',m' < m∧W (i + 1) m' ks H3))
def scGo2 (P:Program) (w:World) (n1 n2:Nat) (g:TG) (wi2:TI) (g2:TG) (tc:TT) (te:TE) (σ:St) (J:It) (D:Addr) (Fin:Hp→Prop) (H0:Hp):Prop :=
  ∃ W:Nat→Nat→List Key→Hp→Prop,(∃ m,W 0 m [] (upd H0 D (SetH P w D [])))∧∀ i m ys H,W i m ys H→H D=some (SetH P w D ys) ∧
    ((J.stop i H∧Fin H)∨(J.go i H∧∀ x H' (v u:St),v.length=n2→u.length=n1→J.yld i H x H'→g x (v++(u++σ)) H' fun σ2 H2=>∃ u2:St,u2.length=n1∧σ2=v++(u2++σ)∧wi2 σ2 H2 fun J2 H3 =>
      scIn P w n2 g2 tc te (u2++σ) J2 D ys H3 fun zs H4=>∃ a o uu,H4 a=some (.frz o uu)∧IsDc uu∧(∀ o' u',H0 a≠some (.frz o' u'))∧∃ m',m' < m∧W (i + 1) m' zs (upd H4 a uu)))
def tSN2 (P:Program) (w:World) (n1 n2:Nat) (wi:TI) (g:TG) (wi2:TI) (g2:TG) (tc:TT) (te:TE):TE:=fun σ H Q=>wi σ H fun J H1=>∀ D,H1 D=none→scGo2 P w n1 n2 g wi2 g2 tc te σ J D (fun H2=>Q (.ref D) H2) H1
section
variable {X:Cx} {xs1 xs2 Ns:List Str} {sc:Scope} {elt iter tg i1 tg1:Expr} {ifs:List Expr} {pos:Pos} {wi wi2:TI} {g g2:TG} {tc:TT} {te:TE}
theorem sn2_block {pins:List (Addr × Obj)} {σ:St} {H:Hp} {s:Shared} {it:Addr} {fp:List Addr} {tn:Nat→Heap→Prop} {J:It} {Fin:Addr→Hp→Prop} {RR:Value→Addr→Result→Shared→Prop} {E:Value→Shared→Prop}
    (hc:X.calm=true) (S:LnScope X (xs2++xs1) Ns sc) (I:Inv X pins σ H s) (T:Turn X.prog X.w X.K tg J fp it tn) (st:tn 0 s.heap) (hf:∀ b ∈ fp,FpOk X pins H b) (hg:∀ C s0 H0,PG (cxLN X (xs2++xs1) Ns sc C fp s0 H0) tg g)
    (hi2:∀ C s0 H0,PI (cxLN X (xs2++xs1) Ns sc C fp s0 H0) tg1 i1 wi2) (hg2:∀ C s0 H0,PG (cxLN X (xs2++xs1) Ns sc C fp s0 H0) tg1 g2)
    (ht:∀ C s0 H0,PTs (cxLN X (xs2++xs1) Ns sc C fp s0 H0) ifs tc) (he:∀ C s0 H0,PE (cxLN X (xs2++xs1) Ns sc C fp s0 H0) elt te) (q:∀ D,H D=none→scGo2 X.prog X.w xs1.length xs2.length g wi2 g2 tc te σ J D (Fin D) H)
    (hR:∀ D C H2 s2 m,s.heap.objs.size≤C→Inv X pins σ H2 s2→H2 C=none→s2.heap.Ns C m→Fin D H2→RR (.ref D) C (.ok .next) s2)
    (hs2:∀ C v,foldedSetIterable i1 (compEnvC sc (clOf sc X.env.cells) C X.env) v=pure v) :
    wpAny (model X.prog X.w) X.A (newSet (.type "set")) (fun acc s3=>wpAny (model X.prog X.w) X.A (newFunctionEnv sc X.env.globals (clOf sc X.env.cells) [] X.env.qual none .none (some X.env)) (fun cenv s4 =>
      codeAny (model X.prog X.w) X.A (.compStart (.SetComp elt [⟨tg,iter,[],0⟩,⟨tg1,i1,ifs,0⟩] sc pos) 0 (.ref it) acc { cenv with scope:=relabel sc X.env }) (RR acc cenv.locals) s4) E s3) E s:=by
  have hlt:∀ b ∈ fp,b < s.heap.objs.size:=fun b hb=>by
    obtain ⟨o,e,_⟩:=T.obj 0 _ st b hb
    exact Heap.lt_size e
  refine Ss.new fun oS hS=>wpAny_newFunctionEnv S.nocell (by intro y hy; simp at hy) (fun h1 hns1 hsb1=>?_) S.kind
  dsimp only at hns1 hsb1 ⊢
  generalize hH2:s.heap.push oS=G at hns1 hsb1 hS ⊢
  have hC:G.objs.size=s.heap.objs.size + 1:=by rw [← hH2,Heap.size_push]
  have hCle:s.heap.objs.size≤G.objs.size:=by rw [hC]; exact Nat.le_succ _
  have hDC:G.objs.size≠s.heap.objs.size:=by rw [hC]; exact Nat.succ_ne_self _
  have old:∀ b o,s.heap.get? b=some o→h1.get? b=some o:=fun b o e=>hsb1.extBut b o (Nat.ne_of_lt (Nat.lt_of_lt_of_le (Heap.lt_size e) hCle)) (Heap.get?_push_of_some _ (hH2 ▸ Heap.get?_push_of_some _ e))
  have hacc:ObjOk X.prog X.w (upd H s.heap.objs.size (SetH X.prog X.w s.heap.objs.size [])) h1 s.heap.objs.size (SetH X.prog X.w s.heap.objs.size []):=setH_ok ⟨#[],hS.at fun o e=>hsb1.extBut _ _ (Ne.symm hDC) (Heap.get?_push_of_some _ e),List.nodup_nil,[],List.Perm.refl _,.nil⟩
  have hDn:H s.heap.objs.size=none:=I.hok.fresh (Nat.le_refl _)
  obtain ⟨W,⟨m0,w0⟩,turn⟩:=q s.heap.objs.size hDn
  have st1:tn 0 h1:=T.keep _ _ _ st fun b _ o e=>old b o e
  have I1:=fun tk=>I.startSN (tk:=tk) (w:=(xs2++xs1).map fun _=>none) S hf hlt rfl rfl hCle hDC old hns1 hacc
  have fr1:∀ b ∈ fp,upd H s.heap.objs.size (SetH X.prog X.w s.heap.objs.size []) b=none:=fun b hb=>by rw [upd_ne (Nat.ne_of_lt (hlt b hb))]; exact (hf b hb).1
  have loop:∀ s3:Shared,s3={ s with heap:=h1,toks:=s.toks + ([]:List (Str × Value)).length } →
      codeAny (model X.prog X.w) X.A (.compLoop (.SetComp elt [⟨tg,iter,[],0⟩,⟨tg1,i1,ifs,0⟩] sc pos) 0 (.ref it) (.ref s.heap.objs.size) (compEnvC sc (clOf sc X.env.cells) G.objs.size X.env))
        (RR (.ref s.heap.objs.size) G.objs.size) s3:=by
    rintro s3 rfl
    have fpk:∀ {H':Hp},(∀ b ∈ fp,H' b=none)→∀ b ∈ fp,FpOk (cxLN X (xs2++xs1) Ns sc G.objs.size fp s H) [] H' b:=fun hn b hb =>
      ⟨hn b hb,Nat.ne_of_lt (Nat.lt_of_lt_of_le (hlt b hb) hCle),(I.okLN (C:=G.objs.size) S hCle hf hlt).exfs b hb,.inl hb,fun y c e=>(hf b hb).2.2.2.2.1 y c (clOf_sub sc X.env.cells e),fun p hp=>absurd (show p ∈ ([]:List (Addr × Obj)) from hp) (by simp)⟩
    refine compLoop_set2_0 (fun n s'=>∃ i v u ys H',v.length=xs2.length∧u.length=xs1.length∧Inv (cxLN X (xs2++xs1) Ns sc G.objs.size fp s H) [] (v++(u++σ)) H' s'∧tn i s'.heap∧(∀ b ∈ fp,H' b=none)∧W i n ys H') ?_ m0 ⟨0,xs2.map fun _=>none,xs1.map fun _=>none,[],_,List.length_map _,List.length_map _,by rw [← List.append_assoc,← List.map_append]; exact I1 _,st1,fr1,w0⟩ (hs2 _)
    rintro n s3 ⟨i,v0,u0,ys,H3,hv0,hu0,I3,st3,fr3,w3⟩
    obtain ⟨hD3,turn3⟩:=turn i n ys H3 w3
    rcases turn3 with ⟨stop,fin⟩ | ⟨go,step⟩
    · refine thn (T.done (cxLN X (xs2++xs1) Ns sc G.objs.size fp s H) rfl rfl rfl hc i [] s3 _ H3 _ I3 (fpk fr3) st3 stop) fun r s4 ⟨hr,I4⟩=>?_
      subst hr
      obtain ⟨m4,hn4,_⟩:=I4.loc
      exact hR _ _ H3 s4 m4 hCle (I.endLN I4 hf) I4.free hn4 fin
    · refine thn (T.item (cxLN X (xs2++xs1) Ns sc G.objs.size fp s H) rfl rfl rfl hc i [] s3 _ H3 _ I3 (fpk fr3) st3 go) fun r s4 ⟨uu,hr,h4⟩=>?_
      subst hr
      refine thn h4 fun _ s5 ⟨y,H5,I5,r5,y5,st5,fr5⟩=>?_
      have I5':=I5.pinned (fpk fr5) (T.obj _ _ st5)
      refine thn (hg G.objs.size s H _ s5 _ H5 y uu _ I5' r5 (step y H5 v0 u0 hv0 hu0 y5)) fun _ s6 ⟨σ6,H6,I6,⟨u6,hu6,e6,q6⟩⟩=>?_
      subst e6
      refine thn (hi2 G.objs.size s H _ s6 _ H6 _ I6 q6) fun v7 s7 h7=>thn h7 fun itv s8 h8=>?_
      obtain ⟨it2,fp2,tn2,J2,H8,e8,I8,T2,st8,f8,q8⟩:=h8
      subst e8
      obtain ⟨W2,⟨m20,w20⟩,turn2⟩:=q8
      have again:∀ {H8:Hp} {s8:Shared} {zs:List Key} {w6:St},w6.length=xs2.length→Inv (cxLN X (xs2++xs1) Ns sc G.objs.size fp s H) ([]++pinsAt fp s5.heap) (w6++(u6++σ)) H8 s8→(∃ m',m' < n∧W (i + 1) m' zs H8)→∃ m,m < n∧∃ i v u ys H',v.length=xs2.length∧u.length=xs1.length∧Inv (cxLN X (xs2++xs1) Ns sc G.objs.size fp s H) [] (v++(u++σ)) H' s8∧tn i s8.heap∧(∀ b ∈ fp,H' b=none)∧W i m ys H':=fun {H8 s8 zs w6} hw6 I8 ⟨m',hm,w8⟩=>by
        refine ⟨m',hm,i + 1,w6,u6,zs,H8,hw6,hu6,I8.unpinned,T.keep _ _ _ st5 fun b hb o e=>(I8.pin (b,o) (List.mem_append_right _ (List.mem_append_right _ (mem_pinsAt hb e)))).1,fun b hb=>?_,w8⟩
        obtain ⟨o,e,d⟩:=T.obj _ _ st5 b hb
        exact (I8.pin (b,o) (List.mem_append_right _ (List.mem_append_right _ (mem_pinsAt hb e)))).2.1
      have loop2:∀ s9:Shared,s9=s8→codeAny (model X.prog X.w) X.A (.compLoop (.SetComp elt [⟨tg,iter,[],0⟩,⟨tg1,i1,ifs,0⟩] sc pos) 1 (.ref it2) (.ref s.heap.objs.size) (compEnvC sc (clOf sc X.env.cells) G.objs.size X.env))
          (fun r s5=>match r with | .ok _=>∃ m,m < n∧∃ i v u ys H',v.length=xs2.length∧u.length=xs1.length∧Inv (cxLN X (xs2++xs1) Ns sc G.objs.size fp s H) [] (v++(u++σ)) H' s5∧tn i s5.heap∧(∀ b ∈ fp,H' b=none)∧W i m ys H' | .error _=>False) s9:=by
        rintro s9 rfl
        have fpk2:∀ {H':Hp},(∀ b ∈ fp2,H' b=none)→∀ b ∈ fp2,FpOk (cxLN X (xs2++xs1) Ns sc G.objs.size fp s H) ([]++pinsAt fp s5.heap) H' b:=fun hn b hb=>⟨hn b hb,(f8 b hb).2⟩
        refine compLoop_set2_1 (fun m s'=>∃ j v zs H',v.length=xs2.length∧Inv (cxLN X (xs2++xs1) Ns sc G.objs.size fp s H) ([]++pinsAt fp s5.heap) (v++(u6++σ)) H' s'∧tn2 j s'.heap∧(∀ b ∈ fp2,H' b=none)∧W2 j m zs H') ?_ m20 ⟨0,v0,ys,H8,hv0,I8,st8,fun b hb=>(f8 b hb).1,w20⟩
        rintro mm sA ⟨j,vA,zs,HA,hvA,IA,stA,frA,wA⟩
        obtain ⟨hDA,turnA⟩:=turn2 j mm zs HA wA
        rcases turnA with ⟨stop2,fin2⟩ | ⟨go2,step2⟩
        · refine thn (T2.done (cxLN X (xs2++xs1) Ns sc G.objs.size fp s H) rfl rfl rfl hc j _ sA _ HA _ IA (fpk2 frA) stA stop2) fun r sB ⟨hr,IB⟩=>?_
          subst hr
          obtain ⟨aT,oT,uT,eT,dT,h0T,wT⟩:=fin2
          exact again hvA (IB.thaw dT eT h0T) wT
        · refine thn (T2.item (cxLN X (xs2++xs1) Ns sc G.objs.size fp s H) rfl rfl rfl hc j _ sA _ HA _ IA (fpk2 frA) stA go2) fun r sB ⟨u2,hr,hB⟩=>?_
          subst hr
          refine thn hB fun _ sC ⟨yC,HC,IC,rC,yC',stC,frC⟩=>?_
          have IC':=IC.pinned (fpk2 frC) (T2.obj _ _ stC)
          refine thn (hg2 G.objs.size s H _ sC _ HC yC u2 _ IC' rC (step2 yC HC vA hvA yC')) fun _ sD ⟨σD,HD,ID,⟨wD,hwD,eD⟩,qD⟩=>?_
          subst eD
          refine thn (ht G.objs.size s H _ sD _ HD _ ID qD) fun ok sE ⟨HE,IE,qE⟩=>?_
          have again2:∀ {H8:Hp} {s8:Shared} {zs:List Key},Inv (cxLN X (xs2++xs1) Ns sc G.objs.size fp s H) (([]++pinsAt fp s5.heap)++pinsAt fp2 sC.heap) (wD++(u6++σ)) H8 s8→(∃ m',m' < mm∧W2 (j + 1) m' zs H8)→∃ m,m < mm∧∃ j v zs H',v.length=xs2.length∧Inv (cxLN X (xs2++xs1) Ns sc G.objs.size fp s H) ([]++pinsAt fp s5.heap) (v++(u6++σ)) H' s8∧tn2 j s8.heap∧(∀ b ∈ fp2,H' b=none)∧W2 j m zs H':=fun {H8 s8 zs} I8 ⟨m',hm,w8⟩=>by
            refine ⟨m',hm,j + 1,wD,zs,H8,hwD,I8.unpinned,T2.keep _ _ _ stC fun b hb o e=>(I8.pin (b,o) (List.mem_append_right _ (List.mem_append_right _ (mem_pinsAt hb e)))).1,fun b hb=>?_,w8⟩
            obtain ⟨o,e,d⟩:=T2.obj _ _ stC b hb
            exact (I8.pin (b,o) (List.mem_append_right _ (List.mem_append_right _ (mem_pinsAt hb e)))).2.1
          cases ok with
          | false =>
            rw [if_neg Bool.false_ne_true] at qE ⊢
            exact again2 IE qE
          | true =>
            rw [if_pos rfl] at qE ⊢
            refine thn (he G.objs.size s H _ sE _ HE _ IE qE) fun z sF ⟨zv,HF,IF,rF,hDF,hzF,kF,eF,wF⟩=>?_
            subst eF
            exact set_add (X:=cxLN X (xs2++xs1) Ns sc G.objs.size fp s H) IF hDF rF hzF fun sG IG=>again2 IG wF
      exact compStart_set2 (E:=fun _ _=>False) (loop2 _ rfl) (T2.self X.A 0 _ _ _ st8 (loop2 _ rfl))
  exact compStart_set (loop _ rfl) (T.self X.A 0 _ _ _ st1 (loop _ rfl))
theorem pe_sn2 (hc:X.calm=true) (S:LnScope X (xs2++xs1) Ns sc) (hi:PI X tg iter wi) (hg:∀ C fp s0 H0,PG (cxLN X (xs2++xs1) Ns sc C fp s0 H0) tg g) (hi2:∀ C fp s0 H0,PI (cxLN X (xs2++xs1) Ns sc C fp s0 H0) tg1 i1 wi2) (hg2:∀ C fp s0 H0,PG (cxLN X (xs2++xs1) Ns sc C fp s0 H0) tg1 g2)
    (ht:∀ C fp s0 H0,PTs (cxLN X (xs2++xs1) Ns sc C fp s0 H0) ifs tc) (he:∀ C fp s0 H0,PE (cxLN X (xs2++xs1) Ns sc C fp s0 H0) elt te)
    (hs:∀ v,foldedSetIterable iter X.env v=pure v:=by intro _; rfl) (hs2:∀ C v,foldedSetIterable i1 (compEnvC sc (clOf sc X.env.cells) C X.env) v=pure v:=by intro _ _; rfl):PE X (.SetComp elt [⟨tg,iter,[],0⟩,⟨tg1,i1,ifs,0⟩] sc pos) (tSN2 X.prog X.w xs1.length xs2.length wi g wi2 g2 tc te):=by
  refine ⟨?_⟩
  intro pins s σ H Q I h
  rw [eval_SetComp]
  refine wpAny_comprehension_free (use:=none) rfl hs (closure_eq (S.cells I.ok)) S.kind S.names (thn (hi pins s σ H _ I h) fun v s1 h1=>thn h1 fun itv s2 h2=>?_)
  obtain ⟨it,fp,tn,J,H2,e,I2,T,st2,f2,q2⟩:=h2
  subst e
  refine sn2_block (RR:=fun acc C=>compPost (model X.prog X.w) X.A X.xe none (EP X pins σ Q) acc C) (Fin:=fun D H3=>Q (.ref D) H3) hc S I2 T st2 f2 (fun C s0 H0=>hg C fp s0 H0) (fun C s0 H0=>hi2 C fp s0 H0) (fun C s0 H0=>hg2 C fp s0 H0) (fun C s0 H0=>ht C fp s0 H0) (fun C s0 H0=>he C fp s0 H0) q2 ?_ hs2
  intro D C H3 s3 m hC I3 hn hN q3
  refine ⟨m,hN,fun h' hs'=>⟨.ref D,H3,I3.butC hs' (Nat.le_trans I2.sz hC) hn (Nat.ne_of_gt (Nat.lt_of_lt_of_le I2.lt hC)) (fun y c e=>?_) (fun p hp=>?_),rfl,q3⟩⟩
  · obtain ⟨v,z⟩:=I2.cell y c e
    exact Nat.ne_of_lt (Nat.lt_of_lt_of_le z.lt hC)
  · exact Nat.ne_of_lt (Nat.lt_of_lt_of_le (Heap.lt_size (I2.pin p hp).1) hC)
end
end L2
namespace L2
open PySem PySem.Spec PyProof.Rows
section
variable {X:Cx} {xs Ns:List Str} {sc:Scope} {tg iter elt:Expr} {ifs:List Expr} {pos:Pos} {wi:TI} {g:TG} {tc:TT} {te:TE}
end
end L2
namespace L2
open PySem PySem.Spec PyProof.Rows
theorem compTurn_dict (elt vx target iter:Expr) (ifs:List Expr) (scope:Scope) (pos:Pos) (it:Value) (d:Addr) (env:Env):compTurn (.DictComp elt vx [⟨target,iter,ifs,0⟩] scope pos) 0 it (.ref d) env=(do
      standAt iter.pos
      match ← pyNext it with
      | none=>pure (.done .next)
      | some v =>
        letOwnedTupleGo target it v
        assign target env v
        let mut yes:=true
        for c in ifs do
          if yes then yes ← isTrue c env (eval c env)
        if yes then
          (do let kv ← eval elt env; let vv ← holding [kv] (eval vx env); standAt { elt.pos with endLine:=vx.pos.endLine,endCol:=vx.pos.endCol }; holding [kv,vv] (dictSet d kv vv))
        again (.compLoop (.DictComp elt vx [⟨target,iter,ifs,0⟩] scope pos) 0 it (.ref d) env)):=by rfl
theorem compStart_dict {prog:Program} {w:World} {A:Around} {R:Result→Shared→Prop} {s:Shared} {elt vx target iter ifs rest scope pos it acc env} (h0:codeAny (model prog w) A (.compLoop (.DictComp elt vx (⟨target,iter,ifs,0⟩::rest) scope pos) 0 it acc env) R s)
    (h:wpAny (model prog w) A (pyIter it) (fun it' s'=>codeAny (model prog w) A (.compLoop (.DictComp elt vx (⟨target,iter,ifs,0⟩::rest) scope pos) 0 it' acc env) R s') (notedBy (model prog w) A env fun x s'=>R (.error x) s') s):codeAny (model prog w) A (.compStart (.DictComp elt vx (⟨target,iter,ifs,0⟩::rest) scope pos) 0 it acc env) R s:=by
  refine codeAny_of_tree ?_
  show wpAny _ _ ((compStart (.DictComp elt vx (⟨target,iter,ifs,0⟩::rest) scope pos) 0 it acc env).onRaise (fun x=>do noteFrame x env; standAt theWindowsPlace)) _ _ s
  refine wpAny_notedAt (m:=compStart (.DictComp elt vx (⟨target,iter,ifs,0⟩::rest) scope pos) 0 it acc env) ?_
  unfold compStart
  show wpAny _ A (ask >>= _) _ _ s
  have fin:wpAny (model prog w) A (do standAt iter.pos; again (.compLoop (.DictComp elt vx (⟨target,iter,ifs,0⟩::rest) scope pos) 0 (← pyIter it) acc env)) (fun r s'=>match r with | .done f=>R (.ok f) s' | .again c'=>c'.quiet=true∧codeAny (model prog w) A c' R s') (notedBy (model prog w) A env fun x s'=>R (.error x) s') s :=
    wpAny_bind (wpAny_standAt (wpAny_bind (wpAny_mono h (fun _ _ z=>wpAny_pure ⟨rfl,z⟩) fun _ _ z=>z)))
  refine wpAny_bind (wpAny_askSetting (wpAny_ite ?_))
  split
  · first | exact wpAny_pure ⟨rfl,h0⟩ | exact wpAny_bind (wpAny_pure (wpAny_pure ⟨rfl,h0⟩))
  · first | exact wpAny_bind (wpAny_rule fin) | (refine wpAny_bind (wpAny_rule ?_); exact fin)
theorem compLoop_dict {prog:Program} {w:World} {A:Around} {R:Result→Shared→Prop} {s:Shared} {elt vx target iter:Expr} {ifs:List Expr} {scope:Scope} {pos:Pos} {it:Value} {d:Addr} {env:Env} (I:Nat→Shared→Prop)
    (turn:∀ n s,I n s→wpAny (model prog w) A (pyNext it) (fun r s1=>match r with
      | none=>R (.ok .next) s1
      | some v=>wpAny (model prog w) A (letOwnedTupleGo target it v) (fun _ s1=>wpAny (model prog w) A (assign target env v) (fun _ s2 =>
          wpAny (model prog w) A (forIn ifs true fun c r=>if r=true then do let ok ← isTrue c env (eval c env); pure (ForInStep.yield ok) else pure (ForInStep.yield r)) (fun ok s3 =>
            if ok=true then wpAny (model prog w) A (eval elt env) (fun x s4=>wpAny (model prog w) A (eval vx env) (fun y s4 =>
              wpAny (model prog w) A (dictSet d x y) (fun _ s5=>∃ m,m < n∧I m s5) (fun _ _=>False) s4) (fun _ _=>False) s4) (fun _ _=>False) s3
            else ∃ m,m < n∧I m s3) (fun _ _=>False) s2) (fun _ _=>False) s1) (fun _ _=>False) s1) (fun _ _=>False) s)
    (n:Nat) (h:I n s) :
    codeAny (model prog w) A (.compLoop (.DictComp elt vx [⟨target,iter,ifs,0⟩] scope pos) 0 it (.ref d) env) R s:=by
  refine codeAny_loop rfl I (fun n s hI=>?_) n h
  show wpAny _ A ((compTurn (.DictComp elt vx [⟨target,iter,ifs,0⟩] scope pos) 0 it (.ref d) env).onRaise (fun x=>do noteFrame x env; theTreesLotGoes x)) _ _ s
  refine wpAny_noted ?_
  rw [compTurn_dict]
  refine wpAny_bind (wpAny_standAt (wpAny_bind (wpAny_mono (turn n s hI) (fun r s1 h1=>?_) fun _ _ h'=>h'.elim)))
  cases r with
  | none=>exact wpAny_pure h1
  | some v =>
    refine wpAny_bind (wpAny_mono h1 (fun _ s1 h1=>?_) fun _ _ h'=>h'.elim)
    refine wpAny_bind (wpAny_mono h1 (fun _ s2 h2=>wpAny_bind (wpAny_mono h2 (fun ok s3 h3=>?_) fun _ _ h'=>h'.elim)) fun _ _ h'=>h'.elim)
    cases ok with
    | false=>exact wpAny_pure ⟨rfl,h3⟩
    | true =>
      exact wpAny_bind (wpAny_bind (wpAny_mono h3 (fun x s4 h4=>wpAny_bind (wpAny_holding (wpAny_mono h4 (fun y s5 h5=>wpAny_bind (wpAny_standAt (wpAny_holding (wpAny_mono h5 (fun _ s6 h6=>wpAny_pure ⟨rfl,h6⟩) fun _ _ h'=>h'.elim)))) fun _ _ h'=>h'.elim))) fun _ _ h'=>h'.elim))
def dcGo (n:Nat) (g:TG) (tc:TT) (te tv:TE) (σ:St) (J:It) (D:Addr) (Fin:Hp→Prop) (H:Hp):Prop :=
  ∃ W:Nat→Nat→List (Key × V)→Hp→Prop,(∃ m,W 0 m [] (upd H D (.dK [])))∧∀ i m ks H,W i m ks H→H D=some (.dK ks) ∧
    ((J.stop i H∧Fin H)∨(J.go i H∧∀ x H' (u:St),u.length=n→J.yld i H x H'→g x (u++σ) H' fun σ2 H2=>(∃ u2:St,u2.length=n∧σ2=u2++σ)∧tc σ2 H2 fun b H3=>if b=true then te σ2 H3 fun y H4=>tv σ2 H4 fun z H5=>H5 D=some (.dK ks)∧ks.length < sizeLine∧∃ k,y=kV k∧∃ m',m' < m∧W (i + 1) m' (putK ks k z) (upd H5 D (.dK (putK ks k z)))
      else ∃ m',m' < m∧W (i + 1) m' ks H3))
def tDN (n:Nat) (wi:TI) (g:TG) (tc:TT) (te tv:TE):TE:=fun σ H Q=>wi σ H fun J H1=>∀ D,H1 D=none→dcGo n g tc te tv σ J D (fun H2=>Q (.ref D) H2) H1
section
variable {X:Cx} {pins:List (Addr × Obj)} {σ:St} {H:Hp} {s:Shared}
theorem dict_put {D:Addr} {ks:List (Key × V)} {k:Key} {u r:Value} {v:V} {Q:Shared→Prop} {E:Value→Shared→Prop} (I:Inv X pins σ H s) (hD:H D=some (.dK ks)) (ru:RelV (kV k) u) (rv:RelV v r) (hz:ks.length < sizeLine)
    (h:∀ s',Inv X pins σ (upd H D (.dK (putK ks k v))) s'→Q s'):wpAny (model X.prog X.w) X.A (dictSet D u r) (fun _ s'=>Q s') E s:=by
  obtain ⟨z,hd,vs,rel,dd⟩:=dk_of I.hok hD
  have hz2:vs.length≤sizeLine:=by rw [← rel.length]; exact z
  have hl:(putK ks k v).length≤sizeLine:=by have:=length_putK ks k v; omega
  refine wpAny_dictSet_pairs (hsz:=hz2) (kV_is ru) dd fun h' dd' hs=>h _ ?_
  have he:∃ q,h'.get? D=some q:=let ⟨q,_,_,hq,_⟩:=dd'; ⟨q,hq⟩
  exact d_write I (by rw [hD]; exact True.intro) hs he (dk_new hl hd (rel.put k rv) dd')
end
section
variable {X:Cx} {xs Ns:List Str} {sc:Scope} {elt vx iter tg:Expr} {ifs:List Expr} {pos:Pos} {wi:TI} {g:TG} {tc:TT} {te tv:TE}
theorem dn_block {pins:List (Addr × Obj)} {σ:St} {H:Hp} {s:Shared} {it:Addr} {fp:List Addr} {tn:Nat→Heap→Prop} {J:It} {Fin:Addr→Hp→Prop} {RR:Value→Addr→Result→Shared→Prop} {E:Value→Shared→Prop}
    (hc:X.calm=true) (S:LnScope X xs Ns sc) (I:Inv X pins σ H s) (T:Turn X.prog X.w X.K tg J fp it tn) (st:tn 0 s.heap) (hf:∀ b ∈ fp,FpOk X pins H b) (hg:∀ C s0 H0,PG (cxLN X xs Ns sc C fp s0 H0) tg g)
    (ht:∀ C s0 H0,PTs (cxLN X xs Ns sc C fp s0 H0) ifs tc) (he:∀ C s0 H0,PE (cxLN X xs Ns sc C fp s0 H0) elt te) (hv:∀ C s0 H0,PE (cxLN X xs Ns sc C fp s0 H0) vx tv) (q:∀ D,H D=none→dcGo xs.length g tc te tv σ J D (Fin D) H)
    (hR:∀ D C H2 s2 m,s.heap.objs.size≤C→Inv X pins σ H2 s2→H2 C=none→s2.heap.Ns C m→Fin D H2→RR (.ref D) C (.ok .next) s2) :
    wpAny (model X.prog X.w) X.A newDict (fun acc s3=>wpAny (model X.prog X.w) X.A (newFunctionEnv sc X.env.globals (clOf sc X.env.cells) [] X.env.qual none .none (some X.env)) (fun cenv s4 =>
      codeAny (model X.prog X.w) X.A (.compStart (.DictComp elt vx [⟨tg,iter,ifs,0⟩] sc pos) 0 (.ref it) acc { cenv with scope:=relabel sc X.env }) (RR acc cenv.locals) s4) E s3) E s:=by
  have hlt:∀ b ∈ fp,b < s.heap.objs.size:=fun b hb=>by
    obtain ⟨o,e,_⟩:=T.obj 0 _ st b hb
    exact Heap.lt_size e
  refine wpAny_newObj_type (wpAny_newFunctionEnv S.nocell (by intro y hy; simp at hy) (fun h1 hns1 hsb1=>?_) S.kind)
  dsimp only at hns1 hsb1 ⊢
  generalize hH2:s.heap.push { cls:=.type "dict",dict:=none,data:=.dict #[] }=G at hns1 hsb1 ⊢
  have hC:G.objs.size=s.heap.objs.size + 1:=by rw [← hH2,Heap.size_push]
  have hCle:s.heap.objs.size≤G.objs.size:=by rw [hC]; exact Nat.le_succ _
  have hDC:G.objs.size≠s.heap.objs.size:=by rw [hC]; exact Nat.succ_ne_self _
  have old:∀ b o,s.heap.get? b=some o→h1.get? b=some o:=fun b o e=>hsb1.extBut b o (Nat.ne_of_lt (Nat.lt_of_lt_of_le (Heap.lt_size e) hCle)) (Heap.get?_push_of_some _ (hH2 ▸ Heap.get?_push_of_some _ e))
  have hemp:ObjOk X.prog X.w (upd H s.heap.objs.size (.dK [])) (s.heap.push { cls:=.type "dict",data:=.dict #[] }) s.heap.objs.size (.dK []):=dk_empty s.heap I.big
  have hacc:ObjOk X.prog X.w (upd H s.heap.objs.size (.dK [])) h1 s.heap.objs.size (.dK []):=by
    obtain ⟨z,y,vs,r,ob,es,ep,e,cc⟩:=hemp
    exact ⟨z,y,vs,r,ob,es,ep,hsb1.extBut _ _ (Ne.symm hDC) (Heap.get?_push_of_some _ (hH2 ▸ e)),cc⟩
  have hDn:H s.heap.objs.size=none:=I.hok.fresh (Nat.le_refl _)
  obtain ⟨W,⟨m0,w0⟩,turn⟩:=q s.heap.objs.size hDn
  have st1:tn 0 h1:=T.keep _ _ _ st fun b _ o e=>old b o e
  have I1:=fun tk=>I.startSN (tk:=tk) (w:=xs.map fun _=>none) S hf hlt rfl rfl hCle hDC old hns1 hacc
  have fr1:∀ b ∈ fp,upd H s.heap.objs.size (.dK []) b=none:=fun b hb=>by rw [upd_ne (Nat.ne_of_lt (hlt b hb))]; exact (hf b hb).1
  have loop:∀ s3:Shared,s3={ s with heap:=h1,toks:=s.toks + ([]:List (Str × Value)).length } →
      codeAny (model X.prog X.w) X.A (.compLoop (.DictComp elt vx [⟨tg,iter,ifs,0⟩] sc pos) 0 (.ref it) (.ref s.heap.objs.size) (compEnvC sc (clOf sc X.env.cells) G.objs.size X.env))
        (RR (.ref s.heap.objs.size) G.objs.size) s3:=by
    rintro s3 rfl
    have fpk:∀ {H':Hp},(∀ b ∈ fp,H' b=none)→∀ b ∈ fp,FpOk (cxLN X xs Ns sc G.objs.size fp s H) [] H' b:=fun hn b hb =>
      ⟨hn b hb,Nat.ne_of_lt (Nat.lt_of_lt_of_le (hlt b hb) hCle),(I.okLN (C:=G.objs.size) S hCle hf hlt).exfs b hb,.inl hb,fun y c e=>(hf b hb).2.2.2.2.1 y c (clOf_sub sc X.env.cells e),fun p hp=>absurd (show p ∈ ([]:List (Addr × Obj)) from hp) (by simp)⟩
    refine compLoop_dict (fun n s'=>∃ i w ys H',w.length=xs.length∧Inv (cxLN X xs Ns sc G.objs.size fp s H) [] (w++σ) H' s'∧tn i s'.heap∧(∀ b ∈ fp,H' b=none)∧W i n ys H') ?_ m0 ⟨0,_,[],_,List.length_map _,I1 _,st1,fr1,w0⟩
    rintro n s3 ⟨i,v0,ys,H3,hv0,I3,st3,fr3,w3⟩
    obtain ⟨hD3,turn3⟩:=turn i n ys H3 w3
    rcases turn3 with ⟨stop,fin⟩ | ⟨go,step⟩
    · refine thn (T.done (cxLN X xs Ns sc G.objs.size fp s H) rfl rfl rfl hc i [] s3 _ H3 _ I3 (fpk fr3) st3 stop) fun r s4 ⟨hr,I4⟩=>?_
      subst hr
      obtain ⟨m4,hn4,_⟩:=I4.loc
      exact hR _ _ H3 s4 m4 hCle (I.endLN I4 hf) I4.free hn4 fin
    · refine thn (T.item (cxLN X xs Ns sc G.objs.size fp s H) rfl rfl rfl hc i [] s3 _ H3 _ I3 (fpk fr3) st3 go) fun r s4 ⟨u,hr,h4⟩=>?_
      subst hr
      refine thn h4 fun _ s5 ⟨y,H5,I5,r5,y5,st5,fr5⟩=>?_
      have I5':=I5.pinned (fpk fr5) (T.obj _ _ st5)
      refine thn (hg G.objs.size s H _ s5 _ H5 y u _ I5' r5 (step y H5 v0 hv0 y5)) fun _ s6 ⟨σ6,H6,I6,⟨w6,hw6,e6⟩,q6⟩=>?_
      subst e6
      refine thn (ht G.objs.size s H _ s6 _ H6 _ I6 q6) fun ok s7 ⟨H7,I7,q7⟩=>?_
      have again:∀ {H8:Hp} {s8:Shared} {zs:List (Key × V)},Inv (cxLN X xs Ns sc G.objs.size fp s H) ([]++pinsAt fp s5.heap) (w6++σ) H8 s8→(∃ m',m' < n∧W (i + 1) m' zs H8)→∃ m,m < n∧∃ i w ys H',w.length=xs.length∧Inv (cxLN X xs Ns sc G.objs.size fp s H) [] (w++σ) H' s8∧tn i s8.heap∧(∀ b ∈ fp,H' b=none)∧W i m ys H':=fun {H8 s8 zs} I8 ⟨m',hm,w8⟩=>by
        refine ⟨m',hm,i + 1,w6,zs,H8,hw6,I8.unpinned,T.keep _ _ _ st5 fun b hb o e=>(I8.pin (b,o) (List.mem_append_right _ (List.mem_append_right _ (mem_pinsAt hb e)))).1,fun b hb=>?_,w8⟩
        obtain ⟨o,e,d⟩:=T.obj _ _ st5 b hb
        exact (I8.pin (b,o) (List.mem_append_right _ (List.mem_append_right _ (mem_pinsAt hb e)))).2.1
      cases ok with
      | false =>
        rw [if_neg Bool.false_ne_true] at q7 ⊢
        exact again I7 q7
      | true =>
        rw [if_pos rfl] at q7 ⊢
        refine thn (he G.objs.size s H _ s7 _ H7 _ I7 q7) fun z s8 ⟨zv,H8,I8,r8,q8⟩=>?_
        refine thn (hv G.objs.size s H _ s8 _ H8 _ I8 q8) fun y s9 ⟨yv,H9,I9,r9,hD9,hz9,k9,e9,w9⟩=>?_
        subst e9
        exact dict_put (X:=cxLN X xs Ns sc G.objs.size fp s H) I9 hD9 r8 r9 hz9 fun s9 I9=>again I9 w9
  exact compStart_dict (loop _ rfl) (T.self X.A 0 _ _ _ st1 (loop _ rfl))
theorem ps_setDN {i:Nat} {y:Str} {py spos:Pos} (hN0:X.N.Nodup) (hc:X.calm=true) (hi':X.N[i]?=some y) (hy:X.env.scope.names.lookup y=some .local) (S:LnScope X xs Ns sc) (hi:PI X tg iter wi) (hg:∀ C fp s0 H0,PG (cxLN X xs Ns sc C fp s0 H0) tg g) (ht:∀ C fp s0 H0,PTs (cxLN X xs Ns sc C fp s0 H0) ifs tc) (he:∀ C fp s0 H0,PE (cxLN X xs Ns sc C fp s0 H0) elt te) (hv:∀ C fp s0 H0,PE (cxLN X xs Ns sc C fp s0 H0) vx tv)
    (hsw:swapsWith (.DictComp elt vx [⟨tg,iter,ifs,0⟩] sc pos) (some (.Name y py)) spos.line X.env=pure true:=by rfl) (hs:∀ v,foldedSetIterable iter X.env v=pure v:=by intro _; rfl) :
    PS X (.Assign [.Name y py] (.DictComp elt vx [⟨tg,iter,ifs,0⟩] sc pos) spos) (tAsg (tDN xs.length wi g tc te tv) (gName i)):=by
  refine ⟨?_⟩
  intro pins s σ H Dn I h
  rw [exec_Assign_Name_used _ _ _ _ hsw]
  refine wpAny_bind (wpAny_standAt (wpAny_bind ?_))
  show wpAny _ X.A (do let _ ← comprehension (.DictComp elt vx [⟨tg,iter,ifs,0⟩] sc pos) sc X.env _ newDict false (eval iter X.env) (some (assign (.Name y py) X.env))) _ _ s
  refine wpAny_bind (wpAny_mono (wpAny_comprehension_free (use:=some (assign (.Name y py) X.env)) (Q:=fun _ s'=>SP X pins Dn .next s') rfl hs (closure_eq (S.cells I.ok)) S.kind S.names
    (thn (hi pins s σ H _ I h) fun v s1 h1=>thn h1 fun itv s2 h2=>?_)) (fun _ s' hq=>wpAny_pure (wpAny_pure hq)) fun _ _ e=>e)
  obtain ⟨it,fp,tn,J,H2,e,I2,T,st2,f2,q2⟩:=h2
  subst e
  refine dn_block (RR:=fun acc C=>compPost (model X.prog X.w) X.A X.xe (some (assign (.Name y py) X.env)) (fun _ s'=>SP X pins Dn .next s') acc C) (Fin:=fun D H3=>gName i (.ref D) σ H3 Dn.nx) hc S I2 T st2 f2 (fun C s0 H0=>hg C fp s0 H0) (fun C s0 H0=>ht C fp s0 H0) (fun C s0 H0=>he C fp s0 H0) (fun C s0 H0=>hv C fp s0 H0) q2 ?_
  intro D C H3 s3 m hC I3 hn hN q3
  show wpAny _ _ (assign (.Name y py) X.env (.ref D)) _ _ s3
  have cne:∀ y c,X.env.cells.lookup y=some c→c≠C:=fun y c e=>by
    obtain ⟨v,z⟩:=I2.cell y c e
    exact Nat.ne_of_lt (Nat.lt_of_lt_of_le z.lt hC)
  refine wpAny_assign_Name (store_ok2 I3 hN0 hi' (.inl hy) (show RelV (.ref D) (.ref D) from rfl) (fun s4 I4 ⟨a,hs4,ha⟩=>?_) (.inr hy))
  have haC:C≠a:=by
    rcases ha with e | e
    · rw [e]; exact Nat.ne_of_gt (Nat.lt_of_lt_of_le I2.lt hC)
    · exact Ne.symm (cne y a e)
  refine ⟨m,hN.sameBut hs4 haC,fun h' hs'=>⟨_,H3,I4.butC hs' (Nat.le_trans I2.sz hC) hn (Nat.ne_of_gt (Nat.lt_of_lt_of_le I2.lt hC)) cne (fun p hp=>?_),q3⟩⟩
  exact Nat.ne_of_lt (Nat.lt_of_lt_of_le (Heap.lt_size (I2.pin p hp).1) hC)
end
end L2
namespace Srt
open PySem
end Srt
namespace L2
open PySem PySem.Spec PySem.W PyProof.Rows
open Classical in
section
variable {X:Cx} {pins:List (Addr × Obj)} {σ:St} {H:Hp} {s:Shared}
end
end L2
namespace L2
open PySem PySem.Spec PySem.W PyProof.Rows
section
variable {X:Cx}
end
end L2
namespace L2
open PySem PySem.Spec PyProof.Rows
section
variable {prog:Program} {w:World} {A:Around} {E:Value→Shared→Prop} {s:Shared}
end
section
variable {X:Cx}
end
end L2
namespace L2
open PySem PySem.Spec PySem.W PyProof.Rows
section
variable {X:Cx} {pins:List (Addr × Obj)} {σ:St} {H:Hp} {s:Shared}
end
section
variable {X:Cx}
end
end L2
namespace Srt
open PySem
end Srt
namespace L2
open PySem PySem.Spec PySem.W PyProof.Rows
section
variable {X:Cx} {pins:List (Addr × Obj)} {σ:St} {H:Hp} {s:Shared}
end
end L2
namespace Ss
open PySem PySem.Spec
section
variable {prog:Program} {w:World} {K:Type} [DecidableEq K] {knd:KeyKind prog w K} {A:Around} {R:Result→Shared→Prop} {E:Value→Shared→Prop} {I:Addr} {fp wr:List Addr} {n:Nat} {P:Nat→Value→Prop} {St:Nat→Heap→Prop}
end
section
variable {prog:Program} {w:World} {A:Around} {E:Value→Shared→Prop} {s:Shared}
end
section
variable {prog:Program} {w:World} {K:Type} [DecidableEq K] {knd:KeyKind prog w K} {A:Around} {E:Value→Shared→Prop} {s:Shared}
end
end Ss
namespace L2
open PySem PySem.Spec PyProof.Rows
section
variable {X:Cx}
end
end L2
namespace L2
open PySem PySem.Spec PyProof.Rows
section
variable {X:Cx}
end
end L2
namespace L2
open PySem PySem.Spec PyProof.Rows
abbrev NxT (n i:Nat) (Pv:Nat→Prop):Prop:=∃ m',m' < n - i∧m'=n - (i + 1)∧i + 1≤n∧Pv (i + 1)
theorem nxT {n i:Nat} {Pv:Nat→Prop} (hi:i < n) (h:Pv (i + 1)):NxT n i Pv:=⟨n - (i + 1),by omega,rfl,hi,h⟩
theorem sc2_tup {P:Program} {w:World} {K:PySem.W.Frag} {a:Addr} {xs:List V} {n1 n2:Nat} {g:TG} {wi2:TI} {g2:TG} {tc:TT} {te:TE} {σ:St} {D:Addr} {Fin:Hp→Prop} {H0:Hp} (Pv:Nat→List Key→Hp→Prop) (h0:Pv 0 [] (upd H0 D (SetH P w D [])))
    (hD:∀ i ks H,Pv i ks H→H D=some (SetH P w D ks)∧SqT K H a xs) (hend:∀ ks H,Pv xs.length ks H→Fin H)
    (hgo:∀ i x ks H (v u:St),v.length=n2→u.length=n1→i < xs.length→xs[i]?=some x→Pv i ks H→g x (v++(u++σ)) H fun σ2 H2=>∃ u2:St,u2.length=n1∧σ2=v++(u2++σ)∧wi2 σ2 H2 fun J2 H3 =>
      scIn P w n2 g2 tc te (u2++σ) J2 D ks H3 fun zs H4=>∃ b o uu,H4 b=some (.frz o uu)∧IsDc uu∧(∀ o' u',H0 b≠some (.frz o' u'))∧NxT xs.length i fun j=>Pv j zs (upd H4 b uu)):scGo2 P w n1 n2 g wi2 g2 tc te σ (Itt K a) D Fin H0:=by
  refine ⟨fun i m ks H=>m=xs.length - i∧i≤xs.length∧Pv i ks H,⟨xs.length,rfl,Nat.zero_le _,h0⟩,?_⟩
  rintro i m ks H ⟨rfl,hi,p⟩
  refine ⟨(hD i ks H p).1,?_⟩
  by_cases hlt:i < xs.length
  · refine .inr ⟨⟨xs,xs[i],(hD _ _ _ p).2,List.getElem?_eq_getElem hlt⟩,fun x H' v u hv hu y=>?_⟩
    obtain ⟨e,y⟩:=y
    subst e
    exact hgo i x ks _ v u hv hu hlt (y xs (hD _ _ _ p).2) p
  · obtain rfl:i=xs.length:=by omega
    exact .inl ⟨⟨xs,(hD _ _ _ p).2,Nat.le_refl _⟩,hend ks H p⟩
theorem scIn_dK {P:Program} {w:World} {a:Addr} {o:Obj} {kvs:List (Key × V)} {n:Nat} {g:TG} {tc:TT} {te:TE} {σ:St} {D:Addr} {ks0:List Key} {H0:Hp} {Fin:List Key→Hp→Prop} (Pv:Nat→List Key→Hp→Prop) (h0:Pv 0 ks0 H0)
    (hD:∀ i ks H,Pv i ks H→H D=some (SetH P w D ks)∧H a=some (.frz o (.dK kvs))) (hend:∀ ks H,Pv kvs.length ks H→Fin ks H)
    (hgo:∀ i p ks H (u:St),u.length=n→i < kvs.length→kvs[i]?=some p→Pv i ks H→g (kV p.1) (u++σ) H fun σ2 H2=>(∃ u2:St,u2.length=n∧σ2=u2++σ)∧tc σ2 H2 fun b H3=>if b=true then te σ2 H3 fun y H4=>H4 D=some (SetH P w D ks)∧ks.length < 1000∧∃ k,y=kV k∧NxT kvs.length i fun j=>Pv j (addK ks k) (upd H4 D (SetH P w D (addK ks k)))
      else NxT kvs.length i fun j=>Pv j ks H3):scIn P w n g tc te σ (Itk a o kvs) D ks0 H0 Fin:=by
  refine ⟨fun i m ks H=>m=kvs.length - i∧i≤kvs.length∧Pv i ks H,⟨kvs.length,rfl,Nat.zero_le _,h0⟩,?_⟩
  rintro i m ks H ⟨rfl,hi,p⟩
  refine ⟨(hD i ks H p).1,?_⟩
  by_cases hlt:i < kvs.length
  · refine .inr ⟨⟨(hD _ _ _ p).2,hlt⟩,fun x H' u hu y=>?_⟩
    obtain ⟨e,q,ex,hq⟩:=y
    subst e ex
    exact hgo i q ks _ u hu hlt hq p
  · obtain rfl:i=kvs.length:=by omega
    exact .inl ⟨⟨(hD _ _ _ p).2,Nat.le_refl _⟩,hend ks H p⟩
end L2
namespace Pr
open PySem L2 PyProof.Rows Ent
def addI (ns:List Int) (n:Int):List Int:=if n ∈ ns then ns else ns++[n]
theorem mem_inl {n:Int} {ns:List Int}:(Sum.inl n:Key) ∈ ns.map Sum.inl↔n ∈ ns:=by
  rw [List.mem_map]
  exact ⟨fun ⟨x,hx,e⟩=>by cases e; exact hx,fun h=>⟨n,h,rfl⟩⟩
theorem addK_inl (ns:List Int) (n:Int):addK (ns.map Sum.inl) (.inl n)=(addI ns n).map Sum.inl:=by
  unfold addI
  by_cases h:n ∈ ns
  · rw [if_pos h,addK_in (mem_inl.mpr h)]
  · rw [if_neg h,addK_new (fun z=>h (mem_inl.mp z)),List.map_append]; rfl
theorem mem_addI {ns:List Int} {n x:Int}:x ∈ addI ns n↔x ∈ ns∨x=n:=by
  unfold addI
  by_cases h:n ∈ ns
  · rw [if_pos h]; exact ⟨.inl,fun z=>z.elim id fun e=>e ▸ h⟩
  · rw [if_neg h,List.mem_append,List.mem_singleton]
theorem addI_nd {ns:List Int} {n:Int} (h:ns.Nodup):(addI ns n).Nodup:=by
  unfold addI
  by_cases z:n ∈ ns
  · rw [if_pos z]; exact h
  · rw [if_neg z,List.nodup_append]
    exact ⟨h,by simp,fun a ha b hb e=>z (by rw [List.mem_singleton.mp hb] at e; exact e ▸ ha)⟩
def BarLike (d:PyData):Prop:=∃ es:List En,(∀ e ∈ es,EnOk e)∧es.length≤1000∧BarOf es d
theorem barLike_empty:BarLike emptyD:=⟨[],(fun _ h=>nomatch h),by decide,.non rfl rfl⟩
theorem BarLike.noL {d:PyData} (h:BarLike d):L2.noL d=true:=by
  obtain ⟨es,_,_,o⟩:=h
  exact bar_noL o
theorem BarLike.lf {d:PyData} (h:BarLike d):Lf d∧d.bulk≤40∧d.depth≤2:=by
  obtain ⟨es,k,l,o⟩:=h
  exact lf_bar k l o
structure DD (H:Hp) (kvs:List (Key × V)) (ns:List Int) (f:Int→PyData):Prop where
  k:kvs.map (·.1)=ns.map Sum.inl
  nd:ns.Nodup
  v:∀ n ∈ ns,∃ p,valV kvs (.inl n)=some (.ref p)∧Dat H (f n) (.ref p)
  z:∀ n,n ∉ ns→valV kvs (.inl n)=none∧f n=emptyD
  b:∀ n,BarLike (f n)
theorem DD.tups {H H':Hp} (s:∀ b xs,H b=some (.tup xs)→H' b=some (.tup xs)) {kvs:List (Key × V)} {ns:List Int} {f:Int→PyData} (g:DD H kvs ns f):DD H' kvs ns f :=
  ⟨g.k,g.nd,fun n hn=>by obtain ⟨p,e,h⟩:=g.v n hn; exact ⟨p,e,Dat.tups s _ _ (g.b n).noL h⟩,g.z,g.b⟩
theorem DD.len {H:Hp} {kvs:List (Key × V)} {ns:List Int} {f:Int→PyData} (g:DD H kvs ns f):kvs.length=ns.length:=by
  have:=congrArg List.length g.k
  rw [List.length_map,List.length_map] at this
  exact this
def urow (f g:Int→PyData) (n:Int):PyData:=.tuple [.int n,f n,g n]
def urows (ms:List Int) (f g:Int→PyData):List PyData:=(ms.filter fun n=>!PyData.eqv (f n) (g n)).map (urow f g)
def URow (f g:Int→PyData) (H:Hp) (x:V) (n:Int):Prop:=∃ t p q,x=.ref t∧H t=some (.tup [.int n,.ref p,.ref q])∧Dat H (f n) (.ref p)∧Dat H (g n) (.ref q)
theorem URow.tups {f g:Int→PyData} {H H':Hp} (s:∀ b xs,H b=some (.tup xs)→H' b=some (.tup xs)) {x:V} {n:Int} (bf:BarLike (f n)) (bg:BarLike (g n)) (h:URow f g H x n):URow f g H' x n:=by
  obtain ⟨t,p,q,e,h1,h2,h3⟩:=h
  exact ⟨t,p,q,e,s _ _ h1,Dat.tups s _ _ bf.noL h2,Dat.tups s _ _ bg.noL h3⟩
theorem URow.dat {f g:Int→PyData} {H:Hp} {x:V} {n:Int} (h:URow f g H x n):Dat H (urow f g n) x:=by
  obtain ⟨t,p,q,rfl,h1,h2,h3⟩:=h
  unfold urow Dat
  refine ⟨t,_,rfl,h1,?_⟩
  unfold DatAll
  refine ⟨_,_,rfl,by unfold Dat; rfl,?_⟩
  unfold DatAll
  refine ⟨_,_,rfl,h2,?_⟩
  unfold DatAll
  refine ⟨_,_,rfl,h3,?_⟩
  unfold DatAll
  rfl
theorem urows_dat {f g:Int→PyData} {H:Hp}:∀ {ys:List V} {ns:List Int},Paired (URow f g H) ys ns→DatAll H (ns.map (urow f g)) ys
  | _,_,.nil=>by unfold DatAll; rfl
  | _,_,.cons r t=>by
    rw [List.map_cons]
    unfold DatAll
    exact ⟨_,_,rfl,r.dat,urows_dat t⟩
end Pr
namespace Pr
open PySem L2 PyProof.Rows Ent
section
variable {P:Program} {w:World} {K:PySem.W.Frag} {mg:Str→Option Value} {base:Heap} {C:Addr}
inductive sp_unlike_bars (vs:List V) (H:Hp) (Q:VK) (E:XK):Prop
  | mk (a b:Addr) (ka kb:List (Key × V)) (na nb zs:List Int) (f g:Int→PyData) (e:vs=[.ref a,.ref b]) (ha:H a=some (.dK ka)) (hb:H b=some (.dK kb)) (A:DD H ka na f) (B:DD H kb nb g) (hz:zs.length < 64) (za:∀ n ∈ na,n ∈ zs) (zb:∀ n ∈ nb,n ∈ zs)
      (q:∀ D ys (ms:List Int) H',Same H H'→H D=none→H' D=some (.lst ys)→ms.Nodup→ms.Pairwise (·≤·)→(∀ n,n ∈ ms↔n ∈ na∨n ∈ nb)→DatAll H' (urows ms f g) ys→ys.length≤ms.length→Q (.ref D) H'):sp_unlike_bars vs H Q E
theorem sc_unlike_bars:FnScope ["one","other","numbers","rows"] ["one","other"] (defScope s_unlike_bars):=⟨rfl,rfl,rfl,by decide +kernel,rfl,by decide +kernel,by decide +kernel⟩
set_option maxHeartbeats 8000000 in
theorem unlike_bars (T:Txt K mg C):Can P w K mg base 2 "unlike_bars" ["one","other"] sp_unlike_bars:=by
  refine fn_can T.f_unlike_bars sc_unlike_bars (fun vs H Q E h=>?_) (fun f cdv A outer s H vs Q E hr h=>?_)
  · obtain ⟨a,b,ka,kb,na,nb,zs,f,g,rfl,_⟩:=h
    rfl
  · obtain ⟨a,b,ka,kb,na,nb,zs,f,g,rfl,ha,hb,DA,DB,hz,za,zb,q⟩:=h
    refine ⟨_,(pss_cons (ps_set (i:=2) sc_unlike_bars.nd rfl (Or.inl rfl) (pe_b (call_sorted_set P w rfl) T.b_sorted boot_sorted (pa1 (pe_sn2 (xs1:=["bars"]) (xs2:=["number"]) (Ns:=["one","other","numbers","rows"]) rfl (lnS _ sc_unlike_bars) (pi_tupK K (pe_tup (pa2 (pv 0) (pv 1)))) (fun C fp s0 H0=>pg_at (i:=1) (lnS _ sc_unlike_bars) (by decide) rfl C fp s0 H0) (fun _ _ _ _=>pi_dK (pv 1)) (fun C fp s0 H0=>pg_at (i:=0) (lnS _ sc_unlike_bars) (by decide) rfl C fp s0 H0) (fun _ _ _ _=>pts_nil) (fun _ _ _ _=>(pv 0))))))
      (pss_cons (ps_setLC (i:=3) rfl rfl rfl (lcS sc_unlike_bars) (pi_listK K (pv 2)) (fun _ _ _ _=>pts_nil) (fun _ _ _ _=>(pe_tup (pa3 (pv 0) (pe_dget2 (hu_of hr) (pv 1) (pv 0) (pe_can0 (empty T) hr) ⟨rfl,rfl,rfl,rfl⟩) (pe_dget2 (hu_of hr) (pv 2) (pv 0) (pe_can0 (empty T) hr) ⟨rfl,rfl,rfl,rfl⟩)))))
      (pss_one (ps_ret (pe_lc rfl (lcS sc_unlike_bars) (pi_listK K (pv 3)) (fun _ _ _ _=>(pts_one (pt_cmpR (op_neD hr) (pe_ix (ix_tupK K) (pv 0) pe_int (fun _ _=>rfl)) (pe_ix (ix_tupK K) (pv 0) pe_int (fun _ _=>rfl)) (nomark _)))) (fun _ _ _ _=>(pv 0))))))),?_⟩
    have la:=DA.len
    have lb:=DB.len
    have len64:∀ {ns:List Int},ns.Nodup→(∀ n ∈ ns,n ∈ na∨n ∈ nb)→ns.length < 64:=fun {ns} nd h=>by
      have:=few2 nd fun n hn=>(h n hn).elim (za n) (zb n)
      omega
    refine ⟨_,rfl,_,rfl,two_line,fun t ht=>?_⟩
    have s1:Same H (upd H t (.tup [.ref a,.ref b])):=Same.upd ht
    have ht1:(upd H t (.tup [.ref a,.ref b])) t=some (.tup [.ref a,.ref b]):=upd_same
    generalize (upd H t (.tup [.ref a,.ref b]))=H1 at s1 ht1
    refine ⟨t,rfl,⟨_,.of ht1⟩,fun D hD=>?_⟩
    have D0:H D=none:=s1.free hD
    refine sc2_tup (K:=K) (a:=t) (xs:=[.ref a,.ref b]) (fun i ks H2=>∃ ns:List Int,ks=ns.map Sum.inl∧ns.Nodup∧(∀ n,n ∈ ns↔(0 < i∧n ∈ na)∨(1 < i∧n ∈ nb))∧H2 D=some (SetH P w D ks)∧Same H1 H2)
      ⟨[],rfl,List.nodup_nil,fun n=>by simp,upd_same,Same.upd hD⟩ (fun i ks H2 ⟨ns,_,_,_,h1,h2⟩=>⟨h1,.of (h2 _ _ ht1)⟩) ?fin ?turn
    case turn =>
      rintro i x ks H2 v u hv hu hi hx ⟨ns,rfl,nd,mem,hD2,s2⟩
      have core:∀ (c:Addr) (kc:List (Key × V)) (nc:List Int),H1 c=some (.dK kc)→kc.map (·.1)=nc.map Sum.inl→(∀ n ∈ nc,n ∈ na∨n ∈ nb)→(∀ n,((0 < i∧n ∈ na)∨(1 < i∧n ∈ nb))∨n ∈ nc↔(0 < i + 1∧n ∈ na)∨(1 < i + 1∧n ∈ nb))→x=.ref c →
          gName 1 x (v++(u++[some (.ref a),some (.ref b),none,none])) H2 fun σ2 H2=>∃ u2:L2.St,u2.length=1∧σ2=v++(u2++[some (.ref a),some (.ref b),none,none])∧iDK (tVar 1) σ2 H2 fun J2 H3 =>
            scIn P w 1 (gName 0) tYes (tVar 0) (u2++[some (.ref a),some (.ref b),none,none]) J2 D (ns.map Sum.inl) H3 fun zs H4=>∃ b o uu,H4 b=some (.frz o uu)∧IsDc uu∧(∀ o' u',H1 b≠some (.frz o' u'))∧NxT 2 i fun j=>(∃ ns:List Int,zs=ns.map Sum.inl∧ns.Nodup∧(∀ n,n ∈ ns↔(0 < j∧n ∈ na)∨(1 < j∧n ∈ nb))∧(upd H4 b uu) D=some (SetH P w D zs)∧Same H1 (upd H4 b uu)):=by
        intro c kc nc hc hk hin hmem ex
        subst ex
        obtain ⟨u1,rfl⟩:=len1 hu
        obtain ⟨v1,rfl⟩:=len1 hv
        refine ⟨[some (.ref c)],rfl,rfl,⟨⟨_,rfl,c,kc,rfl,s2 _ _ hc,fun o=>?_⟩⟩⟩
        have ncD:c≠D:=ne_of_none hc hD
        have kl:kc.length=nc.length:=by have:=congrArg List.length hk; rw [List.length_map,List.length_map] at this; exact this
        have frz1:∀ b' o',H1 b'=some o'→b'≠c→(upd H2 c (.frz o (.dK kc))) b'=some o':=fun b' o' h1 h2=>by rw [upd_ne h2]; exact s2 _ _ h1
        refine scIn_dK (a:=c) (o:=o) (kvs:=kc) (fun j ks H3=>∃ ms:List Int,ks=ms.map Sum.inl∧ms.Nodup∧(∀ n,n ∈ ms↔n ∈ ns∨n ∈ nc.take j)∧H3 D=some (SetH P w D ks)∧H3 c=some (.frz o (.dK kc))∧∀ b' o',H1 b'=some o'→b'≠c→H3 b'=some o')
          ⟨ns,rfl,nd,fun n=>by simp,by rw [upd_ne (Ne.symm ncD)]; exact hD2,upd_same,frz1⟩ (fun j ks H3 ⟨_,_,_,_,h1,h2,_⟩=>⟨h1,h2⟩) ?_ ?_
        · rintro ks H3 ⟨ms,rfl,nd3,mem3,hD3,hc3,s3⟩
          refine ⟨c,o,.dK kc,hc3,.k _,(fun o' u' z=>by rw [hc] at z; cases z),nxT hi ⟨ms,rfl,nd3,fun n=>?_,?_,fun b' o' h1=>?_⟩⟩
          · rw [mem3,List.take_of_length_le (by omega),mem]; exact hmem n
          · rw [upd_ne (Ne.symm ncD)]; exact hD3
          · by_cases z:b'=c
            · subst z; rw [upd_same]; rw [hc] at h1; exact h1
            · rw [upd_ne z]; exact s3 _ _ h1 z
        · rintro j p ks H3 w1 hw1 hj hp ⟨ms,rfl,nd3,mem3,hD3,hc3,s3⟩
          obtain ⟨w2,rfl⟩:=len1 hw1
          have hp2:(kc.map (·.1))[j]?=some p.1:=by rw [List.getElem?_map,hp]; rfl
          rw [hk,List.getElem?_map] at hp2
          obtain ⟨n,hn,en⟩:∃ n,nc[j]?=some n∧p.1=.inl n:=by
            cases hn:nc[j]? with
            | none=>rw [hn] at hp2; cases hp2
            | some n=>rw [hn] at hp2; exact ⟨n,rfl,(Option.some.inj hp2).symm⟩
          rw [en]
          have mm:∀ y,y ∈ addI ms n↔y ∈ ns∨y ∈ nc.take (j + 1):=fun y=>by
            rw [mem_addI,mem3,List.take_add_one,hn,List.mem_append]
            simp [or_assoc]
          have l3:ms.length < 64:=len64 nd3 fun y hy=>by
            rcases (mem3 y).mp hy with z | z
            · rcases (mem y).mp z with ⟨_,z⟩ | ⟨_,z⟩
              · exact .inl z
              · exact .inr z
            · exact hin y (List.mem_of_mem_take z)
          refine ⟨⟨[_],rfl,rfl⟩,yesI ⟨_,rfl,hD3,by rw [List.length_map]; omega,.inl n,rfl,nxT hj ⟨addI ms n,addK_inl ms n,addI_nd nd3,mm,upd_same,?_,fun b' o' h1 h2=>?_⟩⟩⟩
          · rw [upd_ne ncD]; exact hc3
          · rw [upd_ne (ne_of_none h1 hD)]; exact s3 _ _ h1 h2
      have hi2:i < 2:=hi
      rcases (show i=0∨i=1 by omega) with e | e
      · subst e
        exact core a ka na (s1 _ _ ha) DA.k (fun n hn=>.inl hn) (fun n=>⟨fun h=>h.elim (fun z=>z.elim (fun y=>absurd y.1 (by decide)) fun y=>absurd y.1 (by decide)) fun z=>.inl ⟨by decide,z⟩,fun h=>h.elim (fun z=>.inr z.2) fun z=>absurd z.1 (by decide)⟩) (Option.some.inj hx).symm
      · subst e
        exact core b kb nb (s1 _ _ hb) DB.k (fun n hn=>.inr hn) (fun n=>⟨fun h=>h.elim (fun z=>z.elim (fun y=>.inl ⟨by decide,y.2⟩) fun y=>absurd y.1 (by decide)) fun z=>.inr ⟨by decide,z⟩,fun h=>h.elim (fun z=>.inl (.inl ⟨by decide,z.2⟩)) fun z=>.inr z.2⟩) (Option.some.inj hx).symm
    case fin =>
      rintro ks H2 ⟨ns,rfl,nd,mem,hD2,s2⟩
      have mem2:∀ n,n ∈ ns↔n ∈ na∨n ∈ nb:=fun n=>(mem n).trans ⟨fun h=>h.imp (·.2) (·.2),fun h=>h.imp (fun z=>⟨by show 0 < 2; decide,z⟩) fun z=>⟨by show 1 < 2; decide,z⟩⟩
      have l64:=len64 nd fun n hn=>(mem2 n).mp hn
      refine ⟨D,ns,rfl,hD2,l64,⟨fun G ms pm srt hG=>?_⟩⟩
      have s3:Same H2 (upd H2 G (.lst (ms.map V.int))):=Same.upd hG
      have hG3:(upd H2 G (.lst (ms.map V.int))) G=some (.lst (ms.map V.int)):=upd_same
      generalize (upd H2 G (.lst (ms.map V.int)))=H3 at s3 hG3
      have s03:Same H H3:=s1.trans (s2.trans s3)
      have ml:ms.length < 64:=by rw [pm.length_eq]; exact l64
      have mem3:∀ n,n ∈ ms↔n ∈ na∨n ∈ nb:=fun n=>(pm.mem_iff).trans (mem2 n)
      have A3:=DA.tups fun b xs h=>s03 _ _ h
      have B3:=DB.tups fun b xs h=>s03 _ _ h
      refine ⟨_,rfl,G,rfl,⟨_,.of hG3⟩,fun R hR=>?_⟩
      refine lc_list (xs:=ms.map V.int) (fun i ys H4=>H4 R=some (.lst ys)∧Same H3 H4∧Paired (URow f g H4) ys (ms.take i)) ⟨upd_same,Same.upd hR,.nil⟩ (fun i ys H4 h=>⟨h.1,.of (h.2.1 _ _ hG3)⟩) (fun ys H4 h=>?_) fun i x ys H4 hi hx h=>?go
      case go =>
        obtain ⟨d1,d2,d3⟩:=h
        obtain ⟨n,hn,rfl⟩:=int_of_map hx
        rw [List.length_map] at hi
        have yl:=Paired.length d3
        rw [List.length_take] at yl
        have s04:=s03.trans d2
        have got:∀ {kc:List (Key × V)} {nc:List Int} {h:Int→PyData} {H5:Hp} {e0:Addr},DD H5 kc nc h→Dat H5 emptyD (.ref e0)→∃ p,(valV kc (.inl n)).getD (.ref e0)=.ref p∧Dat H5 (h n) (.ref p):=fun {kc nc h H5 e0} D5 h0=>by
          by_cases z:n ∈ nc
          · obtain ⟨p,e,hp⟩:=D5.v n z
            rw [e]
            exact ⟨p,rfl,hp⟩
          · obtain ⟨e,e2⟩:=D5.z n z
            rw [e,e2]
            exact ⟨e0,rfl,h0⟩
        refine yesI ⟨_,rfl,_,rfl,a,rfl,.inl ⟨ka,.inl (s04 _ _ ha)⟩,_,rfl,rfl,fun e0 H5 s5 he0 hd5=>?_⟩
        have s05:=s04.trans s5
        refine ⟨_,DGet.k (k:=.inl n) (s05 _ _ ha),?_⟩
        obtain ⟨p,ep,hp⟩:=got (DA.tups fun b xs h=>s05 _ _ h) hd5
        rw [ep]
        refine ⟨_,rfl,b,rfl,.inl ⟨kb,.inl (s05 _ _ hb)⟩,_,rfl,rfl,fun e1 H6 s6 he1 hd6=>?_⟩
        have s06:=s05.trans s6
        refine ⟨_,DGet.k (k:=.inl n) (s06 _ _ hb),?_⟩
        obtain ⟨p2,ep2,hp2⟩:=got (DB.tups fun b xs h=>s06 _ _ h) hd6
        rw [ep2]
        refine ⟨three_line,fun t7 ht7=>?_⟩
        have s7:Same H6 (upd H6 t7 (.tup [.int n,.ref p,.ref p2])):=Same.upd ht7
        have h7:(upd H6 t7 (.tup [.int n,.ref p,.ref p2])) t7=some (.tup [.int n,.ref p,.ref p2]):=upd_same
        generalize (upd H6 t7 (.tup [.int n,.ref p,.ref p2]))=H7 at s7 h7
        have s47:=s5.trans (s6.trans s7)
        have hR7:=s47 _ _ d1
        have tp:∀ b xs,H7 b=some (.tup xs)→(upd H7 R (.lst (ys++[.ref t7]))) b=some (.tup xs):=fun b xs h=>by
          rw [upd_ne (fun z=>by rw [z,hR7] at h; cases h)]; exact h
        refine LcNx.mk (by rw [List.length_map]; exact hi) (by rw [List.length_map]; omega) (by omega) hR7 ⟨upd_same,fun b o h=>?_,?_⟩
        · rw [upd_ne (ne_of_none h hR)]
          exact s47 _ _ (d2 _ _ h)
        · rw [List.take_add_one,hn]
          refine Paired.snoc ?_ (Paired.mapP d3 fun _ m z=>z.tups (fun b xs h=>tp _ _ (s47 _ _ h)) (DA.b m) (DB.b m))
          exact URow.tups tp (DA.b n) (DB.b n) ⟨t7,p,p2,rfl,h7,Dat.same (s6.trans s7) _ _ hp,Dat.same s7 _ _ hp2⟩
      obtain ⟨d1,d2,d3⟩:=h
      rw [List.length_map,List.take_length] at d3
      have rl:=Paired.length d3
      refine ⟨_,rfl,R,rfl,⟨_,.of d1⟩,fun Z hZ=>?_⟩
      refine lc_list (xs:=ys) (fun i zs H5=>H5 Z=some (.lst zs)∧Same H4 H5∧Paired (URow f g H5) zs ((ms.take i).filter fun n=>!PyData.eqv (f n) (g n))∧zs.length≤i) ⟨upd_same,Same.upd hZ,.nil,Nat.le_refl _⟩ (fun i zs H5 h=>⟨h.1,.of (h.2.1 _ _ d1)⟩) (fun zs H5 h=>?_) fun i x zs H5 hi hx h=>?go2
      case go2 =>
        obtain ⟨c1,c2,c3,c4⟩:=h
        obtain ⟨n,hn,t8,p8,q8,rfl,h8,dp,dq⟩:=Paired.get d3 hx
        obtain ⟨lf,_,pf⟩:=(DA.b n).lf
        obtain ⟨lg,_,_⟩:=(DB.b n).lf
        have tk:(ms.take (i + 1)).filter (fun n=>!PyData.eqv (f n) (g n))=(ms.take i).filter (fun n=>!PyData.eqv (f n) (g n))++(if (!PyData.eqv (f n) (g n))=true then [n] else []):=by
          rw [List.take_add_one,hn,List.filter_append]
          congr 1
          by_cases z:(!PyData.eqv (f n) (g n))=true
          · simp [z]
          · simp [z]
        refine ⟨_,rfl,t8,_,_,_,rfl,rfl,.of (c2 _ _ h8),rfl,_,rfl,t8,_,_,_,rfl,rfl,.of (c2 _ _ h8),rfl,f n,g n,Dat.same c2 _ _ dp,Dat.same c2 _ _ dq,lf.cl,lg.cl,by omega,_,rfl,?_⟩
        rw [if_pos (rfl:true=true)]
        cases hc:(!PyData.eqv (f n) (g n)) with
        | true =>
          refine iteT ⟨_,rfl,LcNx.mk hi (by omega) (by omega) c1 ⟨upd_same,c2.but_ne hZ,?_,by rw [List.length_append]; show zs.length + 1≤i + 1; omega⟩⟩
          have tp:∀ b xs,H5 b=some (.tup xs)→(upd H5 Z (.lst (zs++[.ref t8]))) b=some (.tup xs):=fun b xs h=>by
            rw [upd_ne (fun z=>by rw [z,c1] at h; cases h)]; exact h
          rw [tk,if_pos hc]
          exact Paired.snoc (URow.tups tp (DA.b n) (DB.b n) ⟨t8,p8,q8,rfl,c2 _ _ h8,Dat.same c2 _ _ dp,Dat.same c2 _ _ dq⟩) (Paired.mapP c3 fun _ m z=>z.tups tp (DA.b m) (DB.b m))
        | false =>
          refine iteF (LcNo.mk hi ⟨c1,c2,?_,by omega⟩)
          rw [tk,if_neg (by rw [hc]; exact Bool.false_ne_true),List.append_nil]
          exact c3
      obtain ⟨c1,c2,c3,c4⟩:=h
      rw [List.take_of_length_le (by omega)] at c3
      exact q Z zs ms H5 (s03.trans (d2.trans c2)) (s03.free (d2.free hZ)) c1 (pm.nodup_iff.mpr nd) srt mem3 (urows_dat c3) (by omega)
end
end Pr
namespace L2
open PySem PySem.Spec PyProof.Rows
theorem dc_list {K:PySem.W.Frag} {a:Addr} {xs:List V} {n:Nat} {g:TG} {tc:TT} {te tv:TE} {σ:St} {D:Addr} {Fin:Hp→Prop} {H0:Hp} (Pv:Nat→List (Key × V)→Hp→Prop) (h0:Pv 0 [] (upd H0 D (.dK [])))
    (hD:∀ i ks H,Pv i ks H→H D=some (.dK ks)∧SqL K H a xs) (hend:∀ ks H,Pv xs.length ks H→Fin H)
    (hgo:∀ i x ks H (u:St),u.length=n→i < xs.length→xs[i]?=some x→Pv i ks H→g x (u++σ) H fun σ2 H2=>(∃ u2:St,u2.length=n∧σ2=u2++σ)∧tc σ2 H2 fun b H3=>if b=true then te σ2 H3 fun y H4=>tv σ2 H4 fun z H5=>H5 D=some (.dK ks)∧ks.length < sizeLine∧∃ k,y=kV k∧NxT xs.length i fun j=>Pv j (putK ks k z) (upd H5 D (.dK (putK ks k z)))
      else NxT xs.length i fun j=>Pv j ks H3):dcGo n g tc te tv σ (Itl K a) D Fin H0:=by
  refine ⟨fun i m ks H=>m=xs.length - i∧i≤xs.length∧Pv i ks H,⟨xs.length,rfl,Nat.zero_le _,h0⟩,?_⟩
  rintro i m ks H ⟨rfl,hi,p⟩
  refine ⟨(hD i ks H p).1,?_⟩
  by_cases hlt:i < xs.length
  · refine .inr ⟨⟨xs,xs[i],(hD _ _ _ p).2,List.getElem?_eq_getElem hlt⟩,fun x H' u hu y=>?_⟩
    obtain ⟨e,y⟩:=y
    subst e
    exact hgo i x ks _ u hu hlt (y xs (hD _ _ _ p).2) p
  · obtain rfl:i=xs.length:=by omega
    exact .inl ⟨⟨xs,(hD _ _ _ p).2,Nat.le_refl _⟩,hend ks H p⟩
theorem putF_len {f:Str} {v:V}:∀ {fs:List (Str × V)} {u:V},fs.lookup f=some u→(putF f v fs).length=fs.length
  | [],u,h=>by cases h
  | (g,x)::r,u,h=>by
    rw [show putF f v ((g,x)::r)=(if g=f then (g,v)::r else (g,x)::putF f v r) from rfl]
    by_cases e:g=f
    · rw [if_pos e]; rfl
    · rw [if_neg e,List.length_cons,List.length_cons,putF_len (u:=u)]
      rw [List.lookup_cons] at h
      have:(f == g)=false:=beq_eq_false_iff_ne.mpr fun z=>e z.symm
      rw [this] at h
      exact h
end L2
namespace Pr
open PySem L2 PyProof.Rows Ent
noncomputable def bd (es:List En):PyData:=by
  classical
  exact if h:∃ d,BarOf es d then h.choose else emptyD
theorem bd_one {es:List En} {d:PyData} (k:Ent.Keyed es) (h:BarOf es d):d=bd es:=by
  have hx:∃ d,BarOf es d:=⟨d,h⟩
  unfold bd
  rw [dif_pos hx]
  exact BarOf.one (List.Perm.refl _) k h hx.choose_spec
theorem bd_nil:bd []=emptyD:=(bd_one (by unfold Ent.Keyed; exact List.nodup_nil) (.non rfl rfl)).symm
theorem BT.dat {H:Hp} {v:V} {es:List En} (k:Ent.Keyed es) (h:BT H v es):∃ p,v=.ref p∧Dat H (bd es) (.ref p)∧BarOf es (bd es):=by
  obtain ⟨p,b,e,d,o⟩:=h
  rw [← bd_one k o]
  exact ⟨p,e,d,o⟩
structure DV (H:Hp) (kvs:List (Key × V)) (ns:List Int) (f:Int→PyData):Prop where
  k:kvs.map (·.1)=ns.map Sum.inl
  nd:ns.Nodup
  v:∀ n ∈ ns,∃ p,valV kvs (.inl n)=some (.ref p)∧Dat H (f n) (.ref p)∧BarLike (f n)
  z:∀ n,n ∉ ns→valV kvs (.inl n)=none
theorem DV.nil {H:Hp} {f:Int→PyData}:DV H [] [] f:=⟨rfl,List.nodup_nil,(fun _ h=>nomatch h),fun _ _=>rfl⟩
theorem DV.tups {H H':Hp} (s:∀ b xs,H b=some (.tup xs)→H' b=some (.tup xs)) {kvs:List (Key × V)} {ns:List Int} {f:Int→PyData} (g:DV H kvs ns f):DV H' kvs ns f :=
  ⟨g.k,g.nd,fun n hn=>by obtain ⟨p,e,h,b⟩:=g.v n hn; exact ⟨p,e,Dat.tups s _ _ b.noL h,b⟩,g.z⟩
theorem DV.len {H:Hp} {kvs:List (Key × V)} {ns:List Int} {f:Int→PyData} (g:DV H kvs ns f):kvs.length=ns.length:=by
  have:=congrArg List.length g.k
  rw [List.length_map,List.length_map] at this
  exact this
theorem DV.put {H:Hp} {kvs:List (Key × V)} {ns:List Int} {f:Int→PyData} (g:DV H kvs ns f) {n:Int} {p:Addr} (hn:n ∉ ns) (d:Dat H (f n) (.ref p)) (b:BarLike (f n)):DV H (putK kvs (.inl n) (.ref p)) (ns++[n]) f:=by
  have hz:=g.z n hn
  have e:=putK_new (kvs:=kvs) (.ref p) hz
  have vs:∀ j,valV (putK kvs (.inl n) (.ref p)) (.inl j)=if j=n then some (.ref p) else valV kvs (.inl j):=fun j=>by
    rw [valV_put]
    by_cases z:j=n
    · rw [if_pos z,if_pos (by rw [z])]
    · rw [if_neg z,if_neg (fun y=>z (Sum.inl.inj y))]
  refine ⟨?_,?_,fun j hj=>?_,fun j hj=>?_⟩
  · rw [e,List.map_append,g.k,List.map_append]; rfl
  · rw [List.nodup_append]
    exact ⟨g.nd,by simp,fun a ha b hb e=>hn (by rw [List.mem_singleton.mp hb] at e; exact e ▸ ha)⟩
  · rw [vs]
    by_cases z:j=n
    · rw [if_pos z,z]; exact ⟨p,rfl,d,b⟩
    · rw [if_neg z]
      exact g.v j ((List.mem_append.mp hj).elim id fun y=>absurd (List.mem_singleton.mp y) z)
  · rw [vs,if_neg (fun z=>hj (List.mem_append_right _ (List.mem_singleton.mpr z)))]
    exact g.z j fun z=>hj (List.mem_append_left _ z)
theorem DV.dd {H:Hp} {kvs:List (Key × V)} {ns:List Int} {f g:Int→PyData} (h:DV H kvs ns f) (h1:∀ n ∈ ns,g n=f n) (h2:∀ n,n ∉ ns→g n=emptyD):DD H kvs ns g:=by
  refine ⟨h.k,h.nd,fun n hn=>?_,fun n hn=>⟨h.z n hn,h2 n hn⟩,fun n=>?_⟩
  · obtain ⟨p,e,d,_⟩:=h.v n hn
    rw [h1 n hn]
    exact ⟨p,e,d⟩
  · by_cases z:n ∈ ns
    · obtain ⟨p,_,_,b⟩:=h.v n z
      rw [h1 n z]
      exact b
    · rw [h2 n z]; exact barLike_empty
theorem own_kd {st:List Lad.Step} {r:Nat} {n:Int} {es:List En} (k:Ent.Keyed es):Ent.Keyed (own st r n es):=by
  unfold Ent.Keyed at k ⊢
  exact List.Sublist.nodup (List.Sublist.map _ List.filter_sublist) k
theorem own_emp {st:List Lad.Step} {r:Nat} {n:Int} {es:List En} (h:¬ ∃ e ∈ es,Lad.ur st r e.1=n):own st r n es=[]:=by
  unfold own
  rw [List.filter_eq_nil_iff]
  exact fun e he z=>h ⟨e,he,of_decide_eq_true z⟩
theorem barLike_own {st:List Lad.Step} {r:Nat} {n:Int} {es:List En} {d:PyData} (ek:∀ e ∈ es,EnOk e) (hl:es.length≤1000) (h:BarOf (own st r n es) d):BarLike d :=
  ⟨_,fun e he=>ek e (List.mem_filter.mp he).1,Nat.le_trans (List.length_filter_le _ _) hl,h⟩
def inB (b e n:Int):Bool:=decide (b≤n) && decide (n < e)
noncomputable def nowf (st:List Lad.Step) (r:Nat) (b e:Int) (es:List En) (n:Int):PyData:=if inB b e n=true then bd (own st r n es) else emptyD
theorem noLs_urows {f g:Int→PyData} (ms:List Int) (hf:∀ n,BarLike (f n)) (hg:∀ n,BarLike (g n)):L2.noLs (urows ms f g)=true:=by
  unfold urows
  induction ms.filter fun n=>!PyData.eqv (f n) (g n) with
  | nil=>rfl
  | cons n t ih =>
    rw [List.map_cons]
    unfold L2.noLs
    rw [ih,Bool.and_true]
    unfold urow L2.noL L2.noLs L2.noLs L2.noLs
    rw [(hf n).noL,(hg n).noL]
    rfl
structure FolF (fs:List (Str × V)) (x:Addr) (r b e:Int) (kn:Addr):Prop where
  l:fs.lookup ("ladder" : Str)=some (.ref x)
  r:fs.lookup ("roll" : Str)=some (.int r)
  b:fs.lookup ("first_number" : Str)=some (.int b)
  e:fs.lookup ("number_behind" : Str)=some (.int e)
  k:fs.lookup ("known" : Str)=some (.ref kn)
  n:fs.lookup ("news" : Str)=none
  len:fs.length≤5
def FolAt (D:Addr) (H:Hp) (p x:Addr) (r b e:Int) (kn:Addr):Prop:=∃ dx fs,H p=some (.ins D dx fs)∧FolF fs x r b e kn
theorem FolAt.same {D:Addr} {H H':Hp} {p x:Addr} {r b e:Int} {kn:Addr} (s:Same H H') (h:FolAt D H p x r b e kn):FolAt D H' p x r b e kn:=by
  obtain ⟨dx,fs,h,f⟩:=h
  exact ⟨dx,fs,s _ _ h,f⟩
theorem FolF.put {fs:List (Str × V)} {x:Addr} {r b e:Int} {kn:Addr} (h:FolF fs x r b e kn) (F:Addr):FolF (putF "known" (.ref F) fs) x r b e F :=
  ⟨by rw [lookup_putF,if_neg (by decide)]; exact h.l,by rw [lookup_putF,if_neg (by decide)]; exact h.r,by rw [lookup_putF,if_neg (by decide)]; exact h.b,by rw [lookup_putF,if_neg (by decide)]; exact h.e,by rw [lookup_putF,if_pos rfl],by rw [lookup_putF,if_neg (by decide)]; exact h.n,by rw [putF_len h.k]; exact h.len⟩
end Pr
namespace Pr
open PySem L2 PyProof.Rows Ent
section
variable {P:Program} {w:World} {K:PySem.W.Frag} {mg:Str→Option Value} {base:Heap} {C:Addr}
theorem sc_finit:FnScope ["self","ladder","roll","begin","end"] ["self","ladder","roll","begin","end"] (defScope sm_Follower_init):=⟨rfl,rfl,rfl,by decide +kernel,rfl,by decide +kernel,by decide +kernel⟩
end
end Pr
namespace Pr
open PySem L2 PyProof.Rows Ent
section
variable {P:Program} {w:World} {K:PySem.W.Frag} {mg:Str→Option Value} {base:Heap} {C:Addr}
inductive sp_news (C Dc:Addr) (vs:List V) (H:Hp) (Q:VK) (E:XK):Prop
  | mk (p x kn a:Addr) (o:HO) (r:Nat) (b e bb:Int) (ps:List Int) (rows:List Lad.Step) (kk:List (Key × V)) (nk zs:List Int) (f:Int→PyData) (xs:List V) (es:List En) (e0:vs=[.ref p,.ref a]) (hF:FolAt Dc H p x (r:Int) b e kn) (hL:LadAt C H x bb ps rows) (ok:LadOk bb ps rows) (hr:r≤rows.length) (hk:H kn=some (.dK kk)) (hd:DD H kk nk f)
      (ha:H a=some o) (ho:Ob o xs) (hx:Paired (EntG H) xs es) (hl:es.length < 64) (ek:∀ e ∈ es,EnOk e) (ky:Ent.Keyed es) (hz:zs.length < 64) (z1:∀ n ∈ nk,n ∈ zs) (z2:∀ e ∈ es,Lad.ur (allSt bb ps rows) r e.1 ∈ zs)
      (q:∀ D ys (ms:List Int) F kf nf H',But p H H'→H D=none→H' D=some (.lst ys)→ms.Nodup→ms.Pairwise (·≤·)→(∀ n,n ∈ ms↔n ∈ nk∨n ∈ nf)→DatAll H' (urows ms f (nowf (allSt bb ps rows) r b e es)) ys→ys.length≤63→H F=none→H' F=some (.dK kf)→DD H' kf nf (nowf (allSt bb ps rows) r b e es)→(∀ n,n ∈ nf↔inB b e n=true∧∃ e ∈ es,Lad.ur (allSt bb ps rows) r e.1=n)→FolAt Dc H' p x (r:Int) b e F→Q (.ref D) H'):sp_news C Dc vs H Q E
theorem sc_news:FnScope ["self","entries","bars","found","told"] ["self","entries"] (defScope sm_Follower_news):=⟨rfl,rfl,rfl,by decide +kernel,rfl,by decide +kernel,by decide +kernel⟩
set_option maxHeartbeats 8000000 in
theorem news (T:Txt K mg C):CanM P w K mg base (cOf mg "Follower") 8 "news" ["self","entries"] (sp_news C (cOf mg "Follower")):=by
  refine fm_can T.m_Follower_news sc_news (fun vs H Q E h=>?_) (fun f cdv A outer s H vs Q E hr h=>?_)
  · obtain ⟨p,x,kn,a,o,r,b,e,bb,ps,rows,kk,nk,zs,f,xs,es,rfl,_⟩:=h
    rfl
  · obtain ⟨p,x,kn,a,o,r,b,e,bb,ps,rows,kk,nk,zs,f,xs,es,rfl,hF,hL,ok,hrl,hk,hd,ha,ho,hx,hl,ek,ky,hz,z1,z2,q⟩:=h
    refine ⟨_,(pss_cons (ps_set (i:=2) sc_news.nd rfl (Or.inl rfl) (pe_can (bars_of T) hr (pa3 (pe_fldK K (pv 0) rfl) (pe_fldK K (pv 0) rfl) (pv 1))))
      (pss_cons (ps_setDN (i:=3) (xs:=["number","bar"]) (Ns:=["self","entries","bars","found","told"]) sc_news.nd rfl rfl rfl (lnS _ sc_news) (pi_listK K (pv 2)) (pg_pair rfl (lnS _ sc_news)) (fun _ _ _ _=>(pts_one (pt_chain op_le op_lt (pe_fldK K (pv 2) rfl) (pv 0) (pe_fldK K (pv 2) rfl)))) (fun _ _ _ _=>pv 0) (fun _ _ _ _=>pv 1))
      (pss_cons (ps_set (i:=4) sc_news.nd rfl (Or.inl rfl) (pe_can (unlike_bars T) hr (pa2 (pe_fldK K (pv 0) rfl) (pv 3))))
      (pss_cons (ps_fld (pv 0) (pv 3) rfl)
      (pss_one (ps_ret (pv 4))))))),?_⟩
    obtain ⟨dx,fs,hp,ff⟩:=hF
    refine ⟨_,rfl,p,_,dx,fs,_,rfl,hp,T.cl_Follower,T.n_Follower_ladder,ff.l,?_⟩
    refine ⟨_,rfl,p,_,dx,fs,_,rfl,hp,T.cl_Follower,T.n_Follower_roll,ff.r,_,rfl,?_⟩
    refine ⟨x,a,o,xs,es,r,bb,ps,rows,rfl,hL,ok,hrl,ha,ho,hx,hl,ek,fun B ys ms H1 s1 hB0 hB hP nd srt mem=>?_⟩
    have yl:=Paired.length hP
    rw [List.length_map] at yl
    have ml:ms.length≤es.length:=by
      have:ms.length≤(es.map fun e=>Lad.ur (allSt bb ps rows) r e.1).length:=few2 nd fun n hn=>by
        obtain ⟨e',he,ee⟩:=(mem n).mp hn
        exact List.mem_map.mpr ⟨e',he,ee⟩
      rw [List.length_map] at this
      exact this
    have hp1:=s1 _ _ hp
    refine ⟨_,rfl,B,rfl,⟨_,.of hB⟩,fun F hF0=>?_⟩
    have hFH:H F=none:=s1.free hF0
    refine dc_list (K:=K) (a:=B) (xs:=ys) (fun i kvs H2=>H2 F=some (.dK kvs)∧Same H1 H2∧DV H2 kvs ((ms.take i).filter (inB b e)) (fun n=>bd (own (allSt bb ps rows) r n es))) ⟨upd_same,Same.upd hF0,DV.nil⟩ (fun i kvs H2 h=>⟨h.1,.of (h.2.1 _ _ hB)⟩) ?fin ?turn
    case turn =>
      rintro i y kvs H2 u hu hi hy ⟨d1,d2,d3⟩
      obtain ⟨u1,u2,rfl⟩:=len2 hu
      obtain ⟨pr,hpr,t,v,rfl,ht,hv⟩:=Paired.get hP hy
      rw [List.getElem?_map] at hpr
      obtain ⟨n,hn,rfl⟩:∃ n,ms[i]?=some n∧(n,own (allSt bb ps rows) r n es)=pr:=by
        cases hn:ms[i]? with
        | none=>rw [hn] at hpr; cases hpr
        | some n=>rw [hn] at hpr; exact ⟨n,rfl,Option.some.inj hpr⟩
      have fil:(ms.take (i + 1)).filter (inB b e)=(ms.take i).filter (inB b e)++(if inB b e n=true then [n] else []):=by
        rw [List.take_add_one,hn,List.filter_append]
        congr 1
        by_cases z:inB b e n=true
        · simp [z]
        · simp [z]
      have hp2:=d2 _ _ hp1
      refine ⟨t,_,rfl,.of (d2 _ _ ht),rfl,_,_,rfl,_,_,rfl,rfl,⟨[some (.int n),some v],rfl,rfl⟩,?_⟩
      refine ⟨_,rfl,p,_,dx,fs,_,rfl,hp2,T.cl_Follower,T.n_Follower_first_number,ff.b,_,rfl,_,_,rfl,rfl,_,rfl,?_⟩
      have no:inB b e n=false→NxT ys.length i fun j=>H2 F=some (.dK kvs)∧Same H1 H2∧DV H2 kvs ((ms.take j).filter (inB b e)) (fun n=>bd (own (allSt bb ps rows) r n es)):=fun z=>nxT hi ⟨d1,d2,by rw [fil,if_neg (by rw [z]; exact Bool.false_ne_true),List.append_nil]; exact d3⟩
      by_cases c1:b≤n
      · refine iteC (decide_eq_true c1) ⟨_,rfl,p,_,dx,fs,_,rfl,hp2,T.cl_Follower,T.n_Follower_number_behind,ff.e,_,_,rfl,rfl,?_⟩
        by_cases c2:n < e
        · have z:inB b e n=true:=by unfold inB; rw [decide_eq_true c1,decide_eq_true c2]; rfl
          refine ⟨_,rfl,iteC (decide_eq_true c2) ⟨_,rfl,_,rfl,d1,by rw [d3.len,sizeLine_eq]; have:=List.length_filter_le (inB b e) (ms.take i); rw [List.length_take] at this; omega,.inl n,rfl,nxT hi ⟨upd_same,d2.but_ne hF0,?_⟩⟩⟩
          have tp:∀ b' xs',H2 b'=some (.tup xs')→(upd H2 F (.dK (putK kvs (.inl n) v))) b'=some (.tup xs'):=fun b' xs' h=>by
            rw [upd_ne (fun z=>by rw [z,d1] at h; cases h)]; exact h
          obtain ⟨p2,ev,dv,ov⟩:=BT.dat (own_kd ky) (hv.same d2)
          subst ev
          rw [fil,if_pos z]
          refine (d3.put (n:=n) (p:=p2) (fun hm=>?_) dv (barLike_own ek (by omega) ov)).tups tp
          have h1:=(List.mem_filter.mp hm).1
          have nd':=List.Nodup.sublist (List.take_sublist (i + 1) ms) nd
          rw [List.take_add_one,hn] at nd'
          exact (List.nodup_append.mp nd').2.2 n h1 n (by simp) rfl
        · exact ⟨_,rfl,iteN (decide_eq_false c2) (no (by unfold inB; rw [decide_eq_false c2,Bool.and_false]))⟩
      · refine iteN (decide_eq_false c1) ?_
        exact ⟨_,rfl,iteF (no (by unfold inB; rw [decide_eq_false c1]; rfl))⟩
    case fin =>
      rintro kvs H2 ⟨d1,d2,d3⟩
      rw [List.take_of_length_le (by omega)] at d3
      have memf:∀ n,n ∈ ms.filter (inB b e)↔inB b e n=true∧∃ e ∈ es,Lad.ur (allSt bb ps rows) r e.1=n:=fun n=>by
        rw [List.mem_filter,mem]; exact And.comm
      have DF:DD H2 kvs (ms.filter (inB b e)) (nowf (allSt bb ps rows) r b e es):=d3.dd (fun n hn=>by unfold nowf; rw [if_pos ((memf n).mp hn).1]) fun n hn=>by
        unfold nowf
        by_cases z:inB b e n=true
        · rw [if_pos z,own_emp (fun y=>hn ((memf n).mpr ⟨z,y⟩)),bd_nil]
        · rw [if_neg z]
      have s02:=s1.trans d2
      have hp2:=s02 _ _ hp
      refine ⟨_,rfl,p,_,dx,fs,_,rfl,hp2,T.cl_Follower,T.n_Follower_known,ff.k,_,rfl,?_⟩
      refine ⟨kn,F,kk,kvs,nk,_,zs,f,_,rfl,s02 _ _ hk,d1,hd.tups fun b xs h=>s02 _ _ h,DF,hz,z1,fun n hn=>?_,fun D zs' us H3 s3 hD0 hD nd3 srt3 mem3 dat3 len3=>?_⟩
      · obtain ⟨_,e',he,ee⟩:=(memf n).mp hn
        rw [← ee]
        exact z2 e' he
      have hp3:=s3 _ _ hp2
      refine ⟨_,rfl,_,rfl,p,_,dx,fs,rfl,hp3,T.cl_Follower,T.n_Follower_known,by have:=ff.len; omega,_,rfl,?_⟩
      have nFp:F≠p:=fun z=>by rw [z,hp2] at d1; cases d1
      have nDp:D≠p:=fun z=>by rw [z,hp2] at hD0; cases hD0
      have tp:∀ b' xs',H3 b'=some (.tup xs')→(upd H3 p (.ins (cOf mg "Follower") dx (putF "known" (.ref F) fs))) b'=some (.tup xs'):=fun b' xs' h=>by
        rw [upd_ne (fun z=>by rw [z,hp3] at h; cases h)]; exact h
      have ul:us.length≤63:=by
        have:=few2 nd3 (zs:=zs) fun n hn=>by
          rcases (mem3 n).mp hn with y | y
          · exact z1 n y
          · obtain ⟨_,e',he,ee⟩:=(memf n).mp y
            rw [← ee]; exact z2 e' he
        omega
      refine q D zs' us F kvs _ _ (fun c o h n=>by rw [upd_ne n]; exact s3 _ _ (s02 _ _ h)) (s02.free hD0) (by rw [upd_ne nDp]; exact hD) nd3 srt3 mem3 (DatAll.tups tp _ _ ?_ dat3) (by omega) hFH (by rw [upd_ne nFp]; exact s3 _ _ d1) ((DF.tups fun b xs h=>s3 _ _ h).tups tp) memf ⟨dx,_,upd_same,ff.put F⟩
      exact noLs_urows us (fun n=>hd.b n) fun n=>DF.b n
end
end Pr
namespace L2
open PySem PySem.Spec PyProof.Rows
inductive Flat:Value→PyData→Prop
  | none:Flat .none .none
  | bool (b:Bool):Flat (.bool b) (.bool b)
  | int (i:Int) (t:Tok):Flat (.int i t) (.int i)
  | str (x:Str) (t:Tok):Flat (.str x t) (.str x)
theorem Flat.reads {h:Heap} {v:Value} {d:PyData} (f:Flat v d):Reads h v d []:=by
  cases f with
  | none=>exact .none
  | bool b=>exact .bool b
  | int i t=>exact .int i t
  | str x t=>exact .str x t
theorem flat_readsAll {h:Heap}:∀ {vs:List Value} {ds:List PyData},Paired Flat vs ds→ReadsAll h vs ds []
  | _,_,.nil=>.nil
  | _,_,.cons f t=>.cons (as:=[]) (bs:=[]) f.reads (flat_readsAll t)
def LitP (a:Addr) (kvs:List (PyData × PyData)) (h:Heap):Prop :=
  (a == sysModules)=false∧∃ o es n,h.get? a=some o∧o.cls=.type "dict"∧o.data=.dict es n∧Paired Flat (es.toList.map (·.key)) (kvs.map (·.1))∧Paired Flat (es.toList.map (·.val)) (kvs.map (·.2))
def LitO (a:Addr) (kvs:List (PyData × PyData)):HO:=.ext (LitP a kvs)
theorem LitP.reads {a:Addr} {kvs:List (PyData × PyData)} {h:Heap} (x:LitP a kvs h):∃ as,Reads h (.ref a) (.dict kvs) as∧sysModules ∉ as:=by
  obtain ⟨s,o,es,n,e,c,d,k,v⟩:=x
  refine ⟨_,.dict e c d (flat_readsAll k) (flat_readsAll v),?_⟩
  intro z
  have z':sysModules=a:=by simpa using z
  rw [z'] at s
  simp at s
def keyD:Key→PyData
  | .inl i=>.int i
  | .inr x=>.str x
def flatD:V→Option PyData
  | .non=>some .none
  | .bl b=>some (.bool b)
  | .int i=>some (.int i)
  | .str x=>some (.str x)
  | _=>none
theorem flat_key {P:Program} {w:World} {k:Key} {v:Value} (h:(mixKind P w).is k v=true):Flat v (keyD k):=by
  rcases keyIs_shape h with ⟨i,t,rfl,rfl⟩ | ⟨x,t,rfl,rfl⟩
  · exact .int i t
  · exact .str x t
theorem flat_val {x:V} {u:Value} {d:PyData} (e:flatD x=some d) (r:RelV x u):Flat u d:=by
  cases x with
  | non=>cases e; cases r; exact .none
  | bl b=>cases e; cases r; exact .bool b
  | int i=>cases e; obtain ⟨t,rfl⟩:=r; exact .int i t
  | str y=>cases e; obtain ⟨t,rfl⟩:=r; exact .str y t
  | _=>cases e
def FlatK:List (Key × V)→List (PyData × PyData)→Prop:=Paired fun e p=>keyD e.1=p.1∧flatD e.2=some p.2
theorem flat_keys {P:Program} {w:World}:∀ {kvs:List (Key × V)} {ds:List (PyData × PyData)} {vs:List (Key × Value)} {es:List DictEntry},FlatK kvs ds→KV kvs vs→Pairs (mixKind P w) es vs →
    Paired Flat (es.map (·.key)) (ds.map (·.1))∧Paired Flat (es.map (·.val)) (ds.map (·.2))
  | _,_,_,_,.nil,.nil,.nil=>⟨.nil,.nil⟩
  | _,_,_,_,.cons f fs,.cons r rs,.cons k v ps=>by
    obtain ⟨a,b⟩:=flat_keys fs rs ps
    refine ⟨.cons ?_ a,.cons ?_ b⟩
    · exact Eq.mp (congrArg (Flat _) ((congrArg keyD r.1).symm.trans f.1)) (flat_key k)
    · exact Eq.mp (congrArg (fun z=>Flat z _) v.symm) (flat_val f.2 r.2)
inductive Dat1 (H:Hp):PyData→V→Prop
  | dat {d:PyData} {v:V} (h:Dat H d v) (c:d.hasDict=false):Dat1 H d v
  | lit {a:Addr} {kvs:List (PyData × PyData)} (h:H a=some (LitO a kvs)):Dat1 H (.dict kvs) (.ref a)
  | dK {a:Addr} {es:List (Key × V)} {kvs:List (PyData × PyData)} (h:H a=some (.dK es)) (f:FlatK es kvs):Dat1 H (.dict kvs) (.ref a)
section
variable {X:Cx} {pins:List (Addr × Obj)} {σ:St} {H:Hp} {s:Shared}
theorem Dat1.reads (I:Inv X pins σ H s) {d:PyData} {v:V} {u:Value} (r:RelV v u) (x:Dat1 H d v):∃ as,Reads s.heap u d as∧(d.hasDict=true→sysModules ∉ as):=by
  cases x with
  | dat h c=>obtain ⟨as,q⟩:=Dat.reads I d v u r h; exact ⟨as,q,PyData.noDict_hsm c⟩
  | @lit a kvs h =>
    cases r
    obtain ⟨p,_⟩:=(show ObjOk X.prog X.w H s.heap a (LitO a kvs) from I.hok a _ h)
    obtain ⟨as,q,n⟩:=p.reads
    exact ⟨as,q,fun _=>n⟩
  | @dK a es kvs h f =>
    cases r
    obtain ⟨_,z,vs,rv,o,en,ep,e,c,dd,_,ps,_⟩:=(show ObjOk X.prog X.w H s.heap a (.dK es) from I.hok a _ h)
    obtain ⟨k1,k2⟩:=flat_keys f rv ps
    obtain ⟨as,q,n⟩:=LitP.reads (a:=a) (kvs:=kvs) (h:=s.heap) ⟨z,o,en,ep,e,c.1,dd,k1,k2⟩
    exact ⟨as,q,fun _=>n⟩
theorem dat1_all (I:Inv X pins σ H s):∀ {ds:List PyData} {xs:List V} {us:List Value},Vals xs us→Paired (Dat1 H) ds xs→PyData.showableAll ds=true→(∀ t ∈ PyData.shownAll ds,t.length≤sizeLine) →
    (∃ as,ReadsAll s.heap us ds as)∧∃ bs,ReadAtMost s.heap (PyData.depthAll ds) bs∧ReprAllK X.prog X.w bs s.heap (PyData.depthAll ds) us (PyData.shownAll ds)
  | _,_,_,.nil,.nil,_,_=>⟨⟨_,.nil⟩,[],(fun _ h=>nomatch h),by simp only [PyData.shownAll]; exact .nil⟩
  | _,_,_,.cons rx rt,.cons (a:=d) (l₁:=ds) x xt,hs,hz=>by
    have hs':d.showable=true∧PyData.showableAll ds=true:=by simpa [PyData.showableAll] using hs
    obtain ⟨as,q,n⟩:=x.reads I rx
    obtain ⟨⟨as2,q2⟩,b2,hb2,k2⟩:=dat1_all I rt xt hs'.2 (fun t ht=>hz t (by simp only [PyData.shownAll]; exact List.mem_cons_of_mem _ ht))
    obtain ⟨b1,hb1,k1⟩:=ReprK.of_reads (prog:=X.prog) (w:=X.w) q hs'.1 n (hz _ (by simp only [PyData.shownAll]; exact List.mem_cons_self ..))
    refine ⟨⟨_,.cons q q2⟩,b1++b2,?_,?_⟩
    · simp only [PyData.depthAll]
      exact (hb1.mono (Nat.le_max_left _ _)).append (hb2.mono (Nat.le_max_right _ _))
    · simp only [PyData.depthAll,PyData.shownAll]
      exact .cons ((k1.more fun b hb=>List.mem_append_left _ hb).level_le (Nat.le_max_left _ _)) (k2.more_le (fun b hb=>List.mem_append_right _ hb) (Nat.le_max_right _ _))
end
section
variable {X:Cx}
inductive cReprL (vs:List V) (H:Hp) (Q:VK):Prop
  | mk (a:Addr) (xs:List V) (ds:List PyData) (e:vs=[.ref a]) (h:H a=some (.lst xs)) (p:Paired (Dat1 H) ds xs) (sh:PyData.showableAll ds=true) (sz:(PyData.list ds).shown.length≤sizeLine) (dp:(PyData.list ds).depth≤8)
      (q:Q (.str (PyData.list ds).shown) H):cReprL vs H Q
theorem call_reprL {k:Nat} (hr:Room k X.A):CallR X (.builtin "repr") cReprL:=by
  intro pins s σ H xs us Q I r h
  obtain ⟨a,ys,ds,rfl,ha,p,sh,sz,dp,q⟩:=h
  obtain ⟨u,rfl,ru⟩:=vals1 r
  cases ru
  obtain ⟨_,its,n,rv,e⟩:=I.hok a _ ha
  have hz':(listText (PyData.shownAll ds)).length≤sizeLine:=by simpa only [PyData.shown] using sz
  obtain ⟨⟨as,rd⟩,bs,hb,hk⟩:=dat1_all I rv p sh (fun t ht=>Nat.le_trans (listText_mem_le ht) hz')
  have rd':Reads s.heap (.ref a) (.list ds) (a::as):=.list e rfl rfl (by simpa using rd)
  have hna:a ∉ bs:=not_mem_of_deeper rd' (by simp only [PyData.depth]; omega) hb
  have hun:=hr.un
  have hg:=hr.gd
  have dp':PyData.depthAll ds + 1≤8:=by simpa only [PyData.depth,Nat.add_comm] using dp
  refine call_repr_slot (by omega) (T:="list") ⟨_,e,rfl⟩ F.slot_list_repr.toG ?_
  have fin:∀ h' u tk,(∀ b o,s.heap.get? b=some o→h'.get? b=some o)→∃ t y,Value.str (listText (PyData.shownAll ds)) u=Value.str t y∧EP X pins σ Q (Value.str (listText (PyData.shownAll ds)) u) { s with heap:=h',toks:=tk }:=fun h' u tk hk' =>
    ⟨_,_,rfl,.str (PyData.list ds).shown,H,I.kept hk',⟨u,by simp only [PyData.shown]⟩,q⟩
  cases its with
  | nil =>
    cases rd
    simp only [PyData.shownAll,listText_nil] at fin
    exact call_list_repr_empty ⟨_,e,rfl⟩ e rfl (fin s.heap _ _ fun _ _ e=>e)
  | cons x l =>
    exact call_list_reprK e rfl rfl hna (by simpa using hk.length_eq) (fun i y e=>hk.item i y (by simpa using e)) hg (fun b _=>Clear.nil b) (by show X.A.units + 1 + _ < cLine; omega) (fun _ _ e=>e) fin hz'
end
end L2
namespace L2
open PySem PySem.Spec PyProof.Rows
inductive TyW (H:Hp):V→Value→Prop
  | s {x:V} {t:Value} (h:TyS H x t):TyW H x t
  | non:TyW H .non (.type "NoneType")
  | str (x:Str):TyW H (.str x) (.type "str")
  | dK {a:Addr} {kvs:List (Key × V)} (h:H a=some (.dK kvs)):TyW H (.ref a) (.type "dict")
  | lit {a:Addr} {kvs:List (PyData × PyData)} (h:H a=some (LitO a kvs)):TyW H (.ref a) (.type "dict")
section
variable {X:Cx}
theorem tyw_kit {pins:List (Addr × Obj)} {σ:St} {H:Hp} {s:Shared} {x:V} {u t:Value} (I:Inv X pins σ H s) (rx:RelV x u) (ty:TyW H x t):∃ Hx:Heap→Prop,PySem.W.KitX X.K u t Hx∧Hx s.heap∧u≠.builtin "__main__.__loader__#opaque":=by
  cases ty with
  | s h=>exact ty_kit I rx h
  | non=>cases (show u=Value.none from rx); exact ⟨_,PySem.W.kitx_none,True.intro,fun z=>nomatch z⟩
  | str y=>obtain ⟨t,q⟩:=(show ∃ t,u=Value.str y t from rx); cases q; exact ⟨_,PySem.W.kitx_str,True.intro,fun z=>nomatch z⟩
  | @dK a kvs h =>
    cases (show u=Value.ref a from rx)
    obtain ⟨_,_,_,_,o,_,_,e,c,_⟩:=(show ObjOk X.prog X.w H s.heap a (.dK kvs) from I.hok a _ h)
    exact ⟨_,PySem.W.kitx_dict,⟨o,e,c.1⟩,fun z=>nomatch z⟩
  | @lit a kvs h =>
    cases (show u=Value.ref a from rx)
    obtain ⟨⟨_,o,_,_,e,c,_⟩,_⟩:=(show ObjOk X.prog X.w H s.heap a (LitO a kvs) from I.hok a _ h)
    exact ⟨_,PySem.W.kitx_dict,⟨o,e,c⟩,fun z=>nomatch z⟩
inductive cIsW (K:PySem.W.Frag) (xs:List V) (H:Hp) (Q:VK):Prop
  | mk (x:V) (t:Value) (T:String) (b:Bool) (e:xs=[x,.ty T]) (h:TyW H x t) (k:PySem.W.kitOne K t (.type T)=some b) (q:Q (.bl b) H):cIsW K xs H Q
theorem call_isiW (K:PySem.W.Frag) (ek:X.K=K:=by rfl):CallR X (.builtin "isinstance") (cIsW K):=by
  subst ek
  intro pins s σ H xs us Q I r h
  obtain ⟨x,t,T,b,rfl,ty,e,q⟩:=h
  obtain ⟨u,w',rfl,rx,rt⟩:=vals2 r
  cases rt
  obtain ⟨Hx,Z,p,hx⟩:=tyw_kit I rx ty
  exact PySem.W.kia_one Z I.kIn p e hx fun tk=>⟨.bl b,H,I.tok tk,rfl,q⟩
end
end L2
namespace L2
open PySem PySem.Spec PyProof.Rows
end L2
namespace L2
open PySem PySem.Spec PyProof.Rows
section
variable {P:Program} {w:World} {K:PySem.W.Frag} {mg:Str→Option Value} {base:Heap}
theorem Fun.okX {x qual:Str} {st:Stmt} {f:Addr} {fd:FuncData} {N ps:List Str} {k:Nat} {sp:Sp} (F:Fun K x qual st f fd) (S:FnScope N ps (defScope st)) (len:∀ vs H Q E,sp vs H Q E→vs.length=ps.length)
    (hbody:∀ (cdv:Value) (A:Around) (outer:List Env) (s:Shared) (H:Hp) (vs:List V) (Q:VK) (E:XK),Room k (A.deeper (envOfC qual (defScope st) s.heap.objs.size f cdv))→Wish (cxOf (CX1 P w) P w K mg base N qual (defScope st) f cdv A outer s H E) E→sp vs H Q E →
      ∃ t,PSs (cxOf (CX1 P w) P w K mg base N qual (defScope st) f cdv A outer s H E) (defBody st) t∧t { nx:=fun _ H'=>Q .non H',rt:=Q } (start N vs) H):FnOk P w K mg base (CX1 P w) (k + 1) f fd ps sp:=by
  obtain ⟨oc,od,kV,doc,pm,an,cdv,ct,osl,e,lk,hcd⟩:=F.ex
  subst e
  exact fn_of lk hcd S len fun A outer s H vs Q E hr hsp=>hbody cdv A outer s H vs Q E hr wish_def hsp
end
section
variable {X:Cx} {k k':Nat} {x m:Str} {ps:List Str} {sp:Sp} {p pos apos:Pos} {e o:Expr} {es:List Expr} {ta:TE} {t:TA} {C:Addr} {E:XK}
end
end L2
namespace L2
open PySem PySem.Spec PyProof.Rows
structure WishS (X:Cx) (σ:St) (E:XK):Prop where
  go:∀ (pins:List (Addr × Obj)) (H:Hp) (s:Shared) (new:Bool) (cls:Value) (a:Addr) (H':Hp) (s₁:Shared),Inv X pins σ H s→EX X.prog X.w X.stack H s new cls a H' s₁→E cls none H'→X.xe (.ref a) s₁
def PEs (X:Cx) (σ:St) (e:Expr) (t:TE):Prop:=∀ (pins:List (Addr × Obj)) (s:Shared) (H:Hp) (Q:VK),Inv X pins σ H s→t σ H Q→wpAny (model X.prog X.w) X.A (eval e X.env) (EP X pins σ Q) X.xe s
section
variable {X:Cx} {k:Nat} {f C:Addr} {fd:FuncData} {ps:List Str} {sp:Sp} {dvs:List V} {ds:List Value} {E:XK} {x:Str} {p pos:Pos} {e:Expr} {es:List Expr} {t:TA}
theorem run_makeS {pins:List (Addr × Obj)} {σ:St} {H:Hp} {s:Shared} {Q:VK} {us:List Value} {vs:List V} (M:Mk X.K C f) (F:FnOk X.prog X.w X.K X.mg X.base (CX1 X.prog X.w) k f fd ps sp) (hr:Room (k + 1) X.A) (hb:Binds X.K fd ps ds) (hd:Vals dvs ds)
    (hx:WishS X σ E) (I:Inv X pins σ H s) (r:Vals vs us)
    (h:∀ x dx,H x=none→H dx=none→dx≠x→sp (.ref x::(vs++dvs)) (upd (upd H dx (.own x)) x (.ins C dx [])) (fun v H2=>v=.non∧Q (.ref x) H2) E) :
    wpAny (model X.prog X.w) X.A (call (.ref C) us) (EP X pins σ Q) X.xe s:=by
  have hq:=h (s.heap.objs.size + 1) s.heap.objs.size (I.hok.fresh (Nat.le_succ _)) (I.hok.fresh (Nat.le_refl _)) (Nat.ne_of_lt (Nat.lt_succ_self _))
  have I2:=Inv.made (C:=C) I
  have r2:Vals (V.ref (s.heap.objs.size + 1)::(vs++dvs)) (Value.ref (s.heap.objs.size + 1)::(us++ds)):=.cons rfl (r.append hd)
  have hl:(Value.ref (s.heap.objs.size + 1)::us++ds).length=ps.length:=by
    have e:=r2.length
    rw [F.len _ _ _ _ hq] at e
    exact e.symm
  refine wpAny_call (make_map (f:=f) I.kIn M.makes M.init (beq_iff_eq.mp M.fn) (codeAny_mono (F.run _ X.stack _ _ ⟨Value.ref (s.heap.objs.size + 1)::us,[]⟩ (Value.ref (s.heap.objs.size + 1)::(us++ds)) _ _ E (hr.make C us [])
    (I2.env0.make C us []) (hb _ (Value.ref (s.heap.objs.size + 1)::us) I2.kIn hl) r2 hq) fun r s' hq'=>?_))
  cases r with
  | error e =>
    obtain ⟨a,cls,H',e1,x,q⟩:=hq'
    subst e1
    exact hx.go pins _ _ false cls a H' s' I2 x q
  | ok fl =>
    cases fl with
    | ret u =>
      obtain ⟨v,H',I3,rv,ev,q3⟩:=I2.after hq'
      subst ev
      exact ⟨rv,⟨V.ref (s.heap.objs.size + 1),H',I3,rfl,q3⟩⟩
    | next=>exact False.elim hq'
    | brk=>exact False.elim hq'
    | cont=>exact False.elim hq'
theorem pe_makeS {σ:St} (M:Mk X.K C f) (F:FnOk X.prog X.w X.K X.mg X.base (CX1 X.prog X.w) k f fd ps sp) (hr:Room (k + 1) X.A) (hg:Gl X x) (hm:X.mg x=some (.ref C)) (hb:Binds X.K fd ps ds) (hd:Vals dvs ds) (hx:WishS X σ E)
    (ha:PA X (e::es) t) (hdb:(x == ("__debug__" : Str))=false:=by decide) (he:starEach (e::es) X.env=(false,eval e X.env)::starEach es X.env:=by rfl) (hpl:(backTo pos (starEach es X.env)).any (·.1)=false:=by rfl) :
    PEs X σ (.Call (.Name x p) (e::es) [] pos) (tMake C sp dvs E t):=by
  intro pins s H Q I h
  refine wpAny_Call_Name_kw (ld_glob I hg hm ?_ hdb)
  refine PySem.W.callWith_K (h₀:=X.base) I.ok.mod.kin M.kp (thn (ha pos pins s σ H _ I h) fun us s1 ⟨vs,H1,I1,r,q⟩=>⟨I1.kIn,?_⟩) he hpl
  exact run_makeS M F hr hb hd hx I1 r q
end
def tTryA (i:Nat) (t:XK→TE) (th:Value→TS):TS:=fun D σ H=>t (fun cls _ H'=>th cls D σ H') σ H fun v H1=>gName i v σ H1 D.nx
section
variable {X:Cx} {h₀:ExceptHandler} {hs:List ExceptHandler} {t:XK→TE} {th:Value→TS} {pos pos' spos:Pos} {y:Str} {e:Expr}
theorem ps_tryA {i:Nat} (hN:X.N.Nodup) (hi:X.N[i]?=some y) (hx:Loc X.env.scope y) (hb:∀ (pn:List (Addr × Obj)) (xe:Value→Shared→Prop) (E:XK) (σ:St),WishS (X.tryC pn xe) σ E→PEs (X.tryC pn xe) σ e (t E)) (hh:PHs X (h₀::hs) th)
    (hsw:∀ pn xe,swapsWith e (some (.Name y pos')) spos.line (X.tryC pn xe).env=pure false:=by intro _ _; rfl) (hf:X.fn y=true∨X.env.scope.names.lookup y=some .local:=by first | exact .inl rfl | exact .inr rfl | assumption) (hst:X.stack=X.env::X.outer:=by rfl) (hfr:X.env.frame=some X.env.locals:=by rfl) (hex:X.ex=[]:=by rfl) :
    PS X (.Try [.Assign [.Name y pos'] e spos] (h₀::hs) [] [] pos) (tTryA i t th):=by
  refine ⟨?_⟩
  intro pins s σ H D I h
  have body:wpAny (model X.prog X.w) X.A (execs [.Assign [.Name y pos'] e spos] X.env) (SP (X.tryC (X.pn++pins) (fun e s₁=>wpAny (model X.prog X.w) X.A (noteFrame e X.env) (fun _ s₂=>wpAny (model X.prog X.w) X.A (setFlight e none) (fun _ s₃=>wpAny (model X.prog X.w) X.A (handleBy e X.env (h₀::hs)) (SP X pins D) X.xe s₃) X.xe s₂) X.xe s₁)) [] D)
      (fun e s₁=>wpAny (model X.prog X.w) X.A (noteFrame e X.env) (fun _ s₂=>wpAny (model X.prog X.w) X.A (setFlight e none) (fun _ s₃=>wpAny (model X.prog X.w) X.A (handleBy e X.env (h₀::hs)) (SP X pins D) X.xe s₃) X.xe s₂) X.xe s₁) s:=by
    have W:WishS (X.tryC (X.pn++pins) (fun e s₁=>wpAny (model X.prog X.w) X.A (noteFrame e X.env) (fun _ s₂=>wpAny (model X.prog X.w) X.A (setFlight e none) (fun _ s₃=>wpAny (model X.prog X.w) X.A (handleBy e X.env (h₀::hs)) (SP X pins D) X.xe s₃) X.xe s₂) X.xe s₁)) σ (fun cls _ H'=>th cls D σ H'):=⟨fun pins2 H2 s2 new cls a H' s₁ I2 x q=>by
      have I2':Inv X pins σ H2 s2:=I2.untry
      refine note_ex I2' hst hfr I2'.ok.frames x fun h₃ x3=>?_
      have I3:=x3.inv I2'
      have fr:=x3.rc.base.2
      refine hh pins _ σ H' D a cls s2.heap I3 x3.rc ?_ (fun p hp z=>?_) q
      · cases e:X.s₀.heap.get? a with
        | none=>rfl
        | some o=>obtain ⟨o',e2⟩:=I2'.base.there a o e (by rw [hex]; simp); rw [fr] at e2; cases e2
      · have e:=(I2'.pin p hp).1
        rw [z,fr] at e
        cases e⟩
    have pe:=hb (X.pn++pins) _ _ σ W
    refine wpAny_execs_cons (wpAny_Assign_Name (thn (pe [] s H _ (I.tryC _) h) fun v s1 ⟨yv,H1,I1,r1,q1⟩=>?_) (hsw _ _))
    exact store_ok (X:=X.tryC (X.pn++pins) _) I1 hN hi hx r1 (fun s2 I2=>wpAny_execs_nil ⟨_,H1,I2,q1⟩) hf
  refine wpAny_Try_except (wpAny_mono body (fun f s₁ q=>?_) fun _ _ z=>z)
  cases f with
  | next =>
    obtain ⟨σ',H',I',q'⟩:=q
    exact pss_nil pins s₁ σ' H' D I'.untry q'
  | ret v=>exact q.untry
  | brk=>exact q.untry
  | cont=>exact q.untry
end
end L2
namespace Pr
open PySem L2 PyProof.Rows
section
variable {P:Program} {w:World} {K:PySem.W.Frag} {mg:Str→Option Value} {base:Heap} {C:Addr}
def wh:V→Option Int
  | .int i=>some i
  | _=>none
def Kd (H:Hp) (v:V):Prop:=∃ t,TyW H v t
theorem TyS.same {H H':Hp} (s:Same H H') {v:V} {t:Value} (h:TyS H v t):TyS H' v t:=by
  cases h with
  | bl b=>exact .bl b
  | int i=>exact .int i
  | lst e=>exact .lst (s _ _ e)
  | tup e=>exact .tup (s _ _ e)
theorem TyW.same {H H':Hp} (s:Same H H') {v:V} {t:Value} (h:TyW H v t):TyW H' v t:=by
  cases h with
  | s h=>exact .s (TyS.same s h)
  | non=>exact .non
  | str x=>exact .str x
  | dK e=>exact .dK (s _ _ e)
  | lit e=>exact .lit (s _ _ e)
theorem Kd.same {H H':Hp} {v:V} (s:Same H H') (h:Kd H v):Kd H' v:=let ⟨t,h⟩:=h; ⟨t,TyW.same s h⟩
theorem kd_int {H:Hp} {v:V} {t:Value} (K:PySem.W.Frag) (h:TyW H v t):(∃ i,v=.int i∧t=.type "int")∨(∃ b,v=.bl b∧t=.type "bool")∨(wh v=none∧PySem.W.kitOne K t (.type "int")=some false):=by
  cases h with
  | s h =>
    cases h with
    | bl b=>exact .inr (.inl ⟨b,rfl,rfl⟩)
    | int i=>exact .inl ⟨i,rfl,rfl⟩
    | lst e=>exact .inr (.inr ⟨rfl,by rfl⟩)
    | tup e=>exact .inr (.inr ⟨rfl,by rfl⟩)
  | non=>exact .inr (.inr ⟨rfl,by rfl⟩)
  | str x=>exact .inr (.inr ⟨rfl,by rfl⟩)
  | dK e=>exact .inr (.inr ⟨rfl,by rfl⟩)
  | lit e=>exact .inr (.inr ⟨rfl,by rfl⟩)
theorem kit_bool_int (K:PySem.W.Frag):PySem.W.kitOne K (.type "bool") (.type "int")=some true:=by rfl
theorem kit_bool (K:PySem.W.Frag):PySem.W.kitOne K (.type "bool") (.type "bool")=some true:=by rfl
inductive sp_wholeA (vs:List V) (H:Hp) (Q:VK) (E:XK):Prop
  | mk (v:V) (h0_:vs=[v]) (k:Kd H v) (h1_:Q (.bl (wh v).isSome) H):sp_wholeA vs H Q E
theorem sc_wholeA:FnScope ["value"] ["value"] (defScope s_is_whole):=⟨rfl,rfl,rfl,by decide +kernel,rfl,by decide +kernel,by decide +kernel⟩
theorem wholeA (T:Txt K mg C):Can P w K mg base 1 "is_whole" ["value"] sp_wholeA:=by
  refine fn_can T.f_is_whole sc_wholeA (fun vs H Q E h=>?_) (fun f cdv A outer s H vs Q E hr h=>?_)
  · obtain ⟨i,rfl,_⟩:=h
    rfl
  · obtain ⟨v,rfl,⟨t,ty⟩,k⟩:=h
    refine ⟨_,pss_one (ps_ret (pe_and (pe_b (call_isiW K) T.b_isinstance boot_isinstance (pa2 (pv 0) (pe_ty rfl T.b_int boot_int))) (pe_one (pe_not (pe_b (call_isiW K) T.b_isinstance boot_isinstance (pa2 (pv 0) (pe_ty rfl T.b_bool boot_bool))))))),?_⟩
    rcases kd_int K ty with ⟨i,rfl,rfl⟩ | ⟨b,rfl,rfl⟩ | ⟨e,kt⟩
    · exact ⟨_,rfl,⟨_,_,_,_,rfl,ty,kit_int _,_,rfl,iteT ⟨_,rfl,⟨_,_,_,_,rfl,ty,kit_int_bool _,_,rfl,k⟩⟩⟩⟩
    · exact ⟨_,rfl,⟨_,_,_,_,rfl,ty,kit_bool_int _,_,rfl,iteT ⟨_,rfl,⟨_,_,_,_,rfl,ty,kit_bool _,_,rfl,k⟩⟩⟩⟩
    · rw [e] at k
      exact ⟨_,rfl,⟨_,_,_,_,rfl,ty,kt,_,rfl,iteF k⟩⟩
def whF (a b:Int) (v:V):Bool:=match wh v with | some i=>decide (a≤i) && decide (i≤b) | none=>false
inductive sp_wholeFA (vs:List V) (H:Hp) (Q:VK) (E:XK):Prop
  | mk (v:V) (a:Int) (b:Int) (h0_:vs=[v,.int a,.int b]) (kd:Kd H v) (h1_:Q (.bl (whF a b v)) H):sp_wholeFA vs H Q E
theorem sc_wholeFA:FnScope ["value","least","greatest"] ["value","least","greatest"] (defScope s_is_whole_from):=⟨rfl,rfl,rfl,by decide +kernel,rfl,by decide +kernel,by decide +kernel⟩
theorem wh_some {v:V} {i:Int} (h:wh v=some i):v=.int i:=by
  cases v <;> first | (cases h; rfl) | cases h
theorem wholeFA (T:Txt K mg C):Can P w K mg base 2 "is_whole_from" ["value","least","greatest"] sp_wholeFA:=by
  refine fn_can T.f_is_whole_from sc_wholeFA (fun vs H Q E h=>?_) (fun f cdv A outer s H vs Q E hr h=>?_)
  · obtain ⟨i,a,b,rfl,_⟩:=h
    rfl
  · obtain ⟨v,a,b,rfl,kd,k⟩:=h
    refine ⟨_,pss_one (ps_ret (pe_and (pe_can (wholeA T) hr (pa1 (pv 0))) (pe_one (pe_chain op_le op_le (pv 1) (pv 0) (pv 2))))),?_⟩
    refine ⟨_,rfl,v,rfl,kd,_,rfl,?_⟩
    unfold whF at k
    cases e:wh v with
    | none=>rw [e] at k; exact iteF k
    | some i =>
      rw [e] at k
      cases wh_some e
      refine iteT ?_
      refine ⟨_,rfl,_,rfl,_,_,rfl,rfl,_,rfl,?_⟩
      refine iteB (fun h=>?_) (fun h=>?_)
      · rw [show (match some i with | some i=>decide (a≤i) && decide (i≤b) | none=>false)=(decide (a≤i) && decide (i≤b)) from rfl,h,Bool.true_and] at k
        exact ⟨_,rfl,_,_,rfl,rfl,k⟩
      · rw [show (match some i with | some i=>decide (a≤i) && decide (i≤b) | none=>false)=(decide (a≤i) && decide (i≤b)) from rfl,h,Bool.false_and] at k
        exact k
theorem one_line:1≤sizeLine:=by decide
inductive sp_nroll (mg:Str→Option Value) (vs:List V) (H:Hp) (Q:VK) (E:XK):Prop
  | mk (v:V) (a b:Int) (e:vs=[v,.int a,.int b]) (kd:Kd H v) (q:whF a b v=true→Q .non H) (x:whF a b v=false→E (.ref (cOf mg "NoRoll")) none H):sp_nroll mg vs H Q E
theorem nroll (T:Txt K mg C):CanX P w K mg base 3 "need_roll" ["value","least","greatest"] (sp_nroll mg):=by
  refine fn_canX T.f_need_roll sc_need_roll (fun vs H Q E h=>?_) (fun f cdv A outer s H vs Q E hr W h=>?_)
  · obtain ⟨v,a,b,rfl,_⟩:=h
    rfl
  · obtain ⟨v,a,b,rfl,kd,q,x⟩:=h
    refine ⟨_,pss_one (ps_if (pt_not (pt_val (pe_can (wholeFA T) hr (pa3 (pv 0) (pv 1) (pv 2))))) (pss_one (ps_raise W rfl T.x_NoRoll.cls (pa1 pe_str))) pss_nil),?_⟩
    refine ⟨_,rfl,_,rfl,_,rfl,v,a,b,rfl,kd,_,rfl,?_⟩
    cases ho:whF a b v with
    | true=>exact iteF (q ho)
    | false=>exact iteT ⟨⟨one_line,x ho⟩⟩
def whN (v:V):Bool:=match wh v with | some i=>decide (-W40 < i) && decide (i < W40) | none=>false
inductive sp_nnumber (mg:Str→Option Value) (vs:List V) (H:Hp) (Q:VK) (E:XK):Prop
  | mk (v:V) (e:vs=[v]) (kd:Kd H v) (q:whN v=true→Q .non H) (x:whN v=false→E (.ref (cOf mg "NoNumber")) none H):sp_nnumber mg vs H Q E
theorem nnumber (T:Txt K mg C):CanX P w K mg base 2 "need_number" ["value"] (sp_nnumber mg):=by
  refine fn_canX T.f_need_number sc_need_number (fun vs H Q E h=>?_) (fun f cdv A outer s H vs Q E hr W h=>?_)
  · obtain ⟨v,rfl,_⟩:=h
    rfl
  · obtain ⟨v,rfl,kd,q,x⟩:=h
    refine ⟨_,pss_one (ps_if (pw_or (pt_not (pt_val (pe_can (wholeA T) hr (pa1 (pv 0))))) (pw_or1 (pt_not (pt_chain op_lt op_lt (pe_un un_neg (pe_gi T.c_NUMBER_END)) (pv 0) (pe_gi T.c_NUMBER_END))))).pt (pss_one (ps_raise W rfl T.x_NoNumber.cls (pa1 pe_str))) pss_nil),?_⟩
    refine ⟨_,rfl,v,rfl,kd,_,rfl,?_⟩
    unfold whN at q x
    cases e:wh v with
    | none=>rw [e] at x; exact iteT (iteT ⟨⟨one_line,x rfl⟩⟩)
    | some i =>
      rw [e] at q x
      cases wh_some e
      dsimp only at q x
      refine iteF ⟨_,rfl,_,rfl,_,_,rfl,rfl,_,rfl,?_⟩
      by_cases h1 : -W40 < i
      · rw [decide_eq_true h1,Bool.true_and] at q x
        refine iteC (decide_eq_true h1) ⟨_,_,rfl,rfl,_,rfl,?_⟩
        by_cases h2:i < W40
        · rw [decide_eq_true h2]; exact iteF (q (decide_eq_true h2))
        · rw [decide_eq_false h2]; exact iteT ⟨⟨one_line,x (decide_eq_false h2)⟩⟩
      · refine iteN (decide_eq_false h1) ⟨_,rfl,iteT ⟨⟨one_line,x (by rw [decide_eq_false h1]; rfl)⟩⟩⟩
end
end Pr
namespace Pr
open PySem L2 PyProof.Rows
def spanB (vb ve:V):Bool:=match wh vb,wh ve with
  | some b,some e=>(decide (-W40 < b) && decide (b < W40)) && ((decide (-W40 < e) && decide (e < W40)) && decide (b < e))
  | _,_=>false
theorem whN_int {v:V} (h:whN v=true):∃ i,v=.int i∧-W40 < i∧i < W40:=by
  unfold whN at h
  cases e:wh v with
  | none=>rw [e] at h; cases h
  | some i =>
    rw [e] at h
    dsimp only at h
    rw [Bool.and_eq_true] at h
    exact ⟨i,wh_some e,of_decide_eq_true h.1,of_decide_eq_true h.2⟩
theorem span_b0 {vb ve:V} (h:whN vb=false):spanB vb ve=false:=by
  unfold spanB
  unfold whN at h
  cases e:wh vb with
  | none=>rfl
  | some b =>
    rw [e] at h
    dsimp only at h
    cases e2:wh ve with
    | none=>rfl
    | some j=>dsimp only; rw [h]; rfl
theorem span_e0 {vb ve:V} (h:whN ve=false):spanB vb ve=false:=by
  unfold spanB
  unfold whN at h
  cases e:wh vb with
  | none=>rfl
  | some b =>
    cases e2:wh ve with
    | none=>rfl
    | some j =>
      rw [e2] at h
      dsimp only at h ⊢
      rw [h,Bool.false_and,Bool.and_false]
theorem span_le {b e:Int} (h:e≤b):spanB (.int b) (.int e)=false:=by
  show ((decide (-W40 < b) && decide (b < W40)) && ((decide (-W40 < e) && decide (e < W40)) && decide (b < e)))=false
  rw [decide_eq_false (by omega:¬ b < e),Bool.and_false,Bool.and_false]
theorem span_lt {b e:Int} (h1 : -W40 < b) (h2:b < e) (h3:e < W40):spanB (.int b) (.int e)=true:=by
  show ((decide (-W40 < b) && decide (b < W40)) && ((decide (-W40 < e) && decide (e < W40)) && decide (b < e)))=true
  rw [decide_eq_true h1,decide_eq_true h2,decide_eq_true h3,decide_eq_true (by omega:b < W40),decide_eq_true (by omega : -W40 < e)]
  rfl
theorem whF_int {a b:Int} {v:V} (h:whF a b v=true):∃ i,v=.int i∧a≤i∧i≤b:=by
  unfold whF at h
  cases e:wh v with
  | none=>rw [e] at h; cases h
  | some i =>
    rw [e] at h
    dsimp only at h
    rw [Bool.and_eq_true] at h
    exact ⟨i,wh_some e,of_decide_eq_true h.1,of_decide_eq_true h.2⟩
section
variable {P:Program} {w:World} {K:PySem.W.Frag} {mg:Str→Option Value} {base:Heap} {C:Addr}
inductive sp_finitX (C:Addr) (mg:Str→Option Value) (vs:List V) (H:Hp) (Q:VK) (E:XK):Prop
  | mk (p dx x:Addr) (vr vb ve:V) (bb:Int) (ps:List Int) (rows:List Lad.Step) (e0:vs=[.ref p,.ref x,vr,vb,ve]) (hp:H p=some (.ins (cOf mg "Follower") dx [])) (hL:LadAt C H x bb ps rows) (kr:Kd H vr) (kb:Kd H vb) (ke:Kd H ve)
      (q:∀ (r:Nat) b e,vr=.int (r:Int)→vb=.int b→ve=.int e→r≤rows.length→-W40 < b→b < e→e < W40→∀ kn H',But p H H'→H kn=none→kn≠p→H' kn=some (.dK [])→FolAt (cOf mg "Follower") H' p x (r:Int) b e kn→Q .non H')
      (xr:whF 0 (rows.length:Int) vr=false→E (.ref (cOf mg "NoRoll")) none H) (xn:whF 0 (rows.length:Int) vr=true→spanB vb ve=false→E (.ref (cOf mg "NoNumber")) none H):sp_finitX C mg vs H Q E
set_option maxHeartbeats 4000000 in
theorem finitX_ok (T:Txt K mg C) {f:Addr} {fd:FuncData} (F:Fun K "__init__" "Follower.__init__" sm_Follower_init f fd):FnOk P w K mg base (CX1 P w) 5 f fd ["self","ladder","roll","begin","end"] (sp_finitX C mg):=by
  refine F.okX sc_finit (fun vs H Q E h=>?_) (fun cdv A outer s H vs Q E hr W h=>?_)
  · obtain ⟨p,dx,x,vr,vb,ve,bb,ps,rows,rfl,_⟩:=h
    rfl
  · obtain ⟨p,dx,x,vr,vb,ve,bb,ps,rows,rfl,hp,hL,kr,kb,ke,q,xr,xn⟩:=h
    refine ⟨_,(pss_cons (ps_expr (pe_canX (nroll T) W hr (pa3 (pv 2) pe_int (pe_op op_sub (pe_canM0 (pv 1) T.cl (rolls T) hr) pe_int))))
      (pss_cons (ps_expr (pe_canX (nnumber T) W hr (pa1 (pv 3))))
      (pss_cons (ps_expr (pe_canX (nnumber T) W hr (pa1 (pv 4))))
      (pss_cons (ps_if (pt_cmpR op_le (pv 4) (pv 3) (nomark _)) (pss_one (ps_raise W rfl T.x_NoNumber.cls (pa1 pe_str))) pss_nil)
      (pss_cons (ps_fld (pv 0) (pv 1) rfl)
      (pss_cons (ps_fld (pv 0) (pv 2) rfl)
      (pss_cons (ps_fld (pv 0) (pv 3) rfl)
      (pss_cons (ps_fld (pv 0) (pv 4) rfl)
      (pss_one (ps_fld (pv 0) pe_dnewK rfl)))))))))),?_⟩
    obtain ⟨ldx,fa,fo,fc,hi⟩:=lad_ins hL
    have er:((rows.length + 1:Nat):Int) - 1=(rows.length:Int):=by omega
    refine ⟨_,rfl,_,rfl,x,ldx,_,rfl,hi,flds_no _ _ _ (by decide) (by decide) (by decide),x,bb,ps,rows,rfl,hL,_,_,rfl,rfl,vr,0,_,rfl,kr,(fun hr1=>?_),fun hr0=>xr (by rw [er] at hr0; exact hr0)⟩
    rw [er] at hr1
    refine ⟨_,rfl,vb,rfl,kb,(fun hb1=>?_),fun hb0=>xn hr1 (span_b0 hb0)⟩
    refine ⟨_,rfl,ve,rfl,ke,(fun he1=>?_),fun he0=>xn hr1 (span_e0 he0)⟩
    obtain ⟨b,rfl,b0,b1⟩:=whN_int hb1
    obtain ⟨e,rfl,e0,e1⟩:=whN_int he1
    obtain ⟨ri,rfl,r0,r1⟩:=whF_int hr1
    obtain ⟨r,rfl⟩:∃ r:Nat,ri=r:=⟨ri.toNat,by omega⟩
    refine ⟨_,rfl,_,rfl,_,_,rfl,rfl,_,rfl,?_⟩
    by_cases hle:e≤b
    · exact iteC (decide_eq_true hle) ⟨⟨one_line,xn hr1 (span_le hle)⟩⟩
    refine iteN (decide_eq_false hle) ?_
    refine ⟨_,rfl,_,rfl,p,_,dx,_,rfl,hp,T.cl_Follower,T.n_Follower_ladder,by decide,?_⟩
    refine ⟨_,rfl,_,rfl,p,_,dx,_,rfl,upd_same,T.cl_Follower,T.n_Follower_roll,by show 1 < 1000; decide,?_⟩
    rw [upd_upd]
    refine ⟨_,rfl,_,rfl,p,_,dx,_,rfl,upd_same,T.cl_Follower,T.n_Follower_first_number,by show 2 < 1000; decide,?_⟩
    rw [upd_upd]
    refine ⟨_,rfl,_,rfl,p,_,dx,_,rfl,upd_same,T.cl_Follower,T.n_Follower_number_behind,by show 3 < 1000; decide,?_⟩
    rw [upd_upd]
    intro kn hkn
    have nk:kn≠p:=fun z=>by rw [z,upd_same] at hkn; cases hkn
    have hk0:H kn=none:=by rw [upd_ne nk] at hkn; exact hkn
    refine ⟨_,rfl,p,_,dx,_,rfl,by rw [upd_ne (Ne.symm nk)]; exact upd_same,T.cl_Follower,T.n_Follower_known,by show 4 < 1000; decide,?_⟩
    refine q r b e rfl rfl rfl (by omega) b0 (by omega) e1 kn _ (fun c o h n=>?_) hk0 nk (by rw [upd_ne nk]; exact upd_same) ⟨dx,_,upd_same,?_⟩
    · rw [upd_ne n,upd_ne (ne_of_none h hk0),upd_ne n]; exact h
    · constructor
      · rw [lookup_putF,if_neg (by decide),lookup_putF,if_neg (by decide),lookup_putF,if_neg (by decide),lookup_putF,if_neg (by decide),lookup_putF,if_pos rfl]
      · rw [lookup_putF,if_neg (by decide),lookup_putF,if_neg (by decide),lookup_putF,if_neg (by decide),lookup_putF,if_pos rfl]
      · rw [lookup_putF,if_neg (by decide),lookup_putF,if_neg (by decide),lookup_putF,if_pos rfl]
      · rw [lookup_putF,if_neg (by decide),lookup_putF,if_pos rfl]
      · rw [lookup_putF,if_pos rfl]
      · rw [lookup_putF,if_neg (by decide),lookup_putF,if_neg (by decide),lookup_putF,if_neg (by decide),lookup_putF,if_neg (by decide),lookup_putF,if_neg (by decide)]; rfl
      · show 5≤5; decide
end
end Pr
namespace Pr
open PySem L2 PyProof.Rows
inductive Leaf:V→PyData→Prop
  | non:Leaf .non .none
  | bl (b:Bool):Leaf (.bl b) (.bool b)
  | int (i:Int) (h:i.natAbs < 10 ^ 62):Leaf (.int i) (.int i)
  | str (x:Str) (h:x.cps.size≤8) (h2:x.cps.toList.all (fun c=>decide (c < 16 ^ 8))=true):Leaf (.str x) (.str x)
structure DOk (n:Nat) (d:PyData):Prop where
  sh:d.showable=true
  ls:d.leavesShort 70=true
  bk:d.bulk≤n
  dp:d.depth≤2
theorem Leaf.ok {v:V} {d:PyData} (h:Leaf v d):DOk 8 d∧d.depth=0∧d.hasDict=false:=by
  cases h with
  | non=>exact ⟨⟨rfl,rfl,by decide,by decide⟩,rfl,rfl⟩
  | bl b=>exact ⟨⟨rfl,rfl,Nat.zero_le _,Nat.zero_le _⟩,rfl,rfl⟩
  | int i h =>
    refine ⟨⟨?_,?_,Nat.zero_le _,Nat.zero_le _⟩,rfl,rfl⟩
    · unfold PyData.showable
      exact decide_eq_true (PySem.Spec.log2_small (Nat.lt_trans h (by decide +kernel)))
    · unfold PyData.leavesShort
      refine decide_eq_true ?_
      show (Str.ofString (toString i)).length≤70
      rw [PySem.ofString_length]
      exact Nat.le_trans (int_text_length_le10 (k:=62) (by decide) h) (by decide)
  | str x h h2=>exact ⟨⟨rfl,h2,h,Nat.zero_le _⟩,rfl,rfl⟩
theorem Leaf.dat {H:Hp} {v:V} {d:PyData} (h:Leaf v d):Dat H d v:=by
  cases h <;> (unfold Dat; rfl)
theorem Leaf.kd {H:Hp} {v:V} {d:PyData} (h:Leaf v d):Kd H v:=by
  cases h with
  | non=>exact ⟨_,.non⟩
  | bl b=>exact ⟨_,.s (.bl b)⟩
  | int i h=>exact ⟨_,.s (.int i)⟩
  | str x h h2=>exact ⟨_,.str x⟩
theorem leaves_ok:∀ {xs:List V} {ds:List PyData},Paired Leaf xs ds→PyData.showableAll ds=true∧PyData.leavesShortAll 70 ds=true∧PyData.bulkAll ds≤9 * xs.length∧PyData.depthAll ds=0∧PyData.hasDictAll ds=false∧∀ H,DatAll H ds xs
  | _,_,.nil=>⟨rfl,rfl,Nat.le_refl _,rfl,rfl,fun H=>by unfold DatAll; rfl⟩
  | _,_,.cons h t=>by
    obtain ⟨a,b,c,d,e,f⟩:=leaves_ok t
    obtain ⟨h1,h2,h3⟩:=h.ok
    unfold PyData.showableAll PyData.leavesShortAll PyData.bulkAll PyData.depthAll PyData.hasDictAll
    rw [a,b,d,e,h1.sh,h1.ls,h2,h3]
    have:=h1.bk
    refine ⟨rfl,rfl,?_,rfl,rfl,fun H=>?_⟩
    · rw [List.length_cons]; omega
    · unfold DatAll
      exact ⟨_,_,rfl,h.dat,f H⟩
inductive Tg (p:Addr) (H:Hp):V→PyData→Prop
  | leaf {v:V} {d:PyData} (l:Leaf v d):Tg p H v d
  | tup {a:Addr} {xs:List V} {ds:List PyData} (n:a≠p) (h:H a=some (.tup xs)) (l:Paired Leaf xs ds) (hn:xs.length≤6):Tg p H (.ref a) (.tuple ds)
  | lst {a:Addr} {xs:List V} {ds:List PyData} (n:a≠p) (h:H a=some (.lst xs)) (l:Paired Leaf xs ds) (hn:xs.length≤6):Tg p H (.ref a) (.list ds)
  | dk {a:Addr} (n:a≠p) (h:H a=some (.dK [])):Tg p H (.ref a) (.dict [])
theorem Tg.but {p:Addr} {H H':Hp} {v:V} {d:PyData} (t:Tg p H v d) (c:But p H H'):Tg p H' v d:=by
  cases t with
  | leaf l=>exact .leaf l
  | tup n h l hn=>exact .tup n (c _ _ h n) l hn
  | lst n h l hn=>exact .lst n (c _ _ h n) l hn
  | dk n h=>exact .dk n (c _ _ h n)
theorem Tg.kd {p:Addr} {H:Hp} {v:V} {d:PyData} (t:Tg p H v d):Kd H v:=by
  cases t with
  | leaf l=>exact l.kd
  | tup n h l hn=>exact ⟨_,.s (.tup h)⟩
  | lst n h l hn=>exact ⟨_,.s (.lst h)⟩
  | dk n h=>exact ⟨_,.dK h⟩
theorem Tg.dat {p:Addr} {H:Hp} {v:V} {d:PyData} (t:Tg p H v d):Dat1 H d v∧DOk 60 d:=by
  cases t with
  | leaf l =>
    obtain ⟨a,b,c⟩:=l.ok
    exact ⟨.dat l.dat c,⟨a.sh,a.ls,by have:=a.bk; omega,a.dp⟩⟩
  | tup n h l hn =>
    obtain ⟨a,b,c,d,e,f⟩:=leaves_ok l
    refine ⟨.dat (by unfold Dat; exact ⟨_,_,rfl,h,f H⟩) (by unfold PyData.hasDict; exact e),⟨by unfold PyData.showable; exact a,by unfold PyData.leavesShort; exact b,by simp only [PyData.bulk]; omega,by simp only [PyData.depth,d]; omega⟩⟩
  | lst n h l hn =>
    obtain ⟨a,b,c,d,e,f⟩:=leaves_ok l
    refine ⟨.dat (by unfold Dat; exact ⟨_,_,rfl,h,f H⟩) (by unfold PyData.hasDict; exact e),⟨by unfold PyData.showable; exact a,by unfold PyData.leavesShort; exact b,by simp only [PyData.bulk]; omega,by simp only [PyData.depth,d]; omega⟩⟩
  | dk n h=>exact ⟨.dK h .nil,⟨rfl,rfl,by decide,by decide⟩⟩
theorem shown3 {p:Addr} {H:Hp} {v1 v2 v3:V} {d1 d2 d3:PyData} {Q:VK} {a:Addr} (t1:Tg p H v1 d1) (t2:Tg p H v2 d2) (t3:Tg p H v3 d3) (h:H a=some (.lst [v1,v2,v3]))
    (q:Q (.str (PyData.list [d1,d2,d3]).shown) H):cReprL [.ref a] H Q:=by
  obtain ⟨a1,k1⟩:=t1.dat
  obtain ⟨a2,k2⟩:=t2.dat
  obtain ⟨a3,k3⟩:=t3.dat
  refine .mk a _ [d1,d2,d3] rfl h (.cons a1 (.cons a2 (.cons a3 .nil))) ?_ ?_ ?_ q
  · simp only [PyData.showableAll,k1.sh,k2.sh,k3.sh,Bool.and_self]
  · have:=PyData.shown_le_bulk 70 (by decide) (.list [d1,d2,d3]) (by simp only [PyData.leavesShort,PyData.leavesShortAll,k1.ls,k2.ls,k3.ls,Bool.and_self])
    have b1:=k1.bk
    have b2:=k2.bk
    have b3:=k3.bk
    have e:(PyData.list [d1,d2,d3]).bulk≤244:=by simp only [PyData.bulk,PyData.bulkAll]; omega
    have e2:(70 + 2) * (PyData.list [d1,d2,d3]).bulk≤72 * 244:=Nat.mul_le_mul (by decide) e
    rw [sizeLine_eq]
    omega
  · have b1:=k1.dp
    have b2:=k2.dp
    have b3:=k3.dp
    simp only [PyData.depth,PyData.depthAll]
    omega
theorem boot_ValueError:bootBuiltins "ValueError"=some (.type "ValueError"):=by rfl
theorem four_line:4≤sizeLine:=by decide
section
variable {P:Program} {w:World} {K:PySem.W.Frag} {mg:Str→Option Value} {base:Heap} {C:Addr}
inductive sp_name (K:PySem.W.Frag) (mg:Str→Option Value) (vs:List V) (H:Hp) (Q:VK) (E:XK):Prop
  | ro (a:Addr) (oe:Obj) (e:vs=[.ref a]) (h:H a=some (XO a oe)) (x:XErr K oe (cOf mg "NoRoll")) (q:∀ H',Same H H'→Q (.str "roll") H'):sp_name K mg vs H Q E
  | nu (a:Addr) (oe:Obj) (e:vs=[.ref a]) (h:H a=some (XO a oe)) (x:XErr K oe (cOf mg "NoNumber")) (q:∀ H',Same H H'→Q (.str "number") H'):sp_name K mg vs H Q E
theorem sc_name:FnScope ["_law_e","_law_others"] ["_law_e"] (defScope s_law_name):=⟨rfl,rfl,rfl,by decide +kernel,rfl,by decide +kernel,by decide +kernel⟩
set_option maxHeartbeats 4000000 in
theorem law_name (T:Txt K mg C):CanN P w K mg base 1 "_law_name" ["_law_e"] (sp_name K mg):=by
  refine fn_canN T.f_law_name sc_name (fun vs H Q E h=>?_) (fun f cdv A outer s H vs Q E hr h=>?_)
  · cases h <;> (rename_i e _ _ _; subst e; rfl)
  · refine ⟨_,(pss_cons (ps_set (i:=1) sc_name.nd rfl (Or.inl rfl) (pe_lst (pa_cons (pe_b (call_isE K) T.b_isinstance boot_isinstance (pa2 (pv 0) (pe_glob (v:=.ref _) rfl T.x_Gone.m rfl))) (pa3 (pe_b (call_isE K) T.b_isinstance boot_isinstance (pa2 (pv 0) (pe_glob (v:=.ref _) rfl T.x_NoLadder.m rfl))) (pe_b (call_isE K) T.b_isinstance boot_isinstance (pa2 (pv 0) (pe_glob (v:=.ref _) rfl T.x_NoMoment.m rfl))) (pe_b (call_isE K) T.b_isinstance boot_isinstance (pa2 (pv 0) (pe_glob (v:=.ref _) rfl T.x_NoText.m rfl)))))))
      (pss_cons (ps_set (i:=1) sc_name.nd rfl (Or.inl rfl) (pe_op op_cat (pv 1) (pe_lst (pa2 (pe_not (pe_b (call_isE K) T.b_isinstance boot_isinstance (pa2 (pv 0) (pe_ty rfl T.b_ValueError boot_ValueError)))) (pe_and (pe_b (call_isE K) T.b_isinstance boot_isinstance (pa2 (pv 0) (pe_glob (v:=.ref _) rfl T.x_NoRoll.m rfl))) (pe_one (pe_b (call_isE K) T.b_isinstance boot_isinstance (pa2 (pv 0) (pe_glob (v:=.ref _) rfl T.x_NoNumber.m rfl)))))))))
      (pss_cons (ps_if (pt_cmpR op_in_seq pe_bl (pv 1) (by rfl))
        (pss_one (ps_ret pe_str))
        pss_nil)
      (pss_one (ps_ret (pe_ix (ix_listK K) (pe_lst (pa3 pe_str pe_str pe_str)) (pe_op op_add (pe_t call_int1 T.b_int boot_int (pa1 (pe_b (call_isE K) T.b_isinstance boot_isinstance (pa2 (pv 0) (pe_glob (v:=.ref _) rfl T.x_NoRoll.m rfl))))) (pe_op op_mul pe_int (pe_t call_int1 T.b_int boot_int (pa1 (pe_b (call_isE K) T.b_isinstance boot_isinstance (pa2 (pv 0) (pe_glob (v:=.ref _) rfl T.x_NoNumber.m rfl))))))) (fun _ _=>rfl))))))),?_⟩
    cases h with
    | ro a oe e h x q =>
      subst e
      refine ⟨_,rfl,.own a oe _ _ _ rfl h x T.k_NoRoll_Gone ⟨_,rfl,.own a oe _ _ _ rfl h x T.k_NoRoll_NoLadder ⟨_,rfl,.own a oe _ _ _ rfl h x T.k_NoRoll_NoMoment ⟨_,rfl,.own a oe _ _ _ rfl h x T.k_NoRoll_NoText ⟨four_line,fun p1 hp1=>?_⟩⟩⟩⟩⟩
      have s1:Same H (upd H p1 (.lst [.bl false,.bl false,.bl false,.bl false])):=Same.upd hp1
      have u1:(upd H p1 (.lst [.bl false,.bl false,.bl false,.bl false])) p1=some (.lst [.bl false,.bl false,.bl false,.bl false]):=upd_same
      generalize (upd H p1 (.lst [.bl false,.bl false,.bl false,.bl false]))=H1 at s1 u1
      have h1:=s1 _ _ h
      refine ⟨_,rfl,_,rfl,.ty a oe _ _ _ rfl h1 x T.kv_NoRoll ⟨_,rfl,?_⟩⟩
      refine ⟨_,rfl,.own a oe _ _ _ rfl h1 x T.k_NoRoll_NoRoll ⟨_,rfl,iteT ⟨_,rfl,.own a oe _ _ _ rfl h1 x T.k_NoRoll_NoNumber ?_⟩⟩⟩
      refine ⟨two_line,fun p2 hp2=>?_⟩
      have s2:Same H1 (upd H1 p2 (.lst [.bl (!true),.bl false])):=Same.upd hp2
      have u2:(upd H1 p2 (.lst [.bl (!true),.bl false])) p2=some (.lst [.bl (!true),.bl false]):=upd_same
      generalize (upd H1 p2 (.lst [.bl (!true),.bl false]))=H2 at s2 u2
      refine ⟨p1,p2,_,_,rfl,rfl,s2 _ _ u1,u2,by decide,fun p3 hp3=>?_⟩
      have s3:Same H2 (upd H2 p3 (.lst ([.bl false,.bl false,.bl false,.bl false]++[.bl (!true),.bl false]))):=Same.upd hp3
      have u3:(upd H2 p3 (.lst ([.bl false,.bl false,.bl false,.bl false]++[.bl (!true),.bl false]))) p3=some (.lst ([.bl false,.bl false,.bl false,.bl false]++[.bl (!true),.bl false])):=upd_same
      generalize (upd H2 p3 (.lst ([.bl false,.bl false,.bl false,.bl false]++[.bl (!true),.bl false])))=H3 at s3 u3
      have h3:=s3 _ _ (s2 _ _ h1)
      refine ⟨_,rfl,p3,_,rfl,.inl (.of u3),rfl,rfl,_,rfl,iteF ?_⟩
      refine ⟨three_line,fun p4 hp4=>?_⟩
      have s4:Same H3 (upd H3 p4 (.lst [.str "other",.str "roll",.str "number"])):=Same.upd hp4
      have u4:(upd H3 p4 (.lst [.str "other",.str "roll",.str "number"])) p4=some (.lst [.str "other",.str "roll",.str "number"]):=upd_same
      generalize (upd H3 p4 (.lst [.str "other",.str "roll",.str "number"]))=H4 at s4 u4
      have h4:=s4 _ _ h3
      refine ⟨_,rfl,.own a oe _ _ _ rfl h4 x T.k_NoRoll_NoRoll (.inr ⟨true,rfl,?_⟩)⟩
      refine ⟨_,rfl,.own a oe _ _ _ rfl h4 x T.k_NoRoll_NoNumber (.inr ⟨false,rfl,?_⟩)⟩
      refine ⟨_,_,rfl,rfl,.inl ⟨by decide,by decide⟩,_,_,rfl,rfl,p4,_,_,_,rfl,rfl,.of u4,rfl,?_⟩
      exact q _ (s1.trans (s2.trans (s3.trans s4)))
    | nu a oe e h x q =>
      subst e
      refine ⟨_,rfl,.own a oe _ _ _ rfl h x T.k_NoNumber_Gone ⟨_,rfl,.own a oe _ _ _ rfl h x T.k_NoNumber_NoLadder ⟨_,rfl,.own a oe _ _ _ rfl h x T.k_NoNumber_NoMoment ⟨_,rfl,.own a oe _ _ _ rfl h x T.k_NoNumber_NoText ⟨four_line,fun p1 hp1=>?_⟩⟩⟩⟩⟩
      have s1:Same H (upd H p1 (.lst [.bl false,.bl false,.bl false,.bl false])):=Same.upd hp1
      have u1:(upd H p1 (.lst [.bl false,.bl false,.bl false,.bl false])) p1=some (.lst [.bl false,.bl false,.bl false,.bl false]):=upd_same
      generalize (upd H p1 (.lst [.bl false,.bl false,.bl false,.bl false]))=H1 at s1 u1
      have h1:=s1 _ _ h
      refine ⟨_,rfl,_,rfl,.ty a oe _ _ _ rfl h1 x T.kv_NoNumber ⟨_,rfl,?_⟩⟩
      refine ⟨_,rfl,.own a oe _ _ _ rfl h1 x T.k_NoNumber_NoRoll ⟨_,rfl,iteF ?_⟩⟩
      refine ⟨two_line,fun p2 hp2=>?_⟩
      have s2:Same H1 (upd H1 p2 (.lst [.bl (!true),.bl false])):=Same.upd hp2
      have u2:(upd H1 p2 (.lst [.bl (!true),.bl false])) p2=some (.lst [.bl (!true),.bl false]):=upd_same
      generalize (upd H1 p2 (.lst [.bl (!true),.bl false]))=H2 at s2 u2
      refine ⟨p1,p2,_,_,rfl,rfl,s2 _ _ u1,u2,by decide,fun p3 hp3=>?_⟩
      have s3:Same H2 (upd H2 p3 (.lst ([.bl false,.bl false,.bl false,.bl false]++[.bl (!true),.bl false]))):=Same.upd hp3
      have u3:(upd H2 p3 (.lst ([.bl false,.bl false,.bl false,.bl false]++[.bl (!true),.bl false]))) p3=some (.lst ([.bl false,.bl false,.bl false,.bl false]++[.bl (!true),.bl false])):=upd_same
      generalize (upd H2 p3 (.lst ([.bl false,.bl false,.bl false,.bl false]++[.bl (!true),.bl false])))=H3 at s3 u3
      have h3:=s3 _ _ (s2 _ _ h1)
      refine ⟨_,rfl,p3,_,rfl,.inl (.of u3),rfl,rfl,_,rfl,iteF ?_⟩
      refine ⟨three_line,fun p4 hp4=>?_⟩
      have s4:Same H3 (upd H3 p4 (.lst [.str "other",.str "roll",.str "number"])):=Same.upd hp4
      have u4:(upd H3 p4 (.lst [.str "other",.str "roll",.str "number"])) p4=some (.lst [.str "other",.str "roll",.str "number"]):=upd_same
      generalize (upd H3 p4 (.lst [.str "other",.str "roll",.str "number"]))=H4 at s4 u4
      have h4:=s4 _ _ h3
      refine ⟨_,rfl,.own a oe _ _ _ rfl h4 x T.k_NoNumber_NoRoll (.inr ⟨false,rfl,?_⟩)⟩
      refine ⟨_,rfl,.own a oe _ _ _ rfl h4 x T.k_NoNumber_NoNumber (.inr ⟨true,rfl,?_⟩)⟩
      refine ⟨_,_,rfl,rfl,.inl ⟨by decide,by decide⟩,_,_,rfl,rfl,p4,_,_,_,rfl,rfl,.of u4,rfl,?_⟩
      exact q _ (s1.trans (s2.trans (s3.trans s4)))
end
end Pr
namespace Pr
open PySem L2 PyProof.Rows Ent
theorem dd_nil {H:Hp}:DD H [] [] (fun _=>emptyD):=⟨rfl,List.nodup_nil,(fun _ h=>nomatch h),fun _ _=>⟨rfl,rfl⟩,fun _=>barLike_empty⟩
theorem datL_nil {H:Hp} {a:Addr} (h:H a=some (.lst [])):Dat H (.list []) (.ref a):=by
  unfold Dat
  exact ⟨a,[],rfl,h,by unfold DatAll; rfl⟩
theorem dat_rows {H:Hp} {a:Addr} {ys:List V} {ds:List PyData} (h:H a=some (.lst ys)) (d:DatAll H ds ys):Dat H (.list ds) (.ref a):=by
  unfold Dat
  exact ⟨a,ys,rfl,h,d⟩
def verd (n:Nat) (vr vb ve:V):Str:=if whF 0 (n:Int) vr=true then (if spanB vb ve=true then "told" else "number") else "roll"
section
variable {P:Program} {w:World} {K:PySem.W.Frag} {mg:Str→Option Value} {base:Heap} {C:Addr}
inductive sp_tried (C:Addr) (vs:List V) (H:Hp) (Q:VK) (E:XK):Prop
  | mk (x a:Addr) (vr vb ve:V) (b:Int) (ps:List Int) (rows:List Lad.Step) (e:vs=[.ref x,.ref a]) (ha:H a=some (.lst [vr,vb,ve])) (hL:LadAt C H x b ps rows) (ok:LadOk b ps rows) (kr:Kd H vr) (kb:Kd H vb) (ke:Kd H ve) (q:∀ H',Same H H'→Q (.str (verd rows.length vr vb ve)) H'):sp_tried C vs H Q E
theorem sc_tried:FnScope ["_law_ladder_here","_law_parts_here","_law_name_here","_law_found","_law_e"] ["_law_ladder_here","_law_parts_here"] (defScope s_law_tried):=⟨rfl,rfl,rfl,by decide +kernel,rfl,by decide +kernel,by decide +kernel⟩
set_option maxHeartbeats 8000000 in
theorem tried (T:Txt K mg C):Can P w K mg base 9 "_law_tried" ["_law_ladder_here","_law_parts_here"] (sp_tried C):=by
  obtain ⟨f1,fd1,F1,M1,bF⟩:=T.m_Follower_init
  refine fn_can T.f_law_tried sc_tried (fun vs H Q E h=>?_) (fun f cdv A outer s H vs Q E hr h=>?_)
  · obtain ⟨x,a,vr,vb,ve,b,ps,rows,rfl,_⟩:=h
    rfl
  · obtain ⟨x,a,vr,vb,ve,b,ps,rows,rfl,ha,hL,ok,kr,kb,ke,q⟩:=h
    refine ⟨_,(pss_cons (ps_set (i:=2) sc_tried.nd rfl (Or.inl rfl) pe_str)
      (pss_cons (ps_set (i:=3) sc_tried.nd rfl (Or.inl rfl) pe_non)
      (pss_cut (ps_tryA (i:=3) sc_tried.nd rfl (Or.inl rfl) (fun pn xe E σ W=>pe_makeS M1 (finitX_ok T F1) (hr.mono (by decide)) rfl T.mg_Follower bF .nil W (pa_cons (pv 0) (pa3 (pe_ix (ix_listK K) (pv 1) pe_int (fun _ _=>rfl)) (pe_ix (ix_listK K) (pv 1) pe_int (fun _ _=>rfl)) (pe_ix (ix_listK K) (pv 1) pe_int (fun _ _=>rfl)))))
        (phN (i:=4) T.x_PeakError.m sc_tried.nd rfl rfl (fun a=>(pss_one (ps_set (i:=2) sc_tried.nd rfl (Or.inl rfl) (pe_canN (law_name T) (hr.n _) (pa1 (pv 4)))))) ph_nil))
      (pss_cons (ps_if (PW.pt (pw_and (pt_cmpR op_notN (pv 3) pe_non (nomark _)) (pw_and1 (PW.pt (pw_or (pt_cmpR (op_neD hr) (pe_canM (pv 3) T.cl_Follower (news T) hr (pa1 (pe_lst pa_nil))) (pe_lst pa_nil) (nomark _)) (pw_or1 (pt_cmpR (op_neD hr) (pe_canM (pv 3) T.cl_Follower (news T) hr (pa1 (pe_tup pa_nil))) (pe_lst pa_nil) (nomark _))))))))
        (pss_one (ps_set (i:=2) sc_tried.nd rfl (Or.inl rfl) pe_str))
        pss_nil)
      (pss_one (ps_ret (pv 2))))))),?_⟩
    refine ⟨fun σ H'=>∃ v4,Same H H'∧((σ=[some (.ref x),some (.ref a),some (.str (verd rows.length vr vb ve)),some .non,v4])∨(∃ (fp kn:Addr) (r:Nat) (b0 e0:Int),verd rows.length vr vb ve="told"∧σ=[some (.ref x),some (.ref a),some (.str "told"),some (.ref fp),v4]∧r≤rows.length∧H fp=none∧H' kn=some (.dK [])∧FolAt (cOf mg "Follower") H' fp x (r:Int) b0 e0 kn)),?_,?_⟩
    · -- the try
      refine ⟨_,rfl,_,rfl,a,_,_,_,rfl,rfl,.of ha,rfl,_,rfl,a,_,_,_,rfl,rfl,.of ha,rfl,_,rfl,a,_,_,_,rfl,rfl,.of ha,rfl,?_⟩
      intro pp dx hpp hdx hne
      have sM:Same H (upd (upd H dx (.own pp)) pp (.ins (cOf mg "Follower") dx [])):=(Same.upd hdx).trans (Same.upd (by rw [upd_ne (Ne.symm hne)]; exact hpp))
      refine ⟨pp,dx,x,vr,vb,ve,b,ps,rows,rfl,upd_same,hL.same sM,kr.same sM,kb.same sM,ke.same sM,fun r b0 e0 er eb ee hrl h1 h2 h3 kn H' cB hkn0 hkp hkn hfol=>⟨rfl,?_⟩,fun hf=>?_,fun ht hf=>?_⟩
      · refine ⟨_,fun c o h=>cB c o (sM c o h) (ne_of_none h hpp),.inr ⟨pp,kn,r,b0,e0,?_,rfl,hrl,hpp,hkn,hfol⟩⟩
        rw [er,eb,ee]
        unfold verd
        rw [show whF 0 (rows.length:Int) (.int (r:Int))=true from by
          show (decide ((0:Int)≤(r:Int)) && decide ((r:Int)≤(rows.length:Int)))=true
          rw [decide_eq_true (by omega),decide_eq_true (by omega)]; rfl,if_pos rfl,span_lt h1 h2 h3,if_pos rfl]
      · refine .mk true T.e_NoRoll_PeakError (iteT fun b' oe hb hc hd hf'=>?_)
        refine ⟨_,rfl,.ro b' oe rfl upd_same (T.x_NoRoll.err hc hd hf') fun H2 s2=>?_⟩
        refine ⟨none,sM.trans ((Same.upd hb).trans s2),.inl ?_⟩
        unfold verd
        rw [hf,if_neg Bool.false_ne_true]
        rfl
      · refine .mk true T.e_NoNumber_PeakError (iteT fun b' oe hb hc hd hf'=>?_)
        refine ⟨_,rfl,.nu b' oe rfl upd_same (T.x_NoNumber.err hc hd hf') fun H2 s2=>?_⟩
        refine ⟨none,sM.trans ((Same.upd hb).trans s2),.inl ?_⟩
        unfold verd
        rw [ht,if_pos rfl,hf,if_neg Bool.false_ne_true]
        rfl
    · rintro σ H1 ⟨v4,s1,rfl | ⟨fp,kn,r,b0,e0,ev,rfl,hrl,hfp0,hkn,hfol⟩⟩
      · refine ⟨_,rfl,rfl,_,rfl,iteN (by rfl) ?_⟩
        exact ⟨_,rfl,q _ s1⟩
      · rw [ev] at q
        have lad1:=hL.same s1
        refine ⟨_,rfl,rfl,_,rfl,iteC (by rfl) ?_⟩
        obtain ⟨dx,fs,hfp,ff⟩:=id hfol
        refine ⟨_,rfl,fp,dx,fs,rfl,hfp,ff.n,Nat.zero_le _,fun L hL0=>?_⟩
        have s2:Same H1 (upd H1 L (.lst [])):=Same.upd hL0
        have u2:(upd H1 L (.lst [])) L=some (.lst []):=upd_same
        generalize (upd H1 L (.lst []))=H2 at s2 u2
        refine ⟨fp,x,kn,L,_,r,b0,e0,b,ps,rows,[],[],[],fun _=>emptyD,[],[],rfl,hfol.same s2,lad1.same s2,ok,hrl,s2 _ _ hkn,dd_nil,u2,.inl rfl,.nil,by decide,(fun _ h=>nomatch h),by unfold Ent.Keyed; exact List.nodup_nil,by decide,(fun _ h=>nomatch h),(fun _ h=>nomatch h),fun R ys ms F kf nf H3 c3 hR0 hR nd3 srt3 mem3 dat3 len3 hF0 hF dd3 memF fol3=>?_⟩
        have nfn:nf=[]:=List.eq_nil_iff_forall_not_mem.mpr fun n hn=>by
          obtain ⟨_,e,he,_⟩:=(memF n).mp hn
          cases he
        have msn:ms=[]:=List.eq_nil_iff_forall_not_mem.mpr fun n hn=>by
          rcases (mem3 n).mp hn with z | z
          · cases z
          · rw [nfn] at z; cases z
        subst nfn msn
        have s03:Same H H3:=fun b' o h=>c3 _ _ (s2 _ _ (s1 _ _ h)) (ne_of_none h hfp0)
        refine ⟨Nat.zero_le _,fun Z hZ=>?_⟩
        have sZ:Same H3 (upd H3 Z (.lst [])):=Same.upd hZ
        have uZ:(upd H3 Z (.lst [])) Z=some (.lst []):=upd_same
        generalize (upd H3 Z (.lst []))=H4 at sZ uZ
        refine ⟨.list [],.list [],Dat.same sZ _ _ (dat_rows hR dat3),datL_nil uZ,rfl,rfl,by decide,_,rfl,iteN (by rfl) ?_⟩
        obtain ⟨dx2,fs2,hfp2,ff2⟩:=fol3
        have s04:=s03.trans sZ
        refine ⟨_,rfl,fp,dx2,fs2,rfl,sZ _ _ hfp2,ff2.n,Nat.zero_le _,fun L2 hL2=>?_⟩
        have s5:Same H4 (upd H4 L2 (.tup [])):=Same.upd hL2
        have u5:(upd H4 L2 (.tup [])) L2=some (.tup []):=upd_same
        generalize (upd H4 L2 (.tup []))=H5 at s5 u5
        have s35:=sZ.trans s5
        have fol5:FolAt (cOf mg "Follower") H5 fp x (r:Int) b0 e0 F:=⟨dx2,fs2,s35 _ _ hfp2,ff2⟩
        refine ⟨fp,x,F,L2,_,r,b0,e0,b,ps,rows,kf,[],[],_,[],[],rfl,fol5,hL.same (s04.trans s5),ok,hrl,s35 _ _ hF,dd3.tups (fun b' ys h=>s35 _ _ h),u5,.inr rfl,.nil,by decide,(fun _ h=>nomatch h),by unfold Ent.Keyed; exact List.nodup_nil,by decide,(fun _ h=>nomatch h),(fun _ h=>nomatch h),fun R2 ys2 ms2 F2 kf2 nf2 H6 c6 hR20 hR2 nd6 srt6 mem6 dat6 len6 hF20 hF2 dd6 memF6 fol6=>?_⟩
        have nfn2:nf2=[]:=List.eq_nil_iff_forall_not_mem.mpr fun n hn=>by
          obtain ⟨_,e,he,_⟩:=(memF6 n).mp hn
          cases he
        have msn2:ms2=[]:=List.eq_nil_iff_forall_not_mem.mpr fun n hn=>by
          rcases (mem6 n).mp hn with z | z
          · cases z
          · rw [nfn2] at z; cases z
        subst nfn2 msn2
        have s06:Same H H6:=fun b' o h=>c6 _ _ (s5 _ _ (s04 _ _ h)) (ne_of_none h hfp0)
        refine ⟨Nat.zero_le _,fun Z2 hZ2=>?_⟩
        have sZ2:Same H6 (upd H6 Z2 (.lst [])):=Same.upd hZ2
        have uZ2:(upd H6 Z2 (.lst [])) Z2=some (.lst []):=upd_same
        generalize (upd H6 Z2 (.lst []))=H7 at sZ2 uZ2
        refine ⟨.list [],.list [],Dat.same sZ2 _ _ (dat_rows hR2 dat6),datL_nil uZ2,rfl,rfl,by decide,_,rfl,iteN (by rfl) ?_⟩
        exact ⟨_,rfl,q _ (s06.trans sZ2)⟩
end
end Pr
namespace L2
open PySem PySem.Spec PyProof.Rows
section
variable {X:Cx}
end
end L2
namespace L2
open PySem PySem.Spec PyProof.Rows
theorem But.same {p:Addr} {H H1 H2:Hp} (a:But p H H1) (b:Same H1 H2):But p H H2:=fun c o h n=>b c o (a c o h n)
end L2
namespace Pr
open PySem L2 PyProof.Rows Ent
inductive PotAt (H:Hp) (p:Addr):Prop
  | mk (x:Int) (y:Int) (h:H p=some (.lst [.int x,.int y])):PotAt H p
theorem PotAt.ne {H:Hp} {p l:Addr} (h:PotAt H p) (hl:H l=none):l≠p:=by
  obtain ⟨x,y,h⟩:=h
  exact Ne.symm (ne_of_none h hl)
theorem PotAt.same {H H':Hp} {p:Addr} (h:PotAt H p) (s:Same H H'):PotAt H' p:=by
  obtain ⟨x,y,h⟩:=h
  exact ⟨x,y,s _ _ h⟩
section
variable {P:Program} {w:World} {K:PySem.W.Frag} {mg:Str→Option Value} {base:Heap} {C:Addr}
inductive sp_cell (K:PySem.W.Frag) (vs:List V) (H:Hp) (Q:VK) (E:XK):Prop
  | mk (a:Addr) (ns:List Int) (k:Int) (e:vs=[.ref a,.int k]) (h:SqL K H a (ns.map V.int)) (hk:0≤k) (q:∀ n,Q (.int n) H):sp_cell K vs H Q E
theorem sc_cell:FnScope ["_law_script","_law_k"] ["_law_script","_law_k"] (defScope s_law_cell):=⟨rfl,rfl,rfl,by decide +kernel,rfl,by decide +kernel,by decide +kernel⟩
theorem cell (T:Txt K mg C):Can P w K mg base 1 "_law_cell" ["_law_script","_law_k"] (sp_cell K):=by
  refine fn_can T.f_law_cell sc_cell (fun vs H Q E h=>?_) (fun f cdv A outer s H vs Q E hr h=>?_)
  · obtain ⟨a,ns,k,rfl,_⟩:=h
    rfl
  · obtain ⟨a,ns,k,rfl,ha,hk,q⟩:=h
    refine ⟨_,pss_cons (ps_if (pt_cmpR op_lt (pv 1) (pe_b (call_lenK K) T.b_len boot_len (pa1 (pv 0))) (nomark _)) (pss_one (ps_ret (pe_ix (ix_listK K) (pv 0) (pv 1) (fun _ _=>rfl)))) pss_nil) (pss_one (ps_ret pe_int)),?_⟩
    refine ⟨_,rfl,_,rfl,a,_,rfl,.inl ha,_,_,rfl,rfl,_,rfl,ite2 (fun hc=>?_) (fun hc=>q 0)⟩
    have hc':k < ((ns.map V.int).length:Int):=of_decide_eq_true hc
    rw [List.length_map] at hc'
    exact ⟨_,rfl,_,rfl,a,_,_,_,rfl,rfl,ha,atI_ints hk hc',q _⟩
inductive sp_pot (vs:List V) (H:Hp) (Q:VK) (E:XK):Prop
  | mk (c:Int) (e:vs=[.int c]) (q:∀ p H',Same H H'→H p=none→PotAt H' p→Q (.ref p) H'):sp_pot vs H Q E
theorem sc_pot:FnScope ["_law_cell_here"] ["_law_cell_here"] (defScope s_law_pot):=⟨rfl,rfl,rfl,by decide +kernel,rfl,by decide +kernel,by decide +kernel⟩
theorem pot (T:Txt K mg C):Can P w K mg base 1 "_law_pot" ["_law_cell_here"] sp_pot:=by
  refine fn_can T.f_law_pot sc_pot (fun vs H Q E h=>?_) (fun f cdv A outer s H vs Q E hr h=>?_)
  · obtain ⟨c,rfl,_⟩:=h
    rfl
  · obtain ⟨c,rfl,q⟩:=h
    refine ⟨_,pss_one (ps_ret (pe_lst (pa2 (pe_b (call_max2 rfl) T.b_max boot_max (pa2 pe_int (pe_op op_sub (pe_b call_abs T.b_abs boot_abs (pa1 (pv 0))) (pe_op op_pow pe_int pe_int))))
      (pe_op op_add (pe_op op_mod (pe_b call_abs T.b_abs boot_abs (pa1 (pv 0))) pe_int) pe_int)))),?_⟩
    refine ⟨_,rfl,_,rfl,_,_,rfl,rfl,⟨by decide +kernel,by decide +kernel,by decide +kernel⟩,_,_,rfl,rfl,_,_,rfl,_,rfl,_,rfl,_,_,rfl,rfl,(by show (0:Int) < _; decide +kernel),_,_,rfl,rfl,two_line,fun p hp=>?_⟩
    exact q p _ (Same.upd hp) hp ⟨_,_,upd_same⟩
inductive sp_take (vs:List V) (H:Hp) (Q:VK) (E:XK):Prop
  | mk (p:Addr) (many:Int) (e:vs=[.ref p,.int many]) (h1:PotAt H p) (h2:0 < many) (h3:many < 2 ^ 300) (q:∀ d H',0≤d→d < many→But p H H'→PotAt H' p→Q (.int d) H'):sp_take vs H Q E
theorem sc_take:FnScope ["_law_pot_here","_law_many","_law_digit"] ["_law_pot_here","_law_many"] (defScope s_law_take):=⟨rfl,rfl,rfl,by decide +kernel,rfl,by decide +kernel,by decide +kernel⟩
theorem take (T:Txt K mg C):Can P w K mg base 1 "_law_take" ["_law_pot_here","_law_many"] sp_take:=by
  refine fn_can T.f_law_take sc_take (fun vs H Q E h=>?_) (fun f cdv A outer s H vs Q E hr h=>?_)
  · obtain ⟨p,many,rfl,_⟩:=h
    rfl
  · obtain ⟨p,many,rfl,⟨x,y,hp⟩,h0,h1,q⟩:=h
    refine ⟨_,pss_cons (ps_if (pt_cmpR op_gt (pe_ix (ix_listK K) (pv 0) pe_int (fun _ _=>rfl)) pe_int (nomark _))
        (pss_cons (ps_asg (pe_b call_divmodB T.b_divmod boot_divmod (pa2 (pe_ix (ix_listK K) (pv 0) pe_int (fun _ _=>rfl)) (pv 1))) (pg_tupK K rfl (pgs_cons (pg_sub (pv 0) pe_int set_list) (pgs_cons (pg_name (i:=2) sc_take.nd rfl (Or.inl rfl)) pgs_nil))))
        (pss_one (ps_ret (pv 2)))) pss_nil)
      (pss_cons (ps_asg (pe_op op_mod (pe_op op_add (pe_op op_mul (pe_ix (ix_listK K) (pv 0) pe_int (fun _ _=>rfl)) pe_int) pe_int) pe_int) (pg_sub (pv 0) pe_int set_list))
      (pss_one (ps_ret (pe_op op_mod (pe_op op_fdivB (pe_op op_mod (pe_op op_mul (pe_ix (ix_listK K) (pv 0) pe_int (fun _ _=>rfl)) (pe_ix (ix_listK K) (pv 0) pe_int (fun _ _=>rfl))) pe_int) pe_int) (pv 1))))),?_⟩
    refine ⟨_,rfl,p,_,_,_,rfl,rfl,.of hp,rfl,_,_,rfl,rfl,_,rfl,?_⟩
    refine ite2 (fun hc=>?_) (fun hc=>?_)
    · refine ⟨_,rfl,p,_,_,_,rfl,rfl,.of hp,rfl,_,rfl,_,_,rfl,⟨h0,h1⟩,fun t ht=>?_⟩
      have ne:p≠t:=ne_of_none hp ht
      have ht2:Same H (upd H t (.tup [.int (x / many),.int (x % many)])):=Same.upd ht
      refine ⟨t,_,rfl,.of upd_same,rfl,_,_,rfl,_,rfl,p,_,_,_,rfl,rfl,ht2 _ _ hp,rfl,_,_,rfl,rfl,_,rfl,?_⟩
      refine q _ _ (Int.emod_nonneg _ (by omega)) (Int.emod_lt_of_pos _ h0) (fun b o hb hn=>?_) ⟨_,_,upd_same⟩
      rw [upd_ne hn]
      exact ht2 _ _ hb
    · refine ⟨_,rfl,p,_,_,_,rfl,rfl,.of hp,rfl,_,_,rfl,rfl,.inr ⟨by decide +kernel,by decide +kernel⟩,_,_,rfl,rfl,_,_,rfl,rfl,(by show (0:Int) < _; decide +kernel),_,rfl,p,_,_,_,rfl,rfl,hp,rfl,?_⟩
      have hz0:0≤(y * 39373 + 7919) % 2147483629:=Int.emod_nonneg _ (by omega)
      have hz1:(y * 39373 + 7919) % 2147483629 < 2147483629:=Int.emod_lt_of_pos _ (by omega)
      refine ⟨_,rfl,p,_,_,_,rfl,rfl,.of upd_same,rfl,_,rfl,p,_,_,_,rfl,rfl,.of upd_same,rfl,_,_,rfl,rfl,.inl ⟨by omega,by omega⟩,_,_,rfl,rfl,(by show (0:Int) < _; decide +kernel),_,_,rfl,rfl,⟨by decide +kernel,by decide +kernel⟩,_,rfl,_,_,rfl,rfl,h0,?_⟩
      exact q _ _ (Int.emod_nonneg _ (by omega)) (Int.emod_lt_of_pos _ h0) But.upd ⟨_,_,upd_same⟩
end
end Pr
namespace Pr
open PySem L2 PyProof.Rows Ent
section
variable {P:Program} {w:World} {K:PySem.W.Frag} {mg:Str→Option Value} {base:Heap} {C:Addr}
inductive sp_wide (vs:List V) (H:Hp) (Q:VK) (E:XK):Prop
  | mk (p:Addr) (e:vs=[.ref p]) (h1:PotAt H p) (q:∀ d H',d.natAbs < 10 ^ 30→But p H H'→PotAt H' p→Q (.int d) H'):sp_wide vs H Q E
theorem sc_wide:FnScope ["_law_pot_here","_law_way"] ["_law_pot_here"] (defScope s_law_wide):=⟨rfl,rfl,rfl,by decide +kernel,rfl,by decide +kernel,by decide +kernel⟩
set_option maxHeartbeats 4000000 in
theorem wide (T:Txt K mg C):Can P w K mg base 2 "_law_wide" ["_law_pot_here"] sp_wide:=by
  refine fn_can T.f_law_wide sc_wide (fun vs H Q E h=>?_) (fun f cdv A outer s H vs Q E hr h=>?_)
  · obtain ⟨p,rfl,_⟩:=h
    rfl
  · obtain ⟨p,rfl,hp,q⟩:=h
    refine ⟨_,pss_cons (ps_set (i:=1) sc_wide.nd rfl (Or.inl rfl) (pe_can (take T) hr (pa2 (pv 0) pe_int)))
      (pss_cons (ps_if (pt_cmpR op_eq (pv 1) pe_int (nomark _)) (pss_one (ps_ret (pe_op op_sub (pe_can (take T) hr (pa2 (pv 0) pe_int)) pe_int))) pss_nil)
      (pss_cons (ps_if (pt_cmpR op_eq (pv 1) pe_int (nomark _)) (pss_one (ps_ret (pe_op op_sub (pe_can (take T) hr (pa2 (pv 0) pe_int)) pe_int))) pss_nil)
      (pss_cons (ps_if (pt_cmpR op_eq (pv 1) pe_int (nomark _)) (pss_one (ps_ret (pe_op op_add (pe_op op_sub (pe_can (take T) hr (pa2 (pv 0) (pe_op op_sub (pe_op op_mul pe_int (pe_op op_pow pe_int pe_int)) pe_int))) (pe_op op_pow pe_int pe_int)) pe_int))) pss_nil)
      (pss_one (ps_ret (pe_op op_add (pe_ix (ix_listK K) (pe_lst (pa2 (pe_op op_sub (pe_op op_pow pe_int pe_int) pe_int) (pe_op op_sub pe_int (pe_op op_pow pe_int pe_int)))) (pe_op op_sub (pv 1) pe_int) (fun _ _=>rfl))
        (pe_op op_mul (pe_can (take T) hr (pa2 (pv 0) pe_int)) (pe_ix (ix_listK K) (pe_lst (pa2 (pe_un un_neg pe_int) pe_int)) (pe_op op_sub (pv 1) pe_int) (fun _ _=>rfl))))))))),?_⟩
    have e30:(10:Int) ^ (30:Int).toNat=1000000000000000000000000000000:=by decide +kernel
    have n30:(10:Nat) ^ 30=1000000000000000000000000000000:=by decide +kernel
    refine ⟨_,rfl,p,_,rfl,hp,by decide +kernel,by decide +kernel,fun d1 H1 a1 b1 c1 hp1=>?_⟩
    refine ⟨_,rfl,rfl,_,rfl,ite2 (fun hc=>?_) (fun hc1=>?_)⟩
    · refine ⟨_,rfl,p,_,rfl,hp1,by decide +kernel,by decide +kernel,fun d H2 a b c hp2=>⟨_,_,rfl,rfl,q _ _ ?_ (c1.trans c) hp2⟩⟩
      rw [n30]; omega
    refine ⟨_,rfl,rfl,_,rfl,ite2 (fun hc=>?_) (fun hc2=>?_)⟩
    · refine ⟨_,rfl,p,_,rfl,hp1,by decide +kernel,by decide +kernel,fun d H2 a b c hp2=>⟨_,_,rfl,rfl,q _ _ ?_ (c1.trans c) hp2⟩⟩
      rw [n30]; omega
    refine ⟨_,rfl,rfl,_,rfl,ite2 (fun hc=>?_) (fun hc3=>?_)⟩
    · refine ⟨_,rfl,_,_,rfl,rfl,⟨by decide +kernel,by decide +kernel,by decide +kernel⟩,_,_,rfl,rfl,.inl ⟨by decide +kernel,by decide +kernel⟩,_,_,rfl,rfl,p,_,rfl,hp1,by decide +kernel,by decide +kernel,fun d H2 a b c hp2=>⟨_,_,rfl,rfl,⟨by decide +kernel,by decide +kernel,by decide +kernel⟩,_,_,rfl,rfl,_,_,rfl,rfl,q _ _ ?_ (c1.trans c) hp2⟩⟩
      rw [e30] at b ⊢
      rw [n30]
      omega
    have hd:d1=3∨d1=4:=by
      have z1:d1≠0:=fun e=>hc1 (by rw [e]; rfl)
      have z2:d1≠1:=fun e=>hc2 (by rw [e]; rfl)
      have z3:d1≠2:=fun e=>hc3 (by rw [e]; rfl)
      omega
    refine ⟨_,_,rfl,rfl,⟨by decide +kernel,by decide +kernel,by decide +kernel⟩,_,_,rfl,rfl,_,_,rfl,rfl,⟨by decide +kernel,by decide +kernel,by decide +kernel⟩,_,_,rfl,rfl,two_line,fun l1 hl1=>?_⟩
    refine ⟨_,rfl,_,_,rfl,rfl,l1,_,_,_,rfl,rfl,.of upd_same,atI_ints (S:=[10 ^ (30:Int).toNat - 1,1 - 10 ^ (30:Int).toNat]) (by omega) (by show d1 - 3 < 2; omega),?_⟩
    refine ⟨_,rfl,p,_,rfl,hp1.same (Same.upd hl1),by decide +kernel,by decide +kernel,fun d H2 a b c hp2=>?_⟩
    refine ⟨_,rfl,two_line,fun l2 hl2=>?_⟩
    refine ⟨_,rfl,_,_,rfl,rfl,l2,_,_,_,rfl,rfl,.of upd_same,atI_ints (S:=[-1,1]) (by omega) (by show d1 - 3 < 2; omega),?_⟩
    refine ⟨_,_,rfl,rfl,.inl ⟨by omega,by omega⟩,_,_,rfl,rfl,q _ _ ?_ (((c1.same (Same.upd hl1)).trans c).same (Same.upd hl2)) (hp2.same (Same.upd hl2))⟩
    rw [e30,n30]
    rcases hd with rfl | rfl
    · show (((1000000000000000000000000000000:Int) - 1) + d * -1).natAbs < _
      omega
    · show (((1:Int) - 1000000000000000000000000000000) + d * 1).natAbs < _
      omega
end
end Pr
namespace Pr
open PySem L2 PyProof.Rows
theorem getD_all {S:List Int} {Pp:Int→Prop} (h:∀ v ∈ S,Pp v) {i:Nat} (hi:i < S.length):Pp (S.getD i 0):=by
  rw [List.getD_eq_getElem?_getD,List.getElem?_eq_getElem hi]
  exact h _ (List.getElem_mem hi)
theorem partB_of {d:Int} (h1 : -1000000000≤d) (h2:d≤1000000000) (h3:d≠0):partB d=true:=by
  unfold partB
  rw [decide_eq_true h1,decide_eq_true h2,decide_eq_false h3]
  rfl
theorem sizesB_of {S:List Int} (h1:1≤S.length) (h2:S.length≤12) (h3:∀ v ∈ S,1≤v∧v≤1000):sizesB S=true:=by
  unfold sizesB lenB
  rw [decide_eq_true (by omega),decide_eq_true (by omega),Bool.and_true,Bool.true_and,List.all_eq_true]
  intro v hv
  unfold sizeB
  rw [decide_eq_true (h3 v hv).1,decide_eq_true (h3 v hv).2]
  rfl
theorem But.free {p l:Addr} {H H':Hp} (b:But p H H') (h:H' l=none) (hp:PotAt H' p):H l=none:=by
  cases e:H l with
  | none=>rfl
  | some o =>
    have:=b l o e (hp.ne h)
    rw [h] at this
    cases this
inductive ToldAt (H:Hp) (t:Addr) (b:Int) (ps:List Int) (rows:List Lad.Step):Prop
  | mk (pa:Addr) (ra:Addr) (us:List V) (h0_:H t=some (.tup [.int b,.ref pa,.ref ra])) (h1_:H pa=some (.lst (ps.map V.int))) (h2_:H ra=some (.lst us)) (h3_:Paired (RowL H) us rows):ToldAt H t b ps rows
inductive RowP (p q:Addr) (H:Hp) (v:V) (s:Lad.Step):Prop
  | mk (r:Addr) (l:Addr) (h0_:v=.ref r) (h1_:H r=some (.tup [.int s.1,.ref l])) (h2_:H l=some (.lst (s.2.map V.int))) (h3_:s.2.length≤1000) (h4_:l≠p) (h5_:l≠q):RowP p q H v s
theorem RowP.but {p q:Addr} {H H':Hp} (e:But p H H') (hp:PotAt H p) {v:V} {s:Lad.Step} (h:RowP p q H v s):RowP p q H' v s:=by
  obtain ⟨r,l,e1,h1,h2,h3,h4,h5⟩:=h
  obtain ⟨x,y,hp⟩:=hp
  exact ⟨r,l,e1,e _ _ h1 (ne_of h1 hp (by intro z; cases z)),e _ _ h2 h4,h3,h4,h5⟩
theorem RowP.same {p q:Addr} {H H':Hp} (e:Same H H') {v:V} {s:Lad.Step} (h:RowP p q H v s):RowP p q H' v s:=by
  obtain ⟨r,l,e1,h1,h2,h3,h4,h5⟩:=h
  exact ⟨r,l,e1,e _ _ h1,e _ _ h2,h3,h4,h5⟩
theorem RowP.row {p q:Addr} {H:Hp} {v:V} {s:Lad.Step} (h:RowP p q H v s):RowL H v s:=by
  obtain ⟨r,l,e1,h1,h2,h3,h4⟩:=h
  exact ⟨r,l,e1,h1,h2,h3⟩
theorem partsB_of {ps:List Int} (h1:1≤ps.length) (h2:ps.length≤12) (h3:∀ v ∈ ps,partB v=true) (h4:0 < ps.headD 0):partsB ps=true:=by
  unfold partsB lenB headB
  rw [decide_eq_true (by omega),decide_eq_true (by omega),decide_eq_true h4,List.all_eq_true.mpr h3]
  rfl
theorem rowsB_of {rows:List Lad.Step} (h2:rows.length≤4) (h3:∀ v ∈ rows,rowB v=true):rowsB rows=true:=by
  unfold rowsB lenB
  rw [decide_eq_true (by omega),decide_eq_true (by omega),List.all_eq_true.mpr h3]
  rfl
section
variable {P:Program} {w:World} {K:PySem.W.Frag} {mg:Str→Option Value} {base:Heap} {C:Addr}
theorem e30:(10:Int) ^ (30:Int).toNat=1000000000000000000000000000000:=by decide +kernel
inductive sp_near (vs:List V) (H:Hp) (Q:VK) (E:XK):Prop
  | mk (p:Addr) (m far:Int) (e:vs=[.ref p,.int m,.int far]) (hp:PotAt H p) (h0:0≤far) (h1:far < 2 ^ 200) (q:∀ d H',-W30 < d→d < W30→But p H H'→PotAt H' p→Q (.int d) H'):sp_near vs H Q E
theorem sc_near:FnScope ["_law_pot_here","_law_middle","_law_far"] ["_law_pot_here","_law_middle","_law_far"] (defScope s_law_near):=⟨rfl,rfl,rfl,by decide +kernel,rfl,by decide +kernel,by decide +kernel⟩
theorem near (T:Txt K mg C):Can P w K mg base 2 "_law_near" ["_law_pot_here","_law_middle","_law_far"] sp_near:=by
  refine fn_can T.f_law_near sc_near (fun vs H Q E h=>?_) (fun f cdv A outer s H vs Q E hr h=>?_)
  · obtain ⟨p,m,far,rfl,_⟩:=h
    rfl
  · obtain ⟨p,m,far,rfl,hp,h0,h1,q⟩:=h
    refine ⟨_,(pss_one (ps_ret (pe_b (call_min2 rfl) T.b_min boot_min (pa2 (pe_op op_sub (pe_op op_pow pe_int pe_int) pe_int) (pe_b (call_max2 rfl) T.b_max boot_max (pa2 (pe_op op_sub pe_int (pe_op op_pow pe_int pe_int)) (pe_op op_sub (pe_op op_add (pv 1) (pe_can (take T) hr (pa2 (pv 0) (pe_op op_add (pe_op op_mul pe_int (pv 2)) pe_int)))) (pv 2)))))))),?_⟩
    refine ⟨_,_,rfl,rfl,⟨by decide +kernel,by decide +kernel,by decide +kernel⟩,_,_,rfl,rfl,_,_,rfl,rfl,⟨by decide +kernel,by decide +kernel,by decide +kernel⟩,_,_,rfl,rfl,_,rfl,_,rfl,_,rfl,_,_,rfl,rfl,.inl ⟨by decide,by decide⟩,_,_,rfl,rfl,p,_,rfl,hp,by omega,by omega,fun d H1 a1 b1 c1 hp1=>⟨_,_,rfl,rfl,_,rfl,_,_,rfl,rfl,_,_,rfl,_,_,rfl,?_⟩⟩
    have hW:W30=1000000000000000000000000000000:=rfl
    rw [e30]
    refine q _ _ ?_ ?_ c1 hp1
    · split <;> (try split) <;> omega
    · split <;> (try split) <;> omega
inductive sp_parts (vs:List V) (H:Hp) (Q:VK) (E:XK):Prop
  | mk (p:Addr) (e:vs=[.ref p]) (hp:PotAt H p) (q:∀ l ps H',partsB ps=true→But p H H'→PotAt H' p→H l=none→H' l=some (.lst (ps.map V.int))→Q (.ref l) H'):sp_parts vs H Q E
theorem sc_parts:FnScope ["_law_pot_here","_law_far","_law_parts_here","_law_k"] ["_law_pot_here"] (defScope s_law_parts):=⟨rfl,rfl,rfl,by decide +kernel,rfl,by decide +kernel,by decide +kernel⟩
set_option maxHeartbeats 4000000 in
theorem parts (T:Txt K mg C):Can P w K mg base 2 "_law_parts" ["_law_pot_here"] sp_parts:=by
  refine fn_can T.f_law_parts sc_parts (fun vs H Q E h=>?_) (fun f cdv A outer s H vs Q E hr h=>?_)
  · obtain ⟨p,rfl,_⟩:=h
    rfl
  · obtain ⟨p,rfl,hp,q⟩:=h
    refine ⟨_,(pss_cons (ps_set (i:=1) sc_parts.nd rfl (Or.inl rfl) (pe_ix (ix_listK K) (pe_lst (pa3 pe_int pe_int (pe_op op_pow pe_int pe_int))) (pe_can (take T) hr (pa2 (pv 0) pe_int)) (fun _ _=>rfl)))
      (pss_cons (ps_set (i:=2) sc_parts.nd rfl (Or.inl rfl) (pe_lst (pa1 (pe_op op_add pe_int (pe_can (take T) hr (pa2 (pv 0) (pv 1)))))))
      (pss_cons (ps_for PassesOwn.never rfl (pi_range1 rfl T.b_range (pa1 (pe_can (take T) hr (pa2 (pv 0) pe_int)))) (pg_name (i:=3) sc_parts.nd rfl (Or.inl rfl))
        (pss_one (ps_expr (pe_bmK K PySem.F.plainAttrs_list PySem.F.slot_list_append PySem.F.type_list_append mt_append (pv 2) (pa1 (pe_op op_mul (pe_ix (ix_listK K) (pe_lst (pa3 pe_int pe_int (pe_un un_neg pe_int))) (pe_can (take T) hr (pa2 (pv 0) pe_int)) (fun _ _=>rfl)) (pe_op op_add pe_int (pe_can (take T) hr (pa2 (pv 0) (pv 1))))))))))
      (pss_one (ps_ret (pv 2)))))),?_⟩
    have e9:(10:Int) ^ (9:Int).toNat=1000000000:=by decide +kernel
    refine ⟨_,_,rfl,rfl,⟨by decide +kernel,by decide +kernel,by decide +kernel⟩,three_line,fun l1 hl1=>?_⟩
    rw [e9]
    refine ⟨_,rfl,p,_,rfl,hp.same (Same.upd hl1),by decide +kernel,by decide +kernel,fun d1 H1 a1 b1 c1 hp1=>?_⟩
    have hl11:H1 l1=some (.lst ([3,50,1000000000].map V.int)):=c1 _ _ upd_same (hp.ne hl1)
    refine ⟨l1,_,_,_,rfl,rfl,.of hl11,atI_ints (S:=[3,50,1000000000]) a1 b1,?_⟩
    have hm:1≤[3,50,(1000000000:Int)].getD d1.toNat 0∧[3,50,(1000000000:Int)].getD d1.toNat 0≤1000000000:=by
      refine getD_all (Pp:=fun v=>1≤v∧v≤1000000000) ?_ (by show d1.toNat < 3; omega)
      decide +kernel
    generalize [3,50,(1000000000:Int)].getD d1.toNat 0=far at hm
    have c01:But p H H1:=(Same.upd hl1).but.trans c1
    refine ⟨_,rfl,_,rfl,p,_,rfl,hp1,by omega,by omega,fun d2 H2 a2 b2 c2 hp2=>⟨_,_,rfl,rfl,Nat.succ_le_of_lt (small1000 (by decide)),fun L hL=>?_⟩⟩
    have c02:=c01.trans c2
    have hL0:H L=none:=But.free c02 hL hp2
    have nL:=hp2.ne hL
    have s3:Same H2 (upd H2 L (.lst [.int (1 + d2)])):=Same.upd hL
    have hL3:(upd H2 L (.lst [.int (1 + d2)])) L=some (.lst ([1 + d2].map V.int)):=upd_same
    generalize (upd H2 L (.lst [.int (1 + d2)]))=H3 at s3 hL3
    refine ⟨_,rfl,p,_,rfl,hp2.same s3,by decide +kernel,by decide +kernel,fun d3 H4 a3 b3 c4 hp4=>⟨_,rfl,by omega,by omega,?_⟩⟩
    have hL4:=c4 _ _ hL3 nL
    have c04:But p H H4:=(c02.trans s3.but).trans c4
    refine for_range (n:=d3.toNat) (fun i σ H5=>∃ v3 ps,σ=[some (.ref p),some (.int far),some (.ref L),v3]∧ps.length=i + 1∧(∀ v ∈ ps,partB v=true)∧0 < ps.headD 0∧But p H H5∧PotAt H5 p∧H5 L=some (.lst (ps.map V.int)))
      ⟨none,[1 + d2],rfl,rfl,(fun v hv=>by rw [List.mem_singleton.mp hv]; exact partB_of (by omega) (by omega) (by omega)),by show 0 < 1 + d2; omega,c04,hp4,hL4⟩ ?turn ?fin
    case fin =>
      rintro σ H5 ⟨v3,ps,rfl,e1,e2,e3,c5,hp5,hL5⟩
      exact ⟨_,rfl,q L ps H5 (partsB_of (by omega) (by omega) e2 e3) c5 hp5 hL0 hL5⟩
    case turn =>
      rintro i σ H5 hi ⟨v3,ps,rfl,e1,e2,e3,c5,hp5,hL5⟩
      refine ⟨_,rfl,.inl ⟨rfl,_,.of hL5⟩,_,rfl,three_line,fun l2 hl2=>?_⟩
      refine ⟨_,rfl,p,_,rfl,hp5.same (Same.upd hl2),by decide +kernel,by decide +kernel,fun d4 H6 a4 b4 c6 hp6=>?_⟩
      have hl26:H6 l2=some (.lst ([1,1,-1].map V.int)):=c6 _ _ upd_same (hp5.ne hl2)
      refine ⟨l2,_,_,_,rfl,rfl,.of hl26,atI_ints (S:=[1,1,-1]) a4 b4,?_⟩
      have hs:[1,1,(-1:Int)].getD d4.toNat 0=1∨[1,1,(-1:Int)].getD d4.toNat 0=-1:=by
        rcases (show d4=0∨d4=1∨d4=2 by omega) with rfl | rfl | rfl
        · exact .inl rfl
        · exact .inl rfl
        · exact .inr rfl
      generalize [1,1,(-1:Int)].getD d4.toNat 0=sg at hs
      refine ⟨_,rfl,_,rfl,p,_,rfl,hp6,by omega,by omega,fun d5 H7 a5 b5 c7 hp7=>⟨_,_,rfl,rfl,_,_,rfl,rfl,.inl (by rcases hs with rfl | rfl <;> exact ⟨by decide,by decide⟩),?_⟩⟩
      have c57:But p H5 H7:=((Same.upd hl2).but.trans c6).trans c7
      have hL7:=c57 _ _ hL5 nL
      refine ⟨L,_,_,rfl,rfl,hL7,small1000 (by rw [List.length_map]; omega),_,ps++[sg * (1 + d5)],rfl,?_,?_,?_,?_,?_,?_⟩
      · rw [List.length_append,e1]; rfl
      · intro v hv
        rcases List.mem_append.mp hv with z | z
        · exact e2 v z
        · rw [List.mem_singleton.mp z]
          rcases hs with rfl | rfl
          · exact partB_of (by omega) (by omega) (by omega)
          · exact partB_of (by omega) (by omega) (by omega)
      · cases ps with
        | nil=>exact absurd e1 (by simp)
        | cons v r=>exact e3
      · exact fun b o z n=>by rw [upd_ne (ne_of_none z hL0)]; exact c57 b o (c5 b o z n) n
      · obtain ⟨x,y,z⟩:=hp7
        exact ⟨x,y,by rw [upd_ne (Ne.symm nL)]; exact z⟩
      · rw [upd_same,List.map_append]; rfl
end
end Pr
namespace Pr
open PySem L2 PyProof.Rows
section
variable {P:Program} {w:World} {K:PySem.W.Frag} {mg:Str→Option Value} {base:Heap} {C:Addr}
inductive sp_rows (vs:List V) (H:Hp) (Q:VK) (E:XK):Prop
  | mk (p:Addr) (e:vs=[.ref p]) (hp:PotAt H p) (q:∀ l ys rows H',rowsB rows=true→But p H H'→PotAt H' p→H l=none→H' l=some (.lst ys)→Paired (RowP p l H') ys rows→Q (.ref l) H'):sp_rows vs H Q E
theorem sc_rows:FnScope ["_law_pot_here","_law_found","_law_k","_law_far","_law_first"] ["_law_pot_here"] (defScope s_law_rows):=⟨rfl,rfl,rfl,by decide +kernel,rfl,by decide +kernel,by decide +kernel⟩
set_option maxHeartbeats 8000000 in
theorem rows (T:Txt K mg C):Can P w K mg base 3 "_law_rows" ["_law_pot_here"] sp_rows:=by
  refine fn_can T.f_law_rows sc_rows (fun vs H Q E h=>?_) (fun f cdv A outer s H vs Q E hr h=>?_)
  · obtain ⟨p,rfl,_⟩:=h
    rfl
  · obtain ⟨p,rfl,hp,q⟩:=h
    refine ⟨_,(pss_cons (ps_set (i:=1) sc_rows.nd rfl (Or.inl rfl) (pe_lst pa_nil))
      (pss_cons (ps_for PassesOwn.never rfl (pi_range1 rfl T.b_range (pa1 (pe_can (take T) hr (pa2 (pv 0) pe_int)))) (pg_name (i:=2) sc_rows.nd rfl (Or.inl rfl))
        (pss_cons (ps_set (i:=3) sc_rows.nd rfl (Or.inr rfl) (pe_ix (ix_listK K) (pe_lst (pa3 pe_int pe_int pe_int)) (pe_can (take T) hr (pa2 (pv 0) pe_int)) (fun _ _=>rfl)))
        (pss_cons (ps_set (i:=4) sc_rows.nd rfl (Or.inl rfl) (pe_can (near T) hr (pa3 (pv 0) pe_int (pe_ix (ix_listK K) (pe_lst (pa3 pe_int pe_int (pe_op op_pow pe_int pe_int))) (pe_can (take T) hr (pa2 (pv 0) pe_int)) (fun _ _=>rfl)))))
        (pss_one (ps_expr (pe_bmK K PySem.F.plainAttrs_list PySem.F.slot_list_append PySem.F.type_list_append mt_append (pv 1) (pa1 (pe_tup (pa2 (pv 4) (pe_lc rfl (lcS sc_rows) (pi_range1 rfl T.b_range (pa1 (pe_op op_add pe_int (pe_can (take T) hr (pa2 (pv 0) pe_int))))) (fun _ _ _ _=>pts_nil) (fun _ _ _ _=>(pe_op op_add pe_int (pe_can (take T) hr (pa2 (pv 1) (pv 4)))))))))))))))
      (pss_one (ps_ret (pv 1))))),?_⟩
    have e29:(10:Int) ^ (29:Int).toNat=100000000000000000000000000000:=by decide +kernel
    refine ⟨Nat.zero_le _,fun L hL=>?_⟩
    have s1:Same H (upd H L (.lst [])):=Same.upd hL
    have hL1:(upd H L (.lst [])) L=some (.lst []):=upd_same
    generalize (upd H L (.lst []))=H1 at s1 hL1
    have nL:=hp.ne hL
    refine ⟨_,rfl,p,_,rfl,hp.same s1,by decide +kernel,by decide +kernel,fun d1 H2 a1 b1 c2 hp2=>⟨_,rfl,by omega,by omega,?_⟩⟩
    refine for_range (n:=d1.toNat) (fun i σ H5=>∃ v2 v3 v4 ys rows,σ=[some (.ref p),some (.ref L),v2,v3,v4]∧Paired (RowP p L H5) ys rows∧rows.length=i∧(∀ v ∈ rows,rowB v=true)∧But p H H5∧PotAt H5 p∧H5 L=some (.lst ys))
      ⟨none,none,none,[],[],rfl,.nil,rfl,(fun v hv=>by cases hv),s1.but.trans c2,hp2,c2 _ _ hL1 nL⟩ ?turn ?fin
    case fin =>
      rintro σ H5 ⟨v2,v3,v4,ys,rows,rfl,f1,f2,f3,c5,hp5,hL5⟩
      exact ⟨_,rfl,q L ys rows H5 (rowsB_of (by omega) f3) c5 hp5 hL hL5 f1⟩
    case turn =>
      rintro i σ H5 hi ⟨v2,v3,v4,ys,rows,rfl,f1,f2,f3,c5,hp5,hL5⟩
      refine ⟨three_line,fun l1 hl1=>?_⟩
      refine ⟨_,rfl,p,_,rfl,hp5.same (Same.upd hl1),by decide +kernel,by decide +kernel,fun d2 H6 a2 b2 c6 hp6=>?_⟩
      have hl16:H6 l1=some (.lst ([3,3,1000].map V.int)):=c6 _ _ upd_same (hp5.ne hl1)
      refine ⟨l1,_,_,_,rfl,rfl,.of hl16,atI_ints (S:=[3,3,1000]) a2 b2,?_⟩
      have hm:1≤[3,3,(1000:Int)].getD d2.toNat 0∧[3,3,(1000:Int)].getD d2.toNat 0≤1000:=by
        refine getD_all (Pp:=fun v=>1≤v∧v≤1000) ?_ (by show d2.toNat < 3; omega)
        decide +kernel
      generalize [3,3,(1000:Int)].getD d2.toNat 0=far at hm
      have c56:But p H5 H6:=(Same.upd hl1).but.trans c6
      refine ⟨_,rfl,_,_,rfl,rfl,⟨by decide +kernel,by decide +kernel,by decide +kernel⟩,three_line,fun l2 hl2=>?_⟩
      rw [e29]
      refine ⟨_,rfl,p,_,rfl,hp6.same (Same.upd hl2),by decide +kernel,by decide +kernel,fun d3 H7 a3 b3 c7 hp7=>?_⟩
      have hl27:H7 l2=some (.lst ([20,20,100000000000000000000000000000].map V.int)):=c7 _ _ upd_same (hp6.ne hl2)
      refine ⟨l2,_,_,_,rfl,rfl,.of hl27,atI_ints (S:=[20,20,100000000000000000000000000000]) a3 b3,?_⟩
      have hm2:1≤[20,20,(100000000000000000000000000000:Int)].getD d3.toNat 0∧[20,20,(100000000000000000000000000000:Int)].getD d3.toNat 0≤100000000000000000000000000000:=by
        refine getD_all (Pp:=fun v=>1≤v∧v≤100000000000000000000000000000) ?_ (by show d3.toNat < 3; omega)
        decide +kernel
      generalize [20,20,(100000000000000000000000000000:Int)].getD d3.toNat 0=mm at hm2
      have c57:But p H5 H7:=c56.trans ((Same.upd hl2).but.trans c7)
      refine ⟨p,0,mm,rfl,hp7,by omega,by omega,fun fi H8 g1 g2 c8 hp8=>?_⟩
      have c58:=c57.trans c8
      have hL8:=c58 _ _ hL5 nL
      refine ⟨_,rfl,.inl ⟨rfl,_,.of hL8⟩,_,rfl,?_⟩
      refine ⟨_,rfl,p,_,rfl,hp8,by decide +kernel,by decide +kernel,fun d4 H9 a4 b4 c9 hp9=>⟨_,_,rfl,rfl,_,rfl,by omega,by omega,fun D hD=>?_⟩⟩
      have nD:=hp9.ne hD
      have c59:=c58.trans c9
      have hL9:=c59 _ _ hL5 nL
      have nLD:L≠D:=ne_of_none hL9 hD
      refine lc_range (n:=(1 + d4).toNat) (fun j zs HA=>∃ S:List Int,zs=S.map V.int∧S.length=j∧(∀ v ∈ S,1≤v∧v≤1000)∧But p H9 HA∧PotAt HA p∧HA D=some (.lst zs)) ⟨[],rfl,rfl,(fun v hv=>by cases hv),(Same.upd hD).but,hp9.same (Same.upd hD),upd_same⟩ (fun j zs HA ⟨_,_,_,_,_,_,d⟩=>d) (fun zs HA ⟨S,e1,e2,e3,cA,hpA,d⟩=>?_) (fun j zs HA hj ⟨S,e1,e2,e3,cA,hpA,d⟩=>?_)
      · subst e1
        have so:sizesB S=true:=sizesB_of (by omega) (by omega) e3
        refine ⟨two_line,fun m hm=>?_⟩
        have c5A:But p H5 HA:=c59.trans cA
        have hLA:=c5A _ _ hL5 nL
        have nLm:L≠m:=ne_of_none hLA hm
        have hyl:ys.length=rows.length:=Paired.length f1
        have hLB:(upd HA m (.tup [.int fi,.ref D])) L=some (.lst ys):=by rw [upd_ne nLm]; exact hLA
        refine ⟨L,ys,_,rfl,rfl,hLB,small1000 (by omega),?_⟩
        refine ⟨_,_,_,ys++[.ref m],rows++[(fi,S)],rfl,?_,by rw [List.length_append,f2]; rfl,?_,?_,?_,upd_same⟩
        · have up:∀ {v:V} {s':Lad.Step},RowP p L H5 v s'→RowP p L (upd (upd HA m (.tup [.int fi,.ref D])) L (.lst (ys++[.ref m]))) v s':=fun {v s'} hx=>by
            obtain ⟨r',l',e',q1,q2,q3,q4,q5⟩:=RowP.but c5A hp5 hx
            exact ⟨r',l',e',by rw [upd_ne (ne_of q1 hLA (by intro z; cases z))]; exact Same.upd hm _ _ q1,by rw [upd_ne q5]; exact Same.upd hm _ _ q2,q3,q4,q5⟩
          refine Paired.snoc (Paired.mono (fun _ _ x=>up x) f1) ⟨m,D,rfl,?_,?_,?_,nD,Ne.symm nLD⟩
          · rw [upd_ne (Ne.symm nLm),upd_same]
          · rw [upd_ne (Ne.symm nLD)]; exact Same.upd hm _ _ d
          · exact Nat.le_trans (sizesB_ok so).2.1 (by decide)
        · intro v hv
          rcases List.mem_append.mp hv with hv | hv
          · exact f3 v hv
          · rw [List.mem_singleton.mp hv]
            unfold rowB wideB
            rw [decide_eq_true g1,decide_eq_true g2,so]
            rfl
        · exact fun b o z n=>by rw [upd_ne (ne_of_none z hL)]; exact Same.upd hm _ _ (c5A b o (c5 b o z n) n)
        · obtain ⟨x,y,z⟩:=hpA
          exact ⟨x,y,by rw [upd_ne (Ne.symm nL)]; exact Same.upd hm _ _ z⟩
      · refine yesI ⟨_,rfl,_,rfl,p,_,rfl,hpA,by omega,by omega,fun d5 HB a5 b5 cB hpB=>⟨_,_,rfl,rfl,?_⟩⟩
        have dB:=cB _ _ d nD
        refine LcNx.mk hj (by omega) (by rw [e1,List.length_map,e2]; exact Nat.le_refl _) dB ⟨S++[1 + d5],by rw [e1,List.map_append]; rfl,by rw [List.length_append,e2]; rfl,?_,?_,?_,upd_same⟩
        · intro v hv
          rcases List.mem_append.mp hv with hv | hv
          · exact e3 v hv
          · rw [List.mem_singleton.mp hv]; omega
        · exact fun b o z n=>by rw [upd_ne (ne_of_none z hD)]; exact cB b o (cA b o z n) n
        · obtain ⟨x,y,z⟩:=hpB
          exact ⟨x,y,by rw [upd_ne (Ne.symm nD)]; exact z⟩
inductive sp_ladder (vs:List V) (H:Hp) (Q:VK) (E:XK):Prop
  | mk (p:Addr) (h0_:vs=[.ref p]) (h1_:PotAt H p) (h2_:∀ t b ps rows H',LadOk b ps rows→But p H H'→ToldAt H' t b ps rows→PotAt H' p→(∀ H'',But p H' H''→ToldAt H'' t b ps rows)→H t=none→Q (.ref t) H'):sp_ladder vs H Q E
theorem sc_ladder:FnScope ["_law_pot_here"] ["_law_pot_here"] (defScope s_law_ladder):=⟨rfl,rfl,rfl,by decide +kernel,rfl,by decide +kernel,by decide +kernel⟩
theorem ladder (T:Txt K mg C):Can P w K mg base 4 "_law_ladder" ["_law_pot_here"] sp_ladder:=by
  refine fn_can T.f_law_ladder sc_ladder (fun vs H Q E h=>?_) (fun f cdv A outer s H vs Q E hr h=>?_)
  · obtain ⟨p,rfl,_⟩:=h
    rfl
  · obtain ⟨p,rfl,hp,q⟩:=h
    refine ⟨_,(pss_one (ps_ret (pe_tup (pa3 (pe_can (wide T) hr (pa1 (pv 0))) (pe_can (parts T) hr (pa1 (pv 0))) (pe_can (rows T) hr (pa1 (pv 0))))))),?_⟩
    refine ⟨_,rfl,p,rfl,hp,fun b H1 hb c1 hp1=>?_⟩
    refine ⟨_,rfl,p,rfl,hp1,fun D ps H2 pok c2 hp2 hD0 hD2=>?_⟩
    refine ⟨_,rfl,p,rfl,hp2,fun D2 ys rows H3 rok c3 hp3 hD20 hD23 hrows=>⟨three_line,fun t ht=>?_⟩⟩
    have nD:D≠p:=hp1.ne hD0
    have nD2:D2≠p:=hp2.ne hD20
    have n30:(10:Nat) ^ 30=1000000000000000000000000000000:=by decide +kernel
    have hW:W30=1000000000000000000000000000000:=rfl
    rw [n30] at hb
    have hok:LadOk b ps rows:=⟨by unfold wideB; rw [decide_eq_true (by omega),decide_eq_true (by omega)]; rfl,pok,rok⟩
    have hD3:=c3 _ _ hD2 nD
    have c03:=(c1.trans c2).trans c3
    refine q t b ps rows _ hok (c03.trans (Same.upd ht).but) ⟨D,D2,ys,upd_same,Same.upd ht _ _ hD3,Same.upd ht _ _ hD23,Paired.mono (fun _ _ x=>x.row.same (Same.upd ht)) hrows⟩ (hp3.same (Same.upd ht)) (fun H'' cc=>⟨D,D2,ys,cc _ _ upd_same (hp3.ne ht),cc _ _ (Same.upd ht _ _ hD3) nD,cc _ _ (Same.upd ht _ _ hD23) nD2,Paired.mono (fun _ _ x=>(RowP.but cc (hp3.same (Same.upd ht)) (RowP.same (Same.upd ht) x)).row) hrows⟩) (But.free c03 ht hp3)
end
end Pr
namespace Pr
open PySem L2 PyProof.Rows Ent
theorem sameBut {H H1 H2:Hp} {p:Addr} (s:Same H H1) (n:H p=none) (b:But p H1 H2):Same H H2:=fun c o h=>b c o (s c o h) (ne_of_none h n)
def Odd (p:Addr) (H:Hp) (y:V):Prop:=∃ d,Tg p H y d∧whN y=false∧∀ n:Nat,n≤4→whF 0 (n:Int) y=false
theorem Odd.but {p:Addr} {H H':Hp} {y:V} (h:Odd p H y) (c:But p H H'):Odd p H' y:=by
  obtain ⟨d,t,r⟩:=h
  exact ⟨d,t.but c,r⟩
def OddAt (p:Addr) (H:Hp) (O:Addr):Prop:=∃ ys,H O=some (.lst ys)∧O≠p∧ys.length=11∧∀ y ∈ ys,Odd p H y
theorem OddAt.but {p:Addr} {H H':Hp} {O:Addr} (h:OddAt p H O) (c:But p H H'):OddAt p H' O:=by
  obtain ⟨ys,h1,h2,h3,h4⟩:=h
  exact ⟨ys,c _ _ h1 h2,h2,h3,fun y hy=>(h4 y hy).but c⟩
theorem odd_leaf {p:Addr} {H:Hp} {y:V} {d:PyData} (l:Leaf y d) (h:wh y=none):Odd p H y:=⟨d,.leaf l,by unfold whN; rw [h],fun n _=>by unfold whF; rw [h]⟩
theorem odd_int {p:Addr} {H:Hp} {i:Int} (h1:i.natAbs < 10 ^ 62) (h2:¬ (-W40 < i∧i < W40)):Odd p H (.int i):=by
  refine ⟨_,.leaf (.int i h1),?_,fun n hn=>?_⟩
  · show (decide (-W40 < i) && decide (i < W40))=false
    by_cases z : -W40 < i
    · rw [decide_eq_false (fun y=>h2 ⟨z,y⟩),Bool.and_false]
    · rw [decide_eq_false z]; rfl
  · show (decide ((0:Int)≤i) && decide (i≤(n:Int)))=false
    have hW:W40=10000000000000000000000000000000000000000:=rfl
    by_cases z:0≤i
    · rw [decide_eq_false (by omega:¬ i≤(n:Int)),Bool.and_false]
    · rw [decide_eq_false z]; rfl
theorem verd_b {n:Nat} {vr vb ve:V} (h:whF 0 (n:Int) vr=true) (hb:spanB vb ve=false):verd n vr vb ve="number":=by
  unfold verd
  rw [h,if_pos rfl,hb,if_neg Bool.false_ne_true]
theorem verd_r {n:Nat} {vr vb ve:V} (h:whF 0 (n:Int) vr=false):verd n vr vb ve="roll":=by
  unfold verd
  rw [h,if_neg Bool.false_ne_true]
theorem at3 {k:Int} {x y z:V} (h0:0≤k) (h1:k < 3):∃ v,atI [x,y,z] k=some v∧(v=x∨v=y∨v=z):=by
  obtain ⟨m,rfl⟩:∃ m:Nat,k=m:=⟨k.toNat,by omega⟩
  match m,h1 with
  | 0,_=>exact ⟨x,atI_nat rfl,.inl rfl⟩
  | 1,_=>exact ⟨y,atI_nat rfl,.inr (.inl rfl)⟩
  | 2,_=>exact ⟨z,atI_nat rfl,.inr (.inr rfl)⟩
  | m + 3,h=>exact absurd h (by omega)
theorem due_ok {n:Nat} {r b e:Int} (r0:0≤r) (r1:r≤(n:Int)) (b1 : -W40 < b) (b2:b < W40) (e1 : -W40 < e) (e2:e < W40) :
    atI [V.str "number",V.str "told"] (if decide (b < e)=true then 1 else 0)=some (.str (verd n (.int r) (.int b) (.int e))):=by
  have w:whF 0 (n:Int) (.int r)=true:=by
    show (decide ((0:Int)≤r) && decide (r≤(n:Int)))=true
    rw [decide_eq_true r0,decide_eq_true r1]; rfl
  by_cases h:b < e
  · rw [decide_eq_true h,if_pos rfl]
    unfold verd
    rw [w,if_pos rfl,span_lt b1 h e2,if_pos rfl]
    rfl
  · rw [decide_eq_false h,if_neg Bool.false_ne_true,verd_b w (span_le (by omega))]
    rfl
structure Ins (p O:Addr) (n:Nat) (t:Bool) (H5 H:Hp) (vr vb ve:V):Prop where
  r:∃ d,Tg p H vr d
  b:∃ d,Tg p H vb d
  e:∃ d,Tg p H ve d
  w:t=true→whF 0 (n:Int) vr=true
  c:But p H5 H
  hp:PotAt H p
  o:OddAt p H O
theorem Ins.but {p O:Addr} {n:Nat} {t:Bool} {H5 H H':Hp} {vr vb ve:V} (h:Ins p O n t H5 H vr vb ve) (c:But p H H') (hp:PotAt H' p):Ins p O n t H5 H' vr vb ve:=by
  obtain ⟨⟨d1,t1⟩,⟨d2,t2⟩,⟨d3,t3⟩,w,c0,_,o⟩:=h
  exact ⟨⟨d1,t1.but c⟩,⟨d2,t2.but c⟩,⟨d3,t3.but c⟩,w,c0.trans c,hp,o.but c⟩
theorem str_dec {x:Str}:(!decide (V.str x=V.str x))=false:=by rw [decide_eq_true rfl]; rfl
theorem wide_le {d j:Int} (hd:d.natAbs < 10 ^ 30) (hj:j=1∨j=10000000000) : -W40 + 10 < d * j∧d * j < W40 - 10:=by
  have hW:W40=10000000000000000000000000000000000000000:=rfl
  have h2:d.natAbs < 1000000000000000000000000000000:=hd
  rcases hj with rfl | rfl <;> omega
section
variable {P:Program} {w:World} {K:PySem.W.Frag} {mg:Str→Option Value} {base:Heap} {C:Addr}
inductive sp_bad (vs:List V) (H:Hp) (Q:VK) (E:XK):Prop
  | mk (p L:Addr) (ys:List V) (e:vs=[.ref p,.ref L]) (hp:PotAt H p) (hL:H L=some (.lst ys)) (nL:L≠p) (h0:0 < ys.length) (h1:ys.length≤100) (q:∀ y ∈ ys,∀ H',But p H H'→PotAt H' p→Q y H'):sp_bad vs H Q E
theorem sc_bad:FnScope ["_law_pot_here","_law_some"] ["_law_pot_here","_law_some"] (defScope s_law_bad):=⟨rfl,rfl,rfl,by decide +kernel,rfl,by decide +kernel,by decide +kernel⟩
theorem bad (T:Txt K mg C):Can P w K mg base 2 "_law_bad" ["_law_pot_here","_law_some"] sp_bad:=by
  refine fn_can T.f_law_bad sc_bad (fun vs H Q E h=>?_) (fun f cdv A outer s H vs Q E hr h=>?_)
  · obtain ⟨p,L,ys,rfl,_⟩:=h
    rfl
  · obtain ⟨p,L,ys,rfl,hp,hL,nL,h0,h1,q⟩:=h
    refine ⟨_,(pss_one (ps_ret (pe_ix (ix_listK K) (pv 1) (pe_can (take T) hr (pa2 (pv 0) (pe_b (call_lenK K) T.b_len boot_len (pa1 (pv 1))))) (fun _ _=>rfl)))),?_⟩
    refine ⟨_,rfl,_,rfl,_,rfl,L,_,rfl,.inl (.of hL),p,_,rfl,hp,by omega,by omega,fun d H1 a1 b1 c1 hp1=>?_⟩
    obtain ⟨m,rfl⟩:∃ m:Nat,d=m:=⟨d.toNat,by omega⟩
    have hm:m < ys.length:=by omega
    exact ⟨L,ys,_,ys[m],rfl,rfl,.of (c1 _ _ hL nL),atI_nat (List.getElem?_eq_getElem hm),q _ (List.getElem_mem hm) H1 c1 hp1⟩
inductive sp_law (K:PySem.W.Frag) (vs:List V) (H:Hp) (Q:VK) (E:XK):Prop
  | mk (a:Addr) (ns:List Int) (h0_:vs=[.ref a]) (h1_:SqL K H a (ns.map V.int)) (h2_:ns.length≤63) (h3_:∀ H',Q (.bl true) H'):sp_law K vs H Q E
theorem sc_law:FnScope ["_law_script","_law_k","_law_pot_here","_law_told","_law_ladder_here","_law_many","_law_turn","_law_odd","_law_roll","_law_begin","_law_end","_law_due","_law_kept"] ["_law_script"] (defScope s_law):=⟨rfl,rfl,rfl,by decide +kernel,rfl,by decide +kernel,by decide +kernel⟩
set_option maxHeartbeats 16000000 in
theorem law_ok (T:Txt K mg C) {fa:Addr} {fd:FuncData} (FL:Fun K "law" "law" s_law fa fd):FnOk P w K mg base CX0 10 fa fd ["_law_script"] (sp_law K):=by
  obtain ⟨f0,fd0,F0,M,bL⟩:=T.m_init
  refine FL.ok sc_law (fun vs H Q E h=>?_) (fun cdv A outer s H vs Q E hr h=>?_)
  · obtain ⟨a,ns,rfl,_⟩:=h
    rfl
  · obtain ⟨a,ns,rfl,ha,hlen,k⟩:=h
    refine ⟨_,(pss_cons (ps_for PassesOwn.never rfl (pi_range1 rfl T.b_range (pa1 (pe_b (call_max2 rfl) T.b_max boot_max (pa2 pe_int (pe_b (call_min2 rfl) T.b_min boot_min (pa2 (pe_b (call_lenK K) T.b_len boot_len (pa1 (pv 0))) pe_int)))))) (pg_name (i:=1) sc_law.nd rfl (Or.inl rfl))
        (pss_cons (ps_set (i:=2) sc_law.nd rfl (Or.inl rfl) (pe_can (pot T) hr (pa1 (pe_op op_add (pe_can (cell T) hr (pa2 (pv 0) (pv 1))) (pv 1)))))
        (pss_cons (ps_set (i:=3) sc_law.nd rfl (Or.inl rfl) (pe_can (ladder T) hr (pa1 (pv 2))))
        (pss_cons (ps_set (i:=4) sc_law.nd rfl (Or.inl rfl) (pe_make M (init_ok T F0) (hr.mono (by decide)) rfl T.mgC bL .nil pass0 (pa3 (pe_ix (ix_tupK K) (pv 3) pe_int (fun _ _=>rfl)) (pe_ix (ix_tupK K) (pv 3) pe_int (fun _ _=>rfl)) (pe_ix (ix_tupK K) (pv 3) pe_int (fun _ _=>rfl)))))
        (pss_cons (ps_set (i:=5) sc_law.nd rfl (Or.inl rfl) (pe_op op_add (pe_b (call_lenK K) T.b_len boot_len (pa1 (pe_ix (ix_tupK K) (pv 3) pe_int (fun _ _=>rfl)))) pe_int))
        (pss_one (ps_for PassesOwn.never rfl (pi_range1 rfl T.b_range (pa1 pe_int)) (pg_name (i:=6) sc_law.nd rfl (Or.inl rfl))
          (pss_cons (ps_set (i:=7) sc_law.nd rfl (Or.inl rfl) (pe_lst (pa_cons pe_non (pa_cons pe_str (pa_cons pe_bl (pa_cons pe_bl (pa_cons (pe_lst pa_nil) (pa_cons (pe_tup pa_nil) (pa_cons pe_dnewK (pa_cons (pe_op op_pow pe_int pe_int) (pa3 (pe_un un_neg (pe_op op_pow pe_int pe_int)) (pe_lst (pa1 pe_int)) (pe_op op_pow pe_int pe_int))))))))))))
          (pss_cons (ps_set (i:=8) sc_law.nd rfl (Or.inl rfl) (pe_can (take T) hr (pa2 (pv 2) (pv 5))))
          (pss_cons (ps_set (i:=9) sc_law.nd rfl (Or.inl rfl) (pe_op op_mul (pe_can (wide T) hr (pa1 (pv 2))) (pe_ix (ix_listK K) (pe_lst (pa3 pe_int pe_int (pe_op op_pow pe_int pe_int))) (pe_can (take T) hr (pa2 (pv 2) pe_int)) (fun _ _=>rfl))))
          (pss_cons (ps_set (i:=10) sc_law.nd rfl (Or.inl rfl) (pe_op op_sub (pe_op op_add (pv 9) (pe_can (take T) hr (pa2 (pv 2) pe_int))) pe_int))
          (pss_cons (ps_set (i:=11) sc_law.nd rfl (Or.inl rfl) (pe_ix (ix_listK K) (pe_lst (pa2 pe_str pe_str)) (pe_t call_int1 T.b_int boot_int (pa1 (pe_cmpR op_lt (pv 9) (pv 10) (nomark _)))) (fun _ _=>rfl)))
          (pss_cut (ps_if (pt_cmpR op_eq (pe_can (take T) hr (pa2 (pv 2) pe_int)) pe_int (nomark _))
            (pss_cons (ps_set (i:=9) sc_law.nd rfl (Or.inl rfl) (pe_can (bad T) hr (pa2 (pv 2) (pv 7))))
            (pss_one (ps_set (i:=11) sc_law.nd rfl (Or.inl rfl) pe_str)))
            pss_nil)
          (pss_cut (ps_if (pt_cmpR op_eq (pe_can (take T) hr (pa2 (pv 2) pe_int)) pe_int (nomark _))
            (pss_cons (ps_set (i:=10) sc_law.nd rfl (Or.inl rfl) (pe_can (bad T) hr (pa2 (pv 2) (pv 7))))
            (pss_one (ps_set (i:=11) sc_law.nd rfl (Or.inl rfl) pe_str)))
            pss_nil)
          (pss_cut (ps_if (pt_cmpR op_eq (pe_can (take T) hr (pa2 (pv 2) pe_int)) pe_int (nomark _))
            (pss_cons (ps_set (i:=8) sc_law.nd rfl (Or.inl rfl) (pe_can (bad T) hr (pa2 (pv 2) (pe_op op_cat (pv 7) (pe_lst (pa3 (pe_un un_neg pe_int) (pv 5) (pe_op op_add (pv 5) pe_int)))))))
            (pss_one (ps_set (i:=11) sc_law.nd rfl (Or.inl rfl) pe_str)))
            pss_nil)
          (pss_cons (ps_set (i:=12) sc_law.nd rfl (Or.inl rfl) (pe_b (call_reprL hr) T.b_repr boot_repr (pa1 (pe_lst (pa3 (pv 8) (pv 9) (pv 10))))))
          (pss_one (ps_if (PW.pt (pw_or (pt_cmpR op_ne (pe_can (tried T) hr (pa2 (pv 4) (pe_lst (pa3 (pv 8) (pv 9) (pv 10))))) (pv 11) (nomark _)) (pw_or1 (pt_cmpR op_ne (pe_b (call_reprL hr) T.b_repr boot_repr (pa1 (pe_lst (pa3 (pv 8) (pv 9) (pv 10))))) (pv 12) (nomark _)))))
            (pss_one (ps_ret pe_bl))
            pss_nil))))))))))))))))))
      (pss_one (ps_ret pe_bl))),?_⟩
    refine ⟨_,rfl,a,_,rfl,.inl ha,_,_,rfl,_,_,rfl,_,rfl,by repeat' split <;> omega,by repeat' split <;> omega,?_⟩
    refine for_range (fun i σ HX=>∃ v1 v2 v3 v4 v5 v6 v7 v8 v9 v10 v11 v12,σ=[some (.ref a),v1,v2,v3,v4,v5,v6,v7,v8,v9,v10,v11,v12]∧Same H HX) ⟨none,none,none,none,none,none,none,none,none,none,none,none,rfl,Same.refl _⟩ ?_ ?_
    · rintro i σ HX hi ⟨v1,v2,v3,v4,v5,v6,v7,v8,v9,v10,v11,v12,rfl,sX⟩
      refine ⟨_,rfl,_,rfl,a,ns,_,rfl,sX.seq ha,by omega,fun nk=>⟨_,rfl,_,_,rfl,rfl,_,rfl,fun p H1 s1 hp0 hp1=>?_⟩⟩
      refine ⟨_,rfl,p,rfl,hp1,fun t b ps rows H2 ok c2 hT hp2 hTs ht0=>?_⟩
      obtain ⟨pa,ra,us,g1,g2,g3,g4⟩:=id hT
      refine ⟨_,rfl,t,_,_,_,rfl,rfl,.of g1,rfl,_,rfl,t,_,_,_,rfl,rfl,.of g1,rfl,_,rfl,t,_,_,_,rfl,rfl,.of g1,rfl,?_⟩
      intro x dx hx hdx hne
      have sM:Same H2 (upd (upd H2 dx (.own x)) x (.ins C dx [])):=(Same.upd hdx).trans (Same.upd (by rw [upd_ne (Ne.symm hne)]; exact hx))
      refine ⟨x,dx,b,pa,_,ps,ra,_,us,rows,rfl,upd_same,sM _ _ g2,.inl rfl,sM _ _ g3,.inl rfl,Paired.mono (fun _ _ z=>(z.same sM).g) g4,ok,fun H5 c5 hL5=>⟨rfl,?_⟩⟩
      have s25:Same H2 H5:=fun c o h=>c5 c o (sM c o h) (ne_of_none h hx)
      have hp5:=hp2.same s25
      have g15:=s25 _ _ g1
      have g35:=s25 _ _ g3
      have ul:us.length=rows.length:=Paired.length g4
      have rl:=(rowsB_ok ok.r).1
      have sX5:Same HX H5:=(sameBut s1 hp0 c2).trans s25
      refine ⟨_,rfl,t,_,_,_,rfl,rfl,.of g15,rfl,ra,_,rfl,.inl (.of g35),_,_,rfl,rfl,?_⟩
      rw [ul]
      have lad:∀ H',But p H5 H'→LadAt C H' x b ps rows:=fun H' c=>by
        obtain ⟨y1,y2,hy⟩:=hp5
        obtain ⟨ldx,a1,a2,a3,us',j1,j2,j3,j4,j5⟩:=hL5
        have tp:∀ b' ys,H5 b'=some (.tup ys)→H' b'=some (.tup ys):=fun b' ys h=>c _ _ h fun z=>by rw [z,hy] at h; cases h
        refine ⟨ldx,a1,a2,a3,us',c _ _ j1 (fun z=>by rw [z,hy] at j1; cases j1),tp _ _ j2,tp _ _ j3,tp _ _ j4,Paired.mono (fun _ _ z=>?_) j5⟩
        obtain ⟨r',l',e',q1,q2⟩:=z
        exact ⟨r',l',e',tp _ _ q1,tp _ _ q2⟩
      clear sM c5 hx hdx g1 g2 g3 g4 hT hTs
      refine ⟨_,rfl,by decide,by decide,?_⟩
      refine for_range (fun j σ HY=>∃ v6 v7 v8 v9 v10 v11 v12,σ=[some (.ref a),some (.int (0 + (i:Int))),some (.ref p),some (.ref t),some (.ref x),some (.int ((rows.length:Int) + 1)),v6,v7,v8,v9,v10,v11,v12]∧But p H5 HY∧PotAt HY p) ⟨_,_,_,_,_,_,_,rfl,fun _ _ h _=>h,hp5⟩ ?turn ?fin
      case fin =>
        rintro σ HY ⟨v6,v7,v8,v9,v10,v11,v12,rfl,cY,hpY⟩
        exact ⟨_,_,_,_,_,_,_,_,_,_,_,_,rfl,sX.trans (fun b' o h=>cY _ _ (sX5 _ _ h) (ne_of_none h hp0))⟩
      case turn =>
        rintro j σ HY hj ⟨v6,v7,v8,v9,v10,v11,v12,rfl,cY,hpY⟩
        have hW:W40=10000000000000000000000000000000000000000:=rfl
        have L11:11≤sizeLine:=by decide
        have L3:3≤sizeLine:=by decide
        have L14:14≤sizeLine:=by decide
        refine ⟨Nat.zero_le _,fun a1 n1=>⟨Nat.zero_le _,fun a2 n2 a3 n3=>⟨_,_,rfl,rfl,⟨by decide,by decide,by decide⟩,_,_,rfl,rfl,⟨by decide,by decide,by decide⟩,_,rfl,by decide,fun a4 n4=>⟨_,_,rfl,rfl,⟨by decide,by decide,by decide⟩,L11,fun O nO=>?_⟩⟩⟩⟩
        obtain ⟨HO,hHO⟩:∃ H',H'=upd (upd (upd (upd (upd HY a1 (.lst [])) a2 (.tup [])) a3 (.dK [])) a4 (.lst [.int 1])) O (.lst [.non,.str "1",.bl true,.bl false,.ref a1,.ref a2,.ref a3,.int (10 ^ (40:Int).toNat),.int (-(10 ^ (40:Int).toNat)),.ref a4,.int (10 ^ (50:Int).toNat)]):=⟨_,rfl⟩
        have t4:=Same.upd (o:=.lst [.non,.str "1",.bl true,.bl false,.ref a1,.ref a2,.ref a3,.int (10 ^ (40:Int).toNat),.int (-(10 ^ (40:Int).toNat)),.ref a4,.int (10 ^ (50:Int).toNat)]) nO
        have t3:=(Same.upd (o:=.lst [.int 1]) n4).trans t4
        have t2:=(Same.upd (o:=.dK []) n3).trans t3
        have t1:=(Same.upd (o:=.tup []) n2).trans t2
        have t0:=(Same.upd (o:=.lst []) n1).trans t1
        have f1:=hpY.same (Same.upd (o:=.lst []) n1)
        have f2:=f1.same (Same.upd (o:=.tup []) n2)
        have f3:=f2.same (Same.upd (o:=.dK []) n3)
        have f4:=f3.same (Same.upd (o:=.lst [.int 1]) n4)
        have oO:OddAt p HO O:=by
          refine ⟨_,by rw [hHO]; exact upd_same,f4.ne nO,rfl,fun y hy=>?_⟩
          have g1:HO a1=some (.lst []):=by rw [hHO]; exact t1 _ _ upd_same
          have g2:HO a2=some (.tup []):=by rw [hHO]; exact t2 _ _ upd_same
          have g3:HO a3=some (.dK []):=by rw [hHO]; exact t3 _ _ upd_same
          have g4:HO a4=some (.lst [.int 1]):=by rw [hHO]; exact t4 _ _ upd_same
          have bigA:¬ (-W40 < (10:Int) ^ (40:Int).toNat∧(10:Int) ^ (40:Int).toNat < W40):=by decide +kernel
          have bigB:¬ (-W40 < -((10:Int) ^ (40:Int).toNat)∧-((10:Int) ^ (40:Int).toNat) < W40):=by decide +kernel
          have bigC:¬ (-W40 < (10:Int) ^ (50:Int).toNat∧(10:Int) ^ (50:Int).toNat < W40):=by decide +kernel
          simp only [List.mem_cons,List.not_mem_nil,or_false] at hy
          rcases hy with rfl | rfl | rfl | rfl | rfl | rfl | rfl | rfl | rfl | rfl | rfl
          · exact odd_leaf .non rfl
          · exact odd_leaf (.str _ (by decide) (by decide)) rfl
          · exact odd_leaf (.bl _) rfl
          · exact odd_leaf (.bl _) rfl
          · exact ⟨_,.lst (hpY.ne n1) g1 .nil (by decide),rfl,fun _ _=>rfl⟩
          · exact ⟨_,.tup (f1.ne n2) g2 .nil (by decide),rfl,fun _ _=>rfl⟩
          · exact ⟨_,.dk (f2.ne n3) g3,rfl,fun _ _=>rfl⟩
          · exact odd_int (by decide +kernel) bigA
          · exact odd_int (by decide +kernel) bigB
          · exact ⟨_,.lst (f3.ne n4) g4 (.cons (.int 1 (by decide +kernel)) .nil) (by decide),rfl,fun _ _=>rfl⟩
          · exact odd_int (by decide +kernel) bigC
        have cO:But p H5 HO:=by rw [hHO]; exact cY.same t0
        have hpO:PotAt HO p:=by rw [hHO]; exact hpY.same t0
        rw [← hHO]
        clear t0 t1 t2 t3 t4 f1 f2 f3 f4 n1 n2 n3 n4 nO hHO
        refine ⟨_,rfl,_,rfl,p,_,rfl,hpO,by omega,Int.lt_trans (b:=100) (by omega) (by decide +kernel),fun dr H1 r0 r1 c1 p1=>?_⟩
        have o1:=oO.but c1
        have k1:=cO.trans c1
        refine ⟨_,rfl,p,rfl,p1,fun dw H2 hdw c2 p2=>⟨_,_,rfl,rfl,⟨by decide,by decide,by decide⟩,by decide,fun L nL=>?_⟩⟩
        have sL:Same H2 (upd H2 L (.lst [.int 1,.int 1,.int (10 ^ (10:Int).toNat)])):=Same.upd nL
        have uL:(upd H2 L (.lst [.int 1,.int 1,.int (10 ^ (10:Int).toNat)])) L=some (.lst [.int 1,.int 1,.int (10 ^ (10:Int).toNat)]):=upd_same
        have neL:=p2.ne nL
        generalize (upd H2 L (.lst [.int 1,.int 1,.int (10 ^ (10:Int).toNat)]))=H3 at sL uL
        refine ⟨_,rfl,p,_,rfl,p2.same sL,by decide,by decide +kernel,fun dk H4 q0 q1 c4 p4=>?_⟩
        obtain ⟨jv,hat,hjv⟩:=at3 (x:=.int 1) (y:=.int 1) (z:=.int (10 ^ (10:Int).toNat)) q0 q1
        obtain ⟨jj,rfl,hjj⟩:∃ jj:Int,jv=.int jj∧(jj=1∨jj=10000000000):=by
          rcases hjv with rfl | rfl | rfl
          · exact ⟨_,rfl,.inl rfl⟩
          · exact ⟨_,rfl,.inl rfl⟩
          · exact ⟨_,rfl,.inr (by decide +kernel)⟩
        refine ⟨L,_,_,_,rfl,rfl,.of (c4 _ _ uL neL),hat,_,_,rfl,rfl,.inr (by rcases hjj with rfl | rfl <;> decide),?_⟩
        obtain ⟨w1,w2⟩:=wide_le hdw hjj
        generalize dw * jj=bb at w1 w2
        have k4:=((k1.trans c2).same sL).trans c4
        have o4:=(((o1.but c2).but sL.but).but c4)
        refine ⟨_,rfl,_,rfl,p,_,rfl,p4,by decide,by decide +kernel,fun de H6 e0 e1 c6 p6=>⟨_,_,rfl,rfl,_,_,rfl,rfl,?_⟩⟩
        obtain ⟨ee,hee⟩:∃ ee:Int,ee=bb + de - 5:=⟨_,rfl⟩
        rw [← hee]
        refine ⟨by decide,fun L2 nL2=>⟨_,rfl,_,rfl,_,_,rfl,rfl,.inr ⟨_,rfl,L2,_,_,_,rfl,rfl,.of upd_same,due_ok (n:=rows.length) (r:=dr) r0 (by omega) (by omega) (by omega) (by omega) (by omega),?_⟩⟩⟩
        have s7:Same H6 (upd H6 L2 (.lst [.str "number",.str "told"])):=Same.upd nL2
        generalize (upd H6 L2 (.lst [.str "number",.str "told"]))=H7 at s7
        have hd62:∀ i:Int,-W40 - 10 < i→i < W40 + 10→i.natAbs < 10 ^ 62:=fun i x1 x2=>Nat.lt_of_lt_of_le (show i.natAbs < 100000000000000000000000000000000000000000 by omega) (by decide +kernel)
        have I7:Ins p O rows.length true H5 H7 (.int dr) (.int bb) (.int ee):=by
          refine ⟨⟨_,.leaf (.int _ (hd62 _ (by omega) (by omega)))⟩,⟨_,.leaf (.int _ (hd62 _ (by omega) (by omega)))⟩,⟨_,.leaf (.int _ (hd62 _ (by omega) (by omega)))⟩,fun _=>?_,(k4.trans c6).same s7,p6.same s7,(o4.but c6).but s7.but⟩
          show (decide ((0:Int)≤dr) && decide (dr≤(rows.length:Int)))=true
          rw [decide_eq_true r0,decide_eq_true (by omega:dr≤(rows.length:Int))]; rfl
        refine ⟨fun σ H'=>∃ vr vb ve,σ=[some (.ref a),some (.int (0 + (i:Int))),some (.ref p),some (.ref t),some (.ref x),some (.int ((rows.length:Int) + 1)),some (.int (0 + (j:Int))),some (.ref O),some vr,some vb,some ve,some (.str (verd rows.length vr vb ve)),v12]∧Ins p O rows.length true H5 H' vr vb ve,?_,?_⟩
        · refine ⟨_,rfl,p,_,rfl,I7.hp,by decide,by decide +kernel,fun d H8 _ _ c8 p8=>⟨rfl,_,rfl,?_⟩⟩
          have I8:=I7.but c8 p8
          generalize decide (V.int d=V.int 0)=kk
          cases kk with
          | false=>exact iteF ⟨_,_,_,rfl,I8⟩
          | true =>
            obtain ⟨ys,y1,y2,y3,y4⟩:=id I8.o
            refine iteT ⟨_,rfl,_,rfl,p,O,ys,rfl,p8,y1,y2,by omega,by omega,fun y hy H9 c9 p9=>?_⟩
            have I9:=I8.but c9 p9
            obtain ⟨dy,ty,wy,_⟩:=(y4 y hy).but c9
            exact ⟨_,y,_,by rw [verd_b (I9.w rfl) (span_b0 wy)]; rfl,{ I9 with b:=⟨_,ty⟩ }⟩
        rintro σ H8 ⟨vr,vb,ve,rfl,I8⟩
        refine ⟨fun σ H'=>∃ vr vb ve,σ=[some (.ref a),some (.int (0 + (i:Int))),some (.ref p),some (.ref t),some (.ref x),some (.int ((rows.length:Int) + 1)),some (.int (0 + (j:Int))),some (.ref O),some vr,some vb,some ve,some (.str (verd rows.length vr vb ve)),v12]∧Ins p O rows.length true H5 H' vr vb ve,?_,?_⟩
        · refine ⟨_,rfl,p,_,rfl,I8.hp,by decide,by decide +kernel,fun d H9 _ _ c9 p9=>⟨rfl,_,rfl,?_⟩⟩
          have I9:=I8.but c9 p9
          generalize decide (V.int d=V.int 0)=kk
          cases kk with
          | false=>exact iteF ⟨_,_,_,rfl,I9⟩
          | true =>
            obtain ⟨ys,y1,y2,y3,y4⟩:=id I9.o
            refine iteT ⟨_,rfl,_,rfl,p,O,ys,rfl,p9,y1,y2,by omega,by omega,fun y hy HA cA pA=>?_⟩
            have IA:=I9.but cA pA
            obtain ⟨dy,ty,wy,_⟩:=(y4 y hy).but cA
            exact ⟨_,_,y,by rw [verd_b (IA.w rfl) (span_e0 wy)]; rfl,{ IA with e:=⟨_,ty⟩ }⟩
        clear I8 vr vb ve
        rintro σ H9 ⟨vr,vb,ve,rfl,I9⟩
        refine ⟨fun σ H'=>∃ vr vb ve,σ=[some (.ref a),some (.int (0 + (i:Int))),some (.ref p),some (.ref t),some (.ref x),some (.int ((rows.length:Int) + 1)),some (.int (0 + (j:Int))),some (.ref O),some vr,some vb,some ve,some (.str (verd rows.length vr vb ve)),v12]∧Ins p O rows.length false H5 H' vr vb ve,?_,?_⟩
        · refine ⟨_,rfl,p,_,rfl,I9.hp,by decide,by decide +kernel,fun d HA _ _ cA pA=>⟨rfl,_,rfl,?_⟩⟩
          have IA:=I9.but cA pA
          generalize decide (V.int d=V.int 0)=kk
          cases kk with
          | false=>exact iteF ⟨_,_,_,rfl,{ IA with w:=fun z=>nomatch z }⟩
          | true =>
            obtain ⟨ys,y1,y2,y3,y4⟩:=id IA.o
            refine iteT ⟨_,rfl,_,rfl,_,rfl,_,rfl,_,rfl,_,_,rfl,rfl,L3,fun L nL=>⟨O,L,ys,_,rfl,rfl,Same.upd nL _ _ y1,upd_same,by rw [y3]; exact L14,fun L2 nL2=>?_⟩⟩
            have sL:Same HA (upd HA L (.lst [.int (-1),.int ((rows.length:Int) + 1),.int ((rows.length:Int) + 1 + 1)])):=Same.upd nL
            have pB:=pA.same sL
            have neL:=pB.ne nL2
            have sL2:=Same.upd (o:=.lst (ys++[.int (-1),.int ((rows.length:Int) + 1),.int ((rows.length:Int) + 1 + 1)])) nL2
            refine ⟨p,L2,_,rfl,pB.same sL2,upd_same,neL,by rw [List.length_append,y3]; exact Nat.succ_pos _,by rw [List.length_append,y3]; exact Nat.le_of_ble_eq_true rfl,fun y hy HB cB' pB'=>?_⟩
            have cB:=((sL.trans sL2).but (p:=p)).trans cB'
            have IB:=IA.but cB pB'
            have hy2:∃ dy,Tg p HB y dy∧whF 0 (rows.length:Int) y=false:=by
              rcases List.mem_append.mp hy with z | z
              · obtain ⟨dy,ty,_,wy⟩:=(y4 y z).but cB
                exact ⟨dy,ty,wy _ (by omega)⟩
              · simp only [List.mem_cons,List.not_mem_nil,or_false] at z
                have b1:∀ n:Int,n < 0∨(rows.length:Int) < n→whF 0 (rows.length:Int) (.int n)=false:=fun n hn=>by
                  show (decide ((0:Int)≤n) && decide (n≤(rows.length:Int)))=false
                  rcases hn with hn | hn
                  · rw [decide_eq_false (by omega:¬ (0:Int)≤n)]; rfl
                  · rw [decide_eq_false (by omega:¬ n≤(rows.length:Int)),Bool.and_false]
                rcases z with rfl | rfl | rfl
                · exact ⟨_,.leaf (.int _ (hd62 _ (by omega) (by omega))),b1 _ (by omega)⟩
                · exact ⟨_,.leaf (.int _ (hd62 _ (by omega) (by omega))),b1 _ (by omega)⟩
                · exact ⟨_,.leaf (.int _ (hd62 _ (by omega) (by omega))),b1 _ (by omega)⟩
            obtain ⟨dy,ty,wy⟩:=hy2
            exact ⟨y,_,_,by rw [verd_r wy]; rfl,{ IB with r:=⟨_,ty⟩,w:=fun z=>nomatch z }⟩
        clear I9 vr vb ve
        rintro σ HA ⟨vr,vb,ve,rfl,IA⟩
        obtain ⟨⟨d1,t1⟩,⟨d2,t2⟩,⟨d3,t3⟩,_,cA,pA,_⟩:=IA
        refine ⟨_,rfl,_,rfl,_,rfl,L3,fun L nL=>?_⟩
        have sL:Same HA (upd HA L (.lst [vr,vb,ve])):=Same.upd nL
        refine shown3 (t1.but sL.but) (t2.but sL.but) (t3.but sL.but) upd_same ?_
        generalize (upd HA L (.lst [vr,vb,ve]))=HB at sL
        refine ⟨_,rfl,_,rfl,_,rfl,_,rfl,L3,fun L2 nL2=>?_⟩
        have sL2:Same HA (upd HB L2 (.lst [vr,vb,ve])):=sL.trans (Same.upd nL2)
        refine ⟨x,L2,vr,vb,ve,b,ps,rows,rfl,upd_same,lad _ (cA.same sL2),ok,(t1.but sL2.but).kd,(t2.but sL2.but).kd,(t3.but sL2.but).kd,fun HC sC=>⟨_,rfl,rfl,_,rfl,iteN str_dec ?_⟩⟩
        have s3:=sL2.trans sC
        refine ⟨_,rfl,_,rfl,_,rfl,L3,fun L4 nL4=>?_⟩
        have sL3:Same HA (upd HC L4 (.lst [vr,vb,ve])):=s3.trans (Same.upd nL4)
        refine shown3 (t1.but sL3.but) (t2.but sL3.but) (t3.but sL3.but) upd_same ⟨_,rfl,rfl,_,rfl,iteN str_dec ?_⟩
        exact ⟨_,_,_,_,_,_,_,rfl,cA.same sL3,pA.same sL3⟩
    · rintro σ HX ⟨v1,v2,v3,v4,v5,v6,v7,v8,v9,v10,v11,v12,rfl,sX⟩
      exact k _
theorem law_all (T:Txt K mg C) {fa:Addr} (hmg:mg "law"=some (.ref fa)) :
    ∃ fd:FuncData,(∀ (s:Shared) (u:Value),BindsTo s fd ⟨[u],[]⟩ [("_law_script",u)])∧∀ base:Heap,K.In base→base.Ns mainGlobals mg→FnOk P w K mg base CX0 10 fa fd ["_law_script"] (sp_law K):=by
  obtain ⟨f,fd,F⟩:=T.f_law
  have e:=hmg.symm.trans F.m
  cases e
  obtain ⟨oc,od,kV,doc,pm,an,cdv,ct,osl,rfl,lk,hcd⟩:=F.fn.ex
  exact ⟨_,fun s u=>.of_eq rfl,fun base _ _=>law_ok T F.fn⟩
end
theorem walk {l:PySem.W.OpenLaw} {q:Program} {loose:List Str} {XP:(Str→Option Value)→Heap→Prop} {YP:World→Heap→Prop} {d:DefRec} {K:Params→PySem.W.Frag} (hn:l.most=some 63) (hdf:d.params.defaults=[])
    (hY:∀ (w:World) (h:Heap),YP w h→(K w.params).In h)
    (F:∀ (w:World) (mg:Str→Option Value) (fa:Addr) (h:Heap),(K w.params).In h→h.Ns mainGlobals mg→mg d.name=some (.ref fa) →
      ∃ fd:FuncData,(∀ (s:Shared) (u:Value),BindsTo s fd ⟨[u],[]⟩ [("_law_script",u)])∧∀ base:Heap,(K w.params).In base→base.Ns mainGlobals mg→FnOk l.prog w (K w.params) mg base CX0 10 fa fd ["_law_script"] (sp_law (K w.params))) :
    PySem.W.WalkO q loose XP YP l.row.toRowW d [] (fun f vs=>PySem.call f vs) :=
  L2.walk_of (n:=63) (k:=10) (x:="_law_script") (CX:=fun _=>CX0) (sp:=fun w=>sp_law (K w.params)) hn (by decide) hdf ⟨rfl,by decide,by decide,rfl⟩ hY F (fun _ _ a ns hl _ hS=>⟨a,ns,rfl,hS,hl,fun _=>rfl⟩) fun _ _ _ _ _ z=>z
end Pr
namespace L2
open PySem PyProof.Rows
variable {K:PySem.W.Frag} {x qual:Str} {st:Stmt} {g:Addr} {fd:FuncData} {p q r s t u v:Str}
end L2
namespace L2
open PySem PyProof.Rows
inductive FE (K:PySem.W.Frag) (x:Str) (st:Stmt):Prop
  | mk {f:Addr} {od an:Option Addr} {sl:Array (Option Value)} {oc kV dc pm cd ct:Value} (a:PySem.W.nsIn K mainGlobals x=some (some (.ref f))) (l:K.lookup f=some ⟨oc,od,.func (PySem.W.fnOf x x (defArgs st) (defBody st) (defScope st) .none kV dc pm an cd ct),sl⟩) (c:PySem.W.codeIn K cd x=true) (k:PySem.W.keepIn K (.ref f)=true):FE K x st
inductive FM (K:PySem.W.Frag) (C:Addr) (x q:Str) (st:Stmt):Prop
  | mk {f:Addr} {od an:Option Addr} {sl:Array (Option Value)} {oc kV dc pm cd ct:Value} (a:PySem.W.findIn K (.ref C) x=some (some (.ref f))) (i:PySem.W.isFn K (.ref f)=true) (l:K.lookup f=some ⟨oc,od,.func (PySem.W.fnOf x q (defArgs st) (defBody st) (defScope st) .none kV dc pm an cd ct),sl⟩) (c:PySem.W.codeIn K cd q=true) (k:PySem.W.keepIn K (.ref f)=true):FM K C x q st
variable {K:PySem.W.Frag} {h:Heap} {mg:Str→Option Value} {x q:Str} {st:Stmt} {ps:List Str} {C:Addr}
theorem FE.fn (X:K.In h) (G:h.Ns mainGlobals mg) (e:FE K x st) (b:∀ f fd,Fun K x x st f fd→Binds K fd ps []):∃ f fd,Fn K mg x st ps f fd:=by
  obtain ⟨a,l,c,k⟩:=e
  exact ⟨_,_,fun_mk l c k,PySem.W.mg_of X G a,b _ _ (fun_mk l c k)⟩
theorem FM.fm (e:FM K C x q st) (b:∀ f fd,Fun K x q st f fd→Binds K fd ps []):∃ f fd,Fm K C x q st ps f fd:=by
  obtain ⟨a,i,l,c,k⟩:=e
  exact ⟨_,_,fun_mk l c k,⟨a,i,k⟩,b _ _ (fun_mk l c k)⟩
theorem FM.mk_ (e:FM K C "__init__" q st) (mk:PySem.W.makesIn K C=true) (kc:PySem.W.keepIn K (.ref C)=true) (b:∀ f fd,Fun K "__init__" q st f fd→Binds K fd ps []):∃ f fd,Fun K "__init__" q st f fd∧Mk K C f∧Binds K fd ps []:=by
  obtain ⟨a,i,l,c,k⟩:=e
  exact ⟨_,_,fun_mk l c k,⟨mk,a,i,kc⟩,b _ _ (fun_mk l c k)⟩
end L2
namespace Pr
open PySem L2 PyProof.Rows
set_option maxHeartbeats 0 in
theorem txt_mk {K:PySem.W.Frag} {h:Heap} {mg:Str→Option Value} {C:Addr} (X:K.In h) (G:h.Ns mainGlobals mg) {t_WIDE_END:Tok} {t_NUMBER_END:Tok} {t_MOST_PARTS:Tok} {t_MOST_LENGTH:Tok} {t_MOST_ROWS:Tok} {t_MOST_SIZES:Tok} {t_MOST_SIZE:Tok} {q_Follower:Addr} {c_PeakError:Addr} {cd_PeakError:ClassData} {c_NoLadder:Addr} {cd_NoLadder:ClassData} {c_NoMoment:Addr} {cd_NoMoment:ClassData} {c_NoRoll:Addr} {cd_NoRoll:ClassData} {c_NoNumber:Addr} {cd_NoNumber:ClassData} {c_NoText:Addr} {cd_NoText:ClassData} {c_Gone:Addr} {cd_Gone:ClassData}
    (aC:PySem.W.nsIn K mainGlobals "Ladder"=some (some (.ref C)))
    (a1:FE K "empty" s_empty)
    (a2:FE K "in_order" s_in_order)
    (a3:FE K "place_of" s_place_of)
    (a4:FE K "bar_of" s_bar_of)
    (a5:FE K "joined" s_joined)
    (a6:FE K "is_whole" s_is_whole)
    (a7:FE K "is_whole_from" s_is_whole_from)
    (a8:FE K "is_wide" s_is_wide)
    (a9:FE K "is_list" s_is_list)
    (a10:FE K "is_list_from" s_is_list_from)
    (a11:FE K "need_moment" s_need_moment)
    (a12:FE K "need_roll" s_need_roll)
    (a13:FE K "need_number" s_need_number)
    (a14:FE K "bars_of" s_bars_of)
    (a15:FE K "gathered" s_gathered)
    (a16:FE K "unlike_bars" s_unlike_bars)
    (a17:FE K "number_of" s_number_of)
    (a18:FE K "is_part" s_is_part)
    (a19:FE K "are_parts" s_are_parts)
    (a20:FE K "are_sizes" s_are_sizes)
    (a21:FE K "is_row" s_is_row)
    (a22:FE K "are_rows" s_are_rows)
    (a23:FE K "bar_lengths" s_bar_lengths)
    (a24:FE K "_law_cell" s_law_cell)
    (a25:FE K "_law_pot" s_law_pot)
    (a26:FE K "_law_take" s_law_take)
    (a27:FE K "_law_wide" s_law_wide)
    (a28:FE K "_law_near" s_law_near)
    (a29:FE K "_law_parts" s_law_parts)
    (a30:FE K "_law_rows" s_law_rows)
    (a31:FE K "_law_ladder" s_law_ladder)
    (a32:FE K "_law_name" s_law_name)
    (a33:FE K "_law_tried" s_law_tried)
    (a34:FE K "_law_bad" s_law_bad)
    (a35:FE K "law" s_law)
    (c_WIDE_END:PySem.W.nsIn K mainGlobals "WIDE_END"=some (some (.int 1000000000000000000000000000000 t_WIDE_END)))
    (c_NUMBER_END:PySem.W.nsIn K mainGlobals "NUMBER_END"=some (some (.int 10000000000000000000000000000000000000000 t_NUMBER_END)))
    (c_MOST_PARTS:PySem.W.nsIn K mainGlobals "MOST_PARTS"=some (some (.int 12 t_MOST_PARTS)))
    (c_MOST_LENGTH:PySem.W.nsIn K mainGlobals "MOST_LENGTH"=some (some (.int 1000000000 t_MOST_LENGTH)))
    (c_MOST_ROWS:PySem.W.nsIn K mainGlobals "MOST_ROWS"=some (some (.int 4 t_MOST_ROWS)))
    (c_MOST_SIZES:PySem.W.nsIn K mainGlobals "MOST_SIZES"=some (some (.int 12 t_MOST_SIZES)))
    (c_MOST_SIZE:PySem.W.nsIn K mainGlobals "MOST_SIZE"=some (some (.int 1000 t_MOST_SIZE)))
    (b_ValueError:PySem.W.nsIn K mainGlobals "ValueError"=some none)
    (b_abs:PySem.W.nsIn K mainGlobals "abs"=some none)
    (b_all:PySem.W.nsIn K mainGlobals "all"=some none)
    (b_bool:PySem.W.nsIn K mainGlobals "bool"=some none)
    (b_divmod:PySem.W.nsIn K mainGlobals "divmod"=some none)
    (b_int:PySem.W.nsIn K mainGlobals "int"=some none)
    (b_isinstance:PySem.W.nsIn K mainGlobals "isinstance"=some none)
    (b_len:PySem.W.nsIn K mainGlobals "len"=some none)
    (b_list:PySem.W.nsIn K mainGlobals "list"=some none)
    (b_max:PySem.W.nsIn K mainGlobals "max"=some none)
    (b_min:PySem.W.nsIn K mainGlobals "min"=some none)
    (b_range:PySem.W.nsIn K mainGlobals "range"=some none)
    (b_repr:PySem.W.nsIn K mainGlobals "repr"=some none)
    (b_sorted:PySem.W.nsIn K mainGlobals "sorted"=some none)
    (b_sum:PySem.W.nsIn K mainGlobals "sum"=some none)
    (b_tuple:PySem.W.nsIn K mainGlobals "tuple"=some none)
    (pg:PySem.W.plainGet K C Str.empty=true)
    (hd:PySem.W.hasDictIn K C=true)
    (po:PySem.W.plainOver K C=true)
    (sa:PySem.W.findIn K (.ref C) "__setattr__"=some (some (.builtin "object.__setattr__")))
    (mk:PySem.W.makesIn K C=true)
    (kc:PySem.W.keepIn K (.ref C)=true)
    (n_open_lengths:PySem.W.findIn K (.ref C) "open_lengths"=some none)
    (n_part_lengths:PySem.W.findIn K (.ref C) "part_lengths"=some none)
    (n_steps:PySem.W.findIn K (.ref C) "steps"=some none)
    (m1:FM K C "__init__" "Ladder.__init__" sm_init)
    (m2:FM K C "begin" "Ladder.begin" sm_begin)
    (m3:FM K C "parts" "Ladder.parts" sm_parts)
    (m4:FM K C "rows" "Ladder.rows" sm_rows)
    (m5:FM K C "rolls" "Ladder.rolls" sm_rolls)
    (m6:FM K C "bar_at" "Ladder.bar_at" sm_bar_at)
    (aC_Follower:PySem.W.nsIn K mainGlobals "Follower"=some (some (.ref q_Follower)))
    (pg_Follower:PySem.W.plainGet K q_Follower Str.empty=true)
    (hd_Follower:PySem.W.hasDictIn K q_Follower=true)
    (po_Follower:PySem.W.plainOver K q_Follower=true)
    (sa_Follower:PySem.W.findIn K (.ref q_Follower) "__setattr__"=some (some (.builtin "object.__setattr__")))
    (mk_Follower:PySem.W.makesIn K q_Follower=true)
    (kc_Follower:PySem.W.keepIn K (.ref q_Follower)=true)
    (n_Follower_first_number:PySem.W.findIn K (.ref q_Follower) "first_number"=some none)
    (n_Follower_known:PySem.W.findIn K (.ref q_Follower) "known"=some none)
    (n_Follower_ladder:PySem.W.findIn K (.ref q_Follower) "ladder"=some none)
    (n_Follower_number_behind:PySem.W.findIn K (.ref q_Follower) "number_behind"=some none)
    (n_Follower_roll:PySem.W.findIn K (.ref q_Follower) "roll"=some none)
    (m_Follower_init:FM K q_Follower "__init__" "Follower.__init__" sm_Follower_init)
    (m_Follower_news:FM K q_Follower "news" "Follower.news" sm_Follower_news)
    (esp:PySem.W.specialIn K (.builtin "object.__class__") "__get__"=some (some (.builtin "getset_descriptor.__get__")))
    (etk:PySem.W.takesIn K (.builtin "object.__class__")=some true)
    (ea_PeakError:PySem.W.nsIn K mainGlobals "PeakError"=some (some (.ref c_PeakError)))
    (eo_PeakError:PySem.W.excIn K c_PeakError bmV "ValueError.__new__"=true)
    (eg_PeakError:PySem.W.findIn K (.ref c_PeakError) "__getattribute__"=some (some (.builtin "BaseException.__getattribute__")))
    (en_PeakError:PySem.W.findIn K (.ref c_PeakError) "__getattr__"=some none)
    (ef_PeakError:PySem.W.findIn K (.ref c_PeakError) "__class__"=some (some (.builtin "object.__class__")))
    (em_PeakError:PySem.W.mroIn K c_PeakError (.type "object")=some true)
    (es_PeakError:PySem.W.subIn K (.ref c_PeakError) (.type "BaseException")=some true)
    (ec_PeakError:PySem.W.clsIn K c_PeakError=some cd_PeakError)
    (ea_NoLadder:PySem.W.nsIn K mainGlobals "NoLadder"=some (some (.ref c_NoLadder)))
    (eo_NoLadder:PySem.W.excIn K c_NoLadder bmV "ValueError.__new__"=true)
    (eg_NoLadder:PySem.W.findIn K (.ref c_NoLadder) "__getattribute__"=some (some (.builtin "BaseException.__getattribute__")))
    (en_NoLadder:PySem.W.findIn K (.ref c_NoLadder) "__getattr__"=some none)
    (ef_NoLadder:PySem.W.findIn K (.ref c_NoLadder) "__class__"=some (some (.builtin "object.__class__")))
    (em_NoLadder:PySem.W.mroIn K c_NoLadder (.type "object")=some true)
    (es_NoLadder:PySem.W.subIn K (.ref c_NoLadder) (.type "BaseException")=some true)
    (ec_NoLadder:PySem.W.clsIn K c_NoLadder=some cd_NoLadder)
    (ea_NoMoment:PySem.W.nsIn K mainGlobals "NoMoment"=some (some (.ref c_NoMoment)))
    (eo_NoMoment:PySem.W.excIn K c_NoMoment bmV "ValueError.__new__"=true)
    (eg_NoMoment:PySem.W.findIn K (.ref c_NoMoment) "__getattribute__"=some (some (.builtin "BaseException.__getattribute__")))
    (en_NoMoment:PySem.W.findIn K (.ref c_NoMoment) "__getattr__"=some none)
    (ef_NoMoment:PySem.W.findIn K (.ref c_NoMoment) "__class__"=some (some (.builtin "object.__class__")))
    (em_NoMoment:PySem.W.mroIn K c_NoMoment (.type "object")=some true)
    (es_NoMoment:PySem.W.subIn K (.ref c_NoMoment) (.type "BaseException")=some true)
    (ec_NoMoment:PySem.W.clsIn K c_NoMoment=some cd_NoMoment)
    (ea_NoRoll:PySem.W.nsIn K mainGlobals "NoRoll"=some (some (.ref c_NoRoll)))
    (eo_NoRoll:PySem.W.excIn K c_NoRoll bmV "ValueError.__new__"=true)
    (eg_NoRoll:PySem.W.findIn K (.ref c_NoRoll) "__getattribute__"=some (some (.builtin "BaseException.__getattribute__")))
    (en_NoRoll:PySem.W.findIn K (.ref c_NoRoll) "__getattr__"=some none)
    (ef_NoRoll:PySem.W.findIn K (.ref c_NoRoll) "__class__"=some (some (.builtin "object.__class__")))
    (em_NoRoll:PySem.W.mroIn K c_NoRoll (.type "object")=some true)
    (es_NoRoll:PySem.W.subIn K (.ref c_NoRoll) (.type "BaseException")=some true)
    (ec_NoRoll:PySem.W.clsIn K c_NoRoll=some cd_NoRoll)
    (ea_NoNumber:PySem.W.nsIn K mainGlobals "NoNumber"=some (some (.ref c_NoNumber)))
    (eo_NoNumber:PySem.W.excIn K c_NoNumber bmV "ValueError.__new__"=true)
    (eg_NoNumber:PySem.W.findIn K (.ref c_NoNumber) "__getattribute__"=some (some (.builtin "BaseException.__getattribute__")))
    (en_NoNumber:PySem.W.findIn K (.ref c_NoNumber) "__getattr__"=some none)
    (ef_NoNumber:PySem.W.findIn K (.ref c_NoNumber) "__class__"=some (some (.builtin "object.__class__")))
    (em_NoNumber:PySem.W.mroIn K c_NoNumber (.type "object")=some true)
    (es_NoNumber:PySem.W.subIn K (.ref c_NoNumber) (.type "BaseException")=some true)
    (ec_NoNumber:PySem.W.clsIn K c_NoNumber=some cd_NoNumber)
    (ea_NoText:PySem.W.nsIn K mainGlobals "NoText"=some (some (.ref c_NoText)))
    (eo_NoText:PySem.W.excIn K c_NoText bmV "ValueError.__new__"=true)
    (eg_NoText:PySem.W.findIn K (.ref c_NoText) "__getattribute__"=some (some (.builtin "BaseException.__getattribute__")))
    (en_NoText:PySem.W.findIn K (.ref c_NoText) "__getattr__"=some none)
    (ef_NoText:PySem.W.findIn K (.ref c_NoText) "__class__"=some (some (.builtin "object.__class__")))
    (em_NoText:PySem.W.mroIn K c_NoText (.type "object")=some true)
    (es_NoText:PySem.W.subIn K (.ref c_NoText) (.type "BaseException")=some true)
    (ec_NoText:PySem.W.clsIn K c_NoText=some cd_NoText)
    (ea_Gone:PySem.W.nsIn K mainGlobals "Gone"=some (some (.ref c_Gone)))
    (eo_Gone:PySem.W.excIn K c_Gone bmV "ValueError.__new__"=true)
    (eg_Gone:PySem.W.findIn K (.ref c_Gone) "__getattribute__"=some (some (.builtin "BaseException.__getattribute__")))
    (en_Gone:PySem.W.findIn K (.ref c_Gone) "__getattr__"=some none)
    (ef_Gone:PySem.W.findIn K (.ref c_Gone) "__class__"=some (some (.builtin "object.__class__")))
    (em_Gone:PySem.W.mroIn K c_Gone (.type "object")=some true)
    (es_Gone:PySem.W.subIn K (.ref c_Gone) (.type "BaseException")=some true)
    (ec_Gone:PySem.W.clsIn K c_Gone=some cd_Gone)
    (kv_NoNumber:PySem.W.kitOne K (.ref c_NoNumber) (.type "ValueError")=some true)
    (e_NoNumber_PeakError:PySem.W.exmOne K (.ref c_NoNumber) (.ref c_PeakError)=some true)
    (k_NoNumber_NoLadder:PySem.W.kitOne K (.ref c_NoNumber) (.ref c_NoLadder)=some false)
    (k_NoNumber_NoMoment:PySem.W.kitOne K (.ref c_NoNumber) (.ref c_NoMoment)=some false)
    (k_NoNumber_NoRoll:PySem.W.kitOne K (.ref c_NoNumber) (.ref c_NoRoll)=some false)
    (k_NoNumber_NoNumber:PySem.W.kitOne K (.ref c_NoNumber) (.ref c_NoNumber)=some true)
    (k_NoNumber_NoText:PySem.W.kitOne K (.ref c_NoNumber) (.ref c_NoText)=some false)
    (k_NoNumber_Gone:PySem.W.kitOne K (.ref c_NoNumber) (.ref c_Gone)=some false)
    (kv_NoRoll:PySem.W.kitOne K (.ref c_NoRoll) (.type "ValueError")=some true)
    (e_NoRoll_PeakError:PySem.W.exmOne K (.ref c_NoRoll) (.ref c_PeakError)=some true)
    (k_NoRoll_NoLadder:PySem.W.kitOne K (.ref c_NoRoll) (.ref c_NoLadder)=some false)
    (k_NoRoll_NoMoment:PySem.W.kitOne K (.ref c_NoRoll) (.ref c_NoMoment)=some false)
    (k_NoRoll_NoRoll:PySem.W.kitOne K (.ref c_NoRoll) (.ref c_NoRoll)=some true)
    (k_NoRoll_NoNumber:PySem.W.kitOne K (.ref c_NoRoll) (.ref c_NoNumber)=some false)
    (k_NoRoll_NoText:PySem.W.kitOne K (.ref c_NoRoll) (.ref c_NoText)=some false)
    (k_NoRoll_Gone:PySem.W.kitOne K (.ref c_NoRoll) (.ref c_Gone)=some false):Txt K mg C :=
  ⟨a1.fn X G fun _ _ F=>F.b0 (by intros; rfl),
   a2.fn X G fun _ _ F=>F.b1 (by intros; rfl),
   a3.fn X G fun _ _ F=>F.b1 (by intros; rfl),
   a4.fn X G fun _ _ F=>F.b1 (by intros; rfl),
   a5.fn X G fun _ _ F=>F.b2 (by intros; rfl),
   a6.fn X G fun _ _ F=>F.b1 (by intros; rfl),
   a7.fn X G fun _ _ F=>F.b3 (by intros; rfl),
   a8.fn X G fun _ _ F=>F.b1 (by intros; rfl),
   a9.fn X G fun _ _ F=>F.b1 (by intros; rfl),
   a10.fn X G fun _ _ F=>F.b3 (by intros; rfl),
   a11.fn X G fun _ _ F=>F.b1 (by intros; rfl),
   a12.fn X G fun _ _ F=>F.b3 (by intros; rfl),
   a13.fn X G fun _ _ F=>F.b1 (by intros; rfl),
   a14.fn X G fun _ _ F=>F.b3 (by intros; rfl),
   a15.fn X G fun _ _ F=>F.b1 (by intros; rfl),
   a16.fn X G fun _ _ F=>F.b2 (by intros; rfl),
   a17.fn X G fun _ _ F=>F.b3 (by intros; rfl),
   a18.fn X G fun _ _ F=>F.b1 (by intros; rfl),
   a19.fn X G fun _ _ F=>F.b1 (by intros; rfl),
   a20.fn X G fun _ _ F=>F.b1 (by intros; rfl),
   a21.fn X G fun _ _ F=>F.b1 (by intros; rfl),
   a22.fn X G fun _ _ F=>F.b1 (by intros; rfl),
   a23.fn X G fun _ _ F=>F.b1 (by intros; rfl),
   a24.fn X G fun _ _ F=>F.b2 (by intros; rfl),
   a25.fn X G fun _ _ F=>F.b1 (by intros; rfl),
   a26.fn X G fun _ _ F=>F.b2 (by intros; rfl),
   a27.fn X G fun _ _ F=>F.b1 (by intros; rfl),
   a28.fn X G fun _ _ F=>F.b3 (by intros; rfl),
   a29.fn X G fun _ _ F=>F.b1 (by intros; rfl),
   a30.fn X G fun _ _ F=>F.b1 (by intros; rfl),
   a31.fn X G fun _ _ F=>F.b1 (by intros; rfl),
   a32.fn X G fun _ _ F=>F.b1 (by intros; rfl),
   a33.fn X G fun _ _ F=>F.b2 (by intros; rfl),
   a34.fn X G fun _ _ F=>F.b2 (by intros; rfl),
   a35.fn X G fun _ _ F=>F.b1 (by intros; rfl),
   ⟨_,PySem.W.mg_of X G c_WIDE_END⟩,
   ⟨_,PySem.W.mg_of X G c_NUMBER_END⟩,
   ⟨_,PySem.W.mg_of X G c_MOST_PARTS⟩,
   ⟨_,PySem.W.mg_of X G c_MOST_LENGTH⟩,
   ⟨_,PySem.W.mg_of X G c_MOST_ROWS⟩,
   ⟨_,PySem.W.mg_of X G c_MOST_SIZES⟩,
   ⟨_,PySem.W.mg_of X G c_MOST_SIZE⟩,
   PySem.W.mg_none_of X G b_ValueError,
   PySem.W.mg_none_of X G b_abs,
   PySem.W.mg_none_of X G b_all,
   PySem.W.mg_none_of X G b_bool,
   PySem.W.mg_none_of X G b_divmod,
   PySem.W.mg_none_of X G b_int,
   PySem.W.mg_none_of X G b_isinstance,
   PySem.W.mg_none_of X G b_len,
   PySem.W.mg_none_of X G b_list,
   PySem.W.mg_none_of X G b_max,
   PySem.W.mg_none_of X G b_min,
   PySem.W.mg_none_of X G b_range,
   PySem.W.mg_none_of X G b_repr,
   PySem.W.mg_none_of X G b_sorted,
   PySem.W.mg_none_of X G b_sum,
   PySem.W.mg_none_of X G b_tuple,
   ⟨pg,hd,po,sa⟩,
   PySem.W.mg_of X G aC,
   n_open_lengths,
   n_part_lengths,
   n_steps,
   m1.mk_ mk kc (fun _ _ F=>F.b4 (by intros; rfl)),
   m2.fm fun _ _ F=>F.b1 (by intros; rfl),
   m3.fm fun _ _ F=>F.b1 (by intros; rfl),
   m4.fm fun _ _ F=>F.b1 (by intros; rfl),
   m5.fm fun _ _ F=>F.b1 (by intros; rfl),
   m6.fm fun _ _ F=>F.b3 (by intros; rfl),
   (by rw [cOf_eq (PySem.W.mg_of X G aC_Follower)]; exact ⟨pg_Follower,hd_Follower,po_Follower,sa_Follower⟩),
   (by rw [cOf_eq (PySem.W.mg_of X G aC_Follower)]; exact PySem.W.mg_of X G aC_Follower),
   (by rw [cOf_eq (PySem.W.mg_of X G aC_Follower)]; exact n_Follower_first_number),
   (by rw [cOf_eq (PySem.W.mg_of X G aC_Follower)]; exact n_Follower_known),
   (by rw [cOf_eq (PySem.W.mg_of X G aC_Follower)]; exact n_Follower_ladder),
   (by rw [cOf_eq (PySem.W.mg_of X G aC_Follower)]; exact n_Follower_number_behind),
   (by rw [cOf_eq (PySem.W.mg_of X G aC_Follower)]; exact n_Follower_roll),
   (by rw [cOf_eq (PySem.W.mg_of X G aC_Follower)]; exact m_Follower_init.mk_ mk_Follower kc_Follower (fun _ _ F=>F.b5 (by intros; rfl))),
   (by rw [cOf_eq (PySem.W.mg_of X G aC_Follower)]; exact m_Follower_news.fm fun _ _ F=>F.b2 (by intros; rfl)),
   xc_mk (PySem.W.mg_of X G ea_PeakError) eo_PeakError eg_PeakError en_PeakError ef_PeakError esp etk em_PeakError es_PeakError ec_PeakError,
   xc_mk (PySem.W.mg_of X G ea_NoLadder) eo_NoLadder eg_NoLadder en_NoLadder ef_NoLadder esp etk em_NoLadder es_NoLadder ec_NoLadder,
   xc_mk (PySem.W.mg_of X G ea_NoMoment) eo_NoMoment eg_NoMoment en_NoMoment ef_NoMoment esp etk em_NoMoment es_NoMoment ec_NoMoment,
   xc_mk (PySem.W.mg_of X G ea_NoRoll) eo_NoRoll eg_NoRoll en_NoRoll ef_NoRoll esp etk em_NoRoll es_NoRoll ec_NoRoll,
   xc_mk (PySem.W.mg_of X G ea_NoNumber) eo_NoNumber eg_NoNumber en_NoNumber ef_NoNumber esp etk em_NoNumber es_NoNumber ec_NoNumber,
   xc_mk (PySem.W.mg_of X G ea_NoText) eo_NoText eg_NoText en_NoText ef_NoText esp etk em_NoText es_NoText ec_NoText,
   xc_mk (PySem.W.mg_of X G ea_Gone) eo_Gone eg_Gone en_Gone ef_Gone esp etk em_Gone es_Gone ec_Gone,
   (by rw [cOf_eq (PySem.W.mg_of X G ea_NoNumber)]; exact kv_NoNumber),
   (by rw [cOf_eq (PySem.W.mg_of X G ea_NoNumber),cOf_eq (PySem.W.mg_of X G ea_PeakError)]; exact e_NoNumber_PeakError),
   (by rw [cOf_eq (PySem.W.mg_of X G ea_NoNumber),cOf_eq (PySem.W.mg_of X G ea_NoLadder)]; exact k_NoNumber_NoLadder),
   (by rw [cOf_eq (PySem.W.mg_of X G ea_NoNumber),cOf_eq (PySem.W.mg_of X G ea_NoMoment)]; exact k_NoNumber_NoMoment),
   (by rw [cOf_eq (PySem.W.mg_of X G ea_NoNumber),cOf_eq (PySem.W.mg_of X G ea_NoRoll)]; exact k_NoNumber_NoRoll),
   (by rw [cOf_eq (PySem.W.mg_of X G ea_NoNumber)]; exact k_NoNumber_NoNumber),
   (by rw [cOf_eq (PySem.W.mg_of X G ea_NoNumber),cOf_eq (PySem.W.mg_of X G ea_NoText)]; exact k_NoNumber_NoText),
   (by rw [cOf_eq (PySem.W.mg_of X G ea_NoNumber),cOf_eq (PySem.W.mg_of X G ea_Gone)]; exact k_NoNumber_Gone),
   (by rw [cOf_eq (PySem.W.mg_of X G ea_NoRoll)]; exact kv_NoRoll),
   (by rw [cOf_eq (PySem.W.mg_of X G ea_NoRoll),cOf_eq (PySem.W.mg_of X G ea_PeakError)]; exact e_NoRoll_PeakError),
   (by rw [cOf_eq (PySem.W.mg_of X G ea_NoRoll),cOf_eq (PySem.W.mg_of X G ea_NoLadder)]; exact k_NoRoll_NoLadder),
   (by rw [cOf_eq (PySem.W.mg_of X G ea_NoRoll),cOf_eq (PySem.W.mg_of X G ea_NoMoment)]; exact k_NoRoll_NoMoment),
   (by rw [cOf_eq (PySem.W.mg_of X G ea_NoRoll)]; exact k_NoRoll_NoRoll),
   (by rw [cOf_eq (PySem.W.mg_of X G ea_NoRoll),cOf_eq (PySem.W.mg_of X G ea_NoNumber)]; exact k_NoRoll_NoNumber),
   (by rw [cOf_eq (PySem.W.mg_of X G ea_NoRoll),cOf_eq (PySem.W.mg_of X G ea_NoText)]; exact k_NoRoll_NoText),
   (by rw [cOf_eq (PySem.W.mg_of X G ea_NoRoll),cOf_eq (PySem.W.mg_of X G ea_Gone)]; exact k_NoRoll_Gone)⟩
end Pr
open PySem PySem.W PyProof.Rows
def PySem.W.Fast.tw6586298337692957092 : Nat := 0
def PySem.W.Fast.tw861502493610598483 : Nat := 0
def PySem.W.Fast.tw7723211159200377822 : Nat := 0
def PySem.W.Fast.tw8337472622827610452 : Nat := 0
def PySem.W.Fast.tw7774113678449685934 : Nat := 0
def PySem.W.Fast.tw5541027117622158468 : Nat := 0
def PySem.W.Fast.tw164352185463013549 : Nat := 0
def PySem.W.Fast.tw1116146690788884255 : Nat := 0
def PySem.W.Fast.tw7249309231779463276 : Nat := 0
def PySem.W.Fast.tw11860417248823426918 : Nat := 0
def PySem.W.Fast.tw15916013147842562308 : Nat := 0
def PySem.W.Fast.tw9705477135408329381 : Nat := 0
def PySem.W.Fast.tw16728255500844073214 : Nat := 0
def PySem.W.Fast.tw11485923223005469204 : Nat := 0
def PySem.W.Fast.tw9266374589662076923 : Nat := 0
def PySem.W.Fast.tw9557541446872002656 : Nat := 0
def PySem.W.Fast.tw3278676997906506929 : Nat := 0
def PySem.W.Fast.tw4046790133079468173 : Nat := 0
def PySem.W.Fast.tw9628386662896749208 : Nat := 0
def PySem.W.Fast.tw13669536469129627823 : Nat := 0
def PySem.W.Fast.tw7867829370405329436 : Nat := 0
def PySem.W.Fast.tw10910644110388302437 : Nat := 0
def PySem.W.Fast.tw8997383693586321770 : Nat := 0
def PySem.W.Fast.tw1205274952441263945 : Nat := 0
def PySem.W.Fast.tw12103309309050226592 : Nat := 0
def PySem.W.Fast.tw14689541978594310382 : Nat := 0
def PySem.W.Fast.tw8966131664815694762 : Nat := 0
def PySem.W.Fast.tw1054878856607437042 : Nat := 0
def PySem.W.Fast.tw8737599933303070863 : Nat := 0
def PySem.W.Fast.tw13956191218907399338 : Nat := 0
def PySem.W.Fast.tw12459912946257978736 : Nat := 0
def PySem.W.Fast.tw730961619353400375 : Nat := 0
def PySem.W.Fast.tw8865387616306378214 : Nat := 0
def PySem.W.Fast.tw17963105932079019327 : Nat := 0
def PySem.W.Fast.tw17339309145561079191 : Nat := 0
def PySem.W.Fast.tw2483420100392427323 : Nat := 0
def PySem.W.Fast.tw8331849164307833061 : Nat := 0
def PySem.W.Fast.tw8002303944043701648 : Nat := 0
def PySem.W.Fast.tw11925974296885277660 : Nat := 0
def PySem.W.Fast.tw9646623106273453227 : Nat := 0
def PySem.W.Fast.tw5459702643516471331 : Nat := 0
def PySem.W.Fast.tw17318462890700432884 : Nat := 0
def PySem.W.Fast.tw9879335643197240621 : Nat := 0
set_option maxHeartbeats 0 in
open_top hd for PySem.Challenge.rw_peakroll_k53_no_spans
set_option maxHeartbeats 0 in
theorem PySem.Challenge.cw_peakroll_k53_no_spans_holds : PySem.Challenge.rw_peakroll_k53_no_spans.Holds := by
  refine hd ?_
  k_fill
  refine Pr.walk (l := PySem.Challenge.rw_peakroll_k53_no_spans) rfl rfl (fun w h Y => PySem.W.kIn_of Y) ?F
  case F =>
    intro w mg fa h KX G hmg
    have T : ∃ C, Pr.Txt (L2.KOf KX) mg C := by
      dsimp only [L2.KOf]
      refine' ⟨_, Pr.txt_mk KX G ?aC ?a1 ?a2 ?a3 ?a4 ?a5 ?a6 ?a7 ?a8 ?a9 ?a10 ?a11 ?a12 ?a13 ?a14 ?a15 ?a16 ?a17 ?a18 ?a19 ?a20 ?a21 ?a22 ?a23 ?a24 ?a25 ?a26 ?a27 ?a28 ?a29 ?a30 ?a31 ?a32 ?a33 ?a34 ?a35 ?c_WIDE_END ?c_NUMBER_END ?c_MOST_PARTS ?c_MOST_LENGTH ?c_MOST_ROWS ?c_MOST_SIZES ?c_MOST_SIZE ?b_ValueError ?b_abs ?b_all ?b_bool ?b_divmod ?b_int ?b_isinstance ?b_len ?b_list ?b_max ?b_min ?b_range ?b_repr ?b_sorted ?b_sum ?b_tuple ?pg ?hd ?po ?sa ?mk ?kc ?n_open_lengths ?n_part_lengths ?n_steps ?m1 ?m2 ?m3 ?m4 ?m5 ?m6 ?aC_Follower ?pg_Follower ?hd_Follower ?po_Follower ?sa_Follower ?mk_Follower ?kc_Follower ?n_Follower_first_number ?n_Follower_known ?n_Follower_ladder ?n_Follower_number_behind ?n_Follower_roll ?m_Follower_init ?m_Follower_news ?esp ?etk ?ea_PeakError ?eo_PeakError ?eg_PeakError ?en_PeakError ?ef_PeakError ?em_PeakError ?es_PeakError ?ec_PeakError ?ea_NoLadder ?eo_NoLadder ?eg_NoLadder ?en_NoLadder ?ef_NoLadder ?em_NoLadder ?es_NoLadder ?ec_NoLadder ?ea_NoMoment ?eo_NoMoment ?eg_NoMoment ?en_NoMoment ?ef_NoMoment ?em_NoMoment ?es_NoMoment ?ec_NoMoment ?ea_NoRoll ?eo_NoRoll ?eg_NoRoll ?en_NoRoll ?ef_NoRoll ?em_NoRoll ?es_NoRoll ?ec_NoRoll ?ea_NoNumber ?eo_NoNumber ?eg_NoNumber ?en_NoNumber ?ef_NoNumber ?em_NoNumber ?es_NoNumber ?ec_NoNumber ?ea_NoText ?eo_NoText ?eg_NoText ?en_NoText ?ef_NoText ?em_NoText ?es_NoText ?ec_NoText ?ea_Gone ?eo_Gone ?eg_Gone ?en_Gone ?ef_Gone ?em_Gone ?es_Gone ?ec_Gone ?kv_NoNumber ?e_NoNumber_PeakError ?k_NoNumber_NoLadder ?k_NoNumber_NoMoment ?k_NoNumber_NoRoll ?k_NoNumber_NoNumber ?k_NoNumber_NoText ?k_NoNumber_Gone ?kv_NoRoll ?e_NoRoll_PeakError ?k_NoRoll_NoLadder ?k_NoRoll_NoMoment ?k_NoRoll_NoRoll ?k_NoRoll_NoNumber ?k_NoRoll_NoText ?k_NoRoll_Gone⟩
      (case aC => k_is)
      (case a1 | a2 | a3 | a4 | a5 | a6 | a7 | a8 | a9 | a10 | a11 | a12 | a13 | a14 | a15 | a16 | a17 | a18 | a19 | a20 | a21 | a22 | a23 | a24 | a25 | a26 | a27 | a28 | a29 | a30 | a31 | a32 | a33 | a34 | a35 => apply L2.FE.mk; k_is; k_is; k_is; k_is)
      (case c_WIDE_END | c_NUMBER_END | c_MOST_PARTS | c_MOST_LENGTH | c_MOST_ROWS | c_MOST_SIZES | c_MOST_SIZE | b_ValueError | b_abs | b_all | b_bool | b_divmod | b_int | b_isinstance | b_len | b_list | b_max | b_min | b_range | b_repr | b_sorted | b_sum | b_tuple | pg | hd | po | sa | mk | kc | n_open_lengths | n_part_lengths | n_steps => k_is)
      (case m1 | m2 | m3 | m4 | m5 | m6 => apply L2.FM.mk; k_is; k_is; k_is; k_is; k_is)
      (case aC_Follower | pg_Follower | hd_Follower | po_Follower | sa_Follower | mk_Follower | kc_Follower | n_Follower_first_number | n_Follower_known | n_Follower_ladder | n_Follower_number_behind | n_Follower_roll => k_is)
      (case m_Follower_init | m_Follower_news => apply L2.FM.mk; k_is; k_is; k_is; k_is; k_is)
      (case esp | etk => k_is)
      (case ea_PeakError => k_is)
      (case eo_PeakError => k_exc)
      (case eg_PeakError => k_is)
      (case en_PeakError => k_is)
      (case ef_PeakError => k_is)
      (case em_PeakError => k_is)
      (case es_PeakError => k_is)
      (case ec_PeakError => k_is)
      (case ea_NoLadder => k_is)
      (case eo_NoLadder => k_exc)
      (case eg_NoLadder => k_is)
      (case en_NoLadder => k_is)
      (case ef_NoLadder => k_is)
      (case em_NoLadder => k_is)
      (case es_NoLadder => k_is)
      (case ec_NoLadder => k_is)
      (case ea_NoMoment => k_is)
      (case eo_NoMoment => k_exc)
      (case eg_NoMoment => k_is)
      (case en_NoMoment => k_is)
      (case ef_NoMoment => k_is)
      (case em_NoMoment => k_is)
      (case es_NoMoment => k_is)
      (case ec_NoMoment => k_is)
      (case ea_NoRoll => k_is)
      (case eo_NoRoll => k_exc)
      (case eg_NoRoll => k_is)
      (case en_NoRoll => k_is)
      (case ef_NoRoll => k_is)
      (case em_NoRoll => k_is)
      (case es_NoRoll => k_is)
      (case ec_NoRoll => k_is)
      (case ea_NoNumber => k_is)
      (case eo_NoNumber => k_exc)
      (case eg_NoNumber => k_is)
      (case en_NoNumber => k_is)
      (case ef_NoNumber => k_is)
      (case em_NoNumber => k_is)
      (case es_NoNumber => k_is)
      (case ec_NoNumber => k_is)
      (case ea_NoText => k_is)
      (case eo_NoText => k_exc)
      (case eg_NoText => k_is)
      (case en_NoText => k_is)
      (case ef_NoText => k_is)
      (case em_NoText => k_is)
      (case es_NoText => k_is)
      (case ec_NoText => k_is)
      (case ea_Gone => k_is)
      (case eo_Gone => k_exc)
      (case eg_Gone => k_is)
      (case en_Gone => k_is)
      (case ef_Gone => k_is)
      (case em_Gone => k_is)
      (case es_Gone => k_is)
      (case ec_Gone => k_is)
      (case kv_NoNumber => kit_is)
      (case e_NoNumber_PeakError => kts_exm)
      (case k_NoNumber_NoLadder => kit_is)
      (case k_NoNumber_NoMoment => kit_is)
      (case k_NoNumber_NoRoll => kit_is)
      (case k_NoNumber_NoNumber => kit_is)
      (case k_NoNumber_NoText => kit_is)
      (case k_NoNumber_Gone => kit_is)
      (case kv_NoRoll => kit_is)
      (case e_NoRoll_PeakError => kts_exm)
      (case k_NoRoll_NoLadder => kit_is)
      (case k_NoRoll_NoMoment => kit_is)
      (case k_NoRoll_NoRoll => kit_is)
      (case k_NoRoll_NoNumber => kit_is)
      (case k_NoRoll_NoText => kit_is)
      (case k_NoRoll_Gone => kit_is)
    obtain ⟨C, T⟩ := T
    exact Pr.law_all T hmg
