import PyProof.Rows.All
import Wide.All
import OpenK.AllK
import Wide.FinOn
import Lean
import PyProof.EqAt
import PyProof.EqKinds
import PyProof.TupleCall
import KE.KTryMore
import PyProof.RaisesMany
import PyProof.RulesAs
import PyProof.ExcBaseAll.ValueError
import PyProof.NsDelKeeps
import KE.KIsNot
import PyProof.ExcArgs
import KE.RegKIsAll
import KE.RegKTryMore
import KE.KSortTup
import PyProof.LongRange
import PyProof.SetRoads
import PyProof.CollectWalk
import PyProof.Walks
import PyProof.Rows.SortShell
import KE.KDictSum
import PyProof.Rows.SortWalk
import KE.KSortAsk
import PyProof.TupleOfSeq
import PySem.Challenge.RW_peakroll_k43_whole_bars_of_covers
set_option Elab.async false
set_option linter.all false
set_option maxRecDepth 100000
namespace L2
open PySem PySem.Spec PyProof.Rows
abbrev Key:=Sum Int Str
def keyIs:Key→Value→Bool
  | .inl k,v=>Value.isInt k v
  | .inr x,v=>Value.isStrOf x v
def keyH (w:World):Key→Int
  | .inl k=>hashInt k
  | .inr x=>hashStr w x
theorem keyIs_shape:∀ {k:Key} {v:Value},keyIs k v=true→(∃ i t,k=Sum.inl i∧v=Value.int i t)∨(∃ x t,k=Sum.inr x∧v=Value.str x t)
  | .inl i,v,h=>by
    obtain ⟨t,e⟩:=Value.isInt_shape (k:=i) (v:=v) h
    exact .inl ⟨i,t,rfl,e⟩
  | .inr x,v,h=>by
    obtain ⟨t,e⟩:=Value.isStrOf_shape (x:=x) (v:=v) h
    exact .inr ⟨x,t,rfl,e⟩
theorem key_ll (a b:Int):decide ((Sum.inl a:Key)=Sum.inl b)=(a == b):=by
  by_cases e:a=b
  · subst e; simp
  · have h:¬ (Sum.inl a:Key)=Sum.inl b:=fun q=>e (Sum.inl.inj q)
    rw [decide_eq_false h]
    exact (beq_eq_false_iff_ne.mpr e).symm
theorem key_rr (a b:Str):decide ((Sum.inr a:Key)=Sum.inr b)=decide (a=b):=by
  by_cases e:a=b
  · subst e; simp
  · have h:¬ (Sum.inr a:Key)=Sum.inr b:=fun q=>e (Sum.inr.inj q)
    rw [decide_eq_false h,decide_eq_false e]
theorem key_lr (a:Int) (b:Str):decide ((Sum.inl a:Key)=Sum.inr b)=false:=decide_eq_false (fun q=>nomatch q)
theorem key_rl (a:Str) (b:Int):decide ((Sum.inr a:Key)=Sum.inl b)=false:=decide_eq_false (fun q=>nomatch q)
def mixKind (prog:Program) (w:World):PySem.KeyKind prog w Key where
  is:=keyIs
  hash:=keyH w
  inj:=fun v a b ha hb=>by
    rcases keyIs_shape ha with ⟨i,t,rfl,rfl⟩ | ⟨x,t,rfl,rfl⟩
    · rcases keyIs_shape hb with ⟨j,u,rfl,e⟩ | ⟨y,u,rfl,e⟩
      · injection e with e1 _; rw [e1]
      · exact nomatch e
    · rcases keyIs_shape hb with ⟨j,u,rfl,e⟩ | ⟨y,u,rfl,e⟩
      · exact nomatch e
      · injection e with e1 _; rw [e1]
  byValue:=fun k v h=>by
    rcases keyIs_shape h with ⟨i,t,rfl,rfl⟩ | ⟨x,t,rfl,rfl⟩ <;> rfl
  pyHash:=fun hv h=>by
    rcases keyIs_shape hv with ⟨i,t,rfl,rfl⟩ | ⟨x,t,rfl,rfl⟩
    · exact wpAny_pyHash_int h
    · exact wpAny_pyHash_str h
  eqBool:=fun hu hv h=>by
    rcases keyIs_shape hu with ⟨i,t,rfl,rfl⟩ | ⟨x,t,rfl,rfl⟩
    · rcases keyIs_shape hv with ⟨j,u,rfl,rfl⟩ | ⟨y,u,rfl,rfl⟩
      · rw [key_ll] at h; exact wpAny_eqBool_int h
      · rw [key_lr] at h; exact SeqAt.EqAt.int_str i t y u _ _ _ _ h
    · rcases keyIs_shape hv with ⟨j,u,rfl,rfl⟩ | ⟨y,u,rfl,rfl⟩
      · rw [key_rl] at h; exact SeqAt.EqAt.str_int x t j u _ _ _ _ h
      · rw [key_rr] at h; exact wpAny_eqBool_str h
  «strs»:=fun k x t v h=>by
    rcases keyIs_shape h with ⟨i,u,rfl,e⟩ | ⟨y,u,rfl,e⟩
    · exact nomatch e
    · injection e with e1 _
      subst e1
      cases v <;> rfl
end L2
namespace L2
open PySem PySem.Spec PyProof.Rows
inductive V where
  | non | bl (b:Bool) | int (i:Int) | str (x:Str) | byt (b:Array UInt8) | flt (b:UInt64) | ref (a:Addr) | ty (n:String)
  deriving DecidableEq
def RelV:V→Value→Prop
  | .non,u=>u=Value.none
  | .bl b,u=>u=Value.bool b
  | .int i,u=>∃ t,u=Value.int i t
  | .str x,u=>∃ t,u=Value.str x t
  | .byt b,u=>∃ t,u=Value.bytes b t
  | .flt b,u=>∃ t,u=Value.float b t
  | .ref a,u=>u=Value.ref a
  | .ty n,u=>u=Value.type n
abbrev Vals:List V→List Value→Prop:=Paired RelV
theorem Vals.length {xs:List V} {us:List Value} (r:Vals xs us):xs.length=us.length:=Paired.length r
theorem Vals.get:∀ {xs:List V} {us:List Value} {i:Nat} {x:V},Vals xs us→xs[i]?=some x→∃ u,us[i]?=some u∧RelV x u
  | _,_,_,_,.nil,e=>by simp at e
  | _,_,0,_,.cons r _,e=>by simp at e; subst e; exact ⟨_,rfl,r⟩
  | _,_,i + 1,x,.cons _ t,e=>by
    obtain ⟨u,h1,h2⟩:=Vals.get (i:=i) (x:=x) t (by simpa using e)
    exact ⟨u,by simpa using h1,h2⟩
theorem Vals.set {x:V} {u:Value} (r:RelV x u):∀ {xs:List V} {us:List Value} (i:Nat),Vals xs us→Vals (xs.set i x) (us.set i u)
  | _,_,_,.nil=>.nil
  | _,_,0,.cons _ t=>.cons r t
  | _,_,i + 1,.cons q t=>.cons q (Vals.set r i t)
theorem Vals.append:∀ {xs ys:List V} {us ws:List Value},Vals xs us→Vals ys ws→Vals (xs++ys) (us++ws)
  | _,_,_,_,.nil,s=>s
  | _,_,_,_,.cons r t,s=>.cons r (Vals.append t s)
theorem Vals.take:∀ {xs:List V} {us:List Value} (n:Nat),Vals xs us→Vals (xs.take n) (us.take n)
  | _,_,0,_=>.nil
  | _,_,_ + 1,.nil=>.nil
  | _,_,n + 1,.cons r t=>.cons r (Vals.take n t)
theorem Vals.drop:∀ {xs:List V} {us:List Value} (n:Nat),Vals xs us→Vals (xs.drop n) (us.drop n)
  | _,_,0,r=>r
  | _,_,_ + 1,.nil=>.nil
  | _,_,n + 1,.cons _ t=>Vals.drop n t
def RelO:Option V→Option Value→Prop
  | some v,some u=>RelV v u
  | none,none=>True
  | _,_=>False
def KV {κ:Type}:List (κ × V)→List (κ × Value)→Prop:=Paired fun (p:κ × V) (q:κ × Value)=>p.1=q.1∧RelV p.2 q.2
def kV:Key→V
  | .inl i=>.int i
  | .inr x=>.str x
inductive HO where
  | lst (xs:List V)
  | tup (xs:List V)
  | dK (kvs:List (Key × V)) | dT (kvs:List (List Key × V))
  | set (S:Int→Bool) (n:Nat)
  | ins (C dx:Addr) (fs:List (Str × V))
  | own (x:Addr)
  | xd (fs:List (Str × V))
  | met (f x:Addr)
  | rng (lo hi:Int)
  | frz (o:Obj) (u:HO)
  | tbl (ps:Array Value)
  | ext (φ:Heap→Prop)
abbrev Hp:=Addr→Option HO
def upd (H:Hp) (a:Addr) (o:HO):Hp:=fun b=>if b=a then some o else H b
theorem upd_same {H:Hp} {a:Addr} {o:HO}:upd H a o a=some o:=by unfold upd; rw [if_pos rfl]
theorem upd_ne {H:Hp} {a b:Addr} {o:HO} (h:b≠a):upd H a o b=H b:=by unfold upd; rw [if_neg h]
theorem ne_of {H:Hp} {a b:Addr} {o u:HO} (h:H a=some o) (h':H b=some u) (d:o≠u):a≠b:=by
  intro e; subst e; rw [h] at h'; exact d (Option.some.inj h')
theorem ne_of_none {H:Hp} {a b:Addr} {o:HO} (h:H a=some o) (h':H b=none):a≠b:=by
  intro e; subst e; rw [h] at h'; cases h'
section
variable (P:Program) (w:World)
def ObjOk (H:Hp) (h:Heap) (a:Addr):HO→Prop
  | .lst xs=>xs.length≤sizeLine∧∃ (its:List Value) (n:Nat),Vals xs its∧h.get? a=some { cls:=.type "list",data:=.seq its.toArray n }
  | .tup xs=>xs.length≤sizeLine∧∃ its:List Value,Vals xs its∧IsTup h a its.toArray
  | .dK kvs=>kvs.length≤sizeLine∧(a == sysModules)=false∧∃ vs,KV kvs vs∧h.DictOf (mixKind P w) a vs
  | .dT kvs=>kvs.length≤sizeLine∧(a == sysModules)=false∧∃ xs:List (List Key × Addr × Value),
      Paired (fun (p:List Key × V) (q:List Key × Addr × Value)=>p.1=q.1∧H q.2.1=some (.tup (p.1.map kV))∧RelV p.2 q.2.2) kvs xs ∧
      ∃ o es ep,h.get? a=some o∧o.ExactDict∧o.data=.dict es ep∧es.toList=xs.map (entryOfKey (tupleKind (mixKind P w)))∧(xs.map (·.1)).Nodup
  | .set S n=>h.SetOf (intKind P w) a S n
  | .ins C dx fs=>H dx=some (.own a)∧fs.length≤1000∧dx≠a∧h.get? a=some (PySem.W.instObj C dx) ∧
      ∃ mA,h.Ns1 dx mA∧(∀ f,RelO (fs.lookup f) (mA f))∧PySem.Within mA (fs.map (·.1))
  | .own _=>∃ o,h.get? a=some o
  | .xd fs=>∃ mA,h.Ns1 a mA∧∀ f,RelO (fs.lookup f) (mA f)
  | .rng lo hi=>∃ t u v,h.get? a=some { cls:=.type "range",data:=.fields #[.int lo t,.int hi u,.int 1 v] }
  | .frz o u=>h.get? a=some o∧ObjOk H h a u
  | .tbl ps=>h.get? a=some { cls:=.none,data:=.fields ps }
  | .met f x=>h.get? a=some (PySem.W.methodObj (.ref f) (.ref x))
  | .ext φ=>φ h∧(∃ o,h.get? a=some o)∧∀ h1 h2:Heap,φ h1→(∀ o,h1.get? a=some o→h2.get? a=some o)→φ h2
def HOk (H:Hp) (h:Heap):Prop:=∀ a o,H a=some o→ObjOk P w H h a o
end
section
variable {P:Program} {w:World} {H H':Hp} {h h':Heap} {a:Addr} {o:HO}
theorem ObjOk.lt (x:ObjOk P w H h a o):a < h.objs.size:=by
  cases o with
  | lst xs=>obtain ⟨_,_,_,_,e⟩:=x; exact Heap.lt_size e
  | tup xs=>obtain ⟨_,_,_,p⟩:=x; exact p.lt
  | dK kvs=>obtain ⟨_,_,_,_,o,_,_,e,_⟩:=x; exact Heap.lt_size e
  | dT kvs=>obtain ⟨_,_,_,_,o,_,_,e,_⟩:=x; exact Heap.lt_size e
  | set S n=>obtain ⟨o,_,_,_,e,_⟩:=x; exact Heap.lt_size e
  | ins C dx fs=>obtain ⟨_,_,_,e,_⟩:=x; exact Heap.lt_size e
  | own y=>obtain ⟨_,e⟩:=x; exact Heap.lt_size e
  | xd fs=>obtain ⟨_,⟨_,_,_,e,_⟩,_⟩:=x; exact Heap.lt_size e
  | rng lo hi=>obtain ⟨_,_,_,e⟩:=x; exact Heap.lt_size e
  | frz ob u=>obtain ⟨e,_⟩:=x; exact Heap.lt_size e
  | tbl ps=>exact Heap.lt_size (show h.get? a=some _ from x)
  | met f y=>exact Heap.lt_size (show h.get? a=some _ from x)
  | ext φ=>obtain ⟨_,⟨_,e⟩,_⟩:=x; exact Heap.lt_size e
theorem Paired.mapP {α β:Type} {F G:α→β→Prop}:∀ {l₁:List α} {l₂:List β},Paired F l₁ l₂→(∀ a b,F a b→G a b)→Paired G l₁ l₂
  | _,_,.nil,_=>.nil
  | _,_,.cons r t,f=>.cons (f _ _ r) (Paired.mapP t f)
theorem ObjOk.stay (x:ObjOk P w H h a o) (k:∀ b u,(b=a∨H b=some (.own a))→h.get? b=some u→h'.get? b=some u)
    (ho:∀ b,H b=some (.own a)→H' b=some (.own a)) (ht:∀ b xs,H b=some (.tup xs)→H' b=some (.tup xs)):ObjOk P w H' h' a o:=by
  induction o with
  | lst xs=>obtain ⟨z,its,n,r,e⟩:=x; exact ⟨z,its,n,r,k _ _ (.inl rfl) e⟩
  | tup xs=>obtain ⟨z,its,r,ob,e,c⟩:=x; exact ⟨z,its,r,ob,k _ _ (.inl rfl) e,c⟩
  | dK kvs=>obtain ⟨z,y,vs,r,ob,es,ep,e,c⟩:=x; exact ⟨z,y,vs,r,ob,es,ep,k _ _ (.inl rfl) e,c⟩
  | dT kvs =>
    obtain ⟨z,y,xs,r,ob,es,ep,e,c⟩:=x
    exact ⟨z,y,xs,Paired.mapP r fun p q z=>⟨z.1,ht _ _ z.2.1,z.2.2⟩,ob,es,ep,k _ _ (.inl rfl) e,c⟩
  | set S n=>obtain ⟨ob,es,ep,t,e,c⟩:=x; exact ⟨ob,es,ep,t,k _ _ (.inl rfl) e,c⟩
  | ins C dx fs =>
    obtain ⟨d,z,ne,e,mA,⟨od,es,ep,e2,c⟩,r⟩:=x
    exact ⟨ho _ d,z,ne,k _ _ (.inl rfl) e,mA,⟨od,es,ep,k _ _ (.inr d) e2,c⟩,r⟩
  | own y=>obtain ⟨ob,e⟩:=x; exact ⟨ob,k _ _ (.inl rfl) e⟩
  | xd fs=>obtain ⟨mA,⟨od,es,ep,e,c⟩,r⟩:=x; exact ⟨mA,⟨od,es,ep,k _ _ (.inl rfl) e,c⟩,r⟩
  | rng lo hi=>obtain ⟨t,u,v,e⟩:=x; exact ⟨t,u,v,k _ _ (.inl rfl) e⟩
  | frz ob u ih=>obtain ⟨e,q⟩:=x; exact ⟨k _ _ (.inl rfl) e,ih q⟩
  | tbl ps =>
    have e:h.get? a=some { cls:=.none,data:=.fields ps }:=x
    show h'.get? a=some { cls:=.none,data:=.fields ps }
    exact k a _ (.inl rfl) e
  | met f y =>
    have e:h.get? a=some (PySem.W.methodObj (.ref f) (.ref y)):=x
    show h'.get? a=some (PySem.W.methodObj (.ref f) (.ref y))
    exact k a _ (.inl rfl) e
  | ext φ=>obtain ⟨p,⟨o,e⟩,st⟩:=x; exact ⟨st _ _ p fun o q=>k _ _ (.inl rfl) q,⟨o,k _ _ (.inl rfl) e⟩,st⟩
theorem HOk.lt (x:HOk P w H h) (e:H a=some o):a < h.objs.size:=(x a o e).lt
theorem HOk.fresh (x:HOk P w H h) (e:h.objs.size≤a):H a=none:=by
  cases q:H a with
  | none=>rfl
  | some u=>exact absurd (Nat.lt_of_lt_of_le (x.lt q) e) (Nat.lt_irrefl _)
theorem HOk.kept (x:HOk P w H h) (k:∀ b u,h.get? b=some u→h'.get? b=some u):HOk P w H h':=fun a o e =>
  (x a o e).stay (fun b u _ q=>k b u q) (fun _ q=>q) fun _ _ q=>q
theorem HOk.laid (x:HOk P w H h) (k:∀ b u,h.get? b=some u→h'.get? b=some u) (hp:h.objs.size≤a) (new:ObjOk P w (upd H a o) h' a o):HOk P w (upd H a o) h':=fun b u e=>by
  have hn:=x.fresh hp
  by_cases hb:b=a
  · subst hb; rw [upd_same] at e; cases e; exact new
  · rw [upd_ne hb] at e
    exact (x b u e).stay (fun c v _ q=>k c v q) (fun c q=>by rw [upd_ne (ne_of_none q hn)]; exact q) fun c xs q=>by rw [upd_ne (ne_of_none q hn)]; exact q
end
def Rd (H:Hp) (a:Addr) (u:HO):Prop:=H a=some u∨∃ o,H a=some (.frz o u)
theorem Rd.ok {P:Program} {w:World} {H:Hp} {h:Heap} {a:Addr} {u:HO} (r:Rd H a u) (x:HOk P w H h):ObjOk P w H h a u:=by
  rcases r with r | ⟨o,r⟩
  · exact x a u r
  · obtain ⟨_,q⟩:=x a _ r
    exact q
def Mut:Option HO→Prop
  | some (.lst _)=>True
  | some (.dK _)=>True
  | some (.dT _)=>True
  | some (.set _ _)=>True
  | some (.ins _ _ _)=>True
  | some (.ext _)=>True
  | _=>False
section
variable {P:Program} {w:World} {H:Hp} {h h':Heap} {x e:Addr} {o':HO}
theorem HOk.write (ok:HOk P w H h) (mu:Mut (H x)) (he:e=x∨H e=some (.own x)) (k:∀ b u,b≠e→h.get? b=some u→h'.get? b=some u) (heo:∃ u,h'.get? e=some u)
    (new:ObjOk P w (upd H x o') h' x o'):HOk P w (upd H x o') h':=fun b u q=>by
  have nown:∀ c y,H c=some (.own y)→c≠x:=fun c y r z=>by subst z; rw [r] at mu; exact mu
  have ntup:∀ c xs,H c=some (.tup xs)→c≠x:=fun c xs r z=>by subst z; rw [r] at mu; exact mu
  by_cases hb:b=x
  · subst hb; rw [upd_same] at q; cases q; exact new
  · rw [upd_ne hb] at q
    by_cases hbe:b=e
    · have q':H b=some (.own x):=by
        rcases he with z | z
        · exact absurd (hbe.trans z) hb
        · rw [hbe]; exact z
      rw [q] at q'; cases q'
      obtain ⟨v,hv⟩:=heo
      exact ⟨v,by rw [hbe]; exact hv⟩
    · refine (ok b u q).stay (fun c v hc r=>k c v ?_ r) (fun c r=>by rw [upd_ne (nown c b r)]; exact r) fun c xs r=>by rw [upd_ne (ntup c xs r)]; exact r
      rcases hc with rfl | hc
      · exact hbe
      · rintro rfl
        rcases he with z | z
        · exact nown c b hc z
        · rw [hc] at z; cases z; exact hb rfl
end
structure Un (fs ex:List Addr) (H H':Hp) (h h':Heap):Prop where
  keep:∀ b o,h.get? b=some o→H b=none→b ∉ fs→b ∉ ex→h'.get? b=some o
  slot:∀ b o,h.get? b=some o→H b=none→b ∈ fs→b ∉ ex→∃ sl,h'.get? b=some { o with slots:=sl }
  free:∀ b o,h.get? b=some o→H b=none→b ∉ ex→H' b=none
  there:∀ b o,h.get? b=some o→b ∉ ex→∃ o',h'.get? b=some o'
  tups:∀ b xs,H b=some (.tup xs)→H' b=some (.tup xs)
  frzs:∀ b o u,H b=some (.frz o u)→H' b=some (.frz o u)
  tbls:∀ b ps,H b=some (.tbl ps)→∃ more,H' b=some (.tbl (ps++more))
section
variable {fs fs' ex ex':List Addr} {H H1 H2:Hp} {h h1 h2 h':Heap} {a x e:Addr} {o:HO}
theorem Un.any (u:Un fs ex H H1 h h1) {b:Addr} {ob:Obj} (q:h.get? b=some ob) (n:H b=none) (hx:b ∉ ex):∃ sl,h1.get? b=some { ob with slots:=sl }:=by
  by_cases hb:b ∈ fs
  · exact u.slot b ob q n hb hx
  · exact ⟨ob.slots,u.keep b ob q n hb hx⟩
theorem Un.kept (k:∀ b u,h.get? b=some u→h'.get? b=some u):Un fs ex H H h h' :=
  ⟨fun b ob q _ _ _=>k b ob q,fun b ob q _ _ _=>⟨ob.slots,k b ob q⟩,fun _ _ _ n _=>n,fun b ob q _=>⟨ob,k b ob q⟩,fun _ _ q=>q,fun _ _ _ q=>q,fun _ ps q=>⟨#[],by rw [q]; simp⟩⟩
theorem Un.refl:Un fs ex H H h h:=Un.kept fun _ _ q=>q
theorem Un.laid (k:∀ b u,h.get? b=some u→h'.get? b=some u) (hp:h.objs.size≤a) (hn:H a=none):Un fs ex H (upd H a o) h h' where
  keep:=fun b u q _ _ _=>k b u q
  slot:=fun b u q _ _ _=>⟨u.slots,k b u q⟩
  free:=fun b u q n _=>by rw [upd_ne (Nat.ne_of_lt (Nat.lt_of_lt_of_le (Heap.lt_size q) hp))]; exact n
  there:=fun b u q _=>⟨u,k b u q⟩
  tups:=fun b xs q=>by rw [upd_ne (ne_of_none q hn)]; exact q
  frzs:=fun b u xs q=>by rw [upd_ne (ne_of_none q hn)]; exact q
  tbls:=fun b ps q=>⟨#[],by rw [upd_ne (ne_of_none q hn),q]; simp⟩
theorem Un.write (mu:Mut (H x)) (he:e=x∨H e=some (.own x)) (k:∀ b u,b≠e→h.get? b=some u→h'.get? b=some u) (heo:∃ u,h'.get? e=some u):Un fs ex H (upd H x o) h h':=by
  have hx:∀ b,H b=none→b≠x:=fun b n z=>by subst z; rw [n] at mu; exact mu
  have hb:∀ b,H b=none→b≠e:=fun b n z=>by
    subst z
    rcases he with r | r
    · exact hx b n r
    · rw [n] at r; cases r
  have hm:∀ b u,H b=some u→¬ Mut (some u)→b≠x:=fun b u q nm z=>by subst z; rw [q] at mu; exact nm mu
  refine ⟨fun b u q n _ _=>k b u (hb b n) q,fun b u q n _ _=>⟨u.slots,k b u (hb b n) q⟩,fun b u q n _=>by rw [upd_ne (hx b n)]; exact n,fun b u q _=>?_,
    fun b xs q=>by rw [upd_ne (hm b _ q fun z=>z)]; exact q,fun b u xs q=>by rw [upd_ne (hm b _ q fun z=>z)]; exact q,fun b ps q=>⟨#[],by rw [upd_ne (hm b _ q fun z=>z),q]; simp⟩⟩
  by_cases hbe:b=e
  · subst hbe; exact heo
  · exact ⟨u,k b u hbe q⟩
end
def trk (h:Heap) (H:Hp):List Addr:=(List.range h.objs.size).filter fun a=>(H a).isSome
def hidT (h:Heap) (H:Hp):Heap:=PySem.W.hideAll h (trk h H)
theorem hidT_size (h:Heap) (H:Hp):(hidT h H).objs.size=h.objs.size:=PySem.W.hideAll_size _ _
theorem hidT_get {h:Heap} {H:Hp} {b:Addr} {o:Obj} (e:h.get? b=some o) (n:H b=none):(hidT h H).get? b=some o :=
  PySem.W.hideAll_get _ e fun hm=>by
    have q:(H b).isSome=true:=(List.mem_filter.mp hm).2
    rw [n] at q; simp at q
theorem of_hidT {h:Heap} {H:Hp} {b:Addr} {o:Obj} (e:(hidT h H).get? b=some o):h.get? b=some o∧H b=none:=by
  have e':h.get? b=some o:=PySem.W.of_hideAll (trk h H) e
  refine ⟨e',?_⟩
  cases q:H b with
  | none=>rfl
  | some x =>
    have hm:b ∈ trk h H:=List.mem_filter.mpr ⟨List.mem_range.mpr (Heap.lt_size e'),by simp [q]⟩
    have z:(hidT h H).get? b=none:=PySem.W.hideAll_none (trk h H) hm
    rw [z] at e; cases e
end L2
namespace L2
open PySem PySem.Spec PyProof.Rows
structure Mod (K:PySem.W.Frag) (mg:Str→Option Value) (base:Heap):Prop where
  kin:K.In base
  glob:base.Ns mainGlobals mg
  blt:∃ mb,base.Ns builtinsNs mb∧∀ x:Str,x≠"__name__"→mb x=bootBuiltins x
  nolimit:base.NoLimit
structure Cx where
  prog:Program
  w:World
  K:PySem.W.Frag
  mg:Str→Option Value
  base:Heap
  A:Around
  N:List Str
  s₀:Shared
  H₀:Hp
  env:Env
  outer:List Env
  stack:List Env
  ex:List Addr
  fn:Str→Bool
  calm:Bool
  pn:List (Addr × Obj)
  xe:Value→Shared→Prop
def frs (l:List Env):List Addr:=l.filterMap (·.frame)
abbrev Cx.fs (X:Cx):List Addr:=frs X.outer
def Vis (sc:Scope) (x:Str):Prop:=sc.names.lookup x=some .local∨sc.names.lookup x=some .cell∨sc.names.lookup x=some .free
def Loc (sc:Scope) (x:Str):Prop:=sc.names.lookup x=some .local∨sc.names.lookup x=some .cell
def Look (env:Env) (h:Heap) (m:Str→Option Value) (x:Str) (u:Value):Prop :=
  (env.kindOf x=some .local∧m x=some u)∨((env.kindOf x=some .cell∨env.kindOf x=some .free)∧∃ c,env.cells.lookup x=some c∧h.IsCell c (some u))
structure Cx.Ok (X:Cx):Prop where
  mod:Mod X.K X.mg X.base
  kind:X.env.scope.kind=.function
  glob:X.env.globals=mainGlobals
  blt:X.env.builtins=builtinsNs
  above:X.s₀.heap.objs.size≤X.env.locals
  inj:∀ x y c,X.env.cells.lookup x=some c→X.env.cells.lookup y=some c→x=y
  has:∀ x,(X.env.kindOf x=some .cell∨X.env.kindOf x=some .free)→∃ c,X.env.cells.lookup x=some c
  cab:∀ x c,X.fn x=true→X.env.cells.lookup x=some c→X.s₀.heap.objs.size≤c
  hd:X.calm=true→X.A.handled=none
  frames:X.A.frames=some X.stack
  stk:X.stack=X.outer∨(X.stack=X.env::X.outer∧X.env.frame=some X.env.locals)
  exf:∀ b ∈ X.ex,b≠X.env.locals∧∀ x c,X.env.cells.lookup x=some c→c≠b
  bs:∀ b o,X.base.get? b=some o→X.s₀.heap.get? b=some o∧X.H₀ b=none
  bsz:X.base.objs.size≤X.s₀.heap.objs.size
  noex:∀ b o,X.base.get? b=some o→b ∉ X.ex
  exfs:∀ b ∈ X.ex,b ∉ X.fs
  funs:X.s₀.heap.FunFrames X.base X.outer
  frf:∀ b ∈ X.fs,X.H₀ b=none
structure Inv (X:Cx) (pins:List (Addr × Obj)) (σ:List (Option V)) (H:Hp) (s:Shared):Prop where
  ok:X.Ok
  os:s.os=X.s₀.os
  bare:AllBare s.gens
  base:Un X.fs X.ex X.H₀ H X.s₀.heap s.heap
  loc:∃ m,s.heap.Ns X.env.locals m∧∀ (i:Nat) (x:Str) (v:V),X.N[i]?=some x→σ[i]?=some (some v)→Vis X.env.scope x→∃ u,RelV v u∧Look X.env s.heap m x u
  cell:∀ x c,X.env.cells.lookup x=some c→∃ v,s.heap.IsCell c v
  free:H X.env.locals=none
  freeC:∀ x c,X.env.cells.lookup x=some c→H c=none
  pin:∀ p ∈ X.pn++pins,s.heap.get? p.1=some p.2∧H p.1=none∧p.1≠X.env.locals∧p.1 ∉ X.fs∧∀ v,p.2.data≠.cell v
  hok:HOk X.prog X.w H s.heap
  len:σ.length=X.N.length
section
variable {X:Cx} {pins:List (Addr × Obj)} {σ:List (Option V)} {H H':Hp} {s:Shared} {h':Heap}
theorem Cx.Ok.nofr (ok:X.Ok) {b:Addr} {o:Obj} (e:X.base.get? b=some o):b ∉ X.fs:=fun hb=>by
  have:=(ok.funs.mem hb).1
  rw [e] at this; cases this
theorem Inv.bs (I:Inv X pins σ H s):∀ b o,X.base.get? b=some o→s.heap.get? b=some o∧H b=none:=fun b o e =>
  ⟨I.base.keep b o (I.ok.bs b o e).1 (I.ok.bs b o e).2 (I.ok.nofr e) (I.ok.noex b o e),I.base.free b o (I.ok.bs b o e).1 (I.ok.bs b o e).2 (I.ok.noex b o e)⟩
theorem Inv.bk (I:Inv X pins σ H s):∀ b o,X.base.get? b=some o→s.heap.get? b=some o:=fun b o e=>(I.bs b o e).1
theorem Inv.mod (I:Inv X pins σ H s):Mod X.K X.mg X.base:=I.ok.mod
theorem Inv.kIn (I:Inv X pins σ H s):X.K.In s.heap:=I.ok.mod.kin.keeps I.bk
theorem Inv.lt (I:Inv X pins σ H s):X.env.locals < s.heap.objs.size:=let ⟨_,hn,_⟩:=I.loc; hn.lt
theorem Inv.sz (I:Inv X pins σ H s):X.s₀.heap.objs.size≤s.heap.objs.size:=Nat.le_trans I.ok.above (Nat.le_of_lt I.lt)
theorem Inv.nofs (I:Inv X pins σ H s) {a:Addr} (h:s.heap.objs.size≤a):a ∉ X.fs:=fun hb=>by
  obtain ⟨_,o,ho,_⟩:=I.ok.funs.mem hb
  exact absurd (Nat.lt_of_lt_of_le (Heap.lt_size ho) (Nat.le_trans I.sz h)) (Nat.lt_irrefl _)
theorem Inv.cne (I:Inv X pins σ H s):∀ x c,X.env.cells.lookup x=some c→c≠X.env.locals:=fun x c e z=>by
  obtain ⟨v,o,ho,hd⟩:=I.cell x c e
  obtain ⟨m,⟨o',es,ep,ho',hd',_⟩,_⟩:=I.loc
  rw [z,ho'] at ho; cases ho; rw [hd'] at hd; cases hd
theorem Inv.funs (I:Inv X pins σ H s):s.heap.FunFrames X.base X.outer:=by
  have all:∀ (l:List Env),(∀ b ∈ frs l,b ∈ X.fs)→X.s₀.heap.FunFrames X.base l→s.heap.FunFrames X.base l:=by
    intro l
    induction l with
    | nil=>intro _ _; trivial
    | cons env r ih =>
      intro hs hl
      obtain ⟨hk,⟨L,o,hf,hn,ho,hd⟩,hr⟩:=hl
      have hL:L ∈ X.fs:=hs L (by unfold frs; rw [List.filterMap_cons,hf]; exact List.mem_cons_self)
      obtain ⟨sl,e⟩:=I.base.slot L o ho (I.ok.frf L hL) hL fun z=>I.ok.exfs L z hL
      exact ⟨hk,⟨L,_,hf,hn,e,hd⟩,ih (fun b hb=>hs b (by unfold frs; rw [List.filterMap_cons,hf]; exact List.mem_cons_of_mem _ hb)) hr⟩
  exact all X.outer (fun _ hb=>hb) I.ok.funs
theorem Inv.stack (I:Inv X pins σ H s):s.heap.FunFrames X.base X.stack:=by
  rcases I.ok.stk with e | ⟨e,hf⟩
  · rw [e]; exact I.funs
  · rw [e]
    obtain ⟨m,hn,_⟩:=I.loc
    refine .cons (by rw [I.ok.kind]; decide) hf hn ?_ I.funs
    exact Heap.get?_none_of_le (Nat.le_trans I.ok.bsz I.ok.above)
theorem Inv.stkSub (I:Inv X pins σ H s):∀ b ∈ frs X.stack,b ∈ X.env.locals::X.fs:=fun b hb=>by
  rcases I.ok.stk with e | ⟨e,hf⟩
  · rw [e] at hb; exact List.mem_cons_of_mem _ hb
  · rw [e] at hb
    unfold frs at hb
    rw [List.filterMap_cons,hf] at hb
    exact hb
theorem Inv.stkFree (I:Inv X pins σ H s):∀ b ∈ frs X.stack,H b=none:=fun b hb=>by
  rcases List.mem_cons.mp (I.stkSub b hb) with e | hb
  · rw [e]; exact I.free
  · obtain ⟨_,o,ho,_⟩:=I.ok.funs.mem hb
    exact I.base.free b o ho (I.ok.frf b hb) fun z=>I.ok.exfs b z hb
theorem Inv.step {g':Array GenState} {t':Nat} {d':Drawn} {ch:List Addr} (I:Inv X pins σ H s)
    (hch:∀ b ∈ ch,(b ∈ X.ex∨X.s₀.heap.objs.size≤b)∧b≠X.env.locals∧(∀ x c,X.env.cells.lookup x=some c→c≠b)∧∀ p ∈ X.pn++pins,p.1≠b)
    (keep:∀ b o,b≠X.env.locals→b ∉ X.fs→b ∉ ch→s.heap.get? b=some o→H b=none→h'.get? b=some o)
    (slot:∀ b o,b≠X.env.locals→b ∈ X.fs→b ∉ ch→s.heap.get? b=some o→H b=none→∃ sl,h'.get? b=some { o with slots:=sl }) (free:∀ b o,b ∉ ch→s.heap.get? b=some o→H b=none→H' b=none)
    (there:∀ b o,b ∉ ch→s.heap.get? b=some o→∃ o',h'.get? b=some o')
    (tups:∀ b xs,H b=some (.tup xs)→H' b=some (.tup xs)) (frzs:∀ b o u,H b=some (.frz o u)→H' b=some (.frz o u)) (tbls:∀ b ps,H b=some (.tbl ps)→∃ more,H' b=some (.tbl (ps++more)))
    (ns:∀ m,s.heap.Ns X.env.locals m→h'.Ns X.env.locals m) (hok:HOk X.prog X.w H' h') (hg:AllBare g') :
    Inv X pins σ H' { s with heap:=h',gens:=g',drawn:=d',toks:=t' }:=by
  have neL:∀ b o,X.s₀.heap.get? b=some o→b≠X.env.locals:=fun b o e=>Nat.ne_of_lt (Nat.lt_of_lt_of_le (Heap.lt_size e) I.ok.above)
  have neC:∀ b o,X.s₀.heap.get? b=some o→b ∉ X.ex→b ∉ ch:=fun b o e hx hb=>by
    rcases (hch b hb).1 with z | z
    · exact hx z
    · exact absurd (Nat.lt_of_lt_of_le (Heap.lt_size e) z) (Nat.lt_irrefl _)
  have cellK:∀ x c,X.env.cells.lookup x=some c→∀ v,s.heap.IsCell c v→h'.IsCell c v:=fun x c e v ⟨o,ho,hd⟩=>by
    have nch:c ∉ ch:=fun z=>(hch c z).2.2.1 x c e rfl
    by_cases hc:c ∈ X.fs
    · obtain ⟨sl,q⟩:=slot c o (I.cne x c e) hc nch ho (I.freeC x c e)
      exact ⟨_,q,hd⟩
    · exact ⟨o,keep c o (I.cne x c e) hc nch ho (I.freeC x c e),hd⟩
  refine ⟨I.ok,I.os,hg,⟨fun b o e n hb hx=>?_,fun b o e n hb hx=>?_,fun b o e n hx=>?_,fun b o e hx=>?_,fun b xs e=>tups b xs (I.base.tups b xs e),fun b o xs e=>frzs b o xs (I.base.frzs b o xs e),fun b ps e=>?_⟩,?_,fun x c e=>?_,?_,fun x c e=>?_,fun p hp=>?_,hok,I.len⟩
  · exact keep b o (neL b o e) hb (neC b o e hx) (I.base.keep b o e n hb hx) (I.base.free b o e n hx)
  · obtain ⟨sl,e1⟩:=I.base.slot b o e n hb hx
    obtain ⟨sl',e2⟩:=slot b _ (neL b o e) hb (neC b o e hx) e1 (I.base.free b o e n hx)
    exact ⟨sl',e2⟩
  · obtain ⟨o',e1⟩:=I.base.there b o e hx
    exact free b o' (neC b o e hx) e1 (I.base.free b o e n hx)
  · obtain ⟨o',e1⟩:=I.base.there b o e hx
    exact there b o' (neC b o e hx) e1
  · obtain ⟨m1,e1⟩:=I.base.tbls b ps e
    obtain ⟨m2,e2⟩:=tbls b _ e1
    exact ⟨m1++m2,by rw [e2,Array.append_assoc]⟩
  · obtain ⟨m,hn,hl⟩:=I.loc
    refine ⟨m,ns m hn,fun i x v e1 e2 e3=>?_⟩
    obtain ⟨u,r,l⟩:=hl i x v e1 e2 e3
    refine ⟨u,r,?_⟩
    rcases l with l | ⟨k,c,e,z⟩
    · exact .inl l
    · exact .inr ⟨k,c,e,cellK x c e _ z⟩
  · obtain ⟨v,z⟩:=I.cell x c e
    exact ⟨v,cellK x c e v z⟩
  · obtain ⟨m,⟨o,_,_,ho,_⟩,_⟩:=I.loc
    exact free _ o (fun z=>(hch _ z).2.1 rfl) ho I.free
  · obtain ⟨v,o,ho,hd⟩:=I.cell x c e
    exact free c o (fun z=>(hch c z).2.2.1 x c e rfl) ho (I.freeC x c e)
  · obtain ⟨e,n,ne,nf,d⟩:=I.pin p hp
    have nch:p.1 ∉ ch:=fun z=>(hch p.1 z).2.2.2 p hp rfl
    exact ⟨keep p.1 p.2 ne nf nch e n,free p.1 p.2 nch e n,ne,nf,d⟩
theorem Inv.un {t':Nat} (I:Inv X pins σ H s) (u:Un X.fs [] H H' s.heap h') (hok:HOk X.prog X.w H' h'):Inv X pins σ H' { s with heap:=h',toks:=t' }:=by
  obtain ⟨m,⟨o,es,ep,ho,r⟩,_⟩:=id I.loc
  obtain ⟨sl,hL⟩:=u.any ho I.free (by simp)
  exact I.step (g':=s.gens) (d':=s.drawn) (ch:=[]) (fun _ z=>nomatch z) (fun b o _ hb _ e n=>u.keep b o e n hb (by simp)) (fun b o _ hb _ e n=>u.slot b o e n hb (by simp)) (fun b o _ e n=>u.free b o e n (by simp)) (fun b o _ e=>u.there b o e (by simp)) u.tups u.frzs u.tbls (fun m' hm=>by
    obtain ⟨o',es',ep',ho',r'⟩:=hm
    rw [ho] at ho'; cases ho'
    exact ⟨_,es',ep',hL,r'⟩) hok I.bare
theorem Inv.call {g':Array GenState} {t':Nat} {d':Drawn} {ch:List Addr} (I:Inv X pins σ H s) (u:Un (frs X.stack) ch H H' s.heap h') (hok:HOk X.prog X.w H' h') (hg:AllBare g')
    (hch:∀ b ∈ ch,(b ∈ X.ex∨X.s₀.heap.objs.size≤b)∧b≠X.env.locals∧(∀ x c,X.env.cells.lookup x=some c→c≠b)∧∀ p ∈ X.pn++pins,p.1≠b) :
    Inv X pins σ H' { s with heap:=h',gens:=g',drawn:=d',toks:=t' }:=by
  obtain ⟨m,⟨o,es,ep,ho,r⟩,_⟩:=id I.loc
  obtain ⟨sl,hL⟩:=u.any ho I.free fun z=>(hch _ z).2.1 rfl
  exact I.step (ch:=ch) hch (fun b o hL hb hc e n=>u.keep b o e n (fun z=>(List.mem_cons.mp (I.stkSub b z)).elim hL hb) hc) (fun b o _ _ hc e n=>u.any e n hc) (fun b o hc e n=>u.free b o e n hc) (fun b o hc e=>u.there b o e hc) u.tups u.frzs u.tbls (fun m' hm=>by
    obtain ⟨o',es',ep',ho',r'⟩:=hm
    rw [ho] at ho'; cases ho'
    exact ⟨_,es',ep',hL,r'⟩) hok hg
theorem Inv.turned {t':Nat} {it:Addr} (I:Inv X pins σ H s) (k:∀ b o,b≠it→s.heap.get? b=some o→h'.get? b=some o) (hn:H it=none) (hL:it≠X.env.locals)
    (h1:it ∈ X.ex∨X.s₀.heap.objs.size≤it) (h2:∀ x c,X.env.cells.lookup x=some c→c≠it) (h3:∀ p ∈ X.pn++pins,p.1≠it):Inv X pins σ H { s with heap:=h',toks:=t' }:=by
  have nit:∀ b u,H b=some u→b≠it:=fun b u e z=>by rw [z,hn] at e; cases e
  refine I.step (g':=s.gens) (d':=s.drawn) (ch:=[it]) (fun b hb=>?_) (fun b o _ _ hc e _=>k b o (fun z=>hc (by simp [z])) e) (fun b o _ _ hc e _=>⟨o.slots,k b o (fun z=>hc (by simp [z])) e⟩) (fun _ _ _ _ n=>n)
    (fun b o hc e=>⟨o,k b o (fun z=>hc (by simp [z])) e⟩) (fun _ _ e=>e) (fun _ _ _ e=>e) (fun b ps e=>⟨#[],by rw [e]; simp⟩) (fun m hm=>?_) (fun b u e=>?_) I.bare
  · have e:b=it:=by simpa using hb
    subst e
    exact ⟨h1,hL,h2,h3⟩
  · obtain ⟨o,es,ep,ho,r⟩:=hm
    exact ⟨o,es,ep,k _ o (Ne.symm hL) ho,r⟩
  · refine (I.hok b u e).stay (fun c v hc q=>k c v ?_ q) (fun _ q=>q) fun _ _ q=>q
    rcases hc with z | z
    · rw [z]; exact nit b u e
    · exact nit c _ z
theorem Inv.tok (I:Inv X pins σ H s) (t:Nat):Inv X pins σ H { s with toks:=t }:=I.un (h':=s.heap) (t':=t) Un.refl I.hok
theorem Inv.kept {t':Nat} (I:Inv X pins σ H s) (k:∀ b u,s.heap.get? b=some u→h'.get? b=some u):Inv X pins σ H { s with heap:=h',toks:=t' }:=I.un (Un.kept k) (I.hok.kept k)
theorem Inv.laid {a:Addr} {o:HO} {t':Nat} (I:Inv X pins σ H s) (k:∀ b u,s.heap.get? b=some u→h'.get? b=some u) (hp:s.heap.objs.size≤a) (new:ObjOk X.prog X.w (upd H a o) h' a o) :
    Inv X pins σ (upd H a o) { s with heap:=h',toks:=t' }:=I.un (Un.laid k hp (I.hok.fresh hp)) (I.hok.laid k hp new)
theorem Inv.write {x e:Addr} {o:HO} {t':Nat} (I:Inv X pins σ H s) (mu:Mut (H x)) (he:e=x∨H e=some (.own x)) (k:∀ b u,b≠e→s.heap.get? b=some u→h'.get? b=some u) (heo:∃ u,h'.get? e=some u)
    (new:ObjOk X.prog X.w (upd H x o) h' x o):Inv X pins σ (upd H x o) { s with heap:=h',toks:=t' }:=I.un (Un.write mu he k heo) (I.hok.write mu he k heo new)
theorem Inv.pins_of {pins':List (Addr × Obj)} (I:Inv X pins σ H s) (h:∀ p ∈ pins',s.heap.get? p.1=some p.2∧H p.1=none∧p.1≠X.env.locals∧p.1 ∉ X.fs∧∀ v,p.2.data≠.cell v):Inv X pins' σ H s :=
  ⟨I.ok,I.os,I.bare,I.base,I.loc,I.cell,I.free,I.freeC,fun p hp=>(List.mem_append.mp hp).elim (fun z=>I.pin p (List.mem_append_left _ z)) (h p),I.hok,I.len⟩
theorem nodup_ix {N:List Str} (hN:N.Nodup) {i j:Nat} {x:Str} (a:N[i]?=some x) (b:N[j]?=some x):i=j:=by
  obtain ⟨h1,e1⟩:=List.getElem?_eq_some_iff.mp a
  obtain ⟨h2,e2⟩:=List.getElem?_eq_some_iff.mp b
  exact (List.getElem_inj hN).mp (e1.trans e2.symm)
theorem store_ok2 {M:Model} {A:Around} {E:Value→Shared→Prop} {i:Nat} {x:Str} {v:V} {u:Value} {Q:Unit→Shared→Prop} (I:Inv X pins σ H s) (hN:X.N.Nodup) (hi:X.N[i]?=some x) (hx:Loc X.env.scope x) (r:RelV v u)
    (h:∀ s',Inv X pins (σ.set i (some v)) H s'→(∃ a,Heap.SameBut a s.heap s'.heap∧(a=X.env.locals∨X.env.cells.lookup x=some a))→Q () s') (hf:X.fn x=true∨X.env.scope.names.lookup x=some .local:=by first | exact .inl rfl | exact .inr rfl | assumption):wpAny M A (storeName X.env x u) Q E s:=by
  obtain ⟨m,hn,hl⟩:=id I.loc
  have hcls:(X.env.scope.kind == .class || (X.env.scope.kind == .module && X.env.locals != X.env.globals))=false:=by rw [I.ok.kind]; rfl
  have hiσ:i < σ.length:=by rw [I.len]; exact (List.getElem?_eq_some_iff.mp hi).1
  have cne:=I.cne
  have tracked:∀ {a:Addr} {h':Heap},(∃ o,s.heap.get? a=some o∧H a=none)→Heap.SameBut a s.heap h'→HOk X.prog X.w H h':=fun {a h'} ha hs b ob e=>by
    obtain ⟨_,_,hfree⟩:=ha
    refine (I.hok b ob e).stay (fun c w' hc q=>(hs.2 c ?_).trans q) (fun _ q=>q) fun _ _ q=>q
    rintro rfl
    rcases hc with rfl | hc
    · rw [hfree] at e; cases e
    · rw [hfree] at hc; cases hc
  rcases hx with hk | hk
  · refine wpAny_storeName_local hk hn (fun h' hn' hs=>?_) hcls
    obtain ⟨oL,_,_,hoL,_⟩:=id hn
    refine h _ ⟨I.ok,I.os,I.bare,⟨fun b o e n hb hx=>?_,fun b o e n hb hx=>?_,I.base.free,fun b o e hx=>?_,I.base.tups,I.base.frzs,I.base.tbls⟩,⟨_,hn',fun j y v' e1 e2 e3=>?_⟩,fun y c e=>?_,I.free,I.freeC,fun p hp=>?_,tracked ⟨oL,hoL,I.free⟩ hs,by simpa using I.len⟩ ⟨_,hs,.inl rfl⟩
    · exact (hs.2 b (Nat.ne_of_lt (Nat.lt_of_lt_of_le (Heap.lt_size e) I.ok.above))).trans (I.base.keep b o e n hb hx)
    · obtain ⟨sl,e1⟩:=I.base.slot b o e n hb hx
      exact ⟨sl,(hs.2 b (Nat.ne_of_lt (Nat.lt_of_lt_of_le (Heap.lt_size e) I.ok.above))).trans e1⟩
    · obtain ⟨o',e1⟩:=I.base.there b o e hx
      exact ⟨o',(hs.2 b (Nat.ne_of_lt (Nat.lt_of_lt_of_le (Heap.lt_size e) I.ok.above))).trans e1⟩
    · by_cases hj:j=i
      · subst hj
        rw [hi] at e1; cases e1
        rw [List.getElem?_set_self hiσ] at e2
        cases e2
        exact ⟨u,r,.inl ⟨hk,by simp⟩⟩
      · rw [List.getElem?_set_ne (Ne.symm hj)] at e2
        obtain ⟨u',r',q⟩:=hl j y v' e1 e2 e3
        refine ⟨u',r',?_⟩
        rcases q with ⟨k,e⟩ | ⟨k,c,e,z⟩
        · refine .inl ⟨k,?_⟩
          have:y≠x:=fun e=>hj (nodup_ix hN e1 (e ▸ hi))
          simp [this,e]
        · exact .inr ⟨k,c,e,z.sameBut hs (cne y c e)⟩
    · obtain ⟨w',z⟩:=I.cell y c e
      exact ⟨w',z.sameBut hs (cne y c e)⟩
    · obtain ⟨e,n,ne,nf,d⟩:=I.pin p hp
      exact ⟨(hs.2 p.1 ne).trans e,n,ne,nf,d⟩
  · have hfn:X.fn x=true:=by
      rcases hf with z | z
      · exact z
      · rw [z] at hk; cases hk
    obtain ⟨c,hc⟩:=I.ok.has x (.inl hk)
    obtain ⟨w',z⟩:=I.cell x c hc
    refine wpAny_storeName_cell I.ok.kind hk hc z (fun h' hc' hs=>?_)
    obtain ⟨oc,hoc,hocd⟩:=id z
    refine h { s with heap:=h' } ⟨I.ok,I.os,I.bare,⟨fun b o e n hb hx=>?_,fun b o e n hb hx=>?_,I.base.free,fun b o e hx=>?_,I.base.tups,I.base.frzs,I.base.tbls⟩,⟨m,hn.sameBut hs (Ne.symm (cne x c hc)),fun j y v' e1 e2 e3=>?_⟩,fun y c' e=>?_,I.free,I.freeC,fun p hp=>?_,tracked ⟨oc,hoc,I.freeC x c hc⟩ hs,by simpa using I.len⟩ ⟨c,hs,.inr hc⟩
    · exact (hs.2 b (Nat.ne_of_lt (Nat.lt_of_lt_of_le (Heap.lt_size e) (I.ok.cab x c hfn hc)))).trans (I.base.keep b o e n hb hx)
    · obtain ⟨sl,e1⟩:=I.base.slot b o e n hb hx
      exact ⟨sl,(hs.2 b (Nat.ne_of_lt (Nat.lt_of_lt_of_le (Heap.lt_size e) (I.ok.cab x c hfn hc)))).trans e1⟩
    · obtain ⟨o',e1⟩:=I.base.there b o e hx
      exact ⟨o',(hs.2 b (Nat.ne_of_lt (Nat.lt_of_lt_of_le (Heap.lt_size e) (I.ok.cab x c hfn hc)))).trans e1⟩
    · by_cases hj:j=i
      · subst hj
        rw [hi] at e1; cases e1
        rw [List.getElem?_set_self hiσ] at e2
        cases e2
        exact ⟨u,r,.inr ⟨.inl hk,c,hc,hc'⟩⟩
      · rw [List.getElem?_set_ne (Ne.symm hj)] at e2
        obtain ⟨u',r',q⟩:=hl j y v' e1 e2 e3
        refine ⟨u',r',?_⟩
        rcases q with q | ⟨k,c',e,z'⟩
        · exact .inl q
        · refine .inr ⟨k,c',e,z'.sameBut hs ?_⟩
          rintro rfl
          exact hj (nodup_ix hN e1 (I.ok.inj _ _ _ e hc ▸ hi))
    · by_cases hcc:c'=c
      · subst hcc; exact ⟨_,hc'⟩
      · obtain ⟨w2,z2⟩:=I.cell y c' e
        exact ⟨w2,z2.sameBut hs hcc⟩
    · obtain ⟨e,n,ne,nf,d⟩:=I.pin p hp
      refine ⟨(hs.2 p.1 ?_).trans e,n,ne,nf,d⟩
      intro q
      rw [q,hoc] at e
      have q':oc=p.2:=Option.some.inj e
      exact d w' (by rw [← q']; exact hocd)
theorem store_ok {M:Model} {A:Around} {E:Value→Shared→Prop} {i:Nat} {x:Str} {v:V} {u:Value} {Q:Unit→Shared→Prop} (I:Inv X pins σ H s) (hN:X.N.Nodup) (hi:X.N[i]?=some x) (hx:Loc X.env.scope x) (r:RelV v u)
    (h:∀ s',Inv X pins (σ.set i (some v)) H s'→Q () s') (hf:X.fn x=true∨X.env.scope.names.lookup x=some .local:=by first | exact .inl rfl | exact .inr rfl | assumption):wpAny M A (storeName X.env x u) Q E s :=
  store_ok2 I hN hi hx r (fun s' I' _=>h s' I') hf
theorem Inv.call' {s':Shared} {ch:List Addr} (I:Inv X pins σ H s) (ho:s'.os=s.os) (u:Un (frs X.stack) ch H H' s.heap s'.heap) (hok:HOk X.prog X.w H' s'.heap) (hg:AllBare s'.gens)
    (hch:∀ b ∈ ch,(b ∈ X.ex∨X.s₀.heap.objs.size≤b)∧b≠X.env.locals∧(∀ x c,X.env.cells.lookup x=some c→c≠b)∧∀ p ∈ X.pn++pins,p.1≠b):Inv X pins σ H' s':=by
  obtain ⟨h',g',d',t',o'⟩:=s'
  have e:o'=s.os:=ho
  subst e
  exact I.call (g':=g') (t':=t') (d':=d') u hok hg hch
end
abbrev XK:=Value→Option Addr→Hp→Prop
abbrev St:=List (Option V)
abbrev VK:=V→Hp→Prop
abbrev TE:=St→Hp→VK→Prop
abbrev TT:=St→Hp→(Bool→Hp→Prop)→Prop
abbrev TA:=St→Hp→(List V→Hp→Prop)→Prop
structure Ends where
  nx:St→Hp→Prop
  rt:VK
  bk:St→Hp→Prop:=fun _ _=>False
  ct:St→Hp→Prop:=fun _ _=>False
abbrev TS:=Ends→St→Hp→Prop
def EP (X:Cx) (pins:List (Addr × Obj)) (σ:St) (Q:VK) (u:Value) (s':Shared):Prop:=∃ v H',Inv X pins σ H' s'∧RelV v u∧Q v H'
def TP (X:Cx) (pins:List (Addr × Obj)) (σ:St) (Q:Bool→Hp→Prop) (b:Bool) (s':Shared):Prop:=∃ H',Inv X pins σ H' s'∧Q b H'
def AP (X:Cx) (pins:List (Addr × Obj)) (σ:St) (Q:List V→Hp→Prop) (us:List Value) (s':Shared):Prop:=∃ vs H',Inv X pins σ H' s'∧Vals vs us∧Q vs H'
def SP (X:Cx) (pins:List (Addr × Obj)) (D:Ends) (f:Flow) (s':Shared):Prop :=
  match f with
  | .next=>∃ σ' H',Inv X pins σ' H' s'∧D.nx σ' H'
  | .brk=>∃ σ' H',Inv X pins σ' H' s'∧D.bk σ' H'
  | .cont=>∃ σ' H',Inv X pins σ' H' s'∧D.ct σ' H'
  | .ret u=>∃ v σ' H',Inv X pins σ' H' s'∧RelV v u∧D.rt v H'
structure PE (X:Cx) (e:Expr) (t:TE):Prop where
  go:∀ (pins:List (Addr × Obj)) (s:Shared) (σ:St) (H:Hp) (Q:VK),Inv X pins σ H s→t σ H Q→wpAny (model X.prog X.w) X.A (eval e X.env) (EP X pins σ Q) X.xe s
instance {X:Cx} {e:Expr} {t:TE}:CoeFun (PE X e t) (fun _=>∀ (pins:List (Addr × Obj)) (s:Shared) (σ:St) (H:Hp) (Q:VK),Inv X pins σ H s→t σ H Q→wpAny (model X.prog X.w) X.A (eval e X.env) (EP X pins σ Q) X.xe s):=⟨PE.go⟩
structure PT (X:Cx) (e:Expr) (t:TT):Prop where
  go:∀ (pins:List (Addr × Obj)) (s:Shared) (σ:St) (H:Hp) (Q:Bool→Hp→Prop),Inv X pins σ H s→t σ H Q→wpAny (model X.prog X.w) X.A (isTrue e X.env (eval e X.env)) (TP X pins σ Q) X.xe s
instance {X:Cx} {e:Expr} {t:TT}:CoeFun (PT X e t) (fun _=>∀ (pins:List (Addr × Obj)) (s:Shared) (σ:St) (H:Hp) (Q:Bool→Hp→Prop),Inv X pins σ H s→t σ H Q→wpAny (model X.prog X.w) X.A (isTrue e X.env (eval e X.env)) (TP X pins σ Q) X.xe s):=⟨PT.go⟩
structure PW (X:Cx) (e:Expr) (t:TT):Prop where
  go:∀ (whole:Sem Value) (pins:List (Addr × Obj)) (s:Shared) (σ:St) (H:Hp) (Q:Bool→Hp→Prop),Inv X pins σ H s→t σ H Q→wpAny (model X.prog X.w) X.A (isTrue e X.env whole) (TP X pins σ Q) X.xe s
instance {X:Cx} {e:Expr} {t:TT}:CoeFun (PW X e t) (fun _=>∀ (whole:Sem Value) (pins:List (Addr × Obj)) (s:Shared) (σ:St) (H:Hp) (Q:Bool→Hp→Prop),Inv X pins σ H s→t σ H Q→wpAny (model X.prog X.w) X.A (isTrue e X.env whole) (TP X pins σ Q) X.xe s):=⟨PW.go⟩
theorem PW.pt {X:Cx} {e:Expr} {t:TT} (h:PW X e t):PT X e t:=.mk (h _)
structure PA (X:Cx) (es:List Expr) (t:TA):Prop where
  go:∀ (pos:Pos) (pins:List (Addr × Obj)) (s:Shared) (σ:St) (H:Hp) (Q:List V→Hp→Prop),Inv X pins σ H s→t σ H Q→wpAny (model X.prog X.w) X.A (spliced (backTo pos (starEach es X.env))) (AP X pins σ Q) X.xe s
instance {X:Cx} {es:List Expr} {t:TA}:CoeFun (PA X es t) (fun _=>∀ (pos:Pos) (pins:List (Addr × Obj)) (s:Shared) (σ:St) (H:Hp) (Q:List V→Hp→Prop),Inv X pins σ H s→t σ H Q→wpAny (model X.prog X.w) X.A (spliced (backTo pos (starEach es X.env))) (AP X pins σ Q) X.xe s):=⟨PA.go⟩
structure PS (X:Cx) (st:Stmt) (t:TS):Prop where
  go:∀ (pins:List (Addr × Obj)) (s:Shared) (σ:St) (H:Hp) (D:Ends),Inv X pins σ H s→t D σ H→wpAny (model X.prog X.w) X.A (exec st X.env) (SP X pins D) X.xe s
instance {X:Cx} {st:Stmt} {t:TS}:CoeFun (PS X st t) (fun _=>∀ (pins:List (Addr × Obj)) (s:Shared) (σ:St) (H:Hp) (D:Ends),Inv X pins σ H s→t D σ H→wpAny (model X.prog X.w) X.A (exec st X.env) (SP X pins D) X.xe s):=⟨PS.go⟩
structure PSs (X:Cx) (st:List Stmt) (t:TS):Prop where
  go:∀ (pins:List (Addr × Obj)) (s:Shared) (σ:St) (H:Hp) (D:Ends),Inv X pins σ H s→t D σ H→wpAny (model X.prog X.w) X.A (execs st X.env) (SP X pins D) X.xe s
instance {X:Cx} {st:List Stmt} {t:TS}:CoeFun (PSs X st t) (fun _=>∀ (pins:List (Addr × Obj)) (s:Shared) (σ:St) (H:Hp) (D:Ends),Inv X pins σ H s→t D σ H→wpAny (model X.prog X.w) X.A (execs st X.env) (SP X pins D) X.xe s):=⟨PSs.go⟩
theorem thn {α:Type} {t:Sem α} {Q Q':α→Shared→Prop} {M:Model} {A:Around} {E:Value→Shared→Prop} {s:Shared} (h:wpAny M A t Q E s) (hQ:∀ a s,Q a s→Q' a s):wpAny M A t Q' E s:=wpAny_mono h hQ fun _ _ x=>x
end L2
namespace L2
open PySem PySem.Spec PyProof.Rows
section
variable {X:Cx}
inductive tVar (i:Nat) (σ:St) (H:Hp) (Q:VK):Prop
  | mk (v:V) (e:σ[i]?=some (some v)) (q:Q v H):tVar i σ H Q
abbrev tC (v:V):TE:=fun _ H Q=>Q v H
theorem pe_var {i:Nat} {x:Str} {pos:Pos} (hN:X.N[i]?=some x) (hv:Vis X.env.scope x) (hd:(x == ("__debug__" : Str))=false:=by decide) (hcd:(x == ("__classdict__" : Str))=false:=by decide):PE X (.Name x pos) (tVar i):=by
  refine ⟨?_⟩
  intro pins s σ H Q I h
  obtain ⟨v,e,h⟩:=h
  obtain ⟨m,hn,hl⟩:=I.loc
  obtain ⟨u,r,l⟩:=hl i x v hN e hv
  have fin:EP X pins σ Q u s:=⟨v,H,I,r,h⟩
  rcases l with ⟨hk,hm⟩ | ⟨hk,c,hc,hcell⟩
  · exact wpAny_Name (wpAny_loadName_local I.ok.kind hk hn hm fin) hd
  · rcases hk with hk | hk
    · exact wpAny_Name (wpAny_loadName_cell I.ok.kind hk hc hcell fin) hd
    · exact wpAny_Name (wpAny_loadName_free I.ok.kind hk hc hcell fin hcd) hd
theorem pe_int {i j pos}:PE X (.Constant (.int i) j pos) (tC (.int i)):=.mk fun _ _ _ H _ I h=>wpAny_Constant_int ⟨.int i,H,I.tok _,⟨_,rfl⟩,h⟩
theorem pe_bl {b j pos}:PE X (.Constant (.bool b) j pos) (tC (.bl b)):=.mk fun _ _ _ H _ I h=>Constant_bool ⟨.bl b,H,I,rfl,h⟩
theorem pe_non {j pos}:PE X (.Constant .none j pos) (tC .non):=.mk fun _ _ _ H _ I h=>Constant_none ⟨.non,H,I,rfl,h⟩
theorem pe_str {x j pos}:PE X (.Constant (.str x) j pos) (tC (.str x)):=.mk fun _ _ _ H _ I h=>Calls.Constant_str ⟨.str x,H,I.tok _,⟨_,rfl⟩,h⟩
def Gl (X:Cx) (x:Str):Prop:=X.env.kindOf x=some .globalImplicit
theorem ld_glob {E:Value→Shared→Prop} {pins:List (Addr × Obj)} {s:Shared} {σ:St} {H:Hp} {x:Str} {u:Value} {pos:Pos} {Q:Value→Shared→Prop} (I:Inv X pins σ H s) (hg:Gl X x) (hm:X.mg x=some u) (h:Q u s)
    (hd:(x == ("__debug__" : Str))=false:=by decide):wpAny (model X.prog X.w) X.A (eval (.Name x pos) X.env) Q E s :=
  Calls.Name_function_global I.ok.kind hg (Calls.loadGlobal_global (by rw [I.ok.glob]; exact I.mod.glob.keeps I.bk) hm h) hd
theorem ld_blt {E:Value→Shared→Prop} {pins:List (Addr × Obj)} {s:Shared} {σ:St} {H:Hp} {x:Str} {u:Value} {pos:Pos} {Q:Value→Shared→Prop} (I:Inv X pins σ H s) (hg:Gl X x) (hm:X.mg x=none) (hv:bootBuiltins x=some u) (h:Q u s)
    (hn:x≠"__name__":=by decide) (hd:(x == ("__debug__" : Str))=false:=by decide):wpAny (model X.prog X.w) X.A (eval (.Name x pos) X.env) Q E s:=by
  obtain ⟨mb,h1,h2⟩:=I.mod.blt
  exact Calls.Name_function_global I.ok.kind hg (Calls.loadGlobal_builtin (by rw [I.ok.glob]; exact I.mod.glob.keeps I.bk) hm (by rw [I.ok.blt]; exact h1.keeps I.bk) ((h2 x hn).trans hv) h) hd
theorem pe_glob {x:Str} {v:V} {u:Value} {pos:Pos} (hg:Gl X x) (hm:X.mg x=some u) (r:RelV v u) (hd:(x == ("__debug__" : Str))=false:=by decide):PE X (.Name x pos) (tC v):=.mk
  fun _ _ _ H _ I h=>ld_glob I hg hm ⟨v,H,I,r,h⟩ hd
theorem pe_bltn {x:Str} {v:V} {u:Value} {pos:Pos} (hg:Gl X x) (hm:X.mg x=none) (hv:bootBuiltins x=some u) (r:RelV v u) (hn:x≠"__name__":=by decide) (hd:(x == ("__debug__" : Str))=false:=by decide):PE X (.Name x pos) (tC v):=.mk
  fun _ _ _ H _ I h=>ld_blt I hg hm hv ⟨v,H,I,r,h⟩ hn hd
variable {a b:Expr} {ta tb:TE} {pos:Pos}
inductive tBx (x:V) (H1:Hp) (Q:Bool→Hp→Prop):Prop
  | mk (c:Bool) (e:x=.bl c) (q:Q c H1):tBx x H1 Q
def tB (t:TE):TT:=fun σ H Q=>t σ H fun x H1=>tBx x H1 Q
theorem pt_val {e:Expr} {t:TE} (h:PE X e t) (he:∀ whole,isTrue e X.env whole=(do let v ← whole; standAt e.pos; holding [v] (truthy v)):=by intro _; rfl):PT X e (tB t):=by
  refine ⟨?_⟩
  intro pins s σ H Q I hw
  refine isTrue_plain (thn (h pins s σ H _ I hw) fun v s1 ⟨x,H1,I1,r1,q1⟩=>?_) (he _)
  obtain ⟨d,rfl,q⟩:=q1
  cases r1
  exact wpAny_truthy_bool ⟨H1,I1,q⟩
variable {tA tB':TT} {rest:List Expr}
def tAnd (t u:TT):TT:=fun σ H Q=>t σ H fun c H1=>if c=true then u σ H1 Q else Q false H1
def tOr (t u:TT):TT:=fun σ H Q=>t σ H fun c H1=>if c=true then Q true H1 else u σ H1 Q
def tNot (t:TT):TT:=fun σ H Q=>t σ H fun c H1=>Q (!c) H1
theorem pw_and1 (ha:PT X a tA):PW X (.BoolOp .And [a] pos) tA:=by
  refine ⟨?_⟩
  intro wh pins s σ H Q I h
  refine isTrue_and (thn (ha pins s σ H Q I h) fun c s1 e=>?_)
  cases c with
  | true=>exact isTrue_and_nil e
  | false=>exact e
theorem pw_or1 (ha:PT X a tA):PW X (.BoolOp .Or [a] pos) tA:=by
  refine ⟨?_⟩
  intro wh pins s σ H Q I h
  refine isTrue_or (thn (ha pins s σ H Q I h) fun c s1 e=>?_)
  cases c with
  | false=>exact isTrue_or_nil e
  | true=>exact e
theorem pw_and (ha:PT X a tA) (hb:PW X (.BoolOp .And (b::rest) pos) tB'):PW X (.BoolOp .And (a::b::rest) pos) (tAnd tA tB'):=by
  refine ⟨?_⟩
  intro wh pins s σ H Q I h
  refine isTrue_and (thn (ha pins s σ H _ I h) fun c s1 ⟨H1,I1,q1⟩=>?_)
  cases c with
  | true=>exact hb wh pins s1 σ H1 Q I1 q1
  | false=>exact ⟨H1,I1,q1⟩
theorem pw_or (ha:PT X a tA) (hb:PW X (.BoolOp .Or (b::rest) pos) tB'):PW X (.BoolOp .Or (a::b::rest) pos) (tOr tA tB'):=by
  refine ⟨?_⟩
  intro wh pins s σ H Q I h
  refine isTrue_or (thn (ha pins s σ H _ I h) fun c s1 ⟨H1,I1,q1⟩=>?_)
  cases c with
  | true=>exact ⟨H1,I1,q1⟩
  | false=>exact hb wh pins s1 σ H1 Q I1 q1
theorem pt_not (ha:PT X a tA):PT X (.UnaryOp .Not a pos) (tNot tA):=by
  refine ⟨?_⟩
  intro pins s σ H Q I h
  exact isTrue_not (ha pins s σ H (fun c H1=>Q (!c) H1) I h)
inductive tAndX (tb:TE) (σ:St) (x:V) (H1:Hp) (Q:VK):Prop
  | mk (c:Bool) (e:x=.bl c) (q:if c=true then tb σ H1 Q else Q (.bl false) H1):tAndX tb σ x H1 Q
def tAndV (ta tb:TE):TE:=fun σ H Q=>ta σ H fun x H1=>tAndX tb σ x H1 Q
def tNotV (ta:TE):TE:=fun σ H Q=>ta σ H fun x H1=>∃ c,x=.bl c∧Q (.bl (!c)) H1
theorem pe_one {op} {t:TE} (h:PE X a t):PE X (.BoolOp op [a] pos) t:=.mk fun pins s σ H Q I hw=>BoolOp_one (h pins s σ H Q I hw)
theorem pe_and (ha:PE X a ta) (hb:PE X (.BoolOp .And (b::rest) pos) tb):PE X (.BoolOp .And (a::b::rest) pos) (tAndV ta tb):=by
  refine ⟨?_⟩
  intro pins s σ H Q I h
  refine BoolOp_and (thn (ha pins s σ H _ I h) fun v s1 ⟨x,H1,I1,r1,q1⟩=>?_)
  obtain ⟨c,rfl,q1⟩:=q1
  cases r1
  refine wpAny_truthy_bool ?_
  cases c with
  | true=>exact hb pins s1 σ H1 Q I1 q1
  | false=>exact ⟨.bl false,H1,I1,rfl,q1⟩
theorem pe_not (ha:PE X a ta):PE X (.UnaryOp .Not a pos) (tNotV ta):=by
  refine ⟨?_⟩
  intro pins s σ H Q I h
  refine UnaryOp_ (thn (ha pins s σ H _ I h) fun v s1 ⟨x,H1,I1,r1,q1⟩=>?_)
  obtain ⟨c,rfl,q1⟩:=q1
  cases r1
  exact not_of (wpAny_truthy_bool ⟨.bl (!c),H1,I1,rfl,q1⟩)
end
end L2
namespace L2
open PySem PySem.Spec PyProof.Rows
def SqL (K:PySem.W.Frag) (H:Hp) (a:Addr) (xs:List V):Prop :=
  Rd H a (.lst xs) ∨
    ∃ (o:Obj) (its:Array Value) (n:Nat),K.lookup a=some o∧o.cls=.type "list"∧o.dict=none∧o.data=.seq its n∧its.size≤sizeLine∧Vals xs its.toList
def SqT (K:PySem.W.Frag) (H:Hp) (a:Addr) (xs:List V):Prop :=
  Rd H a (.tup xs) ∨
    ∃ (o:Obj) (its:Array Value) (n:Nat),K.lookup a=some o∧o.cls=.type "tuple"∧o.data=.seq its n∧its.size≤sizeLine∧Vals xs its.toList
def absV:Value→Option V
  | .none=>some .non
  | .bool b=>some (.bl b)
  | .int i _=>some (.int i)
  | .str x _=>some (.str x)
  | .bytes b _=>some (.byt b)
  | .float b _=>some (.flt b)
  | .ref a=>some (.ref a)
  | .type n=>some (.ty n)
  | _=>none
theorem RelV.abs {x:V} {u:Value} (r:RelV x u):absV u=some x:=by
  cases x with
  | non=>cases r; rfl
  | bl _=>cases r; rfl
  | int _=>obtain ⟨t,rfl⟩:=r; rfl
  | str _=>obtain ⟨t,rfl⟩:=r; rfl
  | byt _=>obtain ⟨t,rfl⟩:=r; rfl
  | flt _=>obtain ⟨t,rfl⟩:=r; rfl
  | ref _=>cases r; rfl
  | ty _=>cases r; rfl
theorem RelV.inj {x y:V} {u:Value} (r:RelV x u) (q:RelV y u):x=y:=Option.some.inj (r.abs.symm.trans q.abs)
theorem Vals.inj:∀ {xs ys:List V} {us:List Value},Vals xs us→Vals ys us→xs=ys
  | _,_,_,.nil,.nil=>rfl
  | _,_,_,.cons r t,.cons r' t'=>by rw [r.inj r',Vals.inj t t']
section
variable {X:Cx} {pins:List (Addr × Obj)} {σ:St} {H:Hp} {s:Shared} {a:Addr} {xs ys:List V}
theorem SqL.of {K:PySem.W.Frag} (h:H a=some (.lst xs)):SqL K H a xs:=.inl (.inl h)
theorem SqT.of {K:PySem.W.Frag} (h:H a=some (.tup xs)):SqT K H a xs:=.inl (.inl h)
theorem Inv.list (I:Inv X pins σ H s) (h:SqL X.K H a xs):∃ its:List Value,Vals xs its∧PlainL s.heap a its.toArray∧xs.length≤sizeLine:=by
  rcases h with h | ⟨o,its,n,hk,hc,hd,hs,hz,r⟩
  · obtain ⟨z,its,n,r,e⟩:=h.ok I.hok
    exact ⟨its,r,⟨_,n,e,rfl,rfl,rfl⟩,z⟩
  · refine ⟨its.toList,r,⟨o,n,I.kIn a o hk,hc,hd,by simpa using hs⟩,?_⟩
    have e:=r.length
    simp only [Array.length_toList] at e
    omega
theorem Inv.tuple (I:Inv X pins σ H s) (h:SqT X.K H a xs):∃ its:List Value,Vals xs its∧IsTup s.heap a its.toArray∧xs.length≤sizeLine:=by
  rcases h with h | ⟨o,its,n,hk,hc,hs,hz,r⟩
  · obtain ⟨z,its,r,p⟩:=h.ok I.hok
    exact ⟨its,r,p,z⟩
  · refine ⟨its.toList,r,⟨o,I.kIn a o hk,hc,n,by simpa using hs⟩,?_⟩
    have e:=r.length
    simp only [Array.length_toList] at e
    omega
theorem Inv.list_inj (I:Inv X pins σ H s) (h:SqL X.K H a xs) (h':SqL X.K H a ys):xs=ys:=by
  obtain ⟨its,r,⟨o,n,e,_,_,d⟩,_⟩:=I.list h
  obtain ⟨its',r',⟨o',n',e',_,_,d'⟩,_⟩:=I.list h'
  rw [e] at e'; cases e'
  rw [d] at d'
  injection d' with d1 _
  have:its=its':=by simpa using congrArg Array.toList d1
  subst this
  exact r.inj r'
theorem Inv.tuple_inj (I:Inv X pins σ H s) (h:SqT X.K H a xs) (h':SqT X.K H a ys):xs=ys:=by
  obtain ⟨its,r,⟨o,e,_,n,d⟩,_⟩:=I.tuple h
  obtain ⟨its',r',⟨o',e',_,n',d'⟩,_⟩:=I.tuple h'
  rw [e] at e'; cases e'
  rw [d] at d'
  injection d' with d1 _
  have:its=its':=by simpa using congrArg Array.toList d1
  subst this
  exact r.inj r'
end
abbrev Cx.wish (X:Cx) (E:Value→Shared→Prop):Cx:={ X with xe:=E }
abbrev Cx.nox (X:Cx):Cx:=X.wish fun _ _=>False
theorem Cx.Ok.wish {X:Cx} (ok:X.Ok) (E:Value→Shared→Prop):(X.wish E).Ok :=
  ⟨ok.mod,ok.kind,ok.glob,ok.blt,ok.above,ok.inj,ok.has,ok.cab,ok.hd,ok.frames,ok.stk,ok.exf,ok.bs,ok.bsz,ok.noex,ok.exfs,ok.funs,ok.frf⟩
theorem Cx.Ok.unwish {X:Cx} {E:Value→Shared→Prop} (ok:(X.wish E).Ok):X.Ok :=
  ⟨ok.mod,ok.kind,ok.glob,ok.blt,ok.above,ok.inj,ok.has,ok.cab,ok.hd,ok.frames,ok.stk,ok.exf,ok.bs,ok.bsz,ok.noex,ok.exfs,ok.funs,ok.frf⟩
section
variable {X:Cx} {pins:List (Addr × Obj)} {σ:St} {H:Hp} {s:Shared} {E:Value→Shared→Prop}
theorem Inv.wish (I:Inv X pins σ H s) (E:Value→Shared→Prop):Inv (X.wish E) pins σ H s:=⟨I.ok.wish E,I.os,I.bare,I.base,I.loc,I.cell,I.free,I.freeC,I.pin,I.hok,I.len⟩
theorem Inv.unwish (I:Inv (X.wish E) pins σ H s):Inv X pins σ H s:=⟨I.ok.unwish,I.os,I.bare,I.base,I.loc,I.cell,I.free,I.freeC,I.pin,I.hok,I.len⟩
theorem SP.unwish {D:Ends} {f:Flow} {s':Shared} (h:SP (X.wish E) pins D f s'):SP X pins D f s':=by
  cases f with
  | next=>obtain ⟨σ',H',I,q⟩:=h; exact ⟨σ',H',I.unwish,q⟩
  | brk=>obtain ⟨σ',H',I,q⟩:=h; exact ⟨σ',H',I.unwish,q⟩
  | cont=>obtain ⟨σ',H',I,q⟩:=h; exact ⟨σ',H',I.unwish,q⟩
  | ret u=>obtain ⟨v,σ',H',I,r,q⟩:=h; exact ⟨v,σ',H',I.unwish,r,q⟩
theorem PSs.nox {st:List Stmt} {t:TS} (h:PSs X.nox st t):PSs X st t:=.mk fun pins s σ H D I hw =>
  wpAny_mono (h pins s σ H D (I.wish _) hw) (fun _ _ q=>q.unwish) fun _ _ z=>False.elim z
end
section
variable {X:Cx} {st:Stmt} {rest:List Stmt} {t u:TS} {e:Expr} {te:TE} {pos:Pos}
def tNext:TS:=fun D σ H=>D.nx σ H
def tSeq (t u:TS):TS:=fun D σ H=>t { D with nx:=u D } σ H
theorem pss_nil:PSs X [] tNext:=.mk fun _ _ σ H _ I h=>wpAny_execs_nil ⟨σ,H,I,h⟩
theorem pss_cons (h1:PS X st t) (h2:PSs X rest u):PSs X (st::rest) (tSeq t u):=by
  refine ⟨?_⟩
  intro pins s σ H D I h
  refine wpAny_execs_cons (thn (h1 pins s σ H { D with nx:=u D } I h) fun f s1 q=>?_)
  cases f with
  | next =>
    obtain ⟨σ',H',I',q⟩:=q
    exact h2 pins s1 σ' H' D I' q
  | ret v=>exact q
  | brk=>exact q
  | cont=>exact q
theorem pss_one (h1:PS X st t):PSs X [st] t:=by
  refine ⟨?_⟩
  intro pins s σ H D I h
  refine wpAny_execs_cons (thn (h1 pins s σ H D I h) fun f s1 q=>?_)
  cases f with
  | next=>exact wpAny_execs_nil q
  | ret v=>exact q
  | brk=>exact q
  | cont=>exact q
def tBreak:TS:=fun D σ H=>D.bk σ H
theorem ps_break:PS X (.Break pos) tBreak:=.mk fun _ _ σ H _ I h=>wpAny_Break ⟨σ,H,I,h⟩
theorem Inv.quiet {pins:List (Addr × Obj)} {σ:St} {H:Hp} {s:Shared} (I:Inv X pins σ H s):interactive X.env=false:=by simp [interactive,I.ok.kind]
def tDrop (te:TE):TS:=fun D σ H=>te σ H fun _ H1=>D.nx σ H1
theorem ps_expr (he:PE X e te) (hs:swapsWith e none pos.line X.env=pure false:=by rfl):PS X (.Expr e pos) (tDrop te):=by
  refine ⟨?_⟩
  intro pins s σ H D I h
  exact wpAny_Expr_any (thn (he pins s σ H _ I h) fun v s1 ⟨x,H1,I1,r1,q1⟩=>⟨σ,H1,I1,q1⟩) I.quiet hs
def tRet (te:TE):TS:=fun D σ H=>te σ H D.rt
theorem ps_ret (he:PE X e te):PS X (.Return (some e) pos) (tRet te):=by
  refine ⟨?_⟩
  intro pins s σ H D I h
  exact wpAny_Return_some (thn (he pins s σ H _ I h) fun v s1 ⟨x,H1,I1,r1,q1⟩=>⟨x,σ,H1,I1,r1,q1⟩)
def tIfS (c:TT) (t u:TS):TS:=fun D σ H=>c σ H fun b H1=>if b=true then t D σ H1 else u D σ H1
theorem ps_if {c:Expr} {a b:List Stmt} {tc:TT} (hc:PT X c tc) (ha:PSs X a t) (hb:PSs X b u):PS X (.If c a b pos) (tIfS tc t u):=by
  refine ⟨?_⟩
  intro pins s σ H D I h
  refine wpAny_If (thn (hc pins s σ H _ I h) fun d s1 ⟨H1,I1,q1⟩=>?_)
  cases d with
  | true=>exact ha pins s1 σ H1 D I1 q1
  | false=>exact hb pins s1 σ H1 D I1 q1
def tNever:TS:=fun _ _ _=>False
theorem pss_never {sts:List Stmt}:PSs X sts tNever:=.mk fun _ _ _ _ _ _ h=>h.elim
end
abbrev TG:=V→St→Hp→(St→Hp→Prop)→Prop
abbrev TGs:=List V→St→Hp→(St→Hp→Prop)→Prop
def PG (X:Cx) (target:Expr) (t:TG):Prop :=
  ∀ (pins:List (Addr × Obj)) (s:Shared) (σ:St) (H:Hp) (v:V) (u:Value) (Q:St→Hp→Prop),Inv X pins σ H s→RelV v u→t v σ H Q →
    wpAny (model X.prog X.w) X.A (assign target X.env u) (fun _ s'=>∃ σ' H',Inv X pins σ' H' s'∧Q σ' H') X.xe s
def PGs (X:Cx) (ts:List Expr) (t:TGs):Prop :=
  ∀ (pins:List (Addr × Obj)) (s:Shared) (σ:St) (H:Hp) (vs:List V) (us:List Value) (Q:St→Hp→Prop),Inv X pins σ H s→Vals vs us→t vs σ H Q →
    wpAny (model X.prog X.w) X.A (assignInOrder ((assignEach ts X.env).map (·.2)) us) (fun _ s'=>∃ σ' H',Inv X pins σ' H' s'∧Q σ' H') X.xe s
abbrev TSet:=V→V→V→Hp→(Hp→Prop)→Prop
def PSet (X:Cx) (t:TSet):Prop :=
  ∀ (pins:List (Addr × Obj)) (s:Shared) (σ:St) (H:Hp) (o i v:V) (ov iv u:Value) (Q:Hp→Prop),Inv X pins σ H s→RelV o ov→RelV i iv→RelV v u→t o i v H Q →
    wpAny (model X.prog X.w) X.A (setItem ov iv u) (fun _ s'=>∃ H',Inv X pins σ H' s'∧Q H') X.xe s
abbrev TIp:=V→V→Hp→VK→Prop
def PIp (X:Cx) (op:Operator) (t:TIp):Prop :=
  ∀ (pins:List (Addr × Obj)) (s:Shared) (σ:St) (H:Hp) (x y:V) (v u:Value) (Q:VK),Inv X pins σ H s→RelV x v→RelV y u→t x y H Q →
    wpAny (model X.prog X.w) X.A (inplaceOp op v u) (EP X pins σ Q) X.xe s
section
variable {X:Cx} {pos:Pos}
def gName (i:Nat):TG:=fun v σ H Q=>Q (σ.set i (some v)) H
theorem pg_name {i:Nat} {x:Str} (hN:X.N.Nodup) (hi:X.N[i]?=some x) (hx:Loc X.env.scope x) (hf:X.fn x=true∨X.env.scope.names.lookup x=some .local:=by first | exact .inl rfl | exact .inr rfl | assumption):PG X (.Name x pos) (gName i):=by
  intro pins s σ H v u Q I r h
  exact wpAny_assign_Name (store_ok I hN hi hx r (fun s' I'=>⟨_,H,I',h⟩) hf)
def gNil:TGs:=fun vs σ H Q=>vs=[]∧Q σ H
inductive gCons (t:TG) (u:TGs) (vs:List V) (σ:St) (H:Hp) (Q:St→Hp→Prop):Prop
  | mk (v:V) (r:List V) (e:vs=v::r) (q:t v σ H fun σ' H'=>u r σ' H' Q):gCons t u vs σ H Q
theorem pgs_nil:PGs X [] gNil:=by
  intro pins s σ H vs us Q I r h
  obtain ⟨e,h⟩:=h
  subst e
  cases r
  exact assignInOrder_nil ⟨σ,H,I,h⟩
theorem pgs_cons {e:Expr} {es:List Expr} {t:TG} {u:TGs} (h1:PG X e t) (h2:PGs X es u)
    (hs:(assignEach (e::es) X.env).map (·.2)=assign e X.env::(assignEach es X.env).map (·.2):=by rfl):PGs X (e::es) (gCons t u):=by
  intro pins s σ H vs us Q I r h
  obtain ⟨v,vr,e1,h⟩:=h
  subst e1
  cases r with
  | cons r rr =>
    rw [hs]
    refine assignInOrder_cons (thn (h1 pins s σ H _ _ _ I r h) fun _ s1 ⟨σ1,H1,I1,q1⟩=>?_)
    exact h2 pins s1 σ1 H1 _ _ Q I1 rr q1
inductive gTup (K:PySem.W.Frag) (n:Nat) (t:TGs) (v:V) (σ:St) (H:Hp) (Q:St→Hp→Prop):Prop
  | mk (a:Addr) (xs:List V) (e:v=.ref a) (h:SqT K H a xs) (l:xs.length=n) (q:t xs σ H Q):gTup K n t v σ H Q
theorem pg_tup {es:List Expr} {k:Nat} {t:TGs} {n:Nat} (hc:X.calm=true) (h:PGs X es t)
    (hn:(assignEach es X.env).length=n:=by rfl) (hst:(assignEach es X.env).findIdx? (·.1)=none:=by rfl):PG X (.Tuple es k pos) (gTup X.K n t):=by
  intro pins s σ H v u Q I r hw
  obtain ⟨a,xs,e1,hq,hl,hw⟩:=hw
  subst e1
  cases r
  obtain ⟨its,rv,ht,hz⟩:=I.tuple hq
  refine assign_Tuple_tuple (I.ok.hd hc) ht (by simp [hn,← hl,rv.length]) hst fun h' hx=>?_
  have I1:Inv X pins σ H { s with heap:=h' }:=I.kept (t':=s.toks) fun b o e=>hx b o (Nat.ne_of_lt (Heap.lt_size e)) e
  exact h pins _ σ H xs _ Q I1 (by simpa using rv) hw
def gSub (to ti:TE) (t:TSet):TG:=fun v σ H Q=>to σ H fun o H1=>ti σ H1 fun i H2=>t o i v H2 fun H3=>Q σ H3
theorem pg_sub {o i:Expr} {to ti:TE} {t:TSet} (ho:PE X o to) (hi:PE X i ti) (hs:PSet X t)
    (ha:∀ v,assign (.Subscript o i pos) X.env v=(do
      let ov ← holding [v] (eval o X.env)
      let iv ← holding [v,ov] (eval i X.env)
      standAt pos
      holding [v,ov,iv] (setItem ov iv v)
      release [v,ov,iv] []):=by intro _; rfl):PG X (.Subscript o i pos) (gSub to ti t):=by
  intro pins s σ H v u Q I r h
  rw [ha]
  refine wpAny_bind (wpAny_holding (thn (ho pins s σ H _ I h) fun ov s1 ⟨x,H1,I1,r1,q1⟩=>?_))
  refine wpAny_bind (wpAny_holding (thn (hi pins s1 σ H1 _ I1 q1) fun iv s2 ⟨y,H2,I2,r2,q2⟩=>?_))
  refine wpAny_bind (wpAny_standAt (wpAny_bind (wpAny_holding (thn (hs pins s2 σ H2 x y v ov iv u _ I2 r1 r2 r q2) fun _ s3 ⟨H3,I3,q3⟩=>?_))))
  exact wpAny_release ⟨σ,H3,I3,q3⟩
def tAsg (te:TE) (g:TG):TS:=fun D σ H=>te σ H fun x H1=>g x σ H1 D.nx
theorem ps_asg {tg e:Expr} {te:TE} {g:TG} (he:PE X e te) (hg:PG X tg g) (hs:swapsWithSole [tg] e pos.line X.env=pure false:=by rfl) (hw:swappedStores [tg] e X.env=pure none:=by rfl)
    (h1:(assignEach [tg] X.env).map (·.2)=[assign tg X.env]:=by rfl):PS X (.Assign [tg] e pos) (tAsg te g):=by
  refine ⟨?_⟩
  intro pins s σ H D I h
  refine wpAny_Assign_stores (thn (he pins s σ H _ I h) fun v s1 ⟨x,H1,I1,r1,q1⟩=>?_) hs hw
  rw [h1]
  exact thn (hg pins s1 σ H1 x v _ I1 r1 q1) fun _ s2 q=>q
theorem ps_set {i:Nat} {x:Str} {e:Expr} {te:TE} {pos':Pos} (hN:X.N.Nodup) (hi:X.N[i]?=some x) (hx:Loc X.env.scope x) (he:PE X e te) (hs:swapsWith e (some (.Name x pos')) pos.line X.env=pure false:=by rfl) (hf:X.fn x=true∨X.env.scope.names.lookup x=some .local:=by first | exact .inl rfl | exact .inr rfl | assumption) :
    PS X (.Assign [.Name x pos'] e pos) (tAsg te (gName i)):=by
  refine ⟨?_⟩
  intro pins s σ H D I h
  refine wpAny_Assign_Name (thn (he pins s σ H _ I h) fun v s1 ⟨y,H1,I1,r1,q1⟩=>?_) hs
  exact store_ok I1 hN hi hx r1 (fun s2 I2=>⟨_,H1,I2,q1⟩) hf
def tAug (i:Nat) (te:TE) (ti:TIp):TS:=fun D σ H=>∃ x,σ[i]?=some (some x)∧te σ H fun y H1=>ti x y H1 fun z H2=>D.nx (σ.set i (some z)) H2
theorem ps_aug {i:Nat} {x:Str} {e:Expr} {te:TE} {op:Operator} {ti:TIp} {pos':Pos} (hN:X.N.Nodup) (hi:X.N[i]?=some x) (hx:Loc X.env.scope x) (he:PE X e te) (ho:PIp X op ti) (hf:X.fn x=true∨X.env.scope.names.lookup x=some .local:=by first | exact .inl rfl | exact .inr rfl | assumption) :
    PS X (.AugAssign (.Name x pos') op e pos) (tAug i te ti):=by
  refine ⟨?_⟩
  intro pins s σ H D I h
  obtain ⟨v,e1,h⟩:=h
  obtain ⟨m,hn,hl⟩:=I.loc
  have vis:Vis X.env.scope x:=by rcases hx with k | k; exact .inl k; exact .inr (.inl k)
  obtain ⟨u,r,l⟩:=hl i x v hi e1 vis
  refine wpAny_AugAssign_Name ?_
  have go:wpAny (model X.prog X.w) X.A (eval e X.env) (fun w s₂=>wpAny (model X.prog X.w) X.A (inplaceOp op u w) (fun r s₃=>wpAny (model X.prog X.w) X.A (storeName X.env x r) (fun _=>SP X pins D .next) X.xe s₃) X.xe s₂) X.xe s:=by
    refine thn (he pins s σ H _ I h) fun w s1 ⟨y,H1,I1,r1,q1⟩=>?_
    refine thn (ho pins s1 σ H1 v y u w _ I1 r r1 q1) fun z s2 ⟨zv,H2,I2,r2,q2⟩=>?_
    exact store_ok I2 hN hi hx r2 (fun s3 I3=>⟨_,H2,I3,q2⟩) hf
  rcases l with ⟨hk,hm⟩ | ⟨hk,c,hc,hcell⟩
  · exact wpAny_loadName_local I.ok.kind hk hn hm go
  · rcases hk with hk | hk
    · exact wpAny_loadName_cell I.ok.kind hk hc hcell go
    · rcases hx with k | k
      · have:X.env.scope.names.lookup x=some .free:=hk
        rw [k] at this; cases this
      · have:X.env.scope.names.lookup x=some .free:=hk
        rw [k] at this; cases this
def tAugS (to ti te:TE) (tget:V→V→Hp→VK→Prop) (tip:TIp) (tset:TSet):TS:=fun D σ H=>to σ H fun o H1=>ti σ H1 fun i H2=>tget o i H2 fun x H3=>te σ H3 fun y H4=>tip x y H4 fun z H5=>tset o i z H5 fun H6=>D.nx σ H6
def PGet (X:Cx) (t:V→V→Hp→VK→Prop):Prop :=
  ∀ (pins:List (Addr × Obj)) (s:Shared) (σ:St) (H:Hp) (o i:V) (ov iv:Value) (Q:VK),Inv X pins σ H s→RelV o ov→RelV i iv→t o i H Q →
    wpAny (model X.prog X.w) X.A (getItem ov iv) (EP X pins σ Q) X.xe s
theorem ps_augS {o i e:Expr} {to ti te:TE} {tget:V→V→Hp→VK→Prop} {tip:TIp} {tset:TSet} {op:Operator} {tpos:Pos} (ho:PE X o to) (hi:PE X i ti) (hg:PGet X tget) (he:PE X e te) (hp:PIp X op tip) (hs:PSet X tset)
    (ha:∀ ov iv new,augStore i ov iv new=(do holding [new,ov,iv] (setItem ov iv new); release [new,ov,iv] []; pure .next):=by intros; rfl):PS X (.AugAssign (.Subscript o i tpos) op e pos) (tAugS to ti te tget tip tset):=by
  refine ⟨?_⟩
  intro pins s σ H D I h
  refine wpAny_AugAssign_SubscriptAny (thn (ho pins s σ H _ I h) fun ov s1 ⟨x1,H1,I1,r1,q1⟩=>?_) ha
  refine thn (hi pins s1 σ H1 _ I1 q1) fun iv s2 ⟨x2,H2,I2,r2,q2⟩=>?_
  refine thn (hg pins s2 σ H2 x1 x2 ov iv _ I2 r1 r2 q2) fun old s3 ⟨x3,H3,I3,r3,q3⟩=>?_
  refine thn (he pins s3 σ H3 _ I3 q3) fun v s4 ⟨x4,H4,I4,r4,q4⟩=>?_
  refine thn (hp pins s4 σ H4 x3 x4 old v _ I4 r3 r4 q4) fun new s5 ⟨x5,H5,I5,r5,q5⟩=>?_
  exact thn (hs pins s5 σ H5 x1 x2 x5 ov iv new _ I5 r1 r2 r5 q5) fun _ s6 ⟨H6,I6,q6⟩=>⟨σ,H6,I6,q6⟩
def ipI (f:Int→Int→Int):TIp:=fun x y H Q=>∃ i j,x=.int i∧y=.int j∧Q (.int (f i j)) H
theorem ip_add:PIp X .Add (ipI fun i j=>i + j):=by
  intro pins s σ H x y v u Q I r1 r2 h
  obtain ⟨i,j,e1,e2,q⟩:=h
  subst e1; subst e2
  obtain ⟨t,rfl⟩:=r1
  obtain ⟨t',rfl⟩:=r2
  exact iadd_int ⟨.int _,H,I.tok _,⟨_,rfl⟩,q⟩
theorem ip_sub:PIp X .Sub (ipI fun i j=>i - j):=by
  intro pins s σ H x y v u Q I r1 r2 h
  obtain ⟨i,j,e1,e2,q⟩:=h
  subst e1; subst e2
  obtain ⟨t,rfl⟩:=r1
  obtain ⟨t',rfl⟩:=r2
  exact isub_int ⟨.int _,H,I.tok _,⟨_,rfl⟩,q⟩
end
section
variable {X:Cx} {pos:Pos}
def tWhile (c:TT) (tb:TS):TS:=fun D σ H=>∃ W:Nat→St→Hp→Prop,(∃ m,W m σ H)∧∀ m σ H,W m σ H →
  c σ H fun b H1=>if b=true then ∃ N:St→Hp→Prop,(∀ σ' H',N σ' H'→∃ m',m' < m∧W m' σ' H')∧tb { D with nx:=N,ct:=N,bk:=D.nx } σ H1 else D.nx σ H1
theorem ps_while {c:Expr} {body:List Stmt} {tc:TT} {tb:TS} (hp:PassesOwn (model X.prog X.w) X.A X.env X.xe) (hc:PT X c tc) (hb:PSs X body tb):PS X (.While c body [] pos) (tWhile tc tb):=by
  refine ⟨?_⟩
  intro pins s σ H D I h
  obtain ⟨W,⟨m0,w0⟩,turn⟩:=h
  refine wpAny_While (codeAny_whileLoop (fun n s'=>∃ σ' H',Inv X pins σ' H' s'∧W n σ' H') ?_ m0 ⟨σ,H,I,w0⟩)
  rintro n s1 ⟨σ1,H1,I1,w1⟩
  refine wpAny_passesOwn hp (thn (hc pins s1 σ1 H1 _ I1 (turn n σ1 H1 w1)) fun b s2 ⟨H2,I2,q2⟩=>?_)
  cases b with
  | true =>
    obtain ⟨N,hN,q2⟩:=q2
    rw [if_pos rfl]
    refine wpAny_passesOwn hp (thn (hb pins s2 σ1 H2 _ I2 q2) fun f s3 q3=>?_)
    cases f with
    | next =>
      obtain ⟨σ3,H3,I3,n3⟩:=q3
      obtain ⟨m',hm,w3⟩:=hN σ3 H3 n3
      exact ⟨m',hm,σ3,H3,I3,w3⟩
    | cont =>
      obtain ⟨σ3,H3,I3,n3⟩:=q3
      obtain ⟨m',hm,w3⟩:=hN σ3 H3 n3
      exact ⟨m',hm,σ3,H3,I3,w3⟩
    | brk=>exact q3
    | ret v=>exact q3
  | false =>
    rw [if_neg Bool.false_ne_true]
    exact wpAny_execs_nil ⟨σ1,H2,I2,q2⟩
end
structure It where
  go:Nat→Hp→Prop
  yld:Nat→Hp→V→Hp→Prop
  stop:Nat→Hp→Prop
def FpOk (X:Cx) (pins:List (Addr × Obj)) (H:Hp) (b:Addr):Prop :=
  H b=none∧b≠X.env.locals∧b ∉ X.fs∧(b ∈ X.ex∨X.s₀.heap.objs.size≤b)∧(∀ x c,X.env.cells.lookup x=some c→c≠b)∧∀ p ∈ X.pn++pins,p.1≠b
theorem Inv.fpOk {X:Cx} {pins:List (Addr × Obj)} {σ:St} {H H':Hp} {s:Shared} {b:Addr} (I:Inv X pins σ H s) (hb:s.heap.objs.size≤b) (hn:H' b=none):FpOk X pins H' b:=by
  refine ⟨hn,Nat.ne_of_gt (Nat.lt_of_lt_of_le I.lt hb),I.nofs hb,.inr (Nat.le_trans I.sz hb),fun x c e z=>?_,fun p hp z=>?_⟩
  · obtain ⟨v,q⟩:=I.cell x c e
    exact absurd (Nat.lt_of_lt_of_le q.lt (by rw [z]; exact hb)) (Nat.lt_irrefl _)
  · exact absurd (Nat.lt_of_lt_of_le (Heap.lt_size (I.pin p hp).1) (by rw [z]; exact hb)) (Nat.lt_irrefl _)
structure Turn (P:Program) (w:World) (K:PySem.W.Frag) (tg:Expr) (J:It) (fp:List Addr) (it:Addr) (tn:Nat→Heap→Prop):Prop where
  mem:it ∈ fp
  obj:∀ i h,tn i h→∀ b ∈ fp,∃ o,h.get? b=some o∧∀ v,o.data≠.cell v
  keep:∀ i h h',tn i h→(∀ b ∈ fp,∀ o,h.get? b=some o→h'.get? b=some o)→tn i h'
  item:∀ (X:Cx),X.prog=P→X.w=w→X.K=K→X.calm=true→∀ (i:Nat) (pins:List (Addr × Obj)) (s:Shared) (σ:St) (H:Hp) (E:Value→Shared→Prop),Inv X pins σ H s→(∀ b ∈ fp,FpOk X pins H b)→tn i s.heap→J.go i H →
    wpAny (model P w) X.A (pyNext (.ref it)) (fun r s1=>∃ u,r=some u ∧
      wpAny (model P w) X.A (letOwnedTupleGo tg (.ref it) u) (fun _ s2=>∃ x H',Inv X pins σ H' s2∧RelV x u∧J.yld i H x H'∧tn (i + 1) s2.heap∧∀ b ∈ fp,H' b=none) E s1) E s
  done:∀ (X:Cx),X.prog=P→X.w=w→X.K=K→X.calm=true→∀ (i:Nat) (pins:List (Addr × Obj)) (s:Shared) (σ:St) (H:Hp) (E:Value→Shared→Prop),Inv X pins σ H s→(∀ b ∈ fp,FpOk X pins H b)→tn i s.heap→J.stop i H →
    wpAny (model P w) X.A (pyNext (.ref it)) (fun r s1=>r=none∧Inv X pins σ H s1) E s
  self:∀ (A:Around) (i:Nat) (s:Shared) (Q:Value→Shared→Prop) (E:Value→Shared→Prop),tn i s.heap→Q (.ref it) s→wpAny (model P w) A (pyIter (.ref it)) Q E s
abbrev TI:=St→Hp→(It→Hp→Prop)→Prop
def PIE (X:Cx) (pins:List (Addr × Obj)) (σ:St) (tg:Expr) (R:It→Hp→Prop) (itv:Value) (s2:Shared):Prop :=
  ∃ (it:Addr) (fp:List Addr) (tn:Nat→Heap→Prop) (J:It) (H':Hp),itv=.ref it∧Inv X pins σ H' s2∧Turn X.prog X.w X.K tg J fp it tn∧tn 0 s2.heap∧(∀ b ∈ fp,FpOk X pins H' b)∧R J H'
def PI (X:Cx) (tg iter:Expr) (wi:TI):Prop :=
  ∀ (pins:List (Addr × Obj)) (s:Shared) (σ:St) (H:Hp) (R:It→Hp→Prop),Inv X pins σ H s→wi σ H R →
    wpAny (model X.prog X.w) X.A (eval iter X.env) (fun v s1=>wpAny (model X.prog X.w) X.A (pyIter v) (PIE X pins σ tg R) X.xe s1) X.xe s
theorem go_of {M:Model} {A:Around} {E:Value→Shared→Prop} {s:Shared} {tg:Expr} {it:Addr} {u:Value} {o:Obj} {n:String} {vs:Array Value} {Q:Unit→Shared→Prop} (ho:s.heap.get? it=some o) (hc:o.cls=.type n) (hd:o.data=.fields vs)
    (hn:["enumerate","zip","dict_itemiterator","dict_reverseitemiterator","odict_iterator","itertools.zip_longest","itertools.pairwise"].contains n=false) (hQ:Q () s):wpAny M A (letOwnedTupleGo tg (.ref it) u) Q E s:=by
  unfold letOwnedTupleGo
  cases tg <;> first
    | exact wpAny_pure hQ
    | (cases u <;> first
        | exact wpAny_pure hQ
        | (refine wpAny_bind (wpAny_load ho ?_)
           rw [hc,hd]
           show wpAny M A (if (["enumerate","zip","dict_itemiterator","dict_reverseitemiterator","odict_iterator","itertools.zip_longest","itertools.pairwise"].contains n && vs[0]? == some (rawInt _))=true then _ else _) Q E s
           rw [if_neg (by intro h; rw [hn,Bool.false_and] at h; cases h)]
           exact wpAny_pure hQ))
def Itl (K:PySem.W.Frag) (a:Addr):It :=
  ⟨fun i H=>∃ xs x,SqL K H a xs∧xs[i]?=some x,fun i H x H'=>H'=H∧∀ xs,SqL K H a xs→xs[i]?=some x,fun i H=>∃ xs,SqL K H a xs∧xs.length≤i⟩
def Itt (K:PySem.W.Frag) (a:Addr):It :=
  ⟨fun i H=>∃ xs x,SqT K H a xs∧xs[i]?=some x,fun i H x H'=>H'=H∧∀ xs,SqT K H a xs→xs[i]?=some x,fun i H=>∃ xs,SqT K H a xs∧xs.length≤i⟩
def Itr (lo:Int) (n:Nat):It:=⟨fun i _=>i < n,fun i H x H'=>H'=H∧x=.int (lo + i),fun i _=>n≤i⟩
theorem turn_list {P:Program} {w:World} {K:PySem.W.Frag} {tg:Expr} (a it:Addr):Turn P w K tg (Itl K a) [it] it (fun i h=>h.IsListIter it a i) where
  mem:=by simp
  obj:=fun i h st b hb=>by
    have e:b=it:=by simpa using hb
    subst e
    obtain ⟨o,e,c,d⟩:=st
    exact ⟨o,e,fun v z=>by rw [d] at z; cases z⟩
  keep:=fun i h h' st k=>st.at fun o e=>k it (by simp) o e
  item:=by
    intro X hP hw hK hc i pins s σ H E I hf st hg
    subst hP hw hK
    obtain ⟨xs,x,hq,hx⟩:=hg
    obtain ⟨its,rv,p,hz⟩:=I.list hq
    obtain ⟨u,hu,ru⟩:=rv.get hx
    obtain ⟨f0,f1,f2,f3,f4,f5⟩:=hf it (by simp)
    refine wpAny_pyNext_list_item st p.isList (x:=u) (by simpa using hu) fun h' st' sb=>?_
    have I1:Inv X pins σ H { s with heap:=h' }:=I.turned (t':=s.toks) (fun b o hb e=>(sb.2 b hb).trans e) f0 f1 f3 f4 f5
    obtain ⟨o,e,c,d⟩:=id st'
    exact ⟨u,rfl,go_of (s:={ s with heap:=h' }) e c d (by decide) ⟨x,H,I1,ru,⟨rfl,fun ys hy=>by rw [I.list_inj hy hq]; exact hx⟩,st',fun b hb=>(hf b hb).1⟩⟩
  done:=by
    intro X hP hw hK hc i pins s σ H E I hf st hg
    subst hP hw hK
    obtain ⟨xs,hq,hx⟩:=hg
    obtain ⟨its,rv,p,hz⟩:=I.list hq
    obtain ⟨f0,f1,f2,f3,f4,f5⟩:=hf it (by simp)
    have hl:=rv.length
    exact wpAny_pyNext_list_end (I.ok.hd hc) st p.isList (by simp; omega) fun h' eb=>⟨rfl,I.turned (t':=s.toks) (fun b o hb e=>eb b o hb e) f0 f1 f3 f4 f5⟩
  self:=fun _ _ _ _ _ st h=>wpAny_pyIter_listiter st h
theorem turn_tuple {P:Program} {w:World} {K:PySem.W.Frag} {tg:Expr} (a it:Addr):Turn P w K tg (Itt K a) [it] it (fun i h=>h.IsTupleIter it a i) where
  mem:=by simp
  obj:=fun i h st b hb=>by
    have e:b=it:=by simpa using hb
    subst e
    obtain ⟨o,e,c,d⟩:=st
    exact ⟨o,e,fun v z=>by rw [d] at z; cases z⟩
  keep:=fun i h h' st k=>st.at fun o e=>k it (by simp) o e
  item:=by
    intro X hP hw hK hc i pins s σ H E I hf st hg
    subst hP hw hK
    obtain ⟨xs,x,hq,hx⟩:=hg
    obtain ⟨its,rv,p,hz⟩:=I.tuple hq
    obtain ⟨u,hu,ru⟩:=rv.get hx
    obtain ⟨f0,f1,f2,f3,f4,f5⟩:=hf it (by simp)
    refine wpAny_pyNext_tuple_item st (show s.heap.IsTuple a its.toArray from p) (x:=u) (by simpa using hu) fun h' st' sb=>?_
    have I1:Inv X pins σ H { s with heap:=h' }:=I.turned (t':=s.toks) (fun b o hb e=>(sb.2 b hb).trans e) f0 f1 f3 f4 f5
    obtain ⟨o,e,c,d⟩:=id st'
    exact ⟨u,rfl,go_of (s:={ s with heap:=h' }) e c d (by decide) ⟨x,H,I1,ru,⟨rfl,fun ys hy=>by rw [I.tuple_inj hy hq]; exact hx⟩,st',fun b hb=>(hf b hb).1⟩⟩
  done:=by
    intro X hP hw hK hc i pins s σ H E I hf st hg
    subst hP hw hK
    obtain ⟨xs,hq,hx⟩:=hg
    obtain ⟨its,rv,p,hz⟩:=I.tuple hq
    obtain ⟨f0,f1,f2,f3,f4,f5⟩:=hf it (by simp)
    have hl:=rv.length
    exact wpAny_pyNext_tuple_end (I.ok.hd hc) st (show s.heap.IsTuple a its.toArray from p) (by simp; omega) fun h' eb=>⟨rfl,I.turned (t':=s.toks) (fun b o hb e=>eb b o hb e) f0 f1 f3 f4 f5⟩
  self:=fun _ _ _ _ _ st h=>wpAny_pyIter_tupleiter st h
theorem turn_range {P:Program} {w:World} {K:PySem.W.Frag} {tg:Expr} (it:Addr) (lo:Int) (n:Nat):Turn P w K tg (Itr lo n) [it] it (fun i h=>IsRangeIter h it (lo + (i:Nat) * 1) ((n:Int) - (i:Nat)) 1) where
  mem:=by simp
  obj:=fun i h st b hb=>by
    have e:b=it:=by simpa using hb
    subst e
    exact ⟨_,st,fun v z=>by
      have z':Data.fields _=Data.cell v:=z
      cases z'⟩
  keep:=fun i h h' st k=>k it (by simp) _ st
  item:=by
    intro X hP hw hK hc i pins s σ H E I hf st hg
    subst hP hw hK
    obtain ⟨f0,f1,f2,f3,f4,f5⟩:=hf it (by simp)
    have W:=Walks.range (prog:=X.prog) (w:=X.w) (I.ok.hd hc) it lo 1 n
    refine W.item i s _ _ hg st fun v h' tk hv st' kk=>?_
    obtain ⟨t,rfl⟩:=hv
    have I1:Inv X pins σ H { s with heap:=h',toks:=tk }:=I.turned (fun b o hb e=>kk b o (by simpa using hb) e) f0 f1 f3 f4 f5
    refine ⟨_,rfl,go_of (s:={ s with heap:=h',toks:=tk }) (n:="range_iterator") st' rfl rfl (by decide) ⟨.int (lo + i),H,I1,⟨t,?_⟩,⟨rfl,rfl⟩,st',fun b hb=>(hf b hb).1⟩⟩
    rw [Int.mul_one]
  done:=by
    intro X hP hw hK hc i pins s σ H E I hf st hg
    subst hP hw hK
    obtain ⟨f0,f1,f2,f3,f4,f5⟩:=hf it (by simp)
    exact wpAny_pyNext_range_end (I.ok.hd hc) st (by have:n≤i:=hg; omega) fun h' eb=>⟨rfl,I.turned (t':=s.toks) (fun b o hb e=>eb b o hb e) f0 f1 f3 f4 f5⟩
  self:=fun _ _ _ _ _ st h=>wpAny_pyIter_rangeiter st h
end L2
namespace L2
open PySem PySem.Spec PyProof.Rows
section
variable {X:Cx} {tg:Expr}
inductive iListX (K:PySem.W.Frag) (R:It→Hp→Prop) (x:V) (H1:Hp):Prop
  | mk (a:Addr) (e:x=.ref a) (h:∃ xs,SqL K H1 a xs) (q:R (Itl K a) H1):iListX K R x H1
def iList (K:PySem.W.Frag) (tl:TE):TI:=fun σ H R=>tl σ H fun x H1=>iListX K R x H1
def iTup (K:PySem.W.Frag) (tl:TE):TI:=fun σ H R=>tl σ H fun x H1=>∃ a,x=.ref a∧(∃ xs,SqT K H1 a xs)∧R (Itt K a) H1
theorem pi_list {l:Expr} {tl:TE} (hl:PE X l tl):PI X tg l (iList X.K tl):=by
  intro pins s σ H R I h
  refine thn (hl pins s σ H _ I h) fun v s1 ⟨x,H1,I1,r1,q1⟩=>?_
  obtain ⟨a,e,⟨xs,hq⟩,q⟩:=q1
  subst e
  cases r1
  obtain ⟨its,rv,p,hz⟩:=I1.list hq
  refine wpAny_pyIter_list p.isList ?_
  refine ⟨s1.heap.objs.size,[s1.heap.objs.size],_,_,H1,rfl,I1.kept (t':=s1.toks) fun b o e=>Heap.get?_push_of_some _ e,turn_list a _,⟨_,Heap.get?_push_size _ rfl,rfl,rfl⟩,fun b hb=>?_,q⟩
  have e:b=s1.heap.objs.size:=by simpa using hb
  subst e
  exact I1.fpOk (Nat.le_refl _) (I1.hok.fresh (Nat.le_refl _))
theorem pi_tup {l:Expr} {tl:TE} (hl:PE X l tl):PI X tg l (iTup X.K tl):=by
  intro pins s σ H R I h
  refine thn (hl pins s σ H _ I h) fun v s1 ⟨x,H1,I1,r1,q1⟩=>?_
  obtain ⟨a,e,⟨xs,hq⟩,q⟩:=q1
  subst e
  cases r1
  obtain ⟨its,rv,p,hz⟩:=I1.tuple hq
  refine wpAny_pyIter_tuple (show s1.heap.IsTuple a its.toArray from p) ?_
  refine ⟨s1.heap.objs.size,[s1.heap.objs.size],_,_,H1,rfl,I1.kept (t':=s1.toks) fun b o e=>Heap.get?_push_of_some _ e,turn_tuple a _,⟨_,Heap.get?_push_size _ rfl,rfl,rfl⟩,fun b hb=>?_,q⟩
  have e:b=s1.heap.objs.size:=by simpa using hb
  subst e
  exact I1.fpOk (Nat.le_refl _) (I1.hok.fresh (Nat.le_refl _))
theorem range_it {pins:List (Addr × Obj)} {σ:St} {H:Hp} {s:Shared} {R:It→Hp→Prop} {E:Value→Shared→Prop} {lo hi:Int} {t u v:Tok} {tk:Nat} (I:Inv X pins σ H s) (h1 : -(2 ^ 62)≤lo) (h2:lo < 2 ^ 62) (h3 : -(2 ^ 62)≤hi) (h4:hi < 2 ^ 62)
    (q:R (Itr lo (hi - lo).toNat) H):wpAny (model X.prog X.w) X.A (pyIter (.ref s.heap.objs.size)) (PIE X pins σ tg R) E { s with heap:=s.heap.push { cls:=.type "range",data:=.fields #[.int lo t,.int hi u,.int 1 v] },toks:=tk }:=by
  refine wpAny_pyIter_range (IsRange.new ..) (small_one h1 h2 h3 h4) ?_
  have I1:Inv X pins σ H { s with heap:=s.heap.push { cls:=.type "range",data:=.fields #[.int lo t,.int hi u,.int 1 v] },toks:=tk }:=I.kept fun b o e=>Heap.get?_push_of_some _ e
  refine ⟨(s.heap.push { cls:=.type "range",data:=.fields #[.int lo t,.int hi u,.int 1 v] }).objs.size,[(s.heap.push { cls:=.type "range",data:=.fields #[.int lo t,.int hi u,.int 1 v] }).objs.size],_,_,H,rfl,
    I1.kept (t':=tk) fun b o e=>Heap.get?_push_of_some _ e,turn_range _ lo (hi - lo).toNat,?_,fun b hb=>?_,q⟩
  · have e1:lo + ((0:Nat):Int) * 1=lo:=by simp
    have e2:(((hi - lo).toNat:Nat):Int) - ((0:Nat):Int)=Builtin.Range.rangeSize lo hi 1:=by rw [rangeSize_one]; split <;> omega
    show IsRangeIter _ _ (lo + ((0:Nat):Int) * 1) ((((hi - lo).toNat:Nat):Int) - ((0:Nat):Int)) 1
    rw [e1,e2]
    exact Heap.get?_push_size _ rfl
  · have e:b=(s.heap.push { cls:=.type "range",data:=.fields #[.int lo t,.int hi u,.int 1 v] }).objs.size:=by simpa using hb
    subst e
    exact I1.fpOk (Nat.le_refl _) (I1.hok.fresh (Nat.le_refl _))
inductive iRng1X (R:It→Hp→Prop) (vs:List V) (H1:Hp):Prop
  | mk (j:Int) (e:vs=[.int j]) (h1 : -(2 ^ 62)≤j) (h2:j < 2 ^ 62) (q:R (Itr 0 j.toNat) H1):iRng1X R vs H1
def iRng1 (ta:TA):TI:=fun σ H R=>ta σ H fun vs H1=>iRng1X R vs H1
def iRng2 (ta:TA):TI:=fun σ H R=>ta σ H fun vs H1=>∃ i j:Int,vs=[.int i,.int j]∧(-(2 ^ 62)≤i∧i < 2 ^ 62∧-(2 ^ 62)≤j∧j < 2 ^ 62)∧R (Itr i (j - i).toNat) H1
theorem pi_range1 {a:Expr} {ta:TA} {p pos:Pos} (hg:Gl X "range") (hm:X.mg "range"=none) (ha:PA X [a] ta) (hs:starEach [a] X.env=[(false,eval a X.env)]:=by rfl):PI X tg (.Call (.Name "range" p) [a] [] pos) (iRng1 ta):=by
  intro pins s σ H R I h
  refine Call_ (ld_blt I hg hm boot_range (PyProof.Rows.callWith_type1 (thn (ha pos pins s σ H _ I h) fun us s1 ⟨vs,H1,I1,r1,q1⟩=>?_) hs rfl))
  obtain ⟨j,e,q1,q2,q⟩:=q1
  subst e
  cases r1 with
  | cons r rr =>
    cases rr
    obtain ⟨t,rfl⟩:=r
    exact call_range_1 (range_it I1 (by omega) (by omega) q1 q2 (by simpa using q))
theorem pi_range2 {a b:Expr} {ta:TA} {p pos:Pos} (hg:Gl X "range") (hm:X.mg "range"=none) (ha:PA X [a,b] ta) (hs:starEach [a,b] X.env=[(false,eval a X.env),(false,eval b X.env)]:=by rfl) (hs2:starEach [b] X.env=[(false,eval b X.env)]:=by rfl) :
    PI X tg (.Call (.Name "range" p) [a,b] [] pos) (iRng2 ta):=by
  intro pins s σ H R I h
  refine Call_ (ld_blt I hg hm boot_range (PyProof.Rows.callWith_type1 (thn (ha pos pins s σ H _ I h) fun us s1 ⟨vs,H1,I1,r1,q1⟩=>?_) (by rw [hs,hs2]) (by rw [hs2]; rfl)))
  obtain ⟨i,j,e,⟨q1,q2,q3,q4⟩,q⟩:=q1
  subst e
  cases r1 with
  | cons r rr =>
    cases rr with
    | cons r' rr =>
      cases rr
      obtain ⟨t,rfl⟩:=r
      obtain ⟨t',rfl⟩:=r'
      exact call_range_2 (range_it I1 q1 q2 q3 q4 q)
def tFor (wi:TI) (g:TG) (tb:TS):TS:=fun D σ H=>wi σ H fun J H1=>∃ W:Nat→Nat→St→Hp→Prop,(∃ m,W 0 m σ H1)∧∀ i m σ H,W i m σ H →
  (J.stop i H∧D.nx σ H)∨(J.go i H∧∃ N:St→Hp→Prop,(∀ σ' H',N σ' H'→∃ m',m' < m∧W (i + 1) m' σ' H')∧∀ x H',J.yld i H x H'→g x σ H' fun σ2 H2=>tb { D with nx:=N,ct:=N,bk:=D.nx } σ2 H2)
def pinsAt (fp:List Addr) (h:Heap):List (Addr × Obj):=fp.filterMap fun b=>(h.get? b).map fun o=>(b,o)
theorem mem_pinsAt {fp:List Addr} {h:Heap} {b:Addr} {o:Obj} (hb:b ∈ fp) (e:h.get? b=some o):(b,o) ∈ pinsAt fp h:=List.mem_filterMap.mpr ⟨b,hb,by rw [e]; rfl⟩
theorem of_pinsAt {fp:List Addr} {h:Heap} {p:Addr × Obj} (hp:p ∈ pinsAt fp h):p.1 ∈ fp∧h.get? p.1=some p.2:=by
  obtain ⟨b,hb,e⟩:=List.mem_filterMap.mp hp
  cases q:h.get? b with
  | none=>rw [q] at e; cases e
  | some o =>
    rw [q] at e
    have e':(b,o)=p:=Option.some.inj e
    subst e'
    exact ⟨hb,q⟩
theorem Inv.pinned {pins:List (Addr × Obj)} {σ:St} {H:Hp} {s:Shared} {fp:List Addr} (I:Inv X pins σ H s) (hf:∀ b ∈ fp,FpOk X pins H b) (ho:∀ b ∈ fp,∃ o,s.heap.get? b=some o∧∀ v,o.data≠.cell v):Inv X (pins++pinsAt fp s.heap) σ H s :=
  I.pins_of fun p hp=>(List.mem_append.mp hp).elim (fun z=>I.pin p (List.mem_append_right _ z)) fun z=>by
    obtain ⟨hb,e⟩:=of_pinsAt z
    obtain ⟨f0,f1,f2,_⟩:=hf p.1 hb
    obtain ⟨o,e',d⟩:=ho p.1 hb
    rw [e] at e'; cases e'
    exact ⟨e,f0,f1,f2,d⟩
theorem Inv.unpinned {pins pl:List (Addr × Obj)} {σ:St} {H:Hp} {s:Shared} (I:Inv X (pins++pl) σ H s):Inv X pins σ H s:=I.pins_of fun p hp=>I.pin p (List.mem_append_right _ (List.mem_append_left _ hp))
theorem ps_for {iter:Expr} {body:List Stmt} {wi:TI} {g:TG} {tb:TS} {pos:Pos} (hp:PassesOwn (model X.prog X.w) X.A X.env X.xe) (hc:X.calm=true) (hi:PI X tg iter wi) (hg:PG X tg g) (hb:PSs X body tb)
    (hs:∀ x,foldedSetIterable iter X.env x=pure x:=by intro _; rfl):PS X (.For tg iter body [] pos) (tFor wi g tb):=by
  refine ⟨?_⟩
  intro pins s σ H D I h
  refine wpAny_For (thn (hi pins s σ H _ I h) fun v s1 h1=>thn h1 fun itv s2 h2=>?_) hs
  obtain ⟨it,fp,tn,J,H2,e,I2,T,st2,f2,W,⟨m0,w0⟩,turn⟩:=h2
  subst e
  have stat:∀ {H':Hp},(∀ b ∈ fp,H' b=none)→∀ b ∈ fp,FpOk X pins H' b:=fun hn b hb=>⟨hn b hb,(f2 b hb).2⟩
  refine codeAny_forLoop_any (fun n s'=>∃ i σ' H',Inv X pins σ' H' s'∧tn i s'.heap∧(∀ b ∈ fp,H' b=none)∧W i n σ' H') ?_ m0 ⟨0,σ,H2,I2,st2,fun b hb=>(f2 b hb).1,w0⟩
  rintro n s3 ⟨i,σ3,H3,I3,st3,fr3,w3⟩
  rcases turn i n σ3 H3 w3 with ⟨stop,qn⟩ | ⟨go,N,hN,step⟩
  · refine wpAny_passesOwn hp (thn (T.done X rfl rfl rfl hc i pins s3 σ3 H3 X.xe I3 (stat fr3) st3 stop) fun r s4 ⟨hr,I4⟩=>?_)
    subst hr
    exact wpAny_execs_nil ⟨σ3,H3,I4,qn⟩
  · refine wpAny_passesOwn hp (thn (T.item X rfl rfl rfl hc i pins s3 σ3 H3 X.xe I3 (stat fr3) st3 go) fun r s4 ⟨u,hr,h4⟩=>?_)
    subst hr
    refine wpAny_passesOwn hp (thn h4 fun _ s5 ⟨x,H5,I5,r5,y5,st5,fr5⟩=>?_)
    have I5':=I5.pinned (stat fr5) (T.obj _ _ st5)
    refine wpAny_passesOwn hp (thn (hg _ s5 σ3 H5 x u _ I5' r5 (step x H5 y5)) fun _ s6 ⟨σ6,H6,I6,q6⟩=>?_)
    refine wpAny_passesOwn hp (thn (hb _ s6 σ6 H6 _ I6 q6) fun f s7 q7=>?_)
    have again:∀ {σ7:St} {H7:Hp},Inv X (pins++pinsAt fp s5.heap) σ7 H7 s7→N σ7 H7→∃ m,m < n∧∃ i σ' H',Inv X pins σ' H' s7∧tn i s7.heap∧(∀ b ∈ fp,H' b=none)∧W i m σ' H':=fun {σ7 H7} I7 n7=>by
      obtain ⟨m',hm,w7⟩:=hN σ7 H7 n7
      refine ⟨m',hm,i + 1,σ7,H7,I7.unpinned,T.keep _ _ _ st5 fun b hb o e=>(I7.pin (b,o) (List.mem_append_right _ (List.mem_append_right _ (mem_pinsAt hb e)))).1,fun b hb=>?_,w7⟩
      obtain ⟨o,e,d⟩:=T.obj _ _ st5 b hb
      exact (I7.pin (b,o) (List.mem_append_right _ (List.mem_append_right _ (mem_pinsAt hb e)))).2.1
    cases f with
    | next=>obtain ⟨σ7,H7,I7,n7⟩:=q7; exact again I7 n7
    | cont=>obtain ⟨σ7,H7,I7,n7⟩:=q7; exact again I7 n7
    | brk=>obtain ⟨σ7,H7,I7,q7⟩:=q7; exact ⟨σ7,H7,I7.unpinned,q7⟩
    | ret v=>obtain ⟨x7,σ7,H7,I7,r7,q7⟩:=q7; exact ⟨x7,σ7,H7,I7.unpinned,r7,q7⟩
end
theorem for_list {K:PySem.W.Frag} {a:Addr} {xs:List V} {g:TG} {tb:TS} {D:Ends} {σ:St} {H:Hp} (Pv:Nat→St→Hp→Prop) (h0:Pv 0 σ H) (hl:∀ i σ H,i≤xs.length→Pv i σ H→SqL K H a xs)
    (hs:∀ i x σ H,xs[i]?=some x→Pv i σ H→g x σ H fun σ2 H2=>tb { D with nx:=Pv (i + 1),ct:=Pv (i + 1),bk:=D.nx } σ2 H2) (hd:∀ σ H,Pv xs.length σ H→D.nx σ H) :
    ∃ W:Nat→Nat→St→Hp→Prop,(∃ m,W 0 m σ H)∧∀ i m σ H,W i m σ H →
      ((Itl K a).stop i H∧D.nx σ H)∨((Itl K a).go i H∧∃ N:St→Hp→Prop,(∀ σ' H',N σ' H'→∃ m',m' < m∧W (i + 1) m' σ' H')∧∀ x H',(Itl K a).yld i H x H'→g x σ H' fun σ2 H2=>tb { D with nx:=N,ct:=N,bk:=D.nx } σ2 H2):=by
  refine ⟨fun i m σ H=>m=xs.length - i∧i≤xs.length∧Pv i σ H,⟨xs.length,by simp,Nat.zero_le _,h0⟩,?_⟩
  rintro i m σ H ⟨rfl,hi,p⟩
  have q:=hl i σ H hi p
  by_cases hlt:i < xs.length
  · refine .inr ⟨⟨xs,xs[i],q,by simp [hlt]⟩,Pv (i + 1),fun σ' H' p'=>⟨xs.length - (i + 1),by omega,rfl,hlt,p'⟩,fun x H' y=>?_⟩
    obtain ⟨e,y⟩:=y
    subst e
    exact hs i x σ _ (y xs q) p
  · have e:i=xs.length:=by omega
    subst e
    exact .inl ⟨⟨xs,q,Nat.le_refl _⟩,hd σ H p⟩
theorem for_tup {K:PySem.W.Frag} {a:Addr} {xs:List V} {g:TG} {tb:TS} {D:Ends} {σ:St} {H:Hp} (Pv:Nat→St→Hp→Prop) (h0:Pv 0 σ H) (hl:∀ i σ H,i≤xs.length→Pv i σ H→SqT K H a xs)
    (hs:∀ i x σ H,xs[i]?=some x→Pv i σ H→g x σ H fun σ2 H2=>tb { D with nx:=Pv (i + 1),ct:=Pv (i + 1),bk:=D.nx } σ2 H2) (hd:∀ σ H,Pv xs.length σ H→D.nx σ H) :
    ∃ W:Nat→Nat→St→Hp→Prop,(∃ m,W 0 m σ H)∧∀ i m σ H,W i m σ H →
      ((Itt K a).stop i H∧D.nx σ H)∨((Itt K a).go i H∧∃ N:St→Hp→Prop,(∀ σ' H',N σ' H'→∃ m',m' < m∧W (i + 1) m' σ' H')∧∀ x H',(Itt K a).yld i H x H'→g x σ H' fun σ2 H2=>tb { D with nx:=N,ct:=N,bk:=D.nx } σ2 H2):=by
  refine ⟨fun i m σ H=>m=xs.length - i∧i≤xs.length∧Pv i σ H,⟨xs.length,by simp,Nat.zero_le _,h0⟩,?_⟩
  rintro i m σ H ⟨rfl,hi,p⟩
  have q:=hl i σ H hi p
  by_cases hlt:i < xs.length
  · refine .inr ⟨⟨xs,xs[i],q,by simp [hlt]⟩,Pv (i + 1),fun σ' H' p'=>⟨xs.length - (i + 1),by omega,rfl,hlt,p'⟩,fun x H' y=>?_⟩
    obtain ⟨e,y⟩:=y
    subst e
    exact hs i x σ _ (y xs q) p
  · have e:i=xs.length:=by omega
    subst e
    exact .inl ⟨⟨xs,q,Nat.le_refl _⟩,hd σ H p⟩
theorem for_range {lo:Int} {n:Nat} {g:TG} {tb:TS} {D:Ends} {σ:St} {H:Hp} (Pv:Nat→St→Hp→Prop) (h0:Pv 0 σ H)
    (hs:∀ i σ H,i < n→Pv i σ H→g (.int (lo + i)) σ H fun σ2 H2=>tb { D with nx:=Pv (i + 1),ct:=Pv (i + 1),bk:=D.nx } σ2 H2) (hd:∀ σ H,Pv n σ H→D.nx σ H) :
    ∃ W:Nat→Nat→St→Hp→Prop,(∃ m,W 0 m σ H)∧∀ i m σ H,W i m σ H →
      ((Itr lo n).stop i H∧D.nx σ H)∨((Itr lo n).go i H∧∃ N:St→Hp→Prop,(∀ σ' H',N σ' H'→∃ m',m' < m∧W (i + 1) m' σ' H')∧∀ x H',(Itr lo n).yld i H x H'→g x σ H' fun σ2 H2=>tb { D with nx:=N,ct:=N,bk:=D.nx } σ2 H2):=by
  refine ⟨fun i m σ H=>m=n - i∧i≤n∧Pv i σ H,⟨n,by simp,Nat.zero_le _,h0⟩,?_⟩
  rintro i m σ H ⟨rfl,hi,p⟩
  by_cases hlt:i < n
  · refine .inr ⟨hlt,Pv (i + 1),fun σ' H' p'=>⟨n - (i + 1),by omega,rfl,hlt,p'⟩,fun x H' y=>?_⟩
    obtain ⟨e,y⟩:=y
    subst e y
    exact hs i σ _ hlt p
  · have e:i=n:=by omega
    subst e
    exact .inl ⟨Nat.le_refl _,hd σ H p⟩
end L2
namespace L2
open PySem PySem.Spec PyProof.Rows
abbrev R2:=V→V→Hp→VK→Prop
def OpR (X:Cx) (f:Value→Value→Sem Value) (r:R2):Prop :=
  ∀ (pins:List (Addr × Obj)) (s:Shared) (σ:St) (H:Hp) (x y:V) (v u:Value) (Q:VK),Inv X pins σ H s→RelV x v→RelV y u→r x y H Q →
    wpAny (model X.prog X.w) X.A (f v u) (EP X pins σ Q) X.xe s
def UnR (X:Cx) (f:Value→Sem Value) (r:V→Hp→VK→Prop):Prop :=
  ∀ (pins:List (Addr × Obj)) (s:Shared) (σ:St) (H:Hp) (x:V) (v:Value) (Q:VK),Inv X pins σ H s→RelV x v→r x H Q →
    wpAny (model X.prog X.w) X.A (f v) (EP X pins σ Q) X.xe s
def CallR (X:Cx) (f:Value) (r:List V→Hp→VK→Prop):Prop :=
  ∀ (pins:List (Addr × Obj)) (s:Shared) (σ:St) (H:Hp) (xs:List V) (us:List Value) (Q:VK),Inv X pins σ H s→Vals xs us→r xs H Q →
    wpAny (model X.prog X.w) X.A (call f us) (EP X pins σ Q) X.xe s
def TruR (X:Cx) (r:V→Hp→(Bool→Hp→Prop)→Prop):Prop :=
  ∀ (pins:List (Addr × Obj)) (s:Shared) (σ:St) (H:Hp) (x:V) (v:Value) (Q:Bool→Hp→Prop),Inv X pins σ H s→RelV x v→r x H Q →
    wpAny (model X.prog X.w) X.A (truthy v) (TP X pins σ Q) X.xe s
def tOp (r:R2) (ta tb:TE):TE:=fun σ H Q=>ta σ H fun x H1=>tb σ H1 fun y H2=>r x y H2 Q
def tUn (r:V→Hp→VK→Prop) (ta:TE):TE:=fun σ H Q=>ta σ H fun x H1=>r x H1 Q
inductive rI (C:Int→Int→Prop) (g:Int→Int→V) (x y:V) (H:Hp) (Q:VK):Prop
  | mk (i j:Int) (e1:x=.int i) (e2:y=.int j) (c:C i j) (q:Q (g i j) H):rI C g x y H Q
inductive rI0 (g:Int→Int→V) (x y:V) (H:Hp) (Q:VK):Prop
  | mk (i j:Int) (e1:x=.int i) (e2:y=.int j) (q:Q (g i j) H):rI0 g x y H Q
def rU (g:Int→V):V→Hp→VK→Prop:=fun x H Q=>∃ i,x=.int i∧Q (g i) H
section
variable {X:Cx} {a b c:Expr} {ta tb tc:TE} {pos:Pos}
theorem binT (ha:PE X a ta) (hb:PE X b tb) {pins:List (Addr × Obj)} {s:Shared} {σ:St} {H:Hp} {R:V→V→Hp→Prop} (I:Inv X pins σ H s)
    (h:ta σ H fun x H1=>tb σ H1 fun y H2=>R x y H2) {Q:Value→Shared→Prop} {f:Value→Value→Sem Value}
    (hf:∀ v u s2 x y H2,Inv X pins σ H2 s2→RelV x v→RelV y u→R x y H2→wpAny (model X.prog X.w) X.A (f v u) Q X.xe s2) :
    wpAny (model X.prog X.w) X.A (eval a X.env) (fun v s₁=>wpAny (model X.prog X.w) X.A (eval b X.env) (fun u s₂=>wpAny (model X.prog X.w) X.A (f v u) Q X.xe s₂) X.xe s₁) X.xe s:=by
  refine thn (ha pins s σ H _ I h) fun v s1 ⟨x,H1,I1,r1,q1⟩=>?_
  refine thn (hb pins s1 σ H1 _ I1 q1) fun u s2 ⟨y,H2,I2,r2,q2⟩=>?_
  exact hf v u s2 x y H2 I2 r1 r2 q2
theorem pe_op {op:Operator} {r:R2} (ho:OpR X (binaryOp op) r) (ha:PE X a ta) (hb:PE X b tb):PE X (.BinOp a op b pos) (tOp r ta tb):=by
  refine ⟨?_⟩
  intro pins s σ H Q I h
  exact wpAny_BinOp (binT ha hb I h fun v u s2 x y H2 I2 rx ry q=>ho pins s2 σ H2 x y v u Q I2 rx ry q)
theorem pe_un {op:UnaryOp} {r:V→Hp→VK→Prop} (ho:UnR X (unaryOp op) r) (ha:PE X a ta):PE X (.UnaryOp op a pos) (tUn r ta):=by
  refine ⟨?_⟩
  intro pins s σ H Q I h
  exact UnaryOp_ (thn (ha pins s σ H _ I h) fun v s1 ⟨x,H1,I1,r1,q1⟩=>ho pins s1 σ H1 x v Q I1 r1 q1)
theorem opI {f:Value→Value→Sem Value} {C:Int→Int→Prop} {g:Int→Int→Int}
    (rule:∀ (i j:Int) (t u:Tok) (s:Shared) (Q:Value→Shared→Prop) (E:Value→Shared→Prop),C i j→Q (.int (g i j) s.toks) { s with toks:=s.toks + 1 }→wpAny (model X.prog X.w) X.A (f (.int i t) (.int j u)) Q E s) :
    OpR X f (rI C fun i j=>.int (g i j)):=by
  intro pins s σ H x y v u Q I rx ry h
  obtain ⟨i,j,rfl,rfl,hc,q⟩:=h
  obtain ⟨t,rfl⟩:=rx
  obtain ⟨t',rfl⟩:=ry
  exact rule i j t t' s _ _ hc ⟨.int (g i j),H,I.tok _,⟨_,rfl⟩,q⟩
theorem opI0 {f:Value→Value→Sem Value} {g:Int→Int→Int}
    (rule:∀ (i j:Int) (t u:Tok) (s:Shared) (Q:Value→Shared→Prop) (E:Value→Shared→Prop),Q (.int (g i j) s.toks) { s with toks:=s.toks + 1 }→wpAny (model X.prog X.w) X.A (f (.int i t) (.int j u)) Q E s) :
    OpR X f (rI0 fun i j=>.int (g i j)):=by
  intro pins s σ H x y v u Q I rx ry h
  obtain ⟨i,j,rfl,rfl,q⟩:=h
  obtain ⟨t,rfl⟩:=rx
  obtain ⟨t',rfl⟩:=ry
  exact rule i j t t' s _ _ ⟨.int (g i j),H,I.tok _,⟨_,rfl⟩,q⟩
theorem opB0 {f:Value→Value→Sem Value} {g:Int→Int→Bool}
    (rule:∀ (i j:Int) (t u:Tok) (s:Shared) (Q:Value→Shared→Prop) (E:Value→Shared→Prop),Q (.bool (g i j)) s→wpAny (model X.prog X.w) X.A (f (.int i t) (.int j u)) Q E s) :
    OpR X f (rI0 fun i j=>.bl (g i j)):=by
  intro pins s σ H x y v u Q I rx ry h
  obtain ⟨i,j,rfl,rfl,q⟩:=h
  obtain ⟨t,rfl⟩:=rx
  obtain ⟨t',rfl⟩:=ry
  exact rule i j t t' s _ _ ⟨.bl (g i j),H,I,rfl,q⟩
def CPow (i j:Int):Prop:=0≤j∧j≤1000000∧i.natAbs < 2 ^ 64
def CMul (i j:Int):Prop:=(-(2 ^ 64) < i∧i < 2 ^ 64)∨(-(2 ^ 64) < j∧j < 2 ^ 64)
theorem CMul.ok {i j:Int} (h:CMul i j):IntMulOk i j:=by
  rcases h with ⟨h1,h2⟩ | ⟨h1,h2⟩
  · exact .of_left (intBits_le_64 h1 h2)
  · exact .of_right (intBits_le_64 h1 h2)
theorem op_add:OpR X (binaryOp .Add) (rI0 fun i j=>.int (i + j)):=opI0 fun _ _ _ _ _ _ _ q=>add_int q
theorem op_sub:OpR X (binaryOp .Sub) (rI0 fun i j=>.int (i - j)):=opI0 fun _ _ _ _ _ _ _ q=>sub_int q
theorem op_mul:OpR X (binaryOp .Mult) (rI CMul fun i j=>.int (i * j)):=opI fun _ _ _ _ _ _ _ hc q=>mul_int q hc.ok
theorem op_mod:OpR X (binaryOp .Mod) (rI (fun _ j=>0 < j) fun i j=>.int (i % j)):=opI fun i j _ _ _ _ _ hc q=>by
  have h1:(0:Int) < j:=hc
  exact mod_int' (by omega) (by rw [Int.fmod_eq_emod_of_nonneg i (by omega)]; exact q)
theorem op_pow:OpR X (binaryOp .Pow) (rI CPow fun i j=>.int (i ^ j.toNat)):=opI fun _ _ _ _ _ _ _ hc q=>pow_int_small hc.1 hc.2.1 hc.2.2 q
theorem unI {f:Value→Sem Value} {g:Int→Int}
    (rule:∀ (i:Int) (t:Tok) (s:Shared) (Q:Value→Shared→Prop) (E:Value→Shared→Prop),Q (.int (g i) s.toks) { s with toks:=s.toks + 1 }→wpAny (model X.prog X.w) X.A (f (.int i t)) Q E s) :
    UnR X f (rU fun i=>.int (g i)):=by
  intro pins s σ H x v Q I rx h
  obtain ⟨i,rfl,q⟩:=h
  obtain ⟨t,rfl⟩:=rx
  exact rule i t s _ _ ⟨.int (g i),H,I.tok _,⟨_,rfl⟩,q⟩
theorem un_neg:UnR X (unaryOp .USub) (rU fun i=>.int (-i)):=unI fun _ _ _ _ _ q=>neg_int q
end
def scal:V→V→Bool
  | .non,.non=>true | .non,.int _=>true | .int _,.non=>true | .non,.bl _=>true | .bl _,.non=>true | .non,.str _=>true | .str _,.non=>true
  | .int _,.int _=>true | .bl _,.bl _=>true | .str _,.str _=>true | .byt _,.byt _=>true
  | .int _,.str _=>true | .str _,.int _=>true | .bl _,.str _=>true | .str _,.bl _=>true
  | _,_=>false
def rEq:R2:=fun x y H Q=>scal x y=true∧Q (.bl (decide (x=y))) H
def rNe:R2:=fun x y H Q=>scal x y=true∧Q (.bl (!decide (x=y))) H
theorem dec_int {i j:Int}:decide (V.int i=V.int j)=(i == j):=by
  rw [Bool.eq_iff_iff]
  simp
theorem dec_bl {i j:Bool}:decide (V.bl i=V.bl j)=(i == j):=by
  rw [Bool.eq_iff_iff]
  simp
theorem dec_str {i j:Str}:decide (V.str i=V.str j)=(i == j):=by
  rw [Bool.eq_iff_iff]
  simp
theorem dec_byt {i j:Array UInt8}:decide (V.byt i=V.byt j)=(i.toList == j.toList):=by
  rw [Bool.eq_iff_iff]
  cases i
  cases j
  simp
section
variable {X:Cx} {a b c:Expr} {ta tb tc:TE} {pos:Pos}
theorem fin_bl {pins:List (Addr × Obj)} {σ:St} {H:Hp} {s:Shared} {Q:VK} {k k':Bool} (I:Inv X pins σ H s) (q:Q (.bl k) H) (e:k=k'):EP X pins σ Q (.bool k') s:=by
  subst e
  exact ⟨.bl k,H,I,rfl,q⟩
theorem op_eq:OpR X (compareOp .Eq) rEq:=by
  intro pins s σ H x y v u Q I rx ry h
  obtain ⟨hs,q⟩:=h
  cases x with
  | non =>
    cases rx
    cases y with
    | non=>cases ry; exact PySem.EqNone.eq_none_none (fin_bl I q (by simp))
    | bl j=>cases ry; exact PySem.EqNone.eq_none_bool (fin_bl I q (by simp))
    | int j=>obtain ⟨t',rfl⟩:=ry; exact PySem.EqNone.eq_none_int (fin_bl I q (by simp))
    | str j=>obtain ⟨t',rfl⟩:=ry; exact PySem.EqNone.eq_none_str (fin_bl I q (by simp))
    | _=>exact absurd (show false=true from hs) Bool.false_ne_true
  | bl i =>
    cases rx
    cases y with
    | non=>cases ry; exact PySem.EqNone.eq_bool_none (fin_bl I q (by simp))
    | bl j=>cases ry; exact eq_bool (fin_bl I q dec_bl)
    | str j=>obtain ⟨t',rfl⟩:=ry; exact PySem.EqMixed.eq_bool_str (fin_bl I q (by simp))
    | _=>exact absurd (show false=true from hs) Bool.false_ne_true
  | int i =>
    obtain ⟨t,rfl⟩:=rx
    cases y with
    | non=>cases ry; exact PySem.EqNone.eq_int_none (fin_bl I q (by simp))
    | int j=>obtain ⟨t',rfl⟩:=ry; exact eq_int (fin_bl I q dec_int)
    | str j=>obtain ⟨t',rfl⟩:=ry; exact PySem.EqMixed.eq_int_str (fin_bl I q (by simp))
    | _=>exact absurd (show false=true from hs) Bool.false_ne_true
  | str i =>
    obtain ⟨t,rfl⟩:=rx
    cases y with
    | non=>cases ry; exact PySem.EqNone.eq_str_none (fin_bl I q (by simp))
    | bl j=>cases ry; exact PySem.EqMixed.eq_str_bool (fin_bl I q (by simp))
    | int j=>obtain ⟨t',rfl⟩:=ry; exact PySem.EqMixed.eq_str_int (fin_bl I q (by simp))
    | str j=>obtain ⟨t',rfl⟩:=ry; exact eq_str (fin_bl I q dec_str)
    | _=>exact absurd (show false=true from hs) Bool.false_ne_true
  | byt i =>
    obtain ⟨t,rfl⟩:=rx
    cases y with
    | byt j=>obtain ⟨t',rfl⟩:=ry; exact PySem.W.eq_bytes (fin_bl I q dec_byt)
    | _=>exact absurd (show false=true from hs) Bool.false_ne_true
  | _=>cases y <;> exact absurd (show false=true from hs) Bool.false_ne_true
theorem op_ne:OpR X (compareOp .NotEq) rNe:=by
  intro pins s σ H x y v u Q I rx ry h
  obtain ⟨hs,q⟩:=h
  cases x with
  | non =>
    cases rx
    cases y with
    | non=>cases ry; exact PySem.EqNone.ne_none_none (fin_bl I q (by simp))
    | bl j=>cases ry; exact PySem.EqNone.ne_none_bool (fin_bl I q (by simp))
    | int j=>obtain ⟨t',rfl⟩:=ry; exact PySem.EqNone.ne_none_int (fin_bl I q (by simp))
    | str j=>obtain ⟨t',rfl⟩:=ry; exact PySem.EqNone.ne_none_str (fin_bl I q (by simp))
    | _=>exact absurd (show false=true from hs) Bool.false_ne_true
  | bl i =>
    cases rx
    cases y with
    | non=>cases ry; exact PySem.EqNone.ne_bool_none (fin_bl I q (by simp))
    | bl j=>cases ry; exact ne_bool (fin_bl I q (congrArg not dec_bl))
    | str j=>obtain ⟨t',rfl⟩:=ry; exact PySem.EqMixed.ne_bool_str (fin_bl I q (by simp))
    | _=>exact absurd (show false=true from hs) Bool.false_ne_true
  | int i =>
    obtain ⟨t,rfl⟩:=rx
    cases y with
    | non=>cases ry; exact PySem.EqNone.ne_int_none (fin_bl I q (by simp))
    | int j=>obtain ⟨t',rfl⟩:=ry; exact ne_int (fin_bl I q (congrArg not dec_int))
    | str j=>obtain ⟨t',rfl⟩:=ry; exact PySem.EqMixed.ne_int_str (fin_bl I q (by simp))
    | _=>exact absurd (show false=true from hs) Bool.false_ne_true
  | str i =>
    obtain ⟨t,rfl⟩:=rx
    cases y with
    | non=>cases ry; exact PySem.EqNone.ne_str_none (fin_bl I q (by simp))
    | bl j=>cases ry; exact PySem.EqMixed.ne_str_bool (fin_bl I q (by simp))
    | int j=>obtain ⟨t',rfl⟩:=ry; exact PySem.EqMixed.ne_str_int (fin_bl I q (by simp))
    | str j=>obtain ⟨t',rfl⟩:=ry; exact ne_str (fin_bl I q (congrArg not dec_str))
    | _=>exact absurd (show false=true from hs) Bool.false_ne_true
  | byt i =>
    obtain ⟨t,rfl⟩:=rx
    cases y with
    | byt j=>obtain ⟨t',rfl⟩:=ry; exact PySem.W.ne_bytes (fin_bl I q (congrArg not dec_byt))
    | _=>exact absurd (show false=true from hs) Bool.false_ne_true
  | _=>cases y <;> exact absurd (show false=true from hs) Bool.false_ne_true
theorem op_lt:OpR X (compareOp .Lt) (rI0 fun i j=>.bl (decide (i < j))):=opB0 fun _ _ _ _ _ _ _ q=>lt_int q
theorem op_le:OpR X (compareOp .LtE) (rI0 fun i j=>.bl (decide (i≤j))):=opB0 fun _ _ _ _ _ _ _ q=>le_int q
theorem op_gt:OpR X (compareOp .Gt) (rI0 fun i j=>.bl (decide (j < i))):=opB0 fun _ _ _ _ _ _ _ q=>gt_int q
theorem op_ge:OpR X (compareOp .GtE) (rI0 fun i j=>.bl (decide (j≤i))):=opB0 fun _ _ _ _ _ _ _ q=>ge_int q
theorem op_notN:OpR X (compareOp .IsNot) (fun x y H Q=>y=.non∧Q (.bl (!decide (x=.non))) H):=by
  intro pins s σ H x y v u Q I rx ry h
  obtain ⟨rfl,q⟩:=h
  cases ry
  refine isnot_none_gen (fin_bl I q ?_)
  cases x <;> first
    | (cases rx; rfl)
    | (obtain ⟨t,rfl⟩:=rx; rfl)
theorem nomark (b:Expr) {op:CmpOp} (h:op≠.In:=by decide) (h2:op≠.NotIn:=by decide):behindInMarks op b=false:=by
  have e1:(op == CmpOp.In)=false:=by cases op <;> first | rfl | exact absurd rfl h
  have e2:(op == CmpOp.NotIn)=false:=by cases op <;> first | rfl | exact absurd rfl h2
  cases b <;> simp [behindInMarks,e1,e2]
theorem pe_cmpR {op:CmpOp} {r:R2} (ho:OpR X (compareOp op) r) (ha:PE X a ta) (hb:PE X b tb) (hm:behindInMarks op b=false):PE X (.Compare a [op] [b] pos) (tOp r ta tb):=by
  refine ⟨?_⟩
  intro pins s σ H Q I h
  exact wpAny_Compare1 (binT ha hb I h fun v u s2 x y H2 I2 rx ry q=>ho pins s2 σ H2 x y v u Q I2 rx ry q) hm
def tTest (t:TE):TT:=fun σ H Q=>t σ H fun x H'=>∃ k,x=.bl k∧Q k H'
theorem pt_cmpR {op:CmpOp} {r:R2} (ho:OpR X (compareOp op) r) (ha:PE X a ta) (hb:PE X b tb) (hm:behindInMarks op b=false):PT X (.Compare a [op] [b] pos) (tTest (tOp r ta tb)):=by
  refine ⟨?_⟩
  intro pins s σ H Q I h
  refine wpAny_isTrue_Compare1 (thn (ha pins s σ H _ I h) fun v s1 ⟨x,H1,I1,r1,q1⟩=>thn (hb pins s1 σ H1 _ I1 q1) fun u s2 ⟨y,H2,I2,r2,q2⟩ =>
    thn (ho pins s2 σ H2 x y v u _ I2 r1 r2 q2) fun c s3 ⟨z,H3,I3,r3,k,e,q3⟩=>?_) hm
  subst e
  cases r3
  exact wpAny_truthy_bool ⟨H3,I3,q3⟩
def tChain (r r':R2) (ta tb tc:TE):TE:=fun σ H Q=>ta σ H fun x H1=>tb σ H1 fun y H2=>r x y H2 fun z H3=>∃ k,z=.bl k ∧
  (if k=true then tc σ H3 fun w' H4=>r' y w' H4 Q else Q (.bl false) H3)
theorem pe_chain {op op':CmpOp} {r r':R2} (ho:OpR X (compareOp op) r) (ho':OpR X (compareOp op') r') (ha:PE X a ta) (hb:PE X b tb) (hc:PE X c tc)
    (hm:lastMarks [op,op'] [b,c]=false:=by with_unfolding_all rfl):PE X (.Compare a [op,op'] [b,c] pos) (tChain r r' ta tb tc):=by
  refine ⟨?_⟩
  intro pins s σ H Q I h
  refine Compare_chain (thn (ha pins s σ H _ I h) fun v s1 ⟨x,H1,I1,r1,q1⟩=>chain_link (thn (hb pins s1 σ H1 _ I1 q1) fun u s2 ⟨y,H2,I2,r2,q2⟩ =>
    thn (ho pins s2 σ H2 x y v u _ I2 r1 r2 q2) fun d s3 ⟨z,H3,I3,r3,k,e,q3⟩=>?_)) hm
  subst e
  cases r3
  refine wpAny_truthy_bool ?_
  cases k with
  | false=>exact ite_ff ⟨.bl false,H3,I3,rfl,q3⟩
  | true=>exact ite_tt (chain_last (thn (hc pins s3 σ H3 _ I3 q3) fun w' s4 ⟨z',H4,I4,r4,q4⟩=>ho' pins s4 σ H4 y z' u w' Q I4 r2 r4 q4))
theorem pt_chain {op op':CmpOp} {r r':R2} (ho:OpR X (compareOp op) r) (ho':OpR X (compareOp op') r') (ha:PE X a ta) (hb:PE X b tb) (hc:PE X c tc)
    (hm:lastMarks [op,op'] [b,c]=false:=by with_unfolding_all rfl):PT X (.Compare a [op,op'] [b,c] pos) (tTest (tChain r r' ta tb tc)):=by
  refine ⟨?_⟩
  intro pins s σ H Q I h
  refine isTrue_chain (thn (ha pins s σ H _ I h) fun v s1 ⟨x,H1,I1,r1,q1⟩=>test_link (thn (hb pins s1 σ H1 _ I1 q1) fun u s2 ⟨y,H2,I2,r2,q2⟩ =>
    thn (ho pins s2 σ H2 x y v u _ I2 r1 r2 q2) fun d s3 ⟨z,H3,I3,r3,k,e,q3⟩=>?_)) hm
  subst e
  cases r3
  refine wpAny_truthy_bool ?_
  cases k with
  | false =>
    obtain ⟨k',e',q'⟩:=q3
    cases e'
    exact ite_ff ⟨H3,I3,q'⟩
  | true =>
    refine ite_tt (test_last (thn (hc pins s3 σ H3 _ I3 q3) fun w' s4 ⟨z',H4,I4,r4,q4⟩=>thn (ho' pins s4 σ H4 y z' u w' _ I4 r2 r4 q4) fun d' s5 ⟨z2,H5,I5,r5,k2,e2,q5⟩=>?_))
    subst e2
    cases r5
    exact wpAny_truthy_bool ⟨H5,I5,q5⟩
def TruV (K:PySem.W.Frag) (x:V) (H:Hp) (k:Bool):Prop :=
  match x with
  | .non=>k=false
  | .bl b=>k=b
  | .int i=>k=(i != 0)
  | .str y=>y.length≤sizeLine∧k=((y.length:Int) != 0)
  | .byt y=>y.size≤sizeLine∧k=((y.size:Int) != 0)
  | .ref p=>(∃ xs,SqL K H p xs∧k=!xs.isEmpty)∨(∃ xs,SqT K H p xs∧k=!xs.isEmpty)∨∃ kvs,H p=some (.dK kvs)∧k=!kvs.isEmpty
  | _=>False
theorem isEmpty_kv {κ:Type} {kvs:List (κ × V)} {vs:List (κ × Value)} (r:KV kvs vs):(!vs.isEmpty)=!kvs.isEmpty:=by
  cases r <;> rfl
theorem isEmpty_of {xs:List V} {its:List Value} (r:Vals xs its):(!its.toArray.isEmpty)=!xs.isEmpty:=by
  cases r <;> simp
theorem line63:(sizeLine:Nat) < 2 ^ 63:=by rw [sizeLine_eq]; decide
theorem tru_ok:TruR X (fun x H Q=>∃ k,TruV X.K x H k∧Q k H):=by
  intro pins s σ H x v Q I rx h
  obtain ⟨k,e,q⟩:=h
  have hl:=line63
  have hs:sizeLine=16777216:=sizeLine_eq
  cases x with
  | non =>
    cases rx
    have e':k=false:=e
    subst e'
    exact truthy_none ⟨H,I,q⟩
  | bl b =>
    cases rx
    have e':k=b:=e
    subst e'
    exact wpAny_truthy_bool ⟨H,I,q⟩
  | int i =>
    obtain ⟨t,rfl⟩:=rx
    have e':k=(i != 0):=e
    subst e'
    exact PySem.P.truthy_int ⟨H,I,q⟩
  | str y =>
    obtain ⟨t,rfl⟩:=rx
    obtain ⟨hy,e'⟩:y.length≤sizeLine∧k=((y.length:Int) != 0):=e
    subst e'
    exact PySem.P.truthy_str (by omega) ⟨H,I.tok _,q⟩
  | byt y =>
    obtain ⟨t,rfl⟩:=rx
    obtain ⟨hy,e'⟩:y.size≤sizeLine∧k=((y.size:Int) != 0):=e
    subst e'
    exact PySem.W.truthy_bytes (by omega) ⟨H,I.tok _,q⟩
  | ref p =>
    cases rx
    have e':(∃ xs,SqL X.K H p xs∧k=!xs.isEmpty)∨(∃ xs,SqT X.K H p xs∧k=!xs.isEmpty)∨∃ kvs,H p=some (.dK kvs)∧k=!kvs.isEmpty:=e
    rcases e' with ⟨xs,hx,e'⟩ | ⟨xs,hx,e'⟩ | ⟨kvs,hx,e'⟩
    · subst e'
      obtain ⟨its,r,pl,hz⟩:=I.list hx
      have hlen:=r.length
      exact wpAny_truthy_list pl.isList (by simp only [List.size_toArray]; omega) ⟨H,I.tok _,by rw [isEmpty_of r]; exact q⟩
    · subst e'
      obtain ⟨its,r,pl,hz⟩:=I.tuple hx
      have hlen:=r.length
      exact truthy_tuple pl (by simp only [List.size_toArray]; omega) ⟨H,I.tok _,by rw [isEmpty_of r]; exact q⟩
    · subst e'
      obtain ⟨hz,hS,vs,r,m⟩:kvs.length≤sizeLine∧(p == sysModules)=false∧∃ vs,KV kvs vs∧s.heap.DictOf (mixKind X.prog X.w) p vs:=I.hok p _ hx
      have hlen:kvs.length=vs.length:=Paired.length r
      exact wpAny_truthy_dict hS m (by omega) ⟨H,I.tok _,by rw [isEmpty_kv r]; exact q⟩
  | _=>exact (show False from e).elim
theorem pt_truth (ha:PE X a ta) (he:∀ whole,isTrue a X.env whole=(do let v ← whole; standAt a.pos; holding [v] (truthy v))) :
    PT X a (fun σ H Q=>ta σ H fun x H'=>∃ k,TruV X.K x H' k∧Q k H'):=by
  refine ⟨?_⟩
  intro pins s σ H Q I h
  exact isTrue_plain (thn (ha pins s σ H _ I h) fun v s1 ⟨x,H1,I1,r1,q1⟩=>tru_ok pins s1 σ H1 x v Q I1 r1 q1) (he _)
theorem vals1 {x:V} {us:List Value} (r:Vals [x] us):∃ u,us=[u]∧RelV x u:=by
  cases r with
  | cons r1 r2=>cases r2; exact ⟨_,rfl,r1⟩
theorem vals2 {x y:V} {us:List Value} (r:Vals [x,y] us):∃ u w',us=[u,w']∧RelV x u∧RelV y w':=by
  cases r with
  | cons r1 r2 =>
    cases r2 with
    | cons r3 r4=>cases r4; exact ⟨_,_,rfl,r1,r3⟩
theorem call_abs:CallR X (.builtin "abs") (fun xs H Q=>∃ i,xs=[.int i]∧Q (.int (if i < 0 then -i else i)) H):=by
  intro pins s σ H xs us Q I r h
  obtain ⟨i,rfl,q⟩:=h
  obtain ⟨u,rfl,t,rfl⟩:=vals1 r
  exact call_abs_int fun u tk=>⟨.int (if i < 0 then -i else i),H,I.tok _,⟨_,rfl⟩,q⟩
theorem call_max2 (hc:X.calm=true):CallR X (.builtin "max") (fun xs H Q=>∃ i j,xs=[.int i,.int j]∧Q (.int (if j > i then j else i)) H):=by
  intro pins s σ H xs us Q I r h
  obtain ⟨i,j,rfl,q⟩:=h
  obtain ⟨u,w',rfl,⟨t,rfl⟩,⟨t',rfl⟩⟩:=vals2 r
  refine max_two_ints (I.ok.hd hc) fun h' tk k=>⟨_,H,I.kept k,?_,q⟩
  by_cases hj:j > i
  · rw [if_pos hj,if_pos hj]; exact ⟨_,rfl⟩
  · rw [if_neg hj,if_neg hj]; exact ⟨_,rfl⟩
theorem call_min2 (hc:X.calm=true):CallR X (.builtin "min") (fun xs H Q=>∃ i j,xs=[.int i,.int j]∧Q (.int (if j < i then j else i)) H):=by
  intro pins s σ H xs us Q I r h
  obtain ⟨i,j,rfl,q⟩:=h
  obtain ⟨u,w',rfl,⟨t,rfl⟩,⟨t',rfl⟩⟩:=vals2 r
  refine min_two_ints (I.ok.hd hc) fun h' tk k=>⟨_,H,I.kept k,?_,q⟩
  by_cases hj:j < i
  · rw [if_pos hj,if_pos hj]; exact ⟨_,rfl⟩
  · rw [if_neg hj,if_neg hj]; exact ⟨_,rfl⟩
theorem call_int1:CallR X (.type "int") (fun xs H Q=>(∃ i,xs=[.int i]∧Q (.int i) H)∨∃ k,xs=[.bl k]∧Q (.int (if k then 1 else 0)) H):=by
  intro pins s σ H xs us Q I r h
  rcases h with ⟨i,rfl,q⟩ | ⟨k,rfl,q⟩
  · obtain ⟨u,rfl,t,rfl⟩:=vals1 r
    exact call_int_int ⟨.int i,H,I,⟨_,rfl⟩,q⟩
  · obtain ⟨u,rfl,r1⟩:=vals1 r
    cases r1
    exact call_int_bool ⟨.int (if k then 1 else 0),H,I.tok _,⟨_,rfl⟩,q⟩
theorem call_str_int:CallR X (.type "str") (fun xs H Q=>∃ i,xs=[.int i]∧i.natAbs.log2 < 1920∧Q (.str (toString i)) H):=by
  intro pins s σ H xs us Q I r h
  obtain ⟨i,rfl,hz,q⟩:=h
  obtain ⟨u,rfl,t,rfl⟩:=vals1 r
  exact PySem.P.str_of_int hz ⟨.str _,H,I.tok _,⟨_,rfl⟩,q⟩
end
end L2
namespace L2
open PySem PySem.Spec PyProof.Rows
structure ObjM (h:Heap) (x dx C:Addr) (mA:Str→Option Value):Prop where
  obj:h.get? x=some (PySem.W.instObj C dx)
  ns:h.Ns1 dx mA
  ne:dx≠x
theorem lookIn_ns {h:Heap} {dx:Addr} {mA:Str→Option Value} (n:h.Ns1 dx mA):∃ od,h.get? dx=some od∧∀ name,PySem.W.lookIn name od=some (mA name):=by
  obtain ⟨o,es,ep,ho,hd,hk,_,hm⟩:=n
  refine ⟨o,ho,fun name=>?_⟩
  have e:=hm name
  unfold nsFind findBy at e
  rw [← Array.find?_toList] at e
  unfold PySem.W.lookIn
  rw [hd]
  dsimp only
  split
  · rename_i y q
    rw [q] at e
    exact congrArg some e
  · rename_i q
    rw [q] at e
    have a:es.toList.any (·.refKey)=false:=by
      rw [List.any_eq_false]
      intro y hy
      obtain ⟨z,t,hkey⟩:=hk y (Array.mem_toList_iff.mp hy)
      simp [DictEntry.refKey,hkey]
    have a':¬ es.toList.any (·.refKey)=true:=by rw [a]; exact Bool.false_ne_true
    rw [if_neg a']
    exact congrArg some e
theorem ObjM.look {h:Heap} {x dx C:Addr} {mA:Str→Option Value} (I:ObjM h x dx C mA):∃ od,PySem.W.InstAt h x (PySem.W.instObj C dx) C (some od)∧∀ name,PySem.W.lookIn name od=some (mA name) :=
  let ⟨od,ho,hl⟩:=lookIn_ns I.ns
  ⟨od,⟨I.obj,rfl,rfl,ho⟩,hl⟩
section
variable {prog:Program} {w:World} {A:Around} {E:Value→Shared→Prop} {s:Shared} {K:PySem.W.Frag} {x dx C f:Addr} {mA:Str→Option Value} {name:Str} {v:Value}
theorem get_map {expr:Bool} {Q:Value→Shared→Prop} (X:K.In s.heap) (I:ObjM s.heap x dx C mA) (hg:PySem.W.plainGet K C name=true) (hh:PySem.W.hasDictIn K C=true)
    (ha:PySem.W.findIn K (.ref C) name=some none) (hv:mA name=some v) (hv':PySem.W.handedIn v=true) (h:Q v { s with toks:=s.toks + 1 }) :
    wpAny (model prog w) A (getAttr (.ref x) name expr) Q E s:=by
  obtain ⟨od,J,hl⟩:=I.look
  exact PySem.W.get_value X J (PySem.W.plainGet_of hg).1 (PySem.W.findObj_own hh ha rfl (by rw [hl,hv])) hv' h
theorem get_meth {pl:Sem Bool} {Q:Value × List Value→Shared→Prop} (X:K.In s.heap) (I:ObjM s.heap x dx C mA) (hg:PySem.W.plainGet K C name=true)
    (hf:PySem.W.findIn K (.ref C) name=some (some (.ref f))) (ht:PySem.W.isFn K (.ref f)=true) (hv:mA name=none) (h:Q (.ref f,[.ref x]) s) :
    wpAny (model prog w) A (getMethod (.ref x) name pl) Q E s:=by
  obtain ⟨od,J,hl⟩:=I.look
  exact PySem.W.method_fn X J (PySem.W.plainGet_of hg).1 (PySem.W.plainGet_of hg).2 hf (beq_iff_eq.mp ht) (by show (PySem.W.lookIn name od).map (·.isSome)=some false; rw [hl,hv]; rfl) h
theorem set_map {ns:List Str} {Q:Unit→Shared→Prop} (X:K.In s.heap) (I:ObjM s.heap x dx C mA)
    (hs:PySem.W.findIn K (.ref C) "__setattr__"=some (some (.builtin "object.__setattr__"))) (hp:PySem.W.plainOver K C=true) (ht:PySem.W.takerIn K C name=some none) (hh:PySem.W.hasDictIn K C=true)
    (hw:PySem.Within mA ns) (hsz:ns.length≤sizeLine)
    (h:∀ h',ObjM h' x dx C (fun y=>if y=name then some v else mA y)→Heap.SameBut dx s.heap h'→Q () { s with heap:=h',toks:=s.toks + 2 }) :
    wpAny (model prog w) A (setAttr (.ref x) name v) Q E s:=by
  obtain ⟨od,J,hl⟩:=I.look
  refine PySem.W.set_plain X J hs (PySem.W.osa_open (s:={ s with toks:=s.toks + 1 }) (r:=none) X J hp ht fun b=>?_)
  obtain ⟨cd,hc,hd'⟩:=PySem.W.any_some hh
  have hx:s.heap.get? x=some ⟨.ref C,some dx,.plain,#[]⟩:=I.obj
  refine wpAny_bind (wpAny_pure (wpAny_bind (wpAny_bind (wpAny_loadPart hx (wpAny_bind (PySem.W.Looks.here (s:={ s with toks:=s.toks + 1 }) (PySem.W.looks_clsIn X hc) ?_))))))
  rw [hd']
  refine wpAny_pure (a:=some dx) (wpAny_bind (wpAny_pure (wpAny_bind ?_)))
  refine wpAny_nsSet1 (s:={ s with toks:=s.toks + 1 }) I.ns fun h' hn2 hs2=>?_
  obtain ⟨oD,esD,epD,hoD,hdD,hcD⟩:=hn2.count (PySem.Within.cons name v hw)
  refine wpAny_bind (wpAny_lookBehind hoD (by rw [hdD]; exact pastItsLine_dict (Nat.le_trans hcD (by rw [List.length_cons]; omega))) ?_)
  exact wpAny_pure (h _ ⟨(hs2.2 _ (Ne.symm I.ne)).trans I.obj,hn2,I.ne⟩ hs2)
theorem make_map {R:Result→Shared→Prop} {vs:List Value} {kw:List (Str × Value)} (X:K.In s.heap) (hm:PySem.W.makesIn K C=true)
    (hi:PySem.W.findIn K (.ref C) "__init__"=some (some (.ref f))) (hf:PySem.W.typeIn K (.ref f)=some (.type "function"))
    (h:codeAny (model prog w) (A.under (.builtin "type.__call__" ⟨.ref C::vs,kw⟩)) (.call (.ref f) ⟨.ref (s.heap.objs.size + 1)::vs,kw⟩) (PySem.W.InitBack (s.heap.objs.size + 1) R)
      { s with heap:=(s.heap.push PySem.W.emptyDict).push (PySem.W.instObj C s.heap.objs.size) }) :
    codeAny (model prog w) A (.call (.ref C) ⟨vs,kw⟩) R s:=by
  obtain ⟨hh,g,d,t,os⟩:=s
  exact PySem.W.make_core (PySem.W.makes_of X hm) (PySem.W.looks_findIn X hi) (fun self=>PySem.W.bind_fn X self hf) (.inl rfl) h
end
def putF (f:Str) (v:V):List (Str × V)→List (Str × V)
  | []=>[(f,v)]
  | (g,x)::r=>if g=f then (g,v)::r else (g,x)::putF f v r
theorem lookup_putF (f g:Str) (v:V):∀ fs:List (Str × V),(putF f v fs).lookup g=if g=f then some v else fs.lookup g
  | []=>by
    show List.lookup g [(f,v)]=_
    by_cases h:g=f
    · have hb:(g == f)=true:=beq_iff_eq.mpr h
      simp only [List.lookup,hb,if_pos h]
    · have hb:(g == f)=false:=beq_eq_false_iff_ne.mpr h
      simp only [List.lookup,hb,if_neg h]
  | (k,x)::r=>by
    have ih:=lookup_putF f g v r
    rw [show putF f v ((k,x)::r)=(if k=f then (k,v)::r else (k,x)::putF f v r) from rfl]
    by_cases hk:k=f
    · rw [if_pos hk]
      by_cases h:g=k
      · have hb:(g == k)=true:=beq_iff_eq.mpr h
        simp only [List.lookup,hb,if_pos (h.trans hk)]
      · have hb:(g == k)=false:=beq_eq_false_iff_ne.mpr h
        simp only [List.lookup,hb,if_neg (fun e:g=f=>h (e.trans hk.symm))]
    · rw [if_neg hk]
      by_cases h:g=k
      · have hb:(g == k)=true:=beq_iff_eq.mpr h
        simp only [List.lookup,hb,if_neg (fun e:g=f=>hk (h.symm.trans e))]
      · have hb:(g == k)=false:=beq_eq_false_iff_ne.mpr h
        simp only [List.lookup,hb]
        exact ih
theorem keys_putF (f:Str) (v:V):∀ fs:List (Str × V),f ∈ (putF f v fs).map (·.1)∧∀ g,g ∈ fs.map (·.1)→g ∈ (putF f v fs).map (·.1)
  | []=>⟨by simp [putF],fun g h=>by simp at h⟩
  | (k,x)::r=>by
    obtain ⟨i1,i2⟩:=keys_putF f v r
    rw [show putF f v ((k,x)::r)=(if k=f then (k,v)::r else (k,x)::putF f v r) from rfl]
    by_cases hk:k=f
    · rw [if_pos hk]
      subst hk
      exact ⟨by simp,fun g h=>by simpa using h⟩
    · rw [if_neg hk]
      refine ⟨?_,fun g h=>?_⟩
      · rw [List.map_cons]
        exact List.mem_cons_of_mem _ i1
      · rw [List.map_cons] at h ⊢
        rcases List.mem_cons.mp h with e | e
        · exact List.mem_cons.mpr (.inl e)
        · exact List.mem_cons_of_mem _ (i2 g e)
theorem length_putF (f:Str) (v:V):∀ fs:List (Str × V),(putF f v fs).length≤fs.length + 1
  | []=>by simp [putF]
  | (k,x)::r=>by
    have ih:=length_putF f v r
    rw [show putF f v ((k,x)::r)=(if k=f then (k,v)::r else (k,x)::putF f v r) from rfl]
    by_cases hk:k=f
    · rw [if_pos hk,List.length_cons,List.length_cons]; omega
    · rw [if_neg hk,List.length_cons,List.length_cons]; omega
theorem RelO.some_of {v:V} {o:Option Value} (r:RelO (some v) o):∃ u,o=some u∧RelV v u:=by
  cases o with
  | none=>exact (show False from r).elim
  | some u=>exact ⟨u,rfl,r⟩
theorem RelO.none_of {o:Option Value} (r:RelO none o):o=none:=by
  cases o with
  | none=>rfl
  | some u=>exact (show False from r).elim
theorem handed_of {v:V} {u:Value} (r:RelV v u):PySem.W.handedIn u=true:=by
  cases v with
  | non=>cases (show u=Value.none from r); rfl
  | bl b=>cases (show u=Value.bool b from r); rfl
  | int i=>obtain ⟨t,e⟩:=(show ∃ t,u=Value.int i t from r); cases e; rfl
  | str x=>obtain ⟨t,e⟩:=(show ∃ t,u=Value.str x t from r); cases e; rfl
  | byt b=>obtain ⟨t,e⟩:=(show ∃ t,u=Value.bytes b t from r); cases e; rfl
  | flt b=>obtain ⟨t,e⟩:=(show ∃ t,u=Value.float b t from r); cases e; rfl
  | ref a=>cases (show u=Value.ref a from r); rfl
  | ty n=>cases (show u=Value.type n from r); rfl
section
variable {P:Program} {w:World} {H H':Hp} {h h':Heap} {a C dx:Addr} {fs fs':List (Str × V)}
theorem ins_get (hok:HOk P w H h) (e:H a=some (.ins C dx fs)):∃ mA,ObjM h a dx C mA∧(∀ f,RelO (fs.lookup f) (mA f))∧PySem.Within mA (fs.map (·.1))∧fs.length≤1000∧H dx=some (.own a):=by
  obtain ⟨d,z,ne,ob,mA,n,r,q⟩:=(show ObjOk P w H h a (.ins C dx fs) from hok a _ e)
  exact ⟨mA,⟨ob,n,ne⟩,r,q,z,d⟩
end
structure Cls (K:PySem.W.Frag) (C:Addr):Prop where
  pg:PySem.W.plainGet K C Str.empty=true
  hd:PySem.W.hasDictIn K C=true
  po:PySem.W.plainOver K C=true
  sa:PySem.W.findIn K (.ref C) "__setattr__"=some (some (.builtin "object.__setattr__"))
theorem Cls.get {K:PySem.W.Frag} {C:Addr} (c:Cls K C) (f:Str):PySem.W.plainGet K C f=true:=c.pg
def NoAttr (K:PySem.W.Frag) (C:Addr) (f:Str):Prop:=PySem.W.findIn K (.ref C) f=some none
theorem NoAttr.taker {K:PySem.W.Frag} {C:Addr} {f:Str} (n:NoAttr K C f):PySem.W.takerIn K C f=some none:=by
  unfold PySem.W.takerIn
  rw [show PySem.W.findIn K (.ref C) f=some none from n]
  rfl
structure Meth (K:PySem.W.Frag) (C:Addr) (m:Str) (f:Addr):Prop where
  at_:PySem.W.findIn K (.ref C) m=some (some (.ref f))
  fn:PySem.W.isFn K (.ref f)=true
  kp:PySem.W.keepIn K (.ref f)=true
section
variable {X:Cx} {pins:List (Addr × Obj)} {σ:St} {H:Hp} {s:Shared} {a C dx:Addr} {fs:List (Str × V)} {f:Str} {v:V} {A:Around} {E:Value→Shared→Prop}
theorem getattr_ok {b:Bool} {Q:Value→Shared→Prop} (I:Inv X pins σ H s) (e:H a=some (.ins C dx fs)) (c:Cls X.K C) (n:NoAttr X.K C f) (l:fs.lookup f=some v)
    (h:∀ u s',Inv X pins σ H s'→RelV v u→Q u s'):wpAny (model X.prog X.w) A (getAttr (.ref a) f b) Q E s:=by
  obtain ⟨mA,O,r,_,_,_⟩:=ins_get I.hok e
  obtain ⟨u,hu,ru⟩:=RelO.some_of (v:=v) (o:=mA f) (by rw [← l]; exact r f)
  exact get_map I.kIn O (c.get f) c.hd n hu (handed_of ru) (h u _ (I.tok _) ru)
theorem getmeth_ok {m:Str} {g:Addr} {pl:Sem Bool} {Q:Value × List Value→Shared→Prop} (I:Inv X pins σ H s) (e:H a=some (.ins C dx fs)) (c:Cls X.K C) (k:Meth X.K C m g) (l:fs.lookup m=none)
    (h:Q (.ref g,[.ref a]) s):wpAny (model X.prog X.w) A (getMethod (.ref a) m pl) Q E s:=by
  obtain ⟨mA,O,r,_,_,_⟩:=ins_get I.hok e
  have hn:mA m=none:=RelO.none_of (by rw [← l]; exact r m)
  exact get_meth I.kIn O (c.get m) k.at_ k.fn hn h
theorem setattr_ok {y:V} {u:Value} {Q:Unit→Shared→Prop} (I:Inv X pins σ H s) (e:H a=some (.ins C dx fs)) (c:Cls X.K C) (n:NoAttr X.K C f) (hl:fs.length < 1000) (ry:RelV y u)
    (h:∀ s',Inv X pins σ (upd H a (.ins C dx (putF f y fs))) s'→Q () s'):wpAny (model X.prog X.w) A (setAttr (.ref a) f u) Q E s:=by
  obtain ⟨mA,O,r,wi,_,ho⟩:=ins_get I.hok e
  have hz:(fs.map (·.1)).length≤sizeLine:=by rw [List.length_map,sizeLine_eq]; omega
  refine set_map I.kIn O c.sa c.po n.taker c.hd wi hz fun h' O' sb=>h _ ?_
  have hd:∃ o,h'.get? dx=some o:=let ⟨o,_,_,e',_⟩:=O'.ns; ⟨o,e'⟩
  refine I.write (x:=a) (e:=dx) (by rw [e]; exact True.intro) (.inr ho) (fun b q hb z=>(sb.2 b hb).trans z) hd ?_
  refine ⟨by rw [upd_ne O.ne]; exact ho,?_,O.ne,O'.obj,_,O'.ns,fun g=>?_,fun g hg=>?_⟩
  · have:=length_putF f y fs; omega
  · show RelO ((putF f y fs).lookup g) (if g=f then some u else mA g)
    rw [lookup_putF]
    by_cases q:g=f
    · rw [if_pos q,if_pos q]; exact ry
    · rw [if_neg q,if_neg q]; exact r g
  · by_cases q:g=f
    · rw [q]; exact (keys_putF f y fs).1
    · refine (keys_putF f y fs).2 g (wi g fun z=>hg ?_)
      show (if g=f then some u else mA g)=none
      rw [if_neg q]; exact z
theorem Inv.made (I:Inv X pins σ H s):Inv X pins σ (upd (upd H s.heap.objs.size (.own (s.heap.objs.size + 1))) (s.heap.objs.size + 1) (.ins C s.heap.objs.size []))
    { s with heap:=(s.heap.push PySem.W.emptyDict).push (PySem.W.instObj C s.heap.objs.size) }:=by
  have e1:(s.heap.push PySem.W.emptyDict).get? s.heap.objs.size=some PySem.W.emptyDict:=Heap.get?_push_size s.heap rfl
  have e2:((s.heap.push PySem.W.emptyDict).push (PySem.W.instObj C s.heap.objs.size)).get? (s.heap.objs.size + 1)=some (PySem.W.instObj C s.heap.objs.size):=by
    have:=Heap.get?_push_size (s.heap.push PySem.W.emptyDict) (o:=PySem.W.instObj C s.heap.objs.size) rfl
    rwa [Heap.size_push] at this
  have e3:(s.heap.push PySem.W.emptyDict).Ns s.heap.objs.size (fun _=>none):=⟨PySem.W.emptyDict,#[],_,e1,rfl,(fun e he=>absurd he (by simp)),fun _=>rfl⟩
  have I1:=I.laid (a:=s.heap.objs.size) (o:=.own (s.heap.objs.size + 1)) (h':=s.heap.push PySem.W.emptyDict) (t':=s.toks) (fun b u q=>Heap.get?_push_of_some _ q) (Nat.le_refl _) ⟨_,e1⟩
  refine I1.laid (a:=s.heap.objs.size + 1) (o:=.ins C s.heap.objs.size []) (t':=s.toks) (fun b u q=>Heap.get?_push_of_some _ q) (Nat.le_of_eq (Heap.size_push _ _)) ?_
  have ne:s.heap.objs.size≠s.heap.objs.size + 1:=Nat.ne_of_lt (Nat.lt_succ_self _)
  refine ⟨by rw [upd_ne ne,upd_same],Nat.zero_le _,ne,e2,fun _=>none,(Heap.Ns1.of_empty e3).at fun o q=>Heap.get?_push_of_some _ q,fun _=>True.intro,fun y hy=>absurd rfl hy⟩
theorem attr_of {prog:Program} {w:World} {env:Env} {e:Expr} {f:Str} {pos:Pos} {s:Shared} {Q:Value→Shared→Prop} (hb:attributeBase e f env (eval e env)=eval e env)
    (h:wpAny (model prog w) A (eval e env) (fun o s₁=>wpAny (model prog w) A (getAttr o f true) Q E s₁) E s):wpAny (model prog w) A (eval (.Attribute e f pos) env) Q E s :=
  Attribute_any_ h (by rw [arm_eval_Attribute,hb])
end
inductive rFld (K:PySem.W.Frag) (f:Str) (x:V) (H1:Hp) (Q:VK):Prop
  | mk (a C dx:Addr) (fs:List (Str × V)) (v:V) (e:x=.ref a) (h:H1 a=some (.ins C dx fs)) (c:Cls K C) (n:NoAttr K C f) (l:fs.lookup f=some v) (q:Q v H1):rFld K f x H1 Q
def tFld (K:PySem.W.Frag) (ta:TE) (f:Str):TE:=fun σ H Q=>ta σ H fun x H1=>rFld K f x H1 Q
def sFld (K:PySem.W.Frag) (ta tv:TE) (f:Str):TS:=fun D σ H=>tv σ H fun y H1=>ta σ H1 fun x H2=>∃ a C dx fs,x=.ref a∧H2 a=some (.ins C dx fs)∧Cls K C∧NoAttr K C f∧fs.length < 1000 ∧
  D.nx σ (upd H2 a (.ins C dx (putF f y fs)))
section
variable {X:Cx} {o e value:Expr} {f:Str} {pos pos' tpos:Pos} {ta tv:TE}
theorem pe_fld (he:PE X e ta) (hb:attributeBase e f X.env (eval e X.env)=eval e X.env):PE X (.Attribute e f pos) (tFld X.K ta f):=by
  refine ⟨?_⟩
  intro pins s σ H Q I h
  refine attr_of hb (thn (he pins s σ H _ I h) fun u s1 ⟨x,H1,I1,rx,a,C,dx,fs,v,ex,ea,c,n,l,q⟩=>?_)
  subst ex
  obtain rfl:u=Value.ref a:=rx
  exact getattr_ok I1 ea c n l fun u' s2 I2 ru=>⟨v,H1,I2,ru,q⟩
theorem ps_fld (ha:PE X o ta) (hv:PE X value tv) (hs:swapsWith value (some (.Attribute o f pos')) pos.line X.env=pure false):PS X (.Assign [.Attribute o f pos'] value pos) (sFld X.K ta tv f):=by
  refine ⟨?_⟩
  intro pins s σ H D I h
  refine plainObj_wpAny_Assign_Attribute (thn (hv pins s σ H _ I h) fun u s1 ⟨y,H1,I1,ry,q⟩=>thn (ha pins s1 σ H1 _ I1 q) fun ov s2 ⟨x,H2,I2,rx,a,C,dx,fs,ex,ea,c,n,l,q2⟩=>?_) hs
  subst ex
  obtain rfl:ov=Value.ref a:=rx
  exact setattr_ok I2 ea c n l ry fun s3 I3=>⟨σ,_,I3,q2⟩
end
section
variable {X:Cx} {pins:List (Addr × Obj)} {σ:St} {H:Hp} {s:Shared} {A:Around} {E:Value→Shared→Prop} {Q:Value→Shared→Prop} {c:Value} {b:Bool}
end
end L2
namespace L2
open PySem PySem.Spec PyProof.Rows
structure Room (k:Nat) (A:Around):Prop where
  hd:A.handled=none
  dp:A.depth + 3 * k + 5 < recursionLimit
  un:A.units + 16 * k + 200 < cLine
  gd:A.guards=some []
theorem Room.mono {j k:Nat} {A:Around} (r:Room k A) (h:j≤k):Room j A:=⟨r.hd,by have:=r.dp; omega,by have:=r.un; omega,r.gd⟩
theorem Room.deeper {k:Nat} {A:Around} (r:Room (k + 1) A) (env:Env):Room k (A.deeper env) :=
  ⟨r.hd,by have:=r.dp; show A.depth + 1 + 3 * k + 5 < _; omega,by have:=r.un; show A.units + 3 + 16 * k + 200 < _; omega,r.gd⟩
theorem Room.in1 {k:Nat} {A:Around} (r:Room (k + 1) A):Room k A.in1 :=
  ⟨r.hd,by have:=r.dp; show A.depth + 3 * k + 5 < _; omega,by have:=r.un; show A.units + 1 + 16 * k + 200 < _; omega,r.gd⟩
theorem make_depth {A:Around} {C:Addr} {us:List Value} {kw:List (Str × Value)}:(A.under (.builtin "type.__call__" ⟨.ref C::us,kw⟩)).depth=A.depth + 1:=by
  first | rfl | simp [Around.under,Code.weight,Code.isCreation,Code.isGuard,Code.isCaller,Code.frames,Code.isFrame,guardIds]
theorem make_units {A:Around} {C:Addr} {us:List Value} {kw:List (Str × Value)}:(A.under (.builtin "type.__call__" ⟨.ref C::us,kw⟩)).units=A.units + 1:=by
  first | rfl | simp [Around.under,Code.cUnits,Code.frames,Code.isFrame]
theorem make_guards {A:Around} {C:Addr} {us:List Value} {kw:List (Str × Value)}:(A.under (.builtin "type.__call__" ⟨.ref C::us,kw⟩)).guards=A.guards:=by
  first | rfl | simp [Around.under,Code.weight,Code.isCreation,Code.isGuard,Code.isCaller,Code.frames,Code.isFrame,guardIds]
theorem Room.make {k:Nat} {A:Around} (r:Room (k + 1) A) (C:Addr) (us:List Value) (kw:List (Str × Value)):Room k (A.under (.builtin "type.__call__" ⟨.ref C::us,kw⟩)) :=
  ⟨r.hd,by have:=r.dp; rw [make_depth]; omega,by have:=r.un; rw [make_units]; omega,by rw [make_guards]; exact r.gd⟩
theorem Room.depth {k:Nat} {A:Around} (r:Room k A):A.depth < recursionLimit:=by have:=r.dp; omega
abbrev tNil:TA:=fun _ H Q=>Q [] H
abbrev tCons (ta:TE) (tr:TA):TA:=fun σ H Q=>ta σ H fun x H1=>tr σ H1 fun xs H2=>Q (x::xs) H2
section
variable {X:Cx} {e:Expr} {es:List Expr} {te:TE} {t:TA} {pos:Pos}
theorem pa_nil:PA X [] tNil:=.mk fun _ _ _ _ H Q I h=>Calls.spliced_nil ⟨[],H,I,.nil,h⟩
theorem pa_cons (ha:PE X e te) (hr:PA X es t) (hs:starEach (e::es) X.env=(false,eval e X.env)::starEach es X.env:=by rfl):PA X (e::es) (tCons te t):=by
  refine ⟨?_⟩
  intro pos pins s σ H Q I h
  rw [hs]
  show wpAny _ _ (spliced ((false,eval e X.env)::backTo pos (starEach es X.env))) _ _ s
  refine Calls.spliced_cons (thn (ha pins s σ H _ I h) fun u s1 ⟨x,H1,I1,r1,q1⟩=>?_)
  exact thn (hr pos pins s1 σ H1 _ I1 q1) fun us s2 ⟨xs,H2,I2,r2,q2⟩=>⟨x::xs,H2,I2,.cons r1 r2,q2⟩
def tTup (t:TA):TE:=fun σ H Q=>t σ H fun xs H1=>xs.length≤sizeLine∧∀ p,H1 p=none→Q (.ref p) (upd H1 p (.tup xs))
def tLst (t:TA):TE:=fun σ H Q=>t σ H fun xs H1=>xs.length≤sizeLine∧∀ p,H1 p=none→Q (.ref p) (upd H1 p (.lst xs))
theorem pe_tup {x1} (h:PA X es t):PE X (.Tuple es x1 pos) (tTup t):=by
  refine ⟨?_⟩
  intro pins s σ H Q I hq
  refine wpAny_Tuple_spliced (thn (h pos pins s σ H _ I hq) fun us s1 ⟨xs,H1,I1,r,z,q⟩=>⟨by rw [← r.length]; exact z,?_⟩)
  have hf:H1 s1.heap.objs.size=none:=I1.hok.fresh (Nat.le_refl _)
  refine ⟨.ref s1.heap.objs.size,upd H1 s1.heap.objs.size (.tup xs),I1.laid (t':=s1.toks) (fun b u e=>Heap.get?_push_of_some _ e) (Nat.le_refl _) ?_,rfl,q _ hf⟩
  exact ⟨z,us,r,⟨_,Heap.get?_push_size _ rfl,rfl,_,rfl⟩⟩
theorem pe_lst (h:PA X es t):PE X (.List es pos) (tLst t):=by
  refine ⟨?_⟩
  intro pins s σ H Q I hq
  refine wpAny_List_spliced (thn (h pos pins s σ H _ I hq) fun us s1 ⟨xs,H1,I1,r,z,q⟩=>⟨by rw [← r.length]; exact z,?_⟩)
  have hf:H1 s1.heap.objs.size=none:=I1.hok.fresh (Nat.le_refl _)
  refine ⟨.ref s1.heap.objs.size,upd H1 s1.heap.objs.size (.lst xs),I1.laid (t':=s1.toks) (fun b u e=>Heap.get?_push_of_some _ e) (Nat.le_refl _) ?_,rfl,q _ hf⟩
  exact ⟨z,us,0,r,Heap.get?_push_size _ rfl⟩
end
abbrev Sp:=List V→Hp→VK→XK→Prop
abbrev CXT:=List Env→Hp→Shared→XK→Value→Shared→Prop
structure Env0 (P:Program) (w:World) (K:PySem.W.Frag) (mg:Str→Option Value) (base:Heap) (A:Around) (outer:List Env) (s:Shared) (H:Hp):Prop where
  frames:A.frames=some outer
  mod:Mod K mg base
  bs:∀ b o,base.get? b=some o→s.heap.get? b=some o∧H b=none
  bsz:base.objs.size≤s.heap.objs.size
  funs:s.heap.FunFrames base outer
  frf:∀ b ∈ frs outer,H b=none
  hok:HOk P w H s.heap
  bare:AllBare s.gens
def CE (outer:List Env) (P:Program) (w:World) (H:Hp) (s:Shared) (Q:VK) (u:Value) (s':Shared):Prop :=
  ∃ v H',s'.os=s.os∧AllBare s'.gens∧Un (frs outer) [] H H' s.heap s'.heap∧HOk P w H' s'.heap∧RelV v u∧Q v H'
def CR (CX:CXT) (outer:List Env) (P:Program) (w:World) (H:Hp) (s:Shared) (Q:VK) (E:XK) (r:Result) (s':Shared):Prop :=
  match r with
  | .ok (.ret u)=>CE outer P w H s Q u s'
  | .ok _=>False
  | .error e=>CX outer H s E e s'
structure FnOk (P:Program) (w:World) (K:PySem.W.Frag) (mg:Str→Option Value) (base:Heap) (CX:CXT) (k:Nat) (f:Addr) (fd:FuncData) (ps:List Str) (sp:Sp):Prop where
  len:∀ vs H Q E,sp vs H Q E→vs.length=ps.length
  run:∀ (A:Around) (outer:List Env) (s:Shared) (H:Hp) (args:Args) (us:List Value) (vs:List V) (Q:VK) (E:XK),Room k A→Env0 P w K mg base A outer s H→BindsTo s fd args (ps.zip us)→Vals vs us→sp vs H Q E →
    codeAny (model P w) A (.call (.ref f) args) (CR CX outer P w H s Q E) s
theorem Env0.make {P:Program} {w:World} {K:PySem.W.Frag} {mg:Str→Option Value} {base:Heap} {A:Around} {outer:List Env} {s:Shared} {H:Hp} (e:Env0 P w K mg base A outer s H) (C:Addr) (us:List Value) (kw:List (Str × Value)) :
    Env0 P w K mg base (A.under (.builtin "type.__call__" ⟨.ref C::us,kw⟩)) outer s H:=⟨by first | exact e.frames | (simpa [Around.under,Code.envs,Code.isFrame,pushEnvs] using e.frames),e.mod,e.bs,e.bsz,e.funs,e.frf,e.hok,e.bare⟩
section
variable {X:Cx} {pins:List (Addr × Obj)} {σ:St} {H:Hp} {s s':Shared}
theorem Inv.env0 (I:Inv X pins σ H s):Env0 X.prog X.w X.K X.mg X.base X.A X.stack s H :=
  ⟨I.ok.frames,I.ok.mod,I.bs,Nat.le_trans I.ok.bsz I.sz,I.stack,I.stkFree,I.hok,I.bare⟩
theorem Inv.after {Q:VK} {u:Value} (I:Inv X pins σ H s) (h:CE X.stack X.prog X.w H s Q u s'):EP X pins σ Q u s':=by
  obtain ⟨v,H',os,bare,un,hok,r,q⟩:=h
  obtain ⟨hh,g,d,t,os'⟩:=s'
  obtain rfl:os'=s.os:=os
  exact ⟨v,H',I.call (h':=hh) (g':=g) (d':=d) (t':=t) (ch:=[]) un hok bare (fun b z=>absurd z (by simp)),r,q⟩
end
abbrev tCall (sp:Sp) (dvs:List V) (E:XK) (t:TA):TE:=fun σ H Q=>t σ H fun vs H1=>sp (vs++dvs) H1 Q E
inductive rMeth (C:Addr) (m:Str) (x:V) (H1:Hp) (R:Prop):Prop
  | mk (a dx:Addr) (fs:List (Str × V)) (e:x=.ref a) (h:H1 a=some (.ins C dx fs)) (l:fs.lookup m=none) (q:R):rMeth C m x H1 R
def tMeth (C:Addr) (m:Str) (sp:Sp) (dvs:List V) (E:XK) (ta:TE) (t:TA):TE:=fun σ H Q=>ta σ H fun x H1=>rMeth C m x H1 (t σ H1 fun vs H2=>sp (x::(vs++dvs)) H2 Q E)
def tMake (C:Addr) (sp:Sp) (dvs:List V) (E:XK) (t:TA):TE:=fun σ H Q=>t σ H fun vs H1=>∀ x dx,H1 x=none→H1 dx=none→dx≠x →
  sp (.ref x::(vs++dvs)) (upd (upd H1 dx (.own x)) x (.ins C dx [])) (fun v H2=>v=.non∧Q (.ref x) H2) E
def Binds (K:PySem.W.Frag) (fd:FuncData) (ps:List Str) (ds:List Value):Prop :=
  ∀ (s:Shared) (us:List Value),K.In s.heap→(us++ds).length=ps.length→BindsTo s fd ⟨us,[]⟩ (ps.zip (us++ds))
theorem Binds.all {K:PySem.W.Frag} {fd:FuncData} {ps:List Str} (h:∀ us:List Value,us.length=ps.length→bindArgs fd ⟨us,[]⟩=pure (ps.zip us)):Binds K fd ps []:=fun s us _ hl=>by
  rw [List.append_nil] at hl ⊢
  exact .of_eq (h us hl)
def Passes (CX:CXT) (X:Cx) (E:XK):Prop:=∀ (pins:List (Addr × Obj)) (σ:St) (H:Hp) (s:Shared) (e:Value) (s':Shared),Inv X pins σ H s→CX X.stack H s E e s'→X.xe e s'
section
variable {X:Cx} {CX:CXT} {k:Nat} {f C:Addr} {fd:FuncData} {ps:List Str} {sp:Sp} {dvs:List V} {ds:List Value} {E:XK} {x m:Str} {p pos apos:Pos} {e o:Expr} {es:List Expr} {ta:TE} {t:TA}
theorem run_fn {pins:List (Addr × Obj)} {σ:St} {H:Hp} {s:Shared} {Q:VK} {us:List Value} {vs:List V} (F:FnOk X.prog X.w X.K X.mg X.base CX k f fd ps sp) (hr:Room k X.A) (hb:Binds X.K fd ps ds) (hd:Vals dvs ds) (hx:Passes CX X E)
    (I:Inv X pins σ H s) (r:Vals vs us) (h:sp (vs++dvs) H Q E):wpAny (model X.prog X.w) X.A (call (.ref f) us) (EP X pins σ Q) X.xe s:=by
  have r2:Vals (vs++dvs) (us++ds):=r.append hd
  have hl:(us++ds).length=ps.length:=by rw [← r2.length]; exact F.len _ _ _ _ h
  refine wpAny_call (codeAny_mono (F.run X.A X.stack s H ⟨us,[]⟩ (us++ds) (vs++dvs) Q E hr I.env0 (hb s us I.kIn hl) r2 h) fun r s' hq=>?_)
  cases r with
  | error e=>exact hx pins σ H s e s' I hq
  | ok fl =>
    cases fl with
    | ret u=>exact I.after hq
    | next=>exact False.elim hq
    | brk=>exact False.elim hq
    | cont=>exact False.elim hq
theorem pe_call (F:FnOk X.prog X.w X.K X.mg X.base CX k f fd ps sp) (hr:Room k X.A) (hg:Gl X x) (hm:X.mg x=some (.ref f)) (hk:PySem.W.keepIn X.K (.ref f)=true) (hb:Binds X.K fd ps ds) (hd:Vals dvs ds) (hx:Passes CX X E)
    (ha:PA X (e::es) t) (hdb:(x == ("__debug__" : Str))=false:=by decide) (he:starEach (e::es) X.env=(false,eval e X.env)::starEach es X.env:=by rfl) (hpl:(backTo pos (starEach es X.env)).any (·.1)=false:=by rfl) :
    PE X (.Call (.Name x p) (e::es) [] pos) (tCall sp dvs E t):=by
  refine ⟨?_⟩
  intro pins s σ H Q I h
  refine wpAny_Call_Name_kw (ld_glob I hg hm ?_ hdb)
  refine PySem.W.callWith_K (h₀:=X.base) I.ok.mod.kin hk (thn (ha pos pins s σ H _ I h) fun us s1 ⟨vs,H1,I1,r,q⟩=>⟨I1.kIn,?_⟩) he hpl
  exact run_fn F hr hb hd hx I1 r q
theorem pe_call0 (F:FnOk X.prog X.w X.K X.mg X.base CX k f fd ps sp) (hr:Room k X.A) (hg:Gl X x) (hm:X.mg x=some (.ref f)) (hk:PySem.W.keepIn X.K (.ref f)=true) (hb:Binds X.K fd ps ds) (hd:Vals dvs ds) (hx:Passes CX X E)
    (hdb:(x == ("__debug__" : Str))=false:=by decide):PE X (.Call (.Name x p) [] [] pos) (tCall sp dvs E tNil):=by
  refine ⟨?_⟩
  intro pins s σ H Q I h
  refine wpAny_Call_Name_kw (ld_glob I hg hm ?_ hdb)
  exact PySem.W.callWith_K0 I.kIn hk (run_fn (us:=[]) F hr hb hd hx I .nil h)
theorem pe_meth {pl:Sem Bool} (he:PE X o ta) (c:Cls X.K C) (hm:Meth X.K C m f) (F:FnOk X.prog X.w X.K X.mg X.base CX k f fd ps sp) (hr:Room k X.A) (hb:Binds X.K fd ps ds) (hd:Vals dvs ds) (hx:Passes CX X E) (ha:PA X (e::es) t)
    (hst:starEach (e::es) X.env=(false,eval e X.env)::starEach es X.env:=by rfl) (hpl:(backTo pos (starEach es X.env)).any (·.1)=false:=by rfl)
    (ht:eval (.Call (.Attribute o m apos) (e::es) [] pos) X.env=(do
      let ov ← eval o X.env
      standAt apos.atName
      let (f,first) ← holding [ov] (getMethod ov m pl)
      callWith pos f first (backTo pos (starEach (e::es) X.env)) (backToKw pos (keywordEach [] X.env))):=by rfl) :
    PE X (.Call (.Attribute o m apos) (e::es) [] pos) (tMeth C m sp dvs E ta t):=by
  refine ⟨?_⟩
  intro pins s σ H Q I h
  refine PySem.W.methodCall_KW (pl:=pl) (thn (he pins s σ H _ I h) fun u s1 ⟨x,H1,I1,rx,a,dx,fs,ex,ea,l,q⟩=>?_) ht
  subst ex
  obtain rfl:u=Value.ref a:=rx
  refine getmeth_ok I1 ea c hm l ?_
  refine PySem.W.callWith_K (first:=[.ref a]) (h₀:=X.base) I.ok.mod.kin hm.kp (thn (ha pos pins s1 σ H1 _ I1 q) fun us s2 ⟨vs,H2,I2,r,q2⟩=>⟨I2.kIn,?_⟩) hst hpl
  exact run_fn (us:=.ref a::us) (vs:=.ref a::vs) F hr hb hd hx I2 (.cons rfl r) q2
theorem pe_meth0 {pl:Sem Bool} (he:PE X o ta) (c:Cls X.K C) (hm:Meth X.K C m f) (F:FnOk X.prog X.w X.K X.mg X.base CX k f fd ps sp) (hr:Room k X.A) (hb:Binds X.K fd ps ds) (hd:Vals dvs ds) (hx:Passes CX X E)
    (ht:eval (.Call (.Attribute o m apos) [] [] pos) X.env=(do
      let ov ← eval o X.env
      standAt apos.atName
      let (f,first) ← holding [ov] (getMethod ov m pl)
      callWith pos f first (backTo pos (starEach [] X.env)) (backToKw pos (keywordEach [] X.env))):=by rfl) :
    PE X (.Call (.Attribute o m apos) [] [] pos) (tMeth C m sp dvs E ta tNil):=by
  refine ⟨?_⟩
  intro pins s σ H Q I h
  refine PySem.W.methodCall_KW (pl:=pl) (thn (he pins s σ H _ I h) fun u s1 ⟨x,H1,I1,rx,a,dx,fs,ex,ea,l,q⟩=>?_) ht
  subst ex
  obtain rfl:u=Value.ref a:=rx
  refine getmeth_ok I1 ea c hm l ?_
  exact PySem.W.callWith_K0 (first:=[.ref a]) I1.kIn hm.kp (run_fn (us:=[.ref a]) (vs:=[.ref a]) F hr hb hd hx I1 (.cons rfl .nil) q)
structure Mk (K:PySem.W.Frag) (C f:Addr):Prop where
  makes:PySem.W.makesIn K C=true
  init:PySem.W.findIn K (.ref C) "__init__"=some (some (.ref f))
  fn:PySem.W.isFn K (.ref f)=true
  kp:PySem.W.keepIn K (.ref C)=true
theorem run_make {pins:List (Addr × Obj)} {σ:St} {H:Hp} {s:Shared} {Q:VK} {us:List Value} {vs:List V} (M:Mk X.K C f) (F:FnOk X.prog X.w X.K X.mg X.base CX k f fd ps sp) (hr:Room (k + 1) X.A) (hb:Binds X.K fd ps ds) (hd:Vals dvs ds)
    (hx:Passes CX X E) (I:Inv X pins σ H s) (r:Vals vs us)
    (h:∀ x dx,H x=none→H dx=none→dx≠x→sp (.ref x::(vs++dvs)) (upd (upd H dx (.own x)) x (.ins C dx [])) (fun v H2=>v=.non∧Q (.ref x) H2) E) :
    wpAny (model X.prog X.w) X.A (call (.ref C) us) (EP X pins σ Q) X.xe s:=by
  have hq:=h (s.heap.objs.size + 1) s.heap.objs.size (I.hok.fresh (Nat.le_succ _)) (I.hok.fresh (Nat.le_refl _)) (Nat.ne_of_lt (Nat.lt_succ_self _))
  have I2:=Inv.made (C:=C) I
  have r2:Vals (V.ref (s.heap.objs.size + 1)::(vs++dvs)) (Value.ref (s.heap.objs.size + 1)::(us++ds)):=.cons rfl (r.append hd)
  have hl:(Value.ref (s.heap.objs.size + 1)::us++ds).length=ps.length:=by
    have e:=r2.length
    rw [F.len _ _ _ _ hq] at e
    exact e.symm
  refine wpAny_call (make_map (f:=f) I.kIn M.makes M.init (beq_iff_eq.mp M.fn) (codeAny_mono (F.run _ X.stack _ _ ⟨Value.ref (s.heap.objs.size + 1)::us,[]⟩ (Value.ref (s.heap.objs.size + 1)::(us++ds)) _ _ E (hr.make C us [])
    (I2.env0.make C us []) (hb _ (Value.ref (s.heap.objs.size + 1)::us) I2.kIn hl) r2 hq) fun r s' hq'=>?_))
  cases r with
  | error e=>exact hx pins σ _ _ e s' I2 hq'
  | ok fl =>
    cases fl with
    | ret u =>
      obtain ⟨v,H',I3,rv,ev,q3⟩:=I2.after hq'
      subst ev
      exact ⟨rv,⟨V.ref (s.heap.objs.size + 1),H',I3,rfl,q3⟩⟩
    | next=>exact False.elim hq'
    | brk=>exact False.elim hq'
    | cont=>exact False.elim hq'
theorem pe_make (M:Mk X.K C f) (F:FnOk X.prog X.w X.K X.mg X.base CX k f fd ps sp) (hr:Room (k + 1) X.A) (hg:Gl X x) (hm:X.mg x=some (.ref C)) (hb:Binds X.K fd ps ds) (hd:Vals dvs ds) (hx:Passes CX X E)
    (ha:PA X (e::es) t) (hdb:(x == ("__debug__" : Str))=false:=by decide) (he:starEach (e::es) X.env=(false,eval e X.env)::starEach es X.env:=by rfl) (hpl:(backTo pos (starEach es X.env)).any (·.1)=false:=by rfl) :
    PE X (.Call (.Name x p) (e::es) [] pos) (tMake C sp dvs E t):=by
  refine ⟨?_⟩
  intro pins s σ H Q I h
  refine wpAny_Call_Name_kw (ld_glob I hg hm ?_ hdb)
  refine PySem.W.callWith_K (h₀:=X.base) I.ok.mod.kin M.kp (thn (ha pos pins s σ H _ I h) fun us s1 ⟨vs,H1,I1,r,q⟩=>⟨I1.kIn,?_⟩) he hpl
  exact run_make M F hr hb hd hx I1 r q
end
def PK (X:Cx) (kws:List Keyword) (t:TA):Prop :=
  ∀ (pos:Pos) (pins:List (Addr × Obj)) (s:Shared) (σ:St) (H:Hp) (Q:List V→Hp→Prop),Inv X pins σ H s→t σ H Q→wpAny (model X.prog X.w) X.A (evalAll ((backToKw pos (keywordEach kws X.env)).map (·.2))) (AP X pins σ Q) X.xe s
section
variable {X:Cx} {CX:CXT} {k:Nat} {f C:Addr} {fd:FuncData} {ps ks:List Str} {sp:Sp} {E:XK} {x m:Str} {p pos apos kpos:Pos} {e o:Expr} {es:List Expr} {kws:List Keyword} {te ta:TE} {t tk:TA} {nm:Option Str}
theorem pk_nil:PK X [] tNil:=fun _ _ _ _ H Q I h=>wpAny_evalAll_nil ⟨[],H,I,.nil,h⟩
theorem pk_cons (ha:PE X e te) (hr:PK X kws t):PK X (⟨nm,e,kpos⟩::kws) (tCons te t):=by
  intro pos pins s σ H Q I h
  show wpAny _ _ (evalAll ((do let v ← eval e X.env; standAt pos; pure v)::(backToKw pos (keywordEach kws X.env)).map (·.2))) _ _ s
  refine wpAny_evalAll_cons (wpAny_bind (thn (ha pins s σ H _ I h) fun u s1 ⟨x,H1,I1,r1,q1⟩=>wpAny_bind (wpAny_standAt (wpAny_pure ?_))))
  exact thn (hr pos pins s1 σ H1 _ I1 q1) fun us s2 ⟨xs,H2,I2,r2,q2⟩=>⟨x::xs,H2,I2,.cons r1 r2,q2⟩
variable {g:List Value→List Value→List Value} {gV:List V→List V→List V}
end
structure FnScope (N P:List Str) (sc:Scope):Prop where
  kind:sc.kind=.function
  co:sc.isCoroutine=false
  gen:sc.isGenerator=false
  nd:N.Nodup
  pre:N.take P.length=P
  par:∀ x ∈ P,sc.names.lookup x=some .local∨sc.names.lookup x=some .cell
  nofree:∀ y ∈ sc.names,y.2≠.free
theorem bindL_out {kindOf:Str→Option NameKind} {x:Str}:∀ {binds:List (Str × Value)} {m:Str→Option Value},(∀ v,(x,v) ∉ binds)→bindL kindOf binds m x=m x
  | [],_,_=>rfl
  | (n,v)::r,m,h=>by
    unfold bindL
    rw [bindL_out fun w hw=>h w (List.mem_cons_of_mem _ hw)]
    split
    · have:x≠n:=by rintro rfl; exact h v List.mem_cons_self
      simp [this]
    · rfl
theorem bindC_out {kindOf:Str→Option NameKind} {x:Str}:∀ {binds:List (Str × Value)} {m:Str→Option Value},(∀ v,(x,v) ∉ binds)→bindC kindOf binds m x=m x
  | [],_,_=>rfl
  | (n,v)::r,m,h=>by
    unfold bindC
    rw [bindC_out fun w hw=>h w (List.mem_cons_of_mem _ hw)]
    split
    · rfl
    · have:x≠n:=by rintro rfl; exact h v List.mem_cons_self
      simp [this]
theorem bindL_get {kindOf:Str→Option NameKind} {x:Str} {v:Value}:∀ {P:List Str} {vs:List Value} {i:Nat} {m:Str→Option Value},P.Nodup→P[i]?=some x→vs[i]?=some v→kindOf x=some .local →
    bindL kindOf (P.zip vs) m x=some v
  | [],_,_,_,_,h,_,_=>by simp at h
  | _::_,[],_,_,_,_,h,_=>by simp at h
  | p::P,w::vs,0,m,nd,h1,h2,hk=>by
    simp at h1 h2; subst h1; subst h2
    show bindL kindOf ((p,w)::P.zip vs) m p=_
    unfold bindL
    rw [bindL_out fun v hv=>(List.nodup_cons.mp nd).1 (List.of_mem_zip hv).1,if_pos hk]
    simp
  | p::P,w::vs,i + 1,m,nd,h1,h2,hk=>by
    show bindL kindOf ((p,w)::P.zip vs) m x=_
    unfold bindL
    exact bindL_get (i:=i) (List.nodup_cons.mp nd).2 (by simpa using h1) (by simpa using h2) hk
theorem bindC_get {kindOf:Str→Option NameKind} {x:Str} {v:Value}:∀ {P:List Str} {vs:List Value} {i:Nat} {m:Str→Option Value},P.Nodup→P[i]?=some x→vs[i]?=some v→kindOf x≠some .local →
    bindC kindOf (P.zip vs) m x=some v
  | [],_,_,_,_,h,_,_=>by simp at h
  | _::_,[],_,_,_,_,h,_=>by simp at h
  | p::P,w::vs,0,m,nd,h1,h2,hk=>by
    simp at h1 h2; subst h1; subst h2
    show bindC kindOf ((p,w)::P.zip vs) m p=_
    unfold bindC
    rw [bindC_out fun v hv=>(List.nodup_cons.mp nd).1 (List.of_mem_zip hv).1,if_neg hk]
    simp
  | p::P,w::vs,i + 1,m,nd,h1,h2,hk=>by
    show bindC kindOf ((p,w)::P.zip vs) m x=_
    unfold bindC
    exact bindC_get (i:=i) (List.nodup_cons.mp nd).2 (by simpa using h1) (by simpa using h2) hk
def start (N:List Str) (vs:List V):St:=vs.map some++List.replicate (N.length - vs.length) none
def cxOf (CX:CXT) (P:Program) (w:World) (K:PySem.W.Frag) (mg:Str→Option Value) (base:Heap) (N:List Str) (qual:Str) (scope:Scope) (f:Addr) (cd:Value) (A:Around) (outer:List Env) (s:Shared) (H:Hp) (E:XK):Cx where
  prog:=P
  w:=w
  K:=K
  mg:=mg
  base:=base
  A:=A.deeper (envOfC qual scope s.heap.objs.size f cd)
  N:=N
  s₀:=s
  H₀:=H
  env:=envOfC qual scope s.heap.objs.size f cd
  outer:=outer
  stack:=envOfC qual scope s.heap.objs.size f cd::outer
  ex:=[]
  calm:=true
  fn:=fun _=>true
  pn:=[]
  xe:=fun e s'=>wpAny (model P w) (A.deeper (envOfC qual scope s.heap.objs.size f cd)) (leaving (envOfC qual scope s.heap.objs.size f cd) e) (fun _ s''=>CX outer H s E e s'') (fun e' s''=>CX outer H s E e' s'') s'
theorem cell_has {sc:Scope} {n:Nat} {x:Str} (h:sc.names.lookup x=some .cell):∃ c,(cellsFrom n sc.names []).lookup x=some c:=by
  have q:=PySem.W.cellsFrom_some sc.names n [] (.inl h)
  exact Option.isSome_iff_exists.mp q
theorem inv_start {CX:CXT} {P:Program} {w:World} {K:PySem.W.Frag} {mg:Str→Option Value} {base:Heap} {N ps:List Str} {qual:Str} {scope:Scope} {f:Addr} {cd:Value} {A:Around} {outer:List Env} {s s1:Shared} {H:Hp} {E:XK} {us:List Value} {vs:List V}
    (S:FnScope N ps scope) (hd:A.handled=none) (e0:Env0 P w K mg base A outer s H) (hl:vs.length=ps.length) (r:Vals vs us)
    (x:InCallC s s.heap.objs.size (bindL (envOfC qual scope s.heap.objs.size f cd).kindOf (ps.zip us) fun _=>none) (cellsFrom (s.heap.objs.size + 1) scope.names []) (bindC (envOfC qual scope s.heap.objs.size f cd).kindOf (ps.zip us) fun _=>none) s1) :
    Inv (cxOf CX P w K mg base N qual scope f cd A outer s H E) [] (start N vs) H s1:=by
  have hpl:ps.length≤N.length:=by have:=congrArg List.length S.pre; rw [List.length_take] at this; omega
  obtain ⟨h1,tk,rfl,hk⟩:=x.done
  have noA:∀ b:Addr,b ∉ (cxOf CX P w K mg base N qual scope f cd A outer s H E).ex:=fun b z=>absurd (show b ∈ ([]:List Addr) from z) (by simp)
  refine ⟨⟨e0.mod,S.kind,rfl,rfl,Nat.le_refl _,fun y z c h1 h2=>?_,fun y hy=>?_,fun y c _ h=>?_,fun _=>hd,Around.frames_deeper e0.frames,.inr ⟨rfl,rfl⟩,fun b z=>absurd z (noA b),e0.bs,e0.bsz,fun b _ _=>noA b,fun b z=>absurd z (noA b),e0.funs,e0.frf⟩,
    rfl,e0.bare,Un.kept hk,⟨_,x.toInCall.ns,fun i y v h1 h2 h3=>?_⟩,fun y c h=>⟨_,x.cell y c h⟩,e0.hok.fresh (Nat.le_refl _),fun y c h=>?_,fun p hp=>absurd (show p ∈ ([]:List (Addr × Obj)) from hp) (by simp),e0.hok.kept hk,?_⟩
  · exact name_of_addr x.apart (PySem.mem_of_lookup h1) (PySem.mem_of_lookup h2)
  · have hy:scope.names.lookup y=some .cell∨scope.names.lookup y=some .free:=hy
    rcases hy with hy | hy
    · exact cell_has hy
    · exact absurd rfl (S.nofree _ (PySem.mem_of_lookup hy))
  · exact Nat.le_of_lt (x.above y c (PySem.mem_of_lookup h))
  · have hi:i < vs.length:=by
      unfold start at h2
      by_cases hi:i < vs.length
      · exact hi
      · rw [List.getElem?_append_right (by simpa using hi)] at h2
        rw [List.getElem?_replicate] at h2
        split at h2 <;> cases h2
    have ha:vs[i]?=some v:=by
      unfold start at h2
      rw [List.getElem?_append_left (by simpa using hi),List.getElem?_map] at h2
      cases e:vs[i]? with
      | none=>rw [e] at h2; cases h2
      | some a=>rw [e] at h2; cases h2; rfl
    obtain ⟨u,hu,rv⟩:=r.get ha
    have hp:ps[i]?=some y:=by
      rw [← S.pre,List.getElem?_take_of_lt (by omega)]; exact h1
    have ndP:ps.Nodup:=by rw [← S.pre]; exact S.nd.sublist (List.take_sublist _ _)
    refine ⟨u,rv,?_⟩
    rcases S.par y (List.mem_of_getElem? hp) with k | k
    · exact .inl ⟨k,bindL_get ndP hp hu k⟩
    · obtain ⟨c,e⟩:=cell_has (n:=s.heap.objs.size + 1) k
      refine .inr ⟨.inl k,c,e,?_⟩
      have q:=x.cell y c e
      rw [bindC_get ndP hp hu (by show scope.names.lookup y≠_; rw [k]; decide)] at q
      exact q
  · exact e0.hok.fresh (Nat.le_of_lt (x.above y c (PySem.mem_of_lookup h)))
  · unfold start
    show _=N.length
    rw [List.length_append,List.length_map,List.length_replicate]
    omega
theorem fn_of {CX:CXT} {P:Program} {w:World} {K:PySem.W.Frag} {mg:Str→Option Value} {base:Heap} {k:Nat} {f:Addr} {name qual:Str} {params:Arguments} {body:List Stmt} {scope:Scope} {dV kV doc pm cdv ct oc:Value} {an od:Option Addr}
    {osl:Array (Option Value)} {N ps:List Str} {sp:Sp} (lk:K.lookup f=some ⟨oc,od,.func (PySem.W.fnOf name qual params body scope dV kV doc pm an cdv ct),osl⟩) (hcd:PySem.W.codeIn K cdv qual=true) (S:FnScope N ps scope)
    (len:∀ vs H Q E,sp vs H Q E→vs.length=ps.length)
    (hbody:∀ (A:Around) (outer:List Env) (s:Shared) (H:Hp) (vs:List V) (Q:VK) (E:XK),Room k (A.deeper (envOfC qual scope s.heap.objs.size f cdv))→sp vs H Q E →
      ∃ t,PSs (cxOf CX P w K mg base N qual scope f cdv A outer s H E) body t∧t { nx:=fun _ H'=>Q .non H',rt:=Q } (start N vs) H) :
    FnOk P w K mg base CX (k + 1) f (PySem.W.fnOf name qual params body scope dV kV doc pm an cdv ct) ps sp:=by
  refine ⟨len,fun A outer s H args us vs Q E hr e0 hb r hsp=>?_⟩
  have hl:=len _ _ _ _ hsp
  have KX:K.In s.heap:=e0.mod.kin.keeps fun b o e=>(e0.bs b o e).1
  have lim:s.heap.NoLimit:=e0.mod.nolimit.keeps fun b o e=>(e0.bs b o e).1
  have hkind:∀ y ∈ ps.zip us,scope.names.lookup y.1=some .local∨(scope.names.lookup y.1=some .cell∧((cellsFrom (s.heap.objs.size + 1) scope.names []).lookup y.1).isSome=true):=fun ⟨n,v⟩ hy=>by
    rcases S.par n (List.of_mem_zip hy).1 with q | q
    · exact .inl q
    · exact .inr ⟨q,PySem.W.cellsFrom_some _ _ _ (.inl q)⟩
  refine codeAny_call_function hr.depth (KX _ _ lk) rfl S.co S.gen rfl (PySem.W.codeRec_of KX hcd) (hb _ _ _ _ ?_)
  refine wpAny_newFunctionEnv_cells S.kind hkind fun env he s1 x=>?_
  subst he
  refine ⟨lim.keeps x.toInCall.keep,codeAny_func ?_⟩
  obtain ⟨t,ht,hq⟩:=hbody A outer s H vs Q E (hr.deeper _) hsp
  have I:Inv (cxOf CX P w K mg base N qual scope f cdv A outer s H E) [] (start N vs) H s1:=inv_start S hr.hd e0 hl r x
  refine wpAny_mono (ht [] s1 (start N vs) H _ I hq) (fun fl s' hs=>?_) fun e s' hs=>hs
  have fin:∀ {σ':St} {H':Hp} {v:V} {u:Value},Inv (cxOf CX P w K mg base N qual scope f cdv A outer s H E) [] σ' H' s'→RelV v u→Q v H'→CE outer P w H s Q u s' :=
    fun {σ' H' v u} J rv q=>⟨v,H',J.os,J.bare,J.base,J.hok,rv,q⟩
  cases fl with
  | ret u =>
    obtain ⟨v,σ',H',J,rv,q⟩:=hs
    exact fin J rv q
  | next =>
    obtain ⟨σ',H',J,q⟩:=hs
    exact fin (v:=V.non) (u:=Value.none) J rfl q
  | brk =>
    obtain ⟨_,_,_,q⟩:=hs
    exact False.elim q
  | cont =>
    obtain ⟨_,_,_,q⟩:=hs
    exact False.elim q
end L2
namespace L2
open PySem PySem.Spec PyProof.Rows
section
variable {X:Cx} {x:Str} {p pos:Pos} {e:Expr} {es:List Expr} {t:TA} {id T:String} {r:List V→Hp→VK→Prop}
def tCB (r:List V→Hp→VK→Prop) (t:TA):TE:=fun σ H Q=>t σ H fun vs H1=>r vs H1 Q
theorem pe_callB (hc:CallR X (.builtin id) r) (hg:Gl X x) (hm:X.mg x=none) (hv:bootBuiltins x=some (.builtin id)) (ha:PA X (e::es) t) (hn:x≠"__name__":=by decide) (hdb:(x == ("__debug__" : Str))=false:=by decide)
    (he:starEach (e::es) X.env=(false,eval e X.env)::starEach es X.env:=by rfl) (hpl:(backTo pos (starEach es X.env)).any (·.1)=false:=by rfl):PE X (.Call (.Name x p) (e::es) [] pos) (tCB r t):=by
  refine ⟨?_⟩
  intro pins s σ H Q I h
  refine wpAny_Call_Name_kw (ld_blt I hg hm hv ?_ hn hdb)
  exact PyProof.Rows.callWith_builtin1 (thn (ha pos pins s σ H _ I h) fun us s1 ⟨vs,H1,I1,r1,q1⟩=>hc pins s1 σ H1 vs us Q I1 r1 q1) he hpl
theorem pe_callTy (hc:CallR X (.type T) r) (hg:Gl X x) (hm:X.mg x=none) (hv:bootBuiltins x=some (.type T)) (ha:PA X (e::es) t) (hn:x≠"__name__":=by decide) (hdb:(x == ("__debug__" : Str))=false:=by decide)
    (he:starEach (e::es) X.env=(false,eval e X.env)::starEach es X.env:=by rfl) (hpl:(backTo pos (starEach es X.env)).any (·.1)=false:=by rfl):PE X (.Call (.Name x p) (e::es) [] pos) (tCB r t):=by
  refine ⟨?_⟩
  intro pins s σ H Q I h
  refine wpAny_Call_Name_kw (ld_blt I hg hm hv ?_ hn hdb)
  exact PyProof.Rows.callWith_type1 (thn (ha pos pins s σ H _ I h) fun us s1 ⟨vs,H1,I1,r1,q1⟩=>hc pins s1 σ H1 vs us Q I1 r1 q1) he hpl
end
end L2
namespace HT
open PySem PyProof.Rows
section
open PySem.SeqAt
open PySem.AutoSeq1 (wpAny_loadPart')
open PySem.MeetsSeq PySem.MeetsSeq2 PySem.MeetsSeq3
end
section
variable {prog:Program} {w:World} {A:Around} {E:Value→Shared→Prop} {s:Shared}
def sIx (n d:Nat):Option Int→Nat
  | none=>d
  | some v=>if v < 0 then (v + (n:Int)).toNat else min v.toNat n
theorem sIx_none (n d:Nat):sIx n d none=d:=rfl
theorem sIx_nat (n d k:Nat):sIx n d (some (k:Int))=min k n:=by
  show (if (k:Int) < 0 then ((k:Int) + (n:Int)).toNat else min (k:Int).toNat n)=min k n
  rw [if_neg (by omega),Int.toNat_natCast]
theorem sIx_le (n d:Nat) (hd:d≤n) (o:Option Int):sIx n d o≤n:=by
  cases o with
  | none=>exact hd
  | some v =>
    show (if v < 0 then (v + (n:Int)).toNat else min v.toNat n)≤n
    by_cases hv:v < 0
    · rw [if_pos hv]; omega
    · rw [if_neg hv]; exact Nat.min_le_right _ _
theorem clip_eq (v:Int) (n d:Nat):(if v < 0 then max (v + (n:Int)) 0 else min v (n:Int))=((sIx n d (some v):Nat):Int):=by
  show (if v < 0 then max (v + (n:Int)) 0 else min v (n:Int))=(((if v < 0 then (v + (n:Int)).toNat else min v.toNat n):Nat):Int)
  by_cases hv:v < 0
  · simp only [if_pos hv]; omega
  · simp only [if_neg hv]; omega
theorem adjust_gen (lo hi:Option Int) (n:Nat):Builtin.Slice.sliceAdjust lo hi 1 (n:Int)=(((sIx n 0 lo:Nat):Int),((sIx n n hi:Nat):Int)):=by
  have h1:¬ ((1:Int) < 0):=by omega
  unfold Builtin.Slice.sliceAdjust
  simp only [h1,if_false]
  refine Prod.ext ?_ ?_
  · cases lo with
    | none=>rfl
    | some v=>exact clip_eq v n 0
  · cases hi with
    | none=>rfl
    | some v=>exact clip_eq v n n
theorem places_gen (i j:Nat):Builtin.Slice.slicePlaces (i:Int) (j:Int) 1=j - i:=by
  unfold Builtin.Slice.slicePlaces
  have h1:(1:Int) > 0:=by omega
  simp only [h1,if_true,Int.ediv_one]
  split <;> omega
theorem slicePart_ {v:Value} {o:Option Int} {Q:Option Int→Shared→Prop} (p:IsPart v o) (h:Q o s):wpAny (model prog w) A (Builtin.Slice.slicePartIndex v) Q E s:=by
  cases p with
  | none=>exact slicePart_none h
  | int i t=>exact slicePart_int h
theorem sliceApplied_gen {sl:Addr} {vl vu:Value} {lo hi:Option Int} {n:Nat} {Q:Int × Int × Nat→Shared→Prop} (hs:s.heap.IsSliceOf sl vl vu .none) (pl:IsPart vl lo) (pu:IsPart vu hi)
    (h:Q (((sIx n 0 lo:Nat):Int),1,sIx n n hi - sIx n 0 lo) s):wpAny (model prog w) A (Builtin.Slice.sliceApplied (.ref sl) (pure (n:Int))) Q E s:=by
  obtain ⟨os,hos,hcs,hds⟩:=id hs
  unfold Builtin.Slice.sliceApplied Builtin.Slice.sliceFields
  refine wpAny_bind (wpAny_bind (wpAny_field hos hds (x:=vl) rfl (wpAny_bind (wpAny_field hos hds (x:=vu) rfl (wpAny_bind (wpAny_field hos hds (x:=.none) rfl (wpAny_pure ?_)))))))
  refine wpAny_bind (slicePart_none ?_)
  show wpAny _ _ (if ((1:Int) == 0)=true then _ else _) _ _ s
  rw [if_neg (by decide)]
  refine wpAny_bind (slicePart_ pl (wpAny_bind (slicePart_ pu (wpAny_bind (wpAny_pure ?_)))))
  show wpAny _ _ (match Builtin.Slice.sliceAdjust lo hi 1 (n:Int) with | (lo,hi)=>pure (lo,(1:Int),Builtin.Slice.slicePlaces lo hi 1)) _ _ s
  rw [adjust_gen lo hi n]
  show wpAny _ _ (pure (((sIx n 0 lo:Nat):Int),(1:Int),Builtin.Slice.slicePlaces ((sIx n 0 lo:Nat):Int) ((sIx n n hi:Nat):Int) 1)) _ _ s
  rw [places_gen]
  exact wpAny_pure h
theorem pick_gen (xs:Array Value) (i k:Nat):((List.range k).filterMap fun (m:Nat)=>xs[((i:Int) + (m:Int) * 1).toNat]?).toArray=((xs.toList.drop i).take k).toArray:=by
  have e:(fun (m:Nat)=>xs[((i:Int) + (m:Int) * 1).toNat]?)=fun m=>xs[i + m]?:=by
    funext m
    have:((i:Int) + (m:Int) * 1).toNat=i + m:=by omega
    rw [this]
  rw [e]
  have:=pick_run xs i k
  rw [List.filterMap_map] at this
  have e2:((fun x=>xs[x]?) ∘ fun x=>i + x)=fun m=>xs[i + m]?:=rfl
  rw [e2] at this
  rw [this]
theorem getItem_tuple_cut {t sl:Addr} {items:Array Value} {vl vu:Value} {lo hi:Option Int} {Q:Value→Shared→Prop} (ht:IsTup s.heap t items) (hs:s.heap.IsSliceOf sl vl vu .none) (pl:IsPart vl lo) (pu:IsPart vu hi)
    (hw:¬ (sIx items.size 0 lo=0∧sIx items.size items.size hi=items.size))
    (h:Q (.ref s.heap.objs.size) { s with heap:=s.heap.push { cls:=.type "tuple",data:=.seq ((items.toList.drop (sIx items.size 0 lo)).take (sIx items.size items.size hi - sIx items.size 0 lo)).toArray } })
    (hsz:items.size≤sizeLine):wpAny (model prog w) A (getItem (.ref t) (.ref sl)) Q E s:=by
  have htake:sizeOk (.seq ((items.toList.drop (sIx items.size 0 lo)).take (sIx items.size items.size hi - sIx items.size 0 lo)).toArray):=by
    show ((items.toList.drop (sIx items.size 0 lo)).take (sIx items.size items.size hi - sIx items.size 0 lo)).toArray.size≤sizeLine
    rw [List.size_toArray,List.length_take,List.length_drop,Array.length_toList]
    omega
  have hj:sIx items.size items.size hi≤items.size:=sIx_le _ _ (Nat.le_refl _) hi
  obtain ⟨os,hos,hcs,hds⟩:=id hs
  have hTs:s.TypeIs (.ref sl) "slice":=⟨os,hos,hcs⟩
  unfold getItem
  try with_reducible refine wpAny_holding ?_
  first | refine wpAny_bind (wpAny_pure ?_) | skip
  refine wpAny_bind (wpAny_sequenceKey ht.typeIs (by decide) ?_)
  refine wpAny_bind (wpAny_callSpecial?_slot (name:=Str.ofString "__getitem__") ht.typeIs PyProof.Rows.slot_tuple_getitem
    (wpAny_call_entry PyProof.Rows.slot_tuple_getitem ht.typeIs entry_tuple_getitem ?_ (args_tuple_getitem _ _)))
  show wpAny _ _ (Builtin.Tuple.tupleItemsOf (.ref t) >>= _) _ _ s
  refine wpAny_bind (tupleItemsOf_ ht ?_)
  refine wpAny_bind (wpAny_typeOf hTs ?_)
  rw [if_pos (by decide)]
  refine wpAny_bind (sliceApplied_gen hs pl pu ?_)
  have hno:¬ ((((sIx items.size 0 lo:Nat):Int) == 0 && (1:Int) == 1 && (sIx items.size items.size hi - sIx items.size 0 lo) == items.size)=true):=by
    intro q
    rw [Bool.and_eq_true,Bool.and_eq_true] at q
    have q1:((sIx items.size 0 lo:Nat):Int)=0:=eq_of_beq q.1.1
    have q2:sIx items.size items.size hi - sIx items.size 0 lo=items.size:=eq_of_beq q.2
    exact hw ⟨by omega,by omega⟩
  show wpAny _ _ (if (((sIx items.size 0 lo:Nat):Int) == 0 && (1:Int) == 1 && (sIx items.size items.size hi - sIx items.size 0 lo) == items.size)=true then _ else _) _ _ s
  rw [if_neg hno,pick_gen]
  first
    | exact wpAny_bind (m:=Builtin.Tuple.tupleExact _) (wpAny_newObj_type (wpAny_pure ⟨_,rfl,wpAny_pure h⟩) htake)
    | exact wpAny_bind (m:=Builtin.Tuple.tupleExact _) (wpAny_newObj_type (wpAny_bind (wpAny_pure (wpAny_pure ⟨_,rfl,wpAny_pure h⟩))) htake)
    | exact wpAny_bind (wpAny_bind (m:=Builtin.Tuple.tupleExact _) (wpAny_newObj_type (wpAny_pure (wpAny_pure ⟨_,rfl,wpAny_pure h⟩)) htake))
    | exact wpAny_bind (wpAny_bind (m:=Builtin.Tuple.tupleExact _) (wpAny_newObj_type (wpAny_pure ⟨_,rfl,wpAny_pure h⟩) htake))
end
end HT
namespace L2
open PySem PySem.Spec PyProof.Rows
abbrev TO:=St→Hp→(Option Int→Hp→Prop)→Prop
def PO (X:Cx) (e:Option Expr) (t:TO):Prop :=
  ∀ (pins:List (Addr × Obj)) (s:Shared) (σ:St) (H:Hp) (Q:Option Int→Hp→Prop),Inv X pins σ H s→t σ H Q →
    wpAny (model X.prog X.w) X.A (evalPart e X.env) (fun u s'=>∃ o H',Inv X pins σ H' s'∧IsPart u o∧Q o H') X.xe s
def tNoPart:TO:=fun _ H Q=>Q none H
def tPart (t:TE):TO:=fun σ H Q=>t σ H fun x H1=>∃ i,x=.int i∧Q (some i) H1
section
variable {X:Cx} {e:Expr} {te:TE} {lo hi:Option Expr} {tl th:TO} {pos p2:Pos}
theorem po_none:PO X none tNoPart:=by
  intro pins s σ H Q I h
  rw [evalPart_none]
  exact wpAny_pure ⟨none,H,I,.none,h⟩
theorem po_some (h:PE X e te):PO X (some e) (tPart te):=by
  intro pins s σ H Q I hw
  rw [evalPart_some]
  refine thn (h pins s σ H _ I hw) fun u s1 ⟨x,H1,I1,r1,q1⟩=>?_
  obtain ⟨i,rfl,q⟩:=q1
  obtain ⟨t,rfl⟩:=r1
  exact ⟨some i,H1,I1,.int i t,q⟩
def SlR (X:Cx) (r:V→Option Int→Option Int→Hp→VK→Prop):Prop :=
  ∀ (pins:List (Addr × Obj)) (s:Shared) (σ:St) (H:Hp) (x:V) (v vl vu:Value) (lo hi:Option Int) (sl:Addr) (Q:VK),Inv X pins σ H s→RelV x v→s.heap.IsSliceOf sl vl vu .none→IsPart vl lo→IsPart vu hi→r x lo hi H Q →
    ∃ T id,typeLookup (.type T) "__getitem__"=pure (some (.builtin id))∧s.TypeIs v T∧wpAny (model X.prog X.w) X.A (getItem v (.ref sl)) (EP X pins σ Q) X.xe s
def tSl (r:V→Option Int→Option Int→Hp→VK→Prop) (te:TE) (tl th:TO):TE:=fun σ H Q=>te σ H fun x H1=>tl σ H1 fun l H2=>th σ H2 fun u H3=>r x l u H3 Q
theorem pe_slice {r:V→Option Int→Option Int→Hp→VK→Prop} (hr:SlR X r) (he:PE X e te) (hl:PO X lo tl) (hu:PO X hi th):PE X (.Subscript e (.Slice lo hi none p2) pos) (tSl r te tl th):=by
  refine ⟨?_⟩
  intro pins s σ H Q I h
  refine Subscript_ (thn (he pins s σ H _ I h) fun v s1 ⟨x,H1,I1,r1,q1⟩=>?_)
  refine wpAny_Slice (thn (hl pins s1 σ H1 _ I1 q1) fun vl s2 ⟨l,H2,I2,pl,q2⟩=>thn (hu pins s2 σ H2 _ I2 q2) fun vu s3 ⟨u,H3,I3,pu,q3⟩=>?_)
  rw [evalPart_none]
  refine wpAny_pure ?_
  have I4:Inv X pins σ H3 { s3 with heap:=s3.heap.push { cls:=.type "slice",data:=.fields #[vl,vu,.none] } }:=I3.kept (t':=s3.toks) fun b ob q=>Heap.get?_push_of_some _ q
  obtain ⟨T,id,hT,ht,hg⟩:=hr pins { s3 with heap:=s3.heap.push { cls:=.type "slice",data:=.fields #[vl,vu,.none] } } σ H3 x v vl vu l u s3.heap.objs.size Q I4 r1 (Heap.IsSliceOf.new ..) pl pu q3
  show wpAny (model X.prog X.w) X.A (subscriptTail e (.Slice lo hi none p2) v (.ref s3.heap.objs.size)) (EP X pins σ Q) X.xe { s3 with heap:=s3.heap.push { cls:=.type "slice",data:=.fields #[vl,vu,.none] } }
  exact tail_any (ops:=[.ref s3.heap.objs.size,v]) ht hT hg (by with_unfolding_all rfl)
def cutV (xs:List V) (lo hi:Option Int):List V:=(xs.drop (HT.sIx xs.length 0 lo)).take (HT.sIx xs.length xs.length hi - HT.sIx xs.length 0 lo)
theorem cutV_length (xs:List V) (lo hi:Option Int):(cutV xs lo hi).length≤xs.length:=by
  unfold cutV
  rw [List.length_take,List.length_drop]
  omega
def rSlT (K:PySem.W.Frag):V→Option Int→Option Int→Hp→VK→Prop:=fun x lo hi H Q=>∃ a xs,x=.ref a∧SqT K H a xs ∧
  ¬ (HT.sIx xs.length 0 lo=0∧HT.sIx xs.length xs.length hi=xs.length)∧∀ p,H p=none→Q (.ref p) (upd H p (.tup (cutV xs lo hi)))
theorem sl_tup:SlR X (rSlT X.K):=by
  intro pins s σ H x v vl vu lo hi sl Q I rx hs pl pu h
  obtain ⟨a,xs,rfl,hx,hw,q⟩:=h
  cases rx
  obtain ⟨its,r,ht,hz⟩:=I.tuple hx
  have hlen:its.toArray.size=xs.length:=by rw [List.size_toArray]; exact r.length.symm
  refine ⟨"tuple",_,PyProof.Rows.slot_tuple_getitem.lookup,ht.typeIs,?_⟩
  refine HT.getItem_tuple_cut ht hs pl pu (by rw [hlen]; exact hw) ?_ (by rw [hlen]; exact hz)
  rw [hlen]
  refine ⟨.ref s.heap.objs.size,_,I.laid (t':=s.toks) (o:=.tup (cutV xs lo hi)) (fun b ob q=>Heap.get?_push_of_some _ q) (Nat.le_refl _) ?_,rfl,q _ (I.hok.fresh (Nat.le_refl _))⟩
  exact ⟨Nat.le_trans (cutV_length xs lo hi) hz,_,(r.drop (HT.sIx xs.length 0 lo)).take (HT.sIx xs.length xs.length hi - HT.sIx xs.length 0 lo),IsTup.new _ _⟩
end
end L2
namespace L2
open PySem PySem.Spec PyProof.Rows
def ixN (n:Nat) (i:Int):Option Nat:=if 0≤i then (if i < n then some i.toNat else none) else if -(n:Int)≤i then some (i + n).toNat else none
def atI {α:Type} (xs:List α) (i:Int):Option α:=(ixN xs.length i).bind fun j=>xs[j]?
theorem ixN_seq {n:Nat} {i:Int} {j:Nat} (h:ixN n i=some j):seqIndex? i n=some j∧j < n∧-(n:Int)≤i∧i < n:=by
  unfold ixN at h
  by_cases h0:0≤i
  · rw [if_pos h0] at h
    by_cases h1:i < n
    · rw [if_pos h1] at h
      have e:i.toNat=j:=Option.some.inj h
      exact ⟨by rw [seqIndex_of h0 h1,e],by omega,by omega,h1⟩
    · rw [if_neg h1] at h; cases h
  · rw [if_neg h0] at h
    by_cases h1 : -(n:Int)≤i
    · rw [if_pos h1] at h
      have e:(i + n).toNat=j:=Option.some.inj h
      exact ⟨by rw [seqIndex_neg (by omega) h1,e],by omega,h1,by omega⟩
    · rw [if_neg h1] at h; cases h
theorem atI_get {α:Type} {xs:List α} {i:Int} {v:α} (h:atI xs i=some v):∃ j,seqIndex? i xs.length=some j∧xs[j]?=some v∧j < xs.length∧-(xs.length:Int)≤i∧i < xs.length:=by
  unfold atI at h
  cases e:ixN xs.length i with
  | none=>rw [e] at h; cases h
  | some j =>
    rw [e] at h
    obtain ⟨h1,h2,h3,h4⟩:=ixN_seq e
    exact ⟨j,h1,h,h2,h3,h4⟩
theorem atI_nat {α:Type} {xs:List α} {j:Nat} {v:α} (h:xs[j]?=some v):atI xs (j:Int)=some v:=by
  have hj:j < xs.length:=(List.getElem?_eq_some_iff.mp h).1
  have e:ixN xs.length (j:Int)=some j:=by
    unfold ixN
    rw [if_pos (by omega),if_pos (by omega)]; simp
  unfold atI; rw [e]; exact h
theorem atI_last {α:Type} (xs:List α) (v:α):atI (xs++[v]) (-1)=some v:=by
  have hl:(xs++[v]).length=xs.length + 1:=by simp
  have e:ixN (xs++[v]).length (-1)=some xs.length:=by
    unfold ixN
    rw [hl,if_neg (by decide),if_pos (by omega)]
    congr 1
    omega
  unfold atI
  rw [e]
  show (xs++[v])[xs.length]?=some v
  simp
def PlainIx (b:Expr):Prop:=∀ o i,subscripted b false o i=operate [o,i] (getItem o i)
def IxR (X:Cx) (r:R2):Prop :=
  ∀ (value slice:Expr) (pins:List (Addr × Obj)) (s:Shared) (σ:St) (H:Hp) (x y:V) (v u:Value) (Q:VK),Inv X pins σ H s→RelV x v→RelV y u→r x y H Q →
    subscripted slice false v u=operate [v,u] (getItem v u)→wpAny (model X.prog X.w) X.A (subscriptTail value slice v u) (EP X pins σ Q) X.xe s
def MtR (X:Cx) (id:String) (r:V→List V→Hp→VK→Prop):Prop :=
  ∀ (pins:List (Addr × Obj)) (s:Shared) (σ:St) (H:Hp) (x:V) (xs:List V) (v:Value) (us:List Value) (Q:VK),Inv X pins σ H s→RelV x v→Vals xs us→r x xs H Q →
    wpAny (model X.prog X.w) X.A (call (.builtin id) (v::us)) (EP X pins σ Q) X.xe s
section
variable {X:Cx} {a b:Expr} {ta tb:TE} {pos:Pos}
theorem pe_ix {r:R2} (hr:IxR X r) (ha:PE X a ta) (hb:PE X b tb) (hs:PlainIx b):PE X (.Subscript a b pos) (tOp r ta tb):=by
  refine ⟨?_⟩
  intro pins s σ H Q I h
  exact Subscript_ (binT ha hb I h fun v u s2 x y H2 I2 rx ry q=>hr a b pins s2 σ H2 x y v u Q I2 rx ry q (hs _ _))
inductive rIxL (K:PySem.W.Frag) (x y:V) (H:Hp) (Q:VK):Prop
  | mk (p:Addr) (xs:List V) (i:Int) (v:V) (e1:x=.ref p) (e2:y=.int i) (h:SqL K H p xs) (e:atI xs i=some v) (q:Q v H):rIxL K x y H Q
inductive rIxT (K:PySem.W.Frag) (x y:V) (H:Hp) (Q:VK):Prop
  | mk (p:Addr) (xs:List V) (i:Int) (v:V) (e1:x=.ref p) (e2:y=.int i) (h:SqT K H p xs) (e:atI xs i=some v) (q:Q v H):rIxT K x y H Q
def rIxS:R2:=fun x y H Q=>∃ z i c,x=.str z∧y=.int i∧z.length≤sizeLine∧atI z.cps.toList i=some c∧Q (.str ⟨#[c]⟩) H
theorem ix_list:IxR X (rIxL X.K):=by
  intro value slice pins s σ H x y v u Q I rx ry h hs
  obtain ⟨p,xs,i,z,rfl,rfl,hq,he,q⟩:=h
  cases rx
  obtain ⟨t,rfl⟩:=ry
  obtain ⟨its,r,pl,hz⟩:=I.list hq
  obtain ⟨j,h1,h2,h3,h4,h5⟩:=atI_get he
  obtain ⟨w,ew,rw'⟩:=r.get h2
  have hl:=r.length
  have hn:=line63
  have fin:EP X pins σ Q w s:=⟨z,H,I,rw',q⟩
  by_cases h0:0≤i
  · have hj:i.toNat=j:=by
      rw [seqIndex_of h0 h5] at h1
      exact Option.some.inj h1
    exact item_listR pl.isList h0 (by omega) (by rw [hj]; simpa using ew) fin hs
  · have hj:(i + (its.toArray.size:Int)).toNat=j:=by
      rw [seqIndex_neg (by omega) h4] at h1
      rw [List.size_toArray,← hl]
      exact Option.some.inj h1
    exact subscriptTail_builtinR (x:=w) pl.isList.typeIs slot_list_getitem.lookup
      (wpAny_getItem_list_neg (Q:=fun r s'=>r=w∧EP X pins σ Q r s') pl.isList (by omega) (by rw [List.size_toArray] <;> omega) (by omega) (by rw [hj]; simpa using ew) ⟨rfl,fin⟩) hs
theorem ix_tup:IxR X (rIxT X.K):=by
  intro value slice pins s σ H x y v u Q I rx ry h hs
  obtain ⟨p,xs,i,z,rfl,rfl,hq,he,q⟩:=h
  cases rx
  obtain ⟨t,rfl⟩:=ry
  obtain ⟨its,r,pl,hz⟩:=I.tuple hq
  obtain ⟨j,h1,h2,h3,h4,h5⟩:=atI_get he
  obtain ⟨w,ew,rw'⟩:=r.get h2
  have hl:=r.length
  have hn:=line63
  have fin:EP X pins σ Q w s:=⟨z,H,I,rw',q⟩
  exact subscriptTail_builtinR (x:=w) pl.typeIs slot_tuple_getitem.lookup
    (getItem_tuple (j:=j) (Q:=fun r s'=>r=w∧EP X pins σ Q r s') pl (by omega) (by omega) (by rw [List.size_toArray,← hl]; exact h1) (by simpa using ew) ⟨rfl,fin⟩) hs
theorem ix_str:IxR X rIxS:=by
  intro value slice pins s σ H x y v u Q I rx ry h hs
  obtain ⟨z,i,c,rfl,rfl,hz,he,q⟩:=h
  obtain ⟨t,rfl⟩:=rx
  obtain ⟨t',rfl⟩:=ry
  obtain ⟨j,h1,h2,h3,h4,h5⟩:=atI_get he
  have hl:z.cps.toList.length=z.length:=by simp [Str.length]
  rw [hl] at h1 h4 h5
  have hn:=line63
  exact tail_any (typeIs_str s z t) slot_str_getitem.lookup (getItem_str (c:=c) (by
    have e1:decide (i < -(2 ^ 63:Int))=false:=decide_eq_false (by omega)
    have e2:decide (i ≥ 2 ^ 63)=false:=decide_eq_false (by omega)
    rw [e1,e2,Bool.or_false]) (by rw [h1]; simpa using h2) ⟨.str ⟨#[c]⟩,H,I.tok _,⟨_,rfl⟩,q⟩) hs
theorem mapSeq_set (its:List Value) (n j:Nat) (u:Value):Obj.mapSeq (·.setIfInBounds j u) { cls:=.type "list",data:=.seq its.toArray n }={ cls:=.type "list",data:=.seq (its.set j u).toArray n }:=by
  simp [Obj.mapSeq]
theorem Inv.lst {pins:List (Addr × Obj)} {σ:St} {H:Hp} {s:Shared} {p:Addr} {xs:List V} (I:Inv X pins σ H s) (h:H p=some (.lst xs)) :
    ∃ (its:List Value) (n:Nat),Vals xs its∧s.heap.get? p=some { cls:=.type "list",data:=.seq its.toArray n }∧xs.length≤sizeLine:=by
  obtain ⟨z,its,n,r,e⟩:=I.hok p _ h
  exact ⟨its,n,r,e,z⟩
theorem Inv.lstUpd {pins:List (Addr × Obj)} {σ:St} {H:Hp} {s:Shared} {p:Addr} {xs ys:List V} {its its':List Value} {n n':Nat} {f:Obj→Obj} (I:Inv X pins σ H s) (h:H p=some (.lst xs))
    (ho:s.heap.get? p=some { cls:=.type "list",data:=.seq its.toArray n }) (hf:f { cls:=.type "list",data:=.seq its.toArray n }={ cls:=.type "list",data:=.seq its'.toArray n' }) (r:Vals ys its') (hz:ys.length≤sizeLine) (t:Nat) :
    Inv X pins σ (upd H p (.lst ys)) { s with heap:=s.heap.update p f,toks:=t }:=by
  have e:(s.heap.update p f).get? p=some { cls:=.type "list",data:=.seq its'.toArray n' }:=by
    rw [Heap.get?_update_self f ho (by rw [hf] <;> rfl),hf]
  refine I.write (x:=p) (e:=p) (by rw [h]; trivial) (.inl rfl) (fun b u hb q=>(Heap.get?_update_other _ _ (Ne.symm hb)).trans q) ⟨_,e⟩ ?_
  exact ⟨hz,its',n',r,e⟩
def rSetL:V→V→V→Hp→(Hp→Prop)→Prop:=fun o i v H Q=>∃ p xs k j,o=.ref p∧i=.int k∧H p=some (.lst xs)∧ixN xs.length k=some j∧Q (upd H p (.lst (xs.set j v)))
theorem set_list:PSet X rSetL:=by
  intro pins s σ H o i v ov iv u Q I ro ri rv h
  obtain ⟨p,xs,k,j,rfl,rfl,hp,hj,q⟩:=h
  cases ro
  obtain ⟨t,rfl⟩:=ri
  obtain ⟨its,n,r,ho,hz⟩:=I.lst hp
  obtain ⟨h1,h2,h3,h4⟩:=ixN_seq hj
  have hl:=r.length
  have hn:=line63
  have I':Inv X pins σ (upd H p (.lst (xs.set j v))) { s with heap:=s.heap.update p (Obj.mapSeq (·.setIfInBounds j u)) } :=
    I.lstUpd hp ho (mapSeq_set its n j u) (r.set rv j) (by rw [List.length_set]; exact hz) s.toks
  by_cases h0:0≤k
  · have hk:k.toNat=j:=by
      rw [seqIndex_of h0 h4] at h1
      exact Option.some.inj h1
    exact PySem.W.ki_setAt ho h0 (by omega) (by rw [List.size_toArray,← hl]; exact h4) (by rw [hk]; exact ⟨_,I',q⟩)
  · have hk:(k + (its.toArray.size:Int)).toNat=j:=by
      rw [seqIndex_neg (by omega) h3] at h1
      rw [List.size_toArray,← hl]
      exact Option.some.inj h1
    exact PySem.W.ki_setBack ho (by omega) (by rw [List.size_toArray,← hl]; exact h3) (by omega) (by rw [hk]; exact ⟨_,I',q⟩)
theorem slice_bounds (lo hi:Option Int) (n:Nat):(sliceBounds lo hi none n).1=((HT.sIx n 0 lo:Nat):Int)∧(sliceBounds lo hi none n).2.1=((HT.sIx n n hi:Nat):Int)∧(sliceBounds lo hi none n).2.2=1:=by
  refine ⟨?_,?_,rfl⟩
  · cases lo with
    | none=>simp [sliceBounds,HT.sIx]
    | some i =>
      simp only [sliceBounds,HT.sIx,Option.getD_none,show (1:Int) > 0 by decide,if_true]
      by_cases h:i < 0
      · simp only [h,if_true] <;> omega
      · simp only [h,if_false] <;> omega
  · cases hi with
    | none=>simp [sliceBounds,HT.sIx]
    | some i =>
      simp only [sliceBounds,HT.sIx,Option.getD_none,show (1:Int) > 0 by decide,if_true]
      by_cases h:i < 0
      · simp only [h,if_true] <;> omega
      · simp only [h,if_false] <;> omega
theorem slicePick_cut (its:List Value) (lo hi:Option Int):slicePick its.toArray lo hi none=((its.drop (HT.sIx its.length 0 lo)).take (HT.sIx its.length its.length hi - HT.sIx its.length 0 lo)).toArray:=by
  obtain ⟨h1,h2,h3⟩:=slice_bounds lo hi its.toArray.size
  unfold slicePick
  rw [h1,h2,h3]
  simp only [sliceRange_one,pick_run,List.size_toArray] <;> rfl
def rSlL (K:PySem.W.Frag):V→Option Int→Option Int→Hp→VK→Prop:=fun x lo hi H Q=>∃ a xs,x=.ref a∧SqL K H a xs∧∀ p,H p=none→Q (.ref p) (upd H p (.lst (cutV xs lo hi)))
theorem sl_list:SlR X (rSlL X.K):=by
  intro pins s σ H x v vl vu lo hi sl Q I rx hs pl pu h
  obtain ⟨a,xs,rfl,hx,q⟩:=h
  cases rx
  obtain ⟨its,r,ht,hz⟩:=I.list hx
  have hlen:=r.length
  refine ⟨"list",_,slot_list_getitem.lookup,ht.isList.typeIs,?_⟩
  refine wpAny_getItem_list_slice ht.isList hs pl pu .none (by simp) ?_ (by rw [List.size_toArray] <;> omega)
  rw [slicePick_cut,← hlen]
  refine ⟨.ref s.heap.objs.size,_,I.laid (t':=s.toks) (o:=.lst (cutV xs lo hi)) (fun b ob q=>Heap.get?_push_of_some _ q) (Nat.le_refl _) ?_,rfl,q _ (I.hok.fresh (Nat.le_refl _))⟩
  exact ⟨Nat.le_trans (cutV_length xs lo hi) hz,_,0,(r.drop (HT.sIx xs.length 0 lo)).take (HT.sIx xs.length xs.length hi - HT.sIx xs.length 0 lo),Heap.get?_push_size _ rfl⟩
def flatV:V→Bool
  | .non=>true
  | .bl _=>true
  | .int _=>true
  | .str _=>true
  | _=>false
def eqV:V→V→Bool
  | .non,.non=>true
  | .bl a,.bl b=>a == b
  | .bl a,.int b=>(if a then 1 else 0) == b
  | .int a,.bl b=>a == (if b then 1 else 0)
  | .int a,.int b=>a == b
  | .str a,.str b=>a == b
  | _,_=>false
theorem eqAt_V {A:Around} {s:Shared} {y x:V} {u v:Value} (ry:RelV y u) (rx:RelV x v) (fy:flatV y=true) (fx:flatV x=true):SeqAt.EqAt A s u v (eqV y x):=by
  cases y with
  | non =>
    cases ry
    cases x with
    | non=>cases rx; exact SeqAt.EqAt.same _
    | bl b=>cases rx; exact SeqAt.EqAt.none_bool b
    | int b=>obtain ⟨t,rfl⟩:=rx; exact SeqAt.EqAt.none_int b t
    | str b=>obtain ⟨t,rfl⟩:=rx; exact SeqAt.EqAt.none_str b t
    | _=>exact absurd (show false=true from fx) Bool.false_ne_true
  | bl a =>
    cases ry
    cases x with
    | non=>cases rx; exact SeqAt.EqAt.bool_none a
    | bl b=>cases rx; exact SeqAt.EqAt.bool_bool a b
    | int b=>obtain ⟨t,rfl⟩:=rx; exact SeqAt.EqAt.bool_int a b t
    | str b=>obtain ⟨t,rfl⟩:=rx; exact SeqAt.EqAt.bool_str a b t
    | _=>exact absurd (show false=true from fx) Bool.false_ne_true
  | int a =>
    obtain ⟨t',rfl⟩:=ry
    cases x with
    | non=>cases rx; exact SeqAt.EqAt.int_none a t'
    | bl b=>cases rx; exact SeqAt.EqAt.int_bool a t' b
    | int b=>obtain ⟨t,rfl⟩:=rx; exact SeqAt.EqAt.int_int a t' b t
    | str b=>obtain ⟨t,rfl⟩:=rx; exact SeqAt.EqAt.int_str a t' b t
    | _=>exact absurd (show false=true from fx) Bool.false_ne_true
  | str a =>
    obtain ⟨t',rfl⟩:=ry
    cases x with
    | non=>cases rx; exact SeqAt.EqAt.str_none a t'
    | bl b=>cases rx; exact SeqAt.EqAt.str_bool a t' b
    | int b=>obtain ⟨t,rfl⟩:=rx; exact SeqAt.EqAt.str_int a t' b t
    | str b=>obtain ⟨t,rfl⟩:=rx; exact SeqAt.EqAt.str_str a t' b t
    | _=>exact absurd (show false=true from fx) Bool.false_ne_true
  | _=>exact absurd (show false=true from fy) Bool.false_ne_true
def eqU (x:V) (u:Value):Bool:=match u with
  | .none=>eqV .non x
  | .bool b=>eqV (.bl b) x
  | .int i _=>eqV (.int i) x
  | .str z _=>eqV (.str z) x
  | _=>false
theorem eqU_of {x y:V} {u:Value} (r:RelV y u) (f:flatV y=true):eqU x u=eqV y x:=by
  cases y with
  | non=>cases r; rfl
  | bl b=>cases r; rfl
  | int i=>obtain ⟨t,rfl⟩:=r; rfl
  | str z=>obtain ⟨t,rfl⟩:=r; rfl
  | _=>exact absurd (show false=true from f) Bool.false_ne_true
theorem any_eqU {x:V}:∀ {xs:List V} {us:List Value},Vals xs us→xs.all flatV=true→us.any (eqU x)=xs.any fun y=>eqV y x
  | _,_,.nil,_=>rfl
  | y::xs,u::us,.cons r t,f=>by
    rw [List.all_cons,Bool.and_eq_true] at f
    rw [List.any_cons,List.any_cons,eqU_of r f.1,any_eqU t f.2]
theorem mem_eqAt {A:Around} {s:Shared} {x:V} {v:Value} (rx:RelV x v) (fx:flatV x=true):∀ {xs:List V} {us:List Value},Vals xs us→xs.all flatV=true→∀ u ∈ us,SeqAt.EqAt A s u v (eqU x u)
  | _,_,.nil,_=>fun u hu=>by cases hu
  | y::xs,u::us,.cons r t,f=>fun u' hu=>by
    rw [List.all_cons,Bool.and_eq_true] at f
    rcases List.mem_cons.mp hu with rfl | hu
    · rw [eqU_of r f.1]; exact eqAt_V r rx f.1 fx
    · exact mem_eqAt rx fx t f.2 u' hu
def inV (x:V) (xs:List V):Bool:=xs.any fun y=>eqV y x
def rIn (K:PySem.W.Frag) (neg:Bool):R2:=fun x y H Q=>∃ p xs,y=.ref p∧(SqL K H p xs∨SqT K H p xs)∧flatV x=true∧xs.all flatV=true∧Q (.bl (if neg then !inV x xs else inV x xs)) H
theorem op_in_seq:OpR X (compareOp .In) (rIn X.K false):=by
  intro pins s σ H x y v u Q I rx ry h
  obtain ⟨p,xs,rfl,hq,fx,fs,q⟩:=h
  cases ry
  rcases hq with hq | hq
  · obtain ⟨its,r,pl,hz⟩:=I.list hq
    refine SeqAt.in_listAt (eqU x) pl.isList (fun w hw=>mem_eqAt rx fx r fs w (by simpa using hw)) ⟨.bl _,H,I,rfl,?_⟩
    rw [show its.toArray.any (eqU x)=its.any (eqU x) by simp,any_eqU r fs]
    exact q
  · obtain ⟨its,r,pl,hz⟩:=I.tuple hq
    refine SeqAt.in_tupleAt (eqU x) pl (fun w hw=>mem_eqAt rx fx r fs w (by simpa using hw)) ⟨.bl _,H,I,rfl,?_⟩
    rw [show its.toArray.any (eqU x)=its.any (eqU x) by simp,any_eqU r fs]
    exact q
theorem op_notIn_seq:OpR X (compareOp .NotIn) (rIn X.K true):=by
  intro pins s σ H x y v u Q I rx ry h
  obtain ⟨p,xs,rfl,hq,fx,fs,q⟩:=h
  cases ry
  rcases hq with hq | hq
  · obtain ⟨its,r,pl,hz⟩:=I.list hq
    refine SeqAt.notIn_listAt (eqU x) pl.isList (fun w hw=>mem_eqAt rx fx r fs w (by simpa using hw)) ⟨.bl _,H,I,rfl,?_⟩
    rw [show its.toArray.any (eqU x)=its.any (eqU x) by simp,any_eqU r fs]
    exact q
  · obtain ⟨its,r,pl,hz⟩:=I.tuple hq
    refine SeqAt.notIn_tupleAt (eqU x) pl (fun w hw=>mem_eqAt rx fx r fs w (by simpa using hw)) ⟨.bl _,H,I,rfl,?_⟩
    rw [show its.toArray.any (eqU x)=its.any (eqU x) by simp,any_eqU r fs]
    exact q
theorem call_len_seq:CallR X (.builtin "len") (fun xs H Q=>∃ p ys,xs=[.ref p]∧(SqL X.K H p ys∨SqT X.K H p ys)∧Q (.int ys.length) H):=by
  intro pins s σ H xs us Q I r h
  obtain ⟨p,ys,rfl,hq,q⟩:=h
  obtain ⟨u,rfl,rx⟩:=vals1 r
  cases rx
  have hn:=line63
  rcases hq with hq | hq
  · obtain ⟨its,r',pl,hz⟩:=I.list hq
    have hlen:=r'.length
    exact Calls.call_len_list pl.isList (by simp only [List.size_toArray] <;> omega) ⟨.int ys.length,H,I.tok _,⟨s.toks + 1,by rw [List.size_toArray,hlen]⟩,q⟩
  · obtain ⟨its,r',pl,hz⟩:=I.tuple hq
    have hlen:=r'.length
    exact len_tuple pl (by simp only [List.size_toArray] <;> omega) ⟨.int ys.length,H,I.tok _,⟨s.toks + 1,by rw [List.size_toArray,hlen]⟩,q⟩
theorem call_list_of:CallR X (.type "list") (fun xs H Q=>∃ p ys,xs=[.ref p]∧(SqL X.K H p ys∨SqT X.K H p ys)∧∀ l,H l=none→Q (.ref l) (upd H l (.lst ys))):=by
  intro pins s σ H xs us Q I r h
  obtain ⟨p,ys,rfl,hq,q⟩:=h
  obtain ⟨u,rfl,rx⟩:=vals1 r
  cases rx
  have fin:∀ (its:List Value),Vals ys its→ys.length≤sizeLine→∀ (h':Heap) (c':Nat),(∀ b o',s.heap.get? b=some o'→h'.get? b=some o') →
      h'.get? s.heap.objs.size=some { cls:=.type "list",dict:=none,data:=.seq its.toArray c',slots:=#[] }→EP X pins σ Q (.ref s.heap.objs.size) { s with heap:=h' }:=fun its r' hz h' c' kp e =>
    ⟨.ref s.heap.objs.size,_,I.laid (t':=s.toks) kp (Nat.le_refl _) (show ObjOk X.prog X.w _ h' _ (.lst ys) from ⟨hz,its,c',r',e⟩),rfl,q _ (I.hok.fresh (Nat.le_refl _))⟩
  rcases hq with hq | hq
  · obtain ⟨its,r',pl,hz⟩:=I.list hq
    have hlen:=r'.length
    obtain ⟨o,ho,hc,n,hd⟩:=pl.isList
    exact call_list_seq p (.inl rfl) ho hc hd (fun h' c' kp e=>fin its r' hz h' c' kp e) (by simp only [List.size_toArray] <;> omega)
  · obtain ⟨its,r',pl,hz⟩:=I.tuple hq
    have hlen:=r'.length
    obtain ⟨o,ho,hc,n,hd⟩:=pl
    exact call_list_seq p (.inr rfl) ho hc hd (fun h' c' kp e=>fin its r' hz h' c' kp e) (by simp only [List.size_toArray] <;> omega)
theorem call_tuple_of:CallR X (.type "tuple") (fun xs H Q=>∃ p ys,xs=[.ref p]∧((SqL X.K H p ys∧∀ l,H l=none→Q (.ref l) (upd H l (.tup ys)))∨(SqT X.K H p ys∧Q (.ref p) H))):=by
  intro pins s σ H xs us Q I r h
  obtain ⟨p,ys,rfl,h⟩:=h
  obtain ⟨u,rfl,rx⟩:=vals1 r
  cases rx
  rcases h with ⟨hq,q⟩ | ⟨hq,q⟩
  · obtain ⟨its,r',pl,hz⟩:=I.list hq
    have hlen:=r'.length
    refine call_tuple_list pl.isList (fun h' kp=>?_) (by simp only [List.size_toArray] <;> omega)
    have I1:Inv X pins σ H { s with heap:=h' }:=I.kept (t':=s.toks) kp
    have I2:Inv X pins σ (upd H h'.objs.size (.tup ys)) { s with heap:=h'.push { cls:=.type "tuple",data:=.seq its.toArray } } :=
      I1.laid (t':=s.toks) (fun b o e=>Heap.get?_push_of_some _ e) (Nat.le_refl _) (show ObjOk X.prog X.w _ _ _ (.tup ys) from ⟨hz,its,r',IsTup.new _ _⟩)
    exact ⟨.ref h'.objs.size,_,I2,rfl,q _ (I1.hok.fresh (Nat.le_refl _))⟩
  · obtain ⟨its,r',pl,hz⟩:=I.tuple hq
    exact call_tuple_same pl ⟨.ref p,H,I,rfl,q⟩
def tyV (K:PySem.W.Frag) (T:String) (x:V) (H:Hp):Prop:=match x with
  | .str _=>T="str"
  | .int _=>T="int"
  | .ref p=>(T="list"∧∃ xs,SqL K H p xs)∨(T="tuple"∧∃ o,K.lookup p=some o∧o.cls=.type "tuple"∧o.dict=none) ∨
      (T="dict"∧((∃ kvs,H p=some (.dK kvs))∨∃ kvs,H p=some (.dT kvs)))∨(T="set"∧∃ S n,H p=some (.set S n))
  | _=>False
theorem tyV_is {pins:List (Addr × Obj)} {σ:St} {H:Hp} {s:Shared} {T:String} {x:V} {v:Value} (I:Inv X pins σ H s) (r:RelV x v) (ty:tyV X.K T x H) :
    s.TypeIs v T∧∀ a,v=.ref a→∃ ob,s.heap.get? a=some ob∧ob.dict=none:=by
  cases x with
  | str z =>
    obtain ⟨t,rfl⟩:=r
    cases (show T="str" from ty)
    exact ⟨typeIs_str s z t,fun _ e=>nomatch e⟩
  | int i =>
    obtain ⟨t,rfl⟩:=r
    cases (show T="int" from ty)
    exact ⟨typeIs_int s i t,fun _ e=>nomatch e⟩
  | ref p =>
    cases r
    rcases ty with ⟨rfl,xs,hq⟩ | ⟨rfl,o,hk,hc,hd⟩ | ⟨rfl,hk⟩ | ⟨rfl,S,n,hk⟩
    · obtain ⟨its,_,pl,_⟩:=I.list hq
      refine ⟨pl.isList.typeIs,fun a e=>?_⟩
      cases e
      obtain ⟨o,n,e,c,hd,_⟩:=pl
      exact ⟨o,e,hd⟩
    · refine ⟨⟨o,I.kIn p o hk,hc⟩,fun a e=>?_⟩
      cases e
      exact ⟨o,I.kIn _ o hk,hd⟩
    · have z:∃ o,s.heap.get? p=some o∧o.ExactDict:=by
        rcases hk with ⟨kvs,hk⟩ | ⟨kvs,hk⟩
        · obtain ⟨_,_,_,_,o,_,_,e,ex,_⟩:=I.hok p _ hk
          exact ⟨o,e,ex⟩
        · obtain ⟨_,_,_,_,o,_,_,e,ex,_⟩:=I.hok p _ hk
          exact ⟨o,e,ex⟩
      obtain ⟨o,e,ex⟩:=z
      refine ⟨⟨o,e,ex.1⟩,fun a e2=>?_⟩
      cases e2
      exact ⟨o,e,ex.2.1⟩
    · obtain ⟨o,_,_,_,e,ex,_⟩:=I.hok p _ hk
      refine ⟨⟨o,e,ex.1⟩,fun a e2=>?_⟩
      cases e2
      exact ⟨o,e,ex.2.1⟩
  | _=>exact False.elim ty
def tBM (K:PySem.W.Frag) (T:String) (r:V→List V→Hp→VK→Prop) (to:TE) (t:TA):TE:=fun σ H Q=>to σ H fun x H1=>tyV K T x H1∧t σ H1 fun xs H2=>r x xs H2 Q
variable {o e:Expr} {es:List Expr} {to:TE} {t:TA} {name:Str} {apos cpos:Pos} {T id:String} {r:V→List V→Hp→VK→Prop}
theorem pe_bm (pa:PlainAttrs T) (slot:Slot T name id) (hty:typeOf (.builtin id)=pure (.type "method_descriptor")) (hm:MtR X id r) (ho:PE X o to) (ha:PA X (e::es) t)
    (hbase:attributeBase o name X.env (eval o X.env)=eval o X.env:=by rfl)
    (hfew:((backTo cpos (starEach (e::es) X.env)).all (fun x=>!x.1) && (backToKw cpos (keywordEach [] X.env)).all (fun x=>x.1.isSome)
      && decide ((e::es).length + ([]:List Keyword).length + (if ([]:List Keyword).isEmpty then 0 else 1) < 30))=true:=by rfl)
    (hline:(apos.endLine == cpos.line)=true:=by rfl) (hs:starEach (e::es) X.env=(false,eval e X.env)::starEach es X.env:=by rfl) (hplain:(backTo cpos (starEach es X.env)).any (·.1)=false:=by rfl) :
    PE X (.Call (.Attribute o name apos) (e::es) [] cpos) (tBM X.K T r to t):=by
  refine ⟨?_⟩
  intro pins s σ H Q I h
  refine wpAny_Call_method_late hbase hfew hline rfl (thn (ho pins s σ H _ I h) fun v s1 ⟨x,H1,I1,r1,ty,q1⟩=>?_)
  obtain ⟨h1,h2⟩:=tyV_is I1 r1 ty
  refine ⟨T,id,pa,slot,hty,h1,h2,?_⟩
  have hA:=ha cpos pins s1 σ H1 _ I1 q1
  rw [hs] at hA ⊢
  refine Calls.callWith_builtin (by show (false || (backTo cpos (starEach es X.env)).any (·.1))=false; rw [hplain] <;> rfl) (Calls.evalArgs_plain ?_)
  exact thn hA fun us s2 ⟨vs,H2,I2,r2,q2⟩=>hm pins s2 σ H2 x vs v us Q I2 r1 r2 q2
end
end L2
namespace L2
open PySem PySem.Spec PyProof.Rows
def MtM (X:Cx) (id:String) (r:V→List V→Hp→VK→Prop):Prop :=
  ∀ (pins:List (Addr × Obj)) (s:Shared) (σ:St) (H:Hp) (x:V) (xs:List V) (v:Value) (us:List Value) (Q:VK),Inv X pins σ H s→RelV x v→Vals xs us→r x xs H Q →
    wpAny (model X.prog X.w) X.A (call (.builtin id) (v::us)) (EP X pins σ Q) X.xe s
theorem Vals.one:∀ {x:V} {us:List Value},Vals [x] us→∃ u,us=[u]∧RelV x u
  | _,_,.cons r .nil=>⟨_,rfl,r⟩
theorem Vals.two:∀ {x y:V} {us:List Value},Vals [x,y] us→∃ u v,us=[u,v]∧RelV x u∧RelV y v
  | _,_,_,.cons r (.cons q .nil)=>⟨_,_,rfl,r,q⟩
theorem Vals.eraseIdx:∀ {xs:List V} {us:List Value} (i:Nat),Vals xs us→Vals (xs.eraseIdx i) (us.eraseIdx i)
  | _,_,_,.nil=>.nil
  | _,_,0,.cons _ t=>t
  | _,_,i + 1,.cons r t=>.cons r (Vals.eraseIdx i t)
theorem Vals.reverse {xs:List V} {us:List Value} (h:Vals xs us):Vals xs.reverse us.reverse:=by
  induction h with
  | nil=>exact .nil
  | cons r t ih=>rw [List.reverse_cons,List.reverse_cons]; exact Vals.append ih (.cons r .nil)
theorem len_erase {α:Type}:∀ (l:List α) (i:Nat),(l.eraseIdx i).length≤l.length
  | [],_=>Nat.le_refl _
  | _::_,0=>Nat.le_succ _
  | _::r,i + 1=>Nat.succ_le_succ (len_erase r i)
section
variable {X:Cx} {pins:List (Addr × Obj)} {σ:St} {H:Hp} {s:Shared} {l b:Addr} {xs ys zs:List V}
theorem Inv.lset {its its':List Value} {n:Nat} {f:Array Value→Array Value} {t':Nat} (I:Inv X pins σ H s) (hH:H l=some (.lst xs))
    (e:s.heap.get? l=some { cls:=.type "list",data:=.seq its.toArray n }) (hf:f its.toArray=its'.toArray) (hv:Vals ys its') (hz:ys.length≤sizeLine) :
    Inv X pins σ (upd H l (.lst ys)) { s with heap:=s.heap.update l (Obj.mapSeq f),toks:=t' }:=by
  have q:=PySem.IsL.update e f
  rw [hf] at q
  refine I.write (x:=l) (e:=l) (by rw [hH]; exact trivial) (.inl rfl) (fun b' u hb hu=>(Heap.get?_update_other s.heap (Obj.mapSeq f) (Ne.symm hb)).trans hu) ⟨_,q⟩ ?_
  exact ⟨hz,its',_,hv,q⟩
theorem Inv.lnew {its:List Value} {t':Nat} (I:Inv X pins σ H s) (hv:Vals ys its) (hz:ys.length≤sizeLine) :
    Inv X pins σ (upd H s.heap.objs.size (.lst ys)) { s with heap:=s.heap.push { cls:=.type "list",data:=.seq its.toArray },toks:=t' } :=
  I.laid (fun _ _ q=>Heap.get?_push_of_some _ q) (Nat.le_refl _) ⟨hz,its,0,hv,Heap.get?_push_size _ rfl⟩
theorem Inv.fresh (I:Inv X pins σ H s):H s.heap.objs.size=none:=I.hok.fresh (Nat.le_refl _)
theorem Inv.lstM (I:Inv X pins σ H s) (hH:H l=some (.lst xs)):xs.length≤sizeLine∧∃ (its:List Value) (n:Nat),Vals xs its∧xs.length=its.length∧s.heap.get? l=some { cls:=.type "list",data:=.seq its.toArray n }:=by
  obtain ⟨z,its,n,r,e⟩:=I.hok l _ hH
  exact ⟨z,its,n,r,r.length,e⟩
end
section
variable {X:Cx}
def rAppend:V→List V→Hp→VK→Prop:=fun x vs H Q=>∃ l xs y,x=.ref l∧vs=[y]∧H l=some (.lst xs)∧xs.length < sizeLine∧Q .non (upd H l (.lst (xs++[y])))
theorem mt_append:MtM X "list.append" rAppend:=by
  intro pins s σ H x vs v us Q I rx rv h
  obtain ⟨l,xs,y,rfl,rfl,hH,hz,q⟩:=h
  cases rx
  obtain ⟨u,rfl,ru⟩:=rv.one
  obtain ⟨z,its,n,r,hl,e⟩:=I.lstM hH
  refine call_meets F.slot_list_append ⟨_,e,rfl⟩ F.entry_list_append (F.args_list_append_2 _ _) (PySem.list_append l its.toArray n u (by rw [List.size_toArray]; omega)) ⟨e,?_⟩
  refine ⟨.non,_,I.lset (its':=its++[u]) hH e (by simp) (r.append (.cons ru .nil)) ?_,rfl,q⟩
  rw [List.length_append,List.length_singleton]
  omega
def rPopAt:V→List V→Hp→VK→Prop:=fun x vs H Q=>∃ l xs i k y,x=.ref l∧vs=[.int i]∧H l=some (.lst xs)∧-(2 ^ 63)≤i∧i < 2 ^ 63∧seqIndex? i xs.length=some k∧xs[k]?=some y∧Q y (upd H l (.lst (xs.eraseIdx k)))
theorem mt_popAt:MtM X "list.pop" rPopAt:=by
  intro pins s σ H x vs v us Q I rx rv h
  obtain ⟨l,xs,i,k,y,rfl,rfl,hH,h1,h2,hk,hy,q⟩:=h
  cases rx
  obtain ⟨u,rfl,ru⟩:=rv.one
  obtain ⟨t,rfl⟩:=ru
  obtain ⟨z,its,n,r,hl,e⟩:=I.lstM hH
  obtain ⟨w,hw,rw'⟩:=r.get hy
  refine call_meets F.slot_list_pop ⟨_,e,rfl⟩ F.entry_list_pop (F.args_list_pop_2 _ _)
    (MeetsSeq.list_pop_at l its.toArray n i t k w (fitsIndex_both h1 h2) (by rw [List.size_toArray,← hl]; exact hk) (by rw [← Array.getElem?_toList]; exact hw) (by rw [List.size_toArray]; omega)) ⟨e,?_⟩
  refine ⟨y,_,I.lset (its':=its.eraseIdx k) hH e ?_ (r.eraseIdx k) ?_,rw',q⟩
  · show its.toArray.eraseIdxIfInBounds k=(its.eraseIdx k).toArray
    rw [List.eraseIdxIfInBounds_toArray]
  · have:=len_erase xs k
    omega
def rCat:R2:=fun x y H Q=>∃ l b xs zs,x=.ref l∧y=.ref b∧H l=some (.lst xs)∧H b=some (.lst zs)∧xs.length + zs.length≤sizeLine∧∀ p,H p=none→Q (.ref p) (upd H p (.lst (xs++zs)))
theorem op_cat:OpR X (binaryOp .Add) rCat:=by
  intro pins s σ H x y v u Q I rx ry h
  obtain ⟨l,b,xs,zs,rfl,rfl,hH,hB,hz,q⟩:=h
  cases rx
  cases ry
  obtain ⟨z,its,n,r,hl,e⟩:=I.lstM hH
  obtain ⟨z2,its2,n2,r2,hl2,e2⟩:=I.lstM hB
  refine PySem.P.add_list e e2 ?_ (by rw [List.size_toArray,List.size_toArray]; omega)
  have ea:its.toArray++its2.toArray=(its++its2).toArray:=by simp
  rw [ea]
  exact ⟨.ref _,_,I.lnew (t':=s.toks) (r.append r2) (by rw [List.length_append]; omega),rfl,q _ I.fresh⟩
end
section
variable {prog:Program} {w:World} {A:Around} {E:Value→Shared→Prop} {s:Shared}
end
section
variable {X:Cx}
end
end L2
namespace Att
open PySem PySem.W PySem.Calls PyProof.Rows
theorem ints_of_wellAll {P:Params} {h:Heap}:∀ (ns:List Int) (vs:List Value),WellAll P h vs (ns.map WData.int)→IntsAre vs ns:=by
  intro ns
  induction ns with
  | nil =>
    intro vs w
    rw [List.map_nil] at w
    cases w
    exact .nil
  | cons n ns ih =>
    intro vs w
    rw [List.map_cons] at w
    cases w with
    | cons a b =>
      cases a
      exact .cons _ _ (ih _ b)
theorem script_of {l:OpenLaw} {n:Nat} (hn:l.most=some n) {P:Params} {h:Heap} {args:List WData} {vals:List Value}
    (hpre:l.row.toRowW.claim.pre args=true) (hwl:WellAll P h vals args) :
    ∃ a vs ns,vals=[Value.ref a]∧args=[WData.list (ns.map WData.int)]∧h.get? a=some { cls:=.type "list",data:=.seq vs.toArray }∧IntsAre vs ns∧ns.length≤n:=by
  have hsh:WShape.hasAll [] args [.list .int]=true:=(pre_splitW hpre).1
  have hc:l.pre.holds [] { args:=args }=true:=(pre_splitW hpre).2
  obtain ⟨d,r,rfl,h1,h2⟩:=hasAllW_cons hsh
  obtain rfl:=hasAllW_nil h2
  obtain ⟨xs,rfl,h3⟩:=hasW_list h1
  obtain ⟨ns,rfl⟩:=items_int h3
  have hlen:ns.length≤n:=by
    unfold OpenLaw.pre at hc
    have h4:(WTm.not (.lt (.lit (.int (n:Int))) (.len (.arg 0)))).holds [] { args:=[.list (ns.map .int)] }=true:=by
      have h4:=(holds_andW hc).1
      rw [hn] at h4
      exact h4
    have h5:=condW_of h4 (w_not (w_lt w_lit (w_len_list (w_arg rfl))))
    rw [List.length_map] at h5
    refine Nat.le_of_not_lt fun q=>?_
    have q':(n:Int) < ((ns.length:Nat):Int):=by omega
    first
      | (rw [decide_eq_true q'] at h5; exact absurd h5 (by decide))
      | (simp at h5; omega)
  cases hwl with
  | cons w1 w2 =>
    cases w2
    cases w1 with
    | list ho hall=>exact ⟨_,_,ns,rfl,rfl,ho,ints_of_wellAll ns _ hall,hlen⟩
theorem post_true (l:OpenLaw) (args:List WData):l.row.toRowW.claim.post args (.bool true) args=true :=
  postW_of (r:=l.row.toRowW) (X:=(true == true))
    (show WShape.has [] (.bool true) .bool=true by first | rfl | decide | simp [WShape.has,WShape.arms,WShape.armsAll])
    (show (WTm.eq .res (.lit (.bool true))).value [] { args:=args,res:=some (.bool true),after:=args }=some (.bool (true == true)) from w_eq_bool (w_res rfl) w_lit) rfl
theorem attach_call {l:OpenLaw} {n:Nat} {q:Program} {loose:List Str} {XP:(Str→Option Value)→Heap→Prop} {YP:World→Heap→Prop} {d:DefRec}
    (hn:l.most=some n) (hdf:d.params.defaults=[])
    (call:∀ (w:World) (s₀ s₁:Shared) (mg mb:Str→Option Value) (fa:Addr) (o:Obj) (pm cd doc:Value) (a:Addr) (vs:List Value) (ns:List Int),
      Ground q loose [] XP w s₀ mg mb s₁.heap→YP w s₁.heap →
      s₁.heap.get? fa=some o→o.data=.func (docDef d.name d.params d.body d.scope pm cd doc)→s₁.heap.CodeRec cd d.name→mg d.name=some (.ref fa) →
      s₁.heap.get? a=some { cls:=.type "list",data:=.seq vs.toArray }→IntsAre vs ns→ns.length≤n→s₁.gens=#[] →
      codeAny (model l.prog w) callerA (.call (.ref fa) ⟨[.ref a],[]⟩) (fun r s'=>r=.ok (.ret (.bool true))∧OldK s₁.heap s'.heap∧s'.os=s₁.os∧AllBare s'.gens) s₁) :
    WalkO q loose XP YP l.row.toRowW d [] (fun f vs=>PySem.call f vs):=by
  intro w s₀ s₁ mg mb G Y fa o pm cd doc dV kV ho hd hcd hD hmg hg args vals as hpre hlay hrd hwl hlo
  obtain rfl:dV=.none:=Dflts.none hD hdf
  obtain rfl:kV=.none:=Dflts.noKw hD
  obtain ⟨a,vs,ns,rfl,rfl,hobj,hints,hlen⟩:=script_of hn hpre hwl
  refine enter_call (codeAny_mono (call w s₀ s₁ mg mb fa o pm cd doc a vs ns G Y ho (fd_plain hd) hcd hmg hobj hints hlen hg) fun r s' hq=>?_)
  obtain ⟨rfl,h2,h3,h4⟩:=hq
  exact ⟨.inl ⟨.bool true,.bool true,[],rfl,fun _=>rfl,.bool true,post_true l _,fun _=>⟨List.Pairwise.nil,fun _ hm=>(nomatch hm)⟩⟩,h2,h3,h4⟩
section
variable {prog:Program} {w:World} {A:Around} {E:Value→Shared→Prop} {s:Shared} {K:Frag}
end
end Att
namespace L2
open PySem PySem.Spec PyProof.Rows
theorem vals_ints:∀ {vs:List Value} {ns:List Int},IntsAre vs ns→Vals (ns.map V.int) vs
  | _,_,.nil=>.nil
  | _,_,.cons n t h=>.cons ⟨t,rfl⟩ (vals_ints h)
def Only (H:Hp):Prop:=∀ b,H b=none∨∃ o xs,H b=some (.frz o (.lst xs))
theorem law_call {P:Program} {w:World} {K:PySem.W.Frag} {mg mb:Str→Option Value} {CX:CXT} {k:Nat} {fa a:Addr} {fd:FuncData} {x:Str} {sp:Sp} {s₁:Shared} {vs:List Value} {ns:List Int}
    (KX:K.In s₁.heap) (hns:s₁.heap.Ns mainGlobals mg) (hb:s₁.heap.Ns builtinsNs mb) (hbb:∀ x:Str,x≠"__name__"→mb x=bootBuiltins x) (hlim:s₁.heap.NoLimit) (hg:s₁.gens=#[])
    (ha:s₁.heap.get? a=some { cls:=.type "list",data:=.seq vs.toArray }) (hi:IntsAre vs ns) (hl:ns.length≤sizeLine) (hr:Room k callerA)
    (F:∀ base:Heap,K.In base→base.Ns mainGlobals mg→FnOk P w K mg base CX k fa fd [x] sp) (hbind:∀ (s:Shared) (u:Value),BindsTo s fd ⟨[u],[]⟩ [(x,u)])
    (hsp:∀ H:Hp,Only H→SqL K H a (ns.map V.int)→sp [.ref a] H (fun v _=>v=.bl true) fun _ _ _=>False)
    (hCX:∀ H e s',CX [] H s₁ (fun _ _ _=>False) e s'→False) :
    codeAny (model P w) callerA (.call (.ref fa) ⟨[.ref a],[]⟩) (fun r s'=>r=.ok (.ret (.bool true))∧OldK s₁.heap s'.heap∧s'.os=s₁.os∧AllBare s'.gens) s₁:=by
  have rv:=vals_ints hi
  have lenV:=hi.length
  have core:∀ H:Hp,Only H→SqL K H a (ns.map V.int)→HOk P w H s₁.heap→(∀ b,H b≠none→b=a)→(H a≠none→K.lookup a=none) →
      codeAny (model P w) callerA (.call (.ref fa) ⟨[.ref a],[]⟩) (fun r s'=>r=.ok (.ret (.bool true))∧OldK s₁.heap s'.heap∧s'.os=s₁.os∧AllBare s'.gens) s₁:=by
    intro H hO hS hok hA hK
    have base_of:∀ {b:Addr} {o:Obj},s₁.heap.get? b=some o→H b=none→(hidT s₁.heap H).get? b=some o:=fun e n=>hidT_get e n
    have noA:∀ {b:Addr} {o:Obj} {es:Array DictEntry} {ep:Nat},s₁.heap.get? b=some o→o.data=.dict es ep→H b=none:=fun {b o es ep} e d=>by
      cases q:H b with
      | none=>rfl
      | some u =>
        have e':b=a:=hA b (by rw [q]; simp)
        subst e'
        rw [ha] at e; cases e
        have d':Data.seq vs.toArray _=Data.dict es ep:=d
        cases d'
    have nsK:∀ {b:Addr} {m:Str→Option Value},s₁.heap.Ns b m→(hidT s₁.heap H).Ns b m:=fun {b m} ⟨o,es,ep,e,d,r⟩=>⟨o,es,ep,base_of e (noA e d),d,r⟩
    have hKb:K.In (hidT s₁.heap H):=fun b o e=>base_of (KX b o e) (by
      cases q:H b with
      | none=>rfl
      | some u =>
        have e':b=a:=hA b (by rw [q]; simp)
        subst e'
        rw [hK (by rw [q]; simp)] at e; cases e)
    have hM:Mod K mg (hidT s₁.heap H):=⟨hKb,nsK hns,⟨mb,nsK hb,hbb⟩,let ⟨mc,h1,h2⟩:=hlim; ⟨mc,nsK h1,h2⟩⟩
    have e0:Env0 P w K mg (hidT s₁.heap H) callerA [] s₁ H:=⟨rfl,hM,fun b o e=>of_hidT e,Nat.le_of_eq (hidT_size _ _),trivial,fun b hb=>absurd (show b ∈ ([]:List Addr) from hb) (by simp),hok,.of_eq hg⟩
    refine codeAny_mono ((F _ hKb (nsK hns)).run callerA [] s₁ H ⟨[.ref a],[]⟩ [.ref a] [.ref a] _ _ hr e0 (hbind s₁ (.ref a)) (.cons rfl .nil) (hsp H hO hS)) fun r s' h=>?_
    cases r with
    | error e=>exact (hCX H e s' h).elim
    | ok fl =>
      cases fl with
      | next=>exact False.elim h
      | brk=>exact False.elim h
      | cont=>exact False.elim h
      | ret u =>
        obtain ⟨v,H',os,bare,un,hok',r',q⟩:=h
        have q':v=.bl true:=q
        subst q'
        obtain rfl:u=Value.bool true:=r'
        refine ⟨rfl,OldK.of_keep fun b o e=>?_,os,bare⟩
        cases q:H b with
        | none=>exact un.keep b o e q (by intro z; exact absurd (show b ∈ ([]:List Addr) from z) (by simp)) (by simp)
        | some u =>
          rcases hO b with z | ⟨ob,xs,z⟩
          · rw [q] at z; cases z
          · have z2:=un.frzs b ob _ z
            obtain ⟨e1,_⟩:=hok b _ z
            obtain ⟨e2,_⟩:=hok' b _ z2
            rw [e] at e1; cases e1
            exact e2
  cases hk:K.lookup a with
  | some o =>
    have e:=KX a o hk
    rw [ha] at e
    cases e
    refine core (fun _=>none) (fun _=>.inl rfl) (.inr ⟨_,vs.toArray,_,hk,rfl,rfl,rfl,by rw [List.size_toArray,lenV]; exact hl,by simpa using rv⟩) (fun b u z=>by have z':(none:Option HO)=some u:=z; cases z') (fun b z=>absurd rfl z) fun z=>absurd rfl z
  | none =>
    refine core (fun b=>if b=a then some (.frz { cls:=.type "list",data:=.seq vs.toArray } (.lst (ns.map V.int))) else none) (fun b=>?_) (.inl (.inr ⟨{ cls:=.type "list",data:=.seq vs.toArray },if_pos rfl⟩)) (fun b u z=>?_) (fun b z=>?_) fun _=>hk
    · by_cases hb:b=a
      · exact .inr ⟨_,_,if_pos hb⟩
      · exact .inl (if_neg hb)
    · by_cases hb:b=a
      · have z':=(if_pos hb).symm.trans z
        cases z'
        subst hb
        exact ⟨ha,by rw [List.length_map]; exact hl,vs,_,rv,ha⟩
      · have z':=(if_neg hb).symm.trans z
        cases z'
    · by_cases hb:b=a
      · exact hb
      · exact absurd (if_neg hb) z
end L2
namespace L2
open PySem PySem.Spec PyProof.Rows
abbrev KOf {K:PySem.W.Frag} {h:Heap} (_:K.In h):PySem.W.Frag:=K
theorem walk_of {l:PySem.W.OpenLaw} {n k:Nat} {q:Program} {loose:List Str} {XP:(Str→Option Value)→Heap→Prop} {YP:World→Heap→Prop} {d:DefRec} {K:Params→PySem.W.Frag} {CX:World→CXT} {sp:World→Sp} {x:Str}
    (hn:l.most=some n) (hn2:n≤sizeLine) (hdf:d.params.defaults=[]) (hr:Room k callerA)
    (hY:∀ (w:World) (h:Heap),YP w h→(K w.params).In h)
    (F:∀ (w:World) (mg:Str→Option Value) (fa:Addr) (h:Heap),(K w.params).In h→h.Ns mainGlobals mg→mg d.name=some (.ref fa) →
      ∃ fd:FuncData,(∀ (s:Shared) (u:Value),BindsTo s fd ⟨[u],[]⟩ [(x,u)]) ∧
        ∀ base:Heap,(K w.params).In base→base.Ns mainGlobals mg→FnOk l.prog w (K w.params) mg base (CX w) k fa fd [x] (sp w))
    (hsp:∀ (w:World) (H:Hp) (a:Addr) (ns:List Int),ns.length≤n→Only H→SqL (K w.params) H a (ns.map V.int)→sp w [.ref a] H (fun v _=>v=.bl true) fun _ _ _=>False)
    (hCX:∀ (w:World) (H:Hp) (s:Shared) (e:Value) (s':Shared),CX w [] H s (fun _ _ _=>False) e s'→False) :
    PySem.W.WalkO q loose XP YP l.row.toRowW d [] (fun f vs=>PySem.call f vs):=by
  refine Att.attach_call hn hdf fun w s₀ s₁ mg mb fa o pm cd doc a vs ns G Y ho hd hcd hmg hobj hints hlen hg=>?_
  have KX:=hY w _ Y
  obtain ⟨fd,hb,hF⟩:=F w mg fa _ KX G.T.g hmg
  exact law_call KX G.T.g G.T.b G.T.builtins G.T.nolimit hg hobj hints (Nat.le_trans hlen hn2) hr hF hb (fun H hO hS=>hsp w H a ns hlen hO hS) fun H e s'=>hCX w H s₁ e s'
end L2
namespace L2
open PySem PySem.Spec PyProof.Rows
def inClass (s:Stmt) (j:Nat):Stmt:=match s with
  | .ClassDef _ _ _ body _ _ _ _ _ _ _=>body.getD j (.Pass ⟨0,0,0,0⟩)
  | _=>.Pass ⟨0,0,0,0⟩
def defArgs (s:Stmt):Arguments:=match s with
  | .FunctionDef _ a _ _ _ _ _ _ _ _=>a
  | _=>{ posonlyargs:=[],args:=[],vararg:=none,kwonlyargs:=[],kw_defaults:=[],kwarg:=none,defaults:=[] }
def defBody (s:Stmt):List Stmt:=match s with
  | .FunctionDef _ _ b _ _ _ _ _ _ _=>b
  | _=>[]
def defScope (s:Stmt):Scope:=match s with
  | .FunctionDef _ _ _ _ _ _ sc _ _ _=>sc
  | _=>{ kind:=.function,names:=[],isGenerator:=false,isCoroutine:=false }
abbrev CX0:CXT:=fun _ _ _ _ _ _=>False
abbrev E0:XK:=fun _ _ _=>False
theorem pass0 {X:Cx}:Passes CX0 X E0:=fun _ _ _ _ _ _ _ h=>h.elim
structure Fun (K:PySem.W.Frag) (x qual:Str) (st:Stmt) (f:Addr) (fd:FuncData):Prop where
  ex:∃ (oc:Value) (od:Option Addr) (kV doc pm:Value) (an:Option Addr) (cdv ct:Value) (osl:Array (Option Value)),
    fd=PySem.W.fnOf x qual (defArgs st) (defBody st) (defScope st) .none kV doc pm an cdv ct∧K.lookup f=some ⟨oc,od,.func fd,osl⟩∧PySem.W.codeIn K cdv qual=true
  kp:PySem.W.keepIn K (.ref f)=true
section
variable {P:Program} {w:World} {K:PySem.W.Frag} {mg:Str→Option Value} {base:Heap}
theorem Fun.ok {x qual:Str} {st:Stmt} {f:Addr} {fd:FuncData} {N ps:List Str} {k:Nat} {sp:Sp} (F:Fun K x qual st f fd) (S:FnScope N ps (defScope st)) (len:∀ vs H Q E,sp vs H Q E→vs.length=ps.length)
    (hbody:∀ (cdv:Value) (A:Around) (outer:List Env) (s:Shared) (H:Hp) (vs:List V) (Q:VK) (E:XK),Room k (A.deeper (envOfC qual (defScope st) s.heap.objs.size f cdv))→sp vs H Q E →
      ∃ t,PSs (cxOf CX0 P w K mg base N qual (defScope st) f cdv A outer s H E).nox (defBody st) t∧t { nx:=fun _ H'=>Q .non H',rt:=Q } (start N vs) H):FnOk P w K mg base CX0 (k + 1) f fd ps sp:=by
  obtain ⟨oc,od,kV,doc,pm,an,cdv,ct,osl,rfl,lk,hcd⟩:=F.ex
  refine fn_of lk hcd S len fun A outer s H vs Q E hr hsp=>?_
  obtain ⟨t,h,q⟩:=hbody cdv A outer s H vs Q E hr hsp
  exact ⟨t,h.nox,q⟩
theorem Fun.binds {x qual:Str} {st:Stmt} {f:Addr} {fd:FuncData} {ps:List Str} (F:Fun K x qual st f fd)
    (h:∀ (kV doc pm:Value) (an:Option Addr) (cdv ct:Value) (us:List Value),us.length=ps.length→bindArgs (PySem.W.fnOf x qual (defArgs st) (defBody st) (defScope st) .none kV doc pm an cdv ct) ⟨us,[]⟩=pure (ps.zip us)):Binds K fd ps []:=by
  obtain ⟨oc,od,kV,doc,pm,an,cdv,ct,osl,rfl,lk,hcd⟩:=F.ex
  exact .all (h kV doc pm an cdv ct)
theorem fun_mk {x qual:Str} {st:Stmt} {f:Addr} {oc:Value} {od an:Option Addr} {osl:Array (Option Value)} {kV doc pm cdv ct:Value} (l:K.lookup f=some ⟨oc,od,.func (PySem.W.fnOf x qual (defArgs st) (defBody st) (defScope st) .none kV doc pm an cdv ct),osl⟩)
    (c:PySem.W.codeIn K cdv qual=true) (k:PySem.W.keepIn K (.ref f)=true):Fun K x qual st f (PySem.W.fnOf x qual (defArgs st) (defBody st) (defScope st) .none kV doc pm an cdv ct):=⟨⟨oc,od,kV,doc,pm,an,cdv,ct,osl,rfl,l,c⟩,k⟩
end
theorem small1000 {n:Nat} (h:n≤1000):n < sizeLine:=Nat.lt_of_le_of_lt h (by decide)
section
variable {X:Cx}
theorem pv (i:Nat) {x:Str} {pos:Pos} (hN:X.N[i]?=some x:=by rfl) (hv:Vis X.env.scope x:=by first | exact Or.inl rfl | exact Or.inr (Or.inl rfl) | exact Or.inr (Or.inr rfl)) (hd:(x == ("__debug__" : Str))=false:=by decide)
    (hcd:(x == ("__classdict__" : Str))=false:=by decide):PE X (.Name x pos) (tVar i):=pe_var hN hv hd hcd
end
theorem iteF {A B:Prop} (h:B):if false=true then A else B:=by
  rw [if_neg Bool.false_ne_true]
  exact h
theorem iteT {A B:Prop} (h:A):if true=true then A else B:=by
  rw [if_pos rfl]
  exact h
theorem ite2 {c A B:Prop} [Decidable c] (h1:c→A) (h2:¬ c→B):if c then A else B:=by
  by_cases h:c
  · rw [if_pos h]
    exact h1 h
  · rw [if_neg h]
    exact h2 h
def Same (H H':Hp):Prop:=∀ b o,H b=some o→H' b=some o
theorem Same.refl (H:Hp):Same H H:=fun _ _ h=>h
theorem Same.trans {H H1 H2:Hp} (a:Same H H1) (b:Same H1 H2):Same H H2:=fun c o h=>b c o (a c o h)
theorem Same.free {H H':Hp} (e:Same H H') {l:Addr} (h:H' l=Option.none):H l=Option.none:=by
  cases q:H l with
  | none=>rfl
  | some o =>
    rw [e l o q] at h
    cases h
theorem Same.seq {K:PySem.W.Frag} {H H':Hp} {a:Addr} {xs:List V} (e:Same H H') (h:SqL K H a xs):SqL K H' a xs:=by
  rcases h with (h | ⟨o,h⟩) | h
  · exact .inl (.inl (e _ _ h))
  · exact .inl (.inr ⟨o,e _ _ h⟩)
  · exact .inr h
end L2
namespace L2
open PySem PySem.Spec PyProof.Rows
theorem noPylong_big {x y:Int} (h:y.natAbs < 2 ^ 300):Builtin.divisionGoesByPylong x y=false:=by
  refine PyProof.noPylong_of_log2 ?_
  by_cases h0:y.natAbs=0
  · rw [h0]; decide +kernel
  · have h30:y.natAbs.log2 < 300:=(Nat.log2_lt h0).mpr h
    omega
def CDivB (_i j:Int):Prop:=0 < j∧j < 2 ^ 300
section
variable {X:Cx} {a b:Expr} {ta tb:TE} {pos:Pos}
theorem op_fdivB:OpR X (binaryOp .FloorDiv) (rI CDivB fun i j=>.int (i / j)):=opI fun i j _ _ _ _ _ hc q=>by
  obtain ⟨h1,h2⟩:=hc
  refine floordiv_int (by omega) ?_ (.inl (noPylong_big (by omega)))
  rw [Int.fdiv_eq_ediv_of_nonneg i (by omega)]
  exact q
inductive cDm (xs:List V) (H:Hp) (Q:VK):Prop
  | mk (i j:Int) (e:xs=[.int i,.int j]) (c:CDivB i j) (q:∀ p,H p=none→Q (.ref p) (upd H p (.tup [.int (i / j),.int (i % j)]))):cDm xs H Q
theorem call_divmodB:CallR X (.builtin "divmod") cDm:=by
  intro pins s σ H xs us Q I r h
  obtain ⟨i,j,rfl,⟨h1,h2⟩,q⟩:=h
  obtain ⟨u,w',rfl,⟨t,rfl⟩,⟨t',rfl⟩⟩:=vals2 r
  refine divmod_int (by omega) ?_ (.inl (noPylong_big (by omega)))
  rw [Int.fdiv_eq_ediv_of_nonneg i (by omega),Int.fmod_eq_emod_of_nonneg i (by omega)]
  have hn:H s.heap.objs.size=none:=I.hok.fresh (Nat.le_refl _)
  refine ⟨.ref s.heap.objs.size,_,?_,rfl,q _ hn⟩
  refine I.laid (fun b o e=>Heap.get?_push_of_some _ e) (Nat.le_refl _) ⟨by simp only [List.length_cons,List.length_nil]; rw [sizeLine_eq]; decide,[.int (i / j) s.toks,.int (i % j) (s.toks + 1)],.cons ⟨_,rfl⟩ (.cons ⟨_,rfl⟩ .nil),?_⟩
  exact ⟨_,Heap.get?_push_size s.heap rfl,rfl,0,rfl⟩
theorem preSum_take (ns:List Int):∀ k,preSum (fun i=>ns.getD i 0) k=(ns.take k).sum:=by
  intro k
  induction k with
  | zero=>rfl
  | succ k ih =>
    show preSum (fun i=>ns.getD i 0) k + ns.getD k 0=_
    rw [ih,List.take_add_one,List.sum_append_int]
    cases e:ns[k]? with
    | none=>simp [List.getD_eq_getElem?_getD,e]
    | some v=>simp [List.getD_eq_getElem?_getD,e]
theorem ints_at {ns:List Int} {its:List Value} (rv:Vals (ns.map V.int) its) {i:Nat} {v:Value} (e:its[i]?=some v):∃ t,v=.int (ns.getD i 0) t:=by
  have hl:=rv.length
  rw [List.length_map] at hl
  have hi:i < its.length:=(List.getElem?_eq_some_iff.mp e).1
  have hn:ns[i]?=some (ns[i]'(by omega)):=List.getElem?_eq_getElem (by omega)
  obtain ⟨u,hu,ru⟩:=rv.get (i:=i) (x:=V.int (ns[i]'(by omega))) (by rw [List.getElem?_map,hn]; rfl)
  rw [e] at hu
  cases hu
  obtain ⟨t,rfl⟩:=ru
  exact ⟨t,by rw [List.getD_eq_getElem?_getD,hn]; rfl⟩
theorem call_sum_seq (hc:X.calm=true):CallR X (.builtin "sum") (fun xs H Q=>∃ (p:Addr) (ns:List Int),xs=[.ref p]∧(SqL X.K H p (ns.map V.int)∨SqT X.K H p (ns.map V.int))∧Q (.int ns.sum) H):=by
  intro pins s σ H xs us Q I r h
  obtain ⟨p,ns,rfl,hq,q⟩:=h
  obtain ⟨u,rfl,rx⟩:=vals1 r
  cases rx
  have hh:X.A.in1.handled=none:=I.ok.hd hc
  have fin:∀ (its:List Value) (h':Heap) (o:Obj) (tk:Nat) (t':Tok),Vals (ns.map V.int) its→(∀ b ob,b ∉ [s.heap.objs.size]→(s.heap.push o).get? b=some ob→h'.get? b=some ob)→EP X pins σ Q (.int (preSum (fun i=>ns.getD i 0) its.toArray.size) t') { s with heap:=h',toks:=tk }:=fun its h' o tk t' rv k=>by
    have hl:=rv.length
    rw [List.length_map] at hl
    have e:preSum (fun i=>ns.getD i 0) its.toArray.size=ns.sum:=by
      rw [preSum_take,List.size_toArray,← hl,List.take_length]
    rw [e]
    exact ⟨.int ns.sum,H,I.kept fun b ob e=>k b ob (by simp; exact Nat.ne_of_lt (Heap.lt_size e)) (Heap.get?_push_of_some _ e),⟨_,rfl⟩,q⟩
  rcases hq with hq | hq
  · obtain ⟨its,rv,pl,hz⟩:=I.list hq
    have hp:p < s.heap.objs.size:=by obtain ⟨o,e,_⟩:=pl.isList; exact Heap.lt_size e
    refine call_sum_walkG (wpAny_pyIter_list pl.isList ?_)
    refine ⟨s.heap.objs.size,[s.heap.objs.size,p],[s.heap.objs.size],_,_,_,fun i=>ns.getD i 0,rfl,Walks.list hh _ p (Nat.ne_of_lt hp) its.toArray,⟨⟨_,Heap.get?_push_size _ rfl,rfl,rfl⟩,pl.isList.at fun o e=>Heap.get?_push_of_some _ e⟩,?_,?_,?_⟩
    · intro b hb
      show b < (s.heap.push _).objs.size
      rw [Heap.size_push]
      rcases List.mem_cons.mp hb with e | hb
      · rw [e]; exact Nat.lt_succ_self _
      · have e:b=p:=by simpa using hb
        rw [e]; exact Nat.lt_succ_of_lt hp
    · intro i v e
      exact ints_at rv (by simpa using e)
    · intro h' tk t' k
      exact fin its h' _ tk t' rv k
  · obtain ⟨its,rv,pl,hz⟩:=I.tuple hq
    have pl':s.heap.IsTuple p its.toArray:=pl
    have hp:p < s.heap.objs.size:=by obtain ⟨o,e,_⟩:=pl; exact Heap.lt_size e
    refine call_sum_walkG (wpAny_pyIter_tuple pl' ?_)
    refine ⟨s.heap.objs.size,[s.heap.objs.size,p],[s.heap.objs.size],_,_,_,fun i=>ns.getD i 0,rfl,Walks.tuple hh _ p (Nat.ne_of_lt hp) its.toArray,⟨⟨_,Heap.get?_push_size _ rfl,rfl,rfl⟩,pl'.push _⟩,?_,?_,?_⟩
    · intro b hb
      show b < (s.heap.push _).objs.size
      rw [Heap.size_push]
      rcases List.mem_cons.mp hb with e | hb
      · rw [e]; exact Nat.lt_succ_self _
      · have e:b=p:=by simpa using hb
        rw [e]; exact Nat.lt_succ_of_lt hp
    · intro i v e
      exact ints_at rv (by simpa using e)
    · intro h' tk t' k
      exact fin its h' _ tk t' rv k
theorem bools_at {bs:List Bool} {its:List Value} (rv:Vals (bs.map V.bl) its) {i:Nat} {v:Value} (e:its[i]?=some v):v=.bool (bs.getD i true):=by
  have hl:=rv.length
  rw [List.length_map] at hl
  have hi:i < its.length:=(List.getElem?_eq_some_iff.mp e).1
  have hn:bs[i]?=some (bs[i]'(by omega)):=List.getElem?_eq_getElem (by omega)
  obtain ⟨u,hu,ru⟩:=rv.get (i:=i) (x:=V.bl (bs[i]'(by omega))) (by rw [List.getElem?_map,hn]; rfl)
  rw [e] at hu
  cases hu
  rw [List.getD_eq_getElem?_getD,hn]
  exact ru
theorem all_getD (bs:List Bool):((List.range bs.length).all fun i=>bs.getD i true)=bs.all id:=by
  rw [Bool.eq_iff_iff,List.all_eq_true,List.all_eq_true]
  constructor
  · intro h b hb
    obtain ⟨i,hi,e⟩:=List.getElem_of_mem hb
    have:=h i (List.mem_range.mpr hi)
    rw [List.getD_eq_getElem?_getD,List.getElem?_eq_getElem hi,e] at this
    exact this
  · intro h i hi
    have hi':=List.mem_range.mp hi
    rw [List.getD_eq_getElem?_getD,List.getElem?_eq_getElem hi']
    exact h _ (List.getElem_mem hi')
theorem call_all_seq (hc:X.calm=true):CallR X (.builtin "all") (fun xs H Q=>∃ (p:Addr) (bs:List Bool),xs=[.ref p]∧SqL X.K H p (bs.map V.bl)∧Q (.bl (bs.all id)) H):=by
  intro pins s σ H xs us Q I r h
  obtain ⟨p,bs,rfl,hq,q⟩:=h
  obtain ⟨u,rfl,rx⟩:=vals1 r
  cases rx
  have hh:X.A.in1.handled=none:=I.ok.hd hc
  obtain ⟨its,rv,pl,hz⟩:=I.list hq
  have hp:p < s.heap.objs.size:=by obtain ⟨o,e,_⟩:=pl.isList; exact Heap.lt_size e
  have hl:=rv.length
  rw [List.length_map] at hl
  refine call_all_walk (wpAny_pyIter_list pl.isList ?_)
  refine ⟨s.heap.objs.size,[s.heap.objs.size,p],[s.heap.objs.size],_,_,_,fun i=>bs.getD i true,rfl,Walks.list hh _ p (Nat.ne_of_lt hp) its.toArray,⟨⟨_,Heap.get?_push_size _ rfl,rfl,rfl⟩,pl.isList.at fun o e=>Heap.get?_push_of_some _ e⟩,?_,?_⟩
  · intro i v s' Q' E' e q'
    have e':its[i]?=some v:=by simpa using e
    rw [bools_at rv e']
    exact wpAny_pure q'
  · intro h' tk k
    have e:((List.range its.toArray.size).all fun i=>bs.getD i true)=bs.all id:=by rw [List.size_toArray,← hl]; exact all_getD bs
    rw [e]
    exact ⟨.bl (bs.all id),H,I.kept fun b ob e=>k b ob (by simp; exact Nat.ne_of_lt (Heap.lt_size e)) (Heap.get?_push_of_some _ e),rfl,q⟩
inductive TyS (H:Hp):V→Value→Prop
  | bl (y:Bool):TyS H (.bl y) (.type "bool")
  | int (i:Int):TyS H (.int i) (.type "int")
  | lst {a:Addr} {xs:List V} (ea:H a=some (.lst xs)):TyS H (.ref a) (.type "list")
  | tup {a:Addr} {xs:List V} (ea:H a=some (.tup xs)):TyS H (.ref a) (.type "tuple")
theorem ty_kit {pins:List (Addr × Obj)} {σ:St} {H:Hp} {s:Shared} {x:V} {u t:Value} (I:Inv X pins σ H s) (rx:RelV x u) (ty:TyS H x t):∃ Hx:Heap→Prop,PySem.W.KitX X.K u t Hx∧Hx s.heap∧u≠.builtin "__main__.__loader__#opaque":=by
  cases ty with
  | bl y=>cases (show u=Value.bool y from rx); exact ⟨_,PySem.W.kitx_bool,True.intro,fun z=>nomatch z⟩
  | int i=>obtain ⟨t,q⟩:=(show ∃ t,u=Value.int i t from rx); cases q; exact ⟨_,PySem.W.kitx_int,True.intro,fun z=>nomatch z⟩
  | @lst a xs ea =>
    cases (show u=Value.ref a from rx)
    obtain ⟨_,_,n,_,h1⟩:=(show ObjOk X.prog X.w H s.heap a (.lst xs) from I.hok a _ ea)
    exact ⟨_,PySem.W.kitx_list,⟨_,h1,rfl⟩,fun z=>nomatch z⟩
  | @tup a xs ea =>
    cases (show u=Value.ref a from rx)
    obtain ⟨_,_,_,p⟩:=(show ObjOk X.prog X.w H s.heap a (.tup xs) from I.hok a _ ea)
    obtain ⟨o,h1,h2,_⟩:=p
    exact ⟨_,PySem.W.kitx_tuple,⟨o,h1,h2⟩,fun z=>nomatch z⟩
theorem call_isi1:CallR X (.builtin "isinstance") (fun xs H Q=>∃ x t T b,xs=[x,.ty T]∧TyS H x t∧PySem.W.kitOne X.K t (.type T)=some b∧Q (.bl b) H):=by
  intro pins s σ H xs us Q I r h
  obtain ⟨x,t,T,b,rfl,ty,e,q⟩:=h
  obtain ⟨u,w',rfl,rx,rt⟩:=vals2 r
  cases rt
  obtain ⟨Hx,Z,p,hx⟩:=ty_kit I rx ty
  exact PySem.W.kia_one Z I.kIn p e hx fun tk=>⟨.bl b,H,I.tok tk,rfl,q⟩
theorem call_isi2:CallR X (.builtin "isinstance") (fun xs H Q=>∃ x t p T U b,xs=[x,.ref p]∧SqT X.K H p [.ty T,.ty U]∧TyS H x t∧PySem.W.kitAny X.K t [.type T,.type U]=some b∧Q (.bl b) H):=by
  intro pins s σ H xs us Q I r h
  obtain ⟨x,t,tp,T,U,b,rfl,hq,ty,e,q⟩:=h
  obtain ⟨u,w',rfl,rx,rt⟩:=vals2 r
  cases rt
  obtain ⟨Hx,Z,p,hx⟩:=ty_kit I rx ty
  obtain ⟨its,rv,pl,hz⟩:=I.tuple hq
  obtain ⟨u1,u2,rfl,r1,r2⟩:=rv.two
  cases r1
  cases r2
  obtain ⟨o,ho,hc,n,hd⟩:=pl
  obtain ⟨oc,odd,odt,osl⟩:=o
  dsimp only at hc hd
  subst hc hd
  exact PySem.W.kia_tup Z I.kIn p ho e hx fun tk=>⟨.bl b,H,I.tok tk,rfl,q⟩
theorem pe_ty {x:Str} {T:String} (hg:Gl X x) (hm:X.mg x=none) (hv:bootBuiltins x=some (.type T)) (hn:x≠"__name__":=by decide) (hd:(x == ("__debug__" : Str))=false:=by decide):PE X (.Name x pos) (tC (.ty T)):=pe_bltn hg hm hv rfl hn hd
theorem pget_list:PGet X (rIxL X.K):=by
  intro pins s σ H x y v u Q I rx ry h
  obtain ⟨p,xs,i,z,rfl,rfl,hq,he,q⟩:=h
  cases rx
  obtain ⟨t,rfl⟩:=ry
  obtain ⟨its,r,pl,hz⟩:=I.list hq
  obtain ⟨j,h1,h2,h3,h4,h5⟩:=atI_get he
  obtain ⟨w,ew,rw'⟩:=r.get h2
  have hl:=r.length
  have hn:=line63
  have fin:EP X pins σ Q w s:=⟨z,H,I,rw',q⟩
  by_cases h0:0≤i
  · have hj:i.toNat=j:=by
      rw [seqIndex_of h0 h5] at h1
      exact Option.some.inj h1
    exact wpAny_getItem_list pl.isList h0 (by omega) (by rw [hj]; simpa using ew) fin
  · have hj:(i + (its.toArray.size:Int)).toNat=j:=by
      rw [seqIndex_neg (by omega) h4] at h1
      rw [List.size_toArray,← hl]
      exact Option.some.inj h1
    exact wpAny_getItem_list_neg pl.isList (by omega) (by rw [List.size_toArray] <;> omega) (by omega) (by rw [hj]; simpa using ew) fin
end
example (K:PySem.W.Frag):PySem.W.kitOne K (.type "bool") (.type "int")=some true:=by rfl
example (K:PySem.W.Frag):PySem.W.kitOne K (.type "int") (.type "bool")=some false:=by rfl
example (K:PySem.W.Frag):PySem.W.kitAny K (.type "tuple") [.type "list",.type "tuple"]=some true:=by rfl
example (K:PySem.W.Frag):PySem.W.kitAny K (.type "str") [.type "list",.type "tuple"]=some false:=by rfl
end L2
namespace L2
open PySem PySem.Spec PyProof.Rows
namespace RF
theorem owner_rev:Manifest.owners.lookup (String.ofList ['d','e','s','r','e','v','e','r'].reverse)=some Manifest.sig_reversed:=by kernel_rfl
theorem slot_rev_next:Slot "reversed" "__next__" "reversed.__next__" :=
  .of (owner:="reversed") (n:="__next__") (by rw [typeLookup_type,builtinLookup_eq_fast]; kernel_rfl) (by decide +kernel) (by decide +kernel) (by decide +kernel)
    (by first | exact .inl (by decide +kernel) | exact .inr (by decide +kernel)) (by rw [isSubtype_type]; kernel_rfl)
theorem slot_rev_init:Slot "reversed" "__init__" "object.__init__" :=
  .of (owner:="object") (n:="__init__") (by rw [typeLookup_type,builtinLookup_eq_fast]; kernel_rfl) (by decide +kernel) (by decide +kernel) (by decide +kernel)
    (by first | exact .inl (by decide +kernel) | exact .inr (by decide +kernel)) (by rw [isSubtype_type]; kernel_rfl)
theorem entry_rev_next:entryFor table "reversed.__next__"=some Builtin.«reversed.__next__»:=entryFor_of_tree (by kernel_rfl)
theorem args_rev_next_1 (a:Value):argsOk "reversed.__next__" ⟨[a],[]⟩:=by
  unfold argsOk; rw [signature?_of (id:="reversed.__next__") (n:=['_','_','t','x','e','n','_','_']) (o:=['d','e','s','r','e','v','e','r']) (by kernel_rfl) owner_rev]; kernel_rfl
theorem slot_rev_iter:Slot "reversed" "__iter__" "reversed.__iter__" :=
  .of (owner:="reversed") (n:="__iter__") (by rw [typeLookup_type,builtinLookup_eq_fast]; kernel_rfl) (by decide +kernel) (by decide +kernel) (by decide +kernel)
    (by first | exact .inl (by decide +kernel) | exact .inr (by decide +kernel)) (by rw [isSubtype_type]; kernel_rfl)
theorem args_rev_iter_1 (a:Value):argsOk "reversed.__iter__" ⟨[a],[]⟩:=by
  unfold argsOk; rw [signature?_of (id:="reversed.__iter__") (n:=['_','_','r','e','t','i','_','_']) (o:=['d','e','s','r','e','v','e','r']) (by kernel_rfl) owner_rev]; kernel_rfl
theorem entry_rev_iter:entryFor table "reversed.__iter__"=some Builtin.«dict_keyiterator.__iter__» :=
  entryFor_alias (id':="dict_keyiterator.__iter__") (by kernel_rfl) (by first | rfl | decide +kernel | (unfold String.splitOn; simp +decide [String.splitOnAux])) (by decide +kernel) (by kernel_rfl)
theorem called_rev:TypeCalled "reversed" "reversed.__new__" "object.__init__" :=
  ⟨by decide +kernel,PySem.F.create_reversed,⟨_,_,PySem.F.mro_reversed⟩,PySem.F.made_reversed,PySem.F.plain_reversed_new,PySem.F.sub_reversed_self,slot_rev_init⟩
theorem slot_tg:Slot "tuple" "__getitem__" "tuple.__getitem__" :=
  .of (owner:="tuple") (n:="__getitem__") (by rw [typeLookup_type,builtinLookup_eq_fast]; kernel_rfl) (by decide +kernel) (by decide +kernel) (by decide +kernel)
    (by first | exact .inl (by decide +kernel) | exact .inr (by decide +kernel)) (by rw [isSubtype_type]; kernel_rfl)
theorem tup_no_rev:typeLookup (.type "tuple") "__reversed__"=pure none:=by rw [typeLookup_type,builtinLookup_eq_fast]; kernel_rfl
end RF
def revT (l:Addr) (i:Int):Obj:={ cls:=.type "reversed",data:=.fields #[.ref l,rawInt i] }
set_option maxHeartbeats 1000000 in
theorem meets_rev_new (l:Addr) (items:Array Value) :
    Meets (Builtin.«reversed.__new__» ⟨[.type "reversed",.ref l],[]⟩) (fun _ R s=>(s.heap.IsTuple l items∧(items.size:Int) < 2 ^ 63) ∧
      R (.ok (.ret (.ref s.heap.objs.size))) { s with heap:=s.heap.push (revT l ((items.size:Int) - 1)),toks:=s.toks + 1 + 1 }) :=
  .of_wp fun prog w A R s h=>by
    obtain ⟨⟨ht,hz⟩,h⟩:=h
    have hT:s.TypeIs (.ref l) "tuple":=ht.typeIs
    unfold Builtin.«reversed.__new__»
    refine wpAny_bind (wpAny_of_eq (newClass_reversed _) ?_)
    try dsimp only
    refine wpAny_bind (wpAny_of_eq (a:=()) (by first | rfl | kernel_rfl) ?_)
    refine wpAny_bind (wpAny_of_eq (a:=()) (by first | rfl | kernel_rfl) ?_)
    try dsimp only
    refine wpAny_bind (wpAny_specialOf hT RF.tup_no_rev ?_)
    try dsimp only
    wp_walk
    refine wpAny_of_eq (a:=false) (by rw [isSubtype_type]; kernel_rfl) ?_
    rw [if_neg Bool.false_ne_true]
    refine wpAny_bind (wpAny_specialOf hT RF.slot_tg.lookup ?_)
    dsimp only
    rw [if_pos (by decide)]
    refine wpAny_pure ?_
    rw [if_neg (by decide)]
    refine wpAny_bind (len_tuple (show IsTup s.heap l items from ht) hz ?_)
    wp_walk
    exact ⟨_,rfl,h⟩
def IsRevT (h:Heap) (a l:Addr) (i:Int):Prop:=∃ o,h.get? a=some o∧o.cls=.type "reversed"∧o.data=.fields #[.ref l,rawInt i]
theorem IsRevT.typeIs {s:Shared} {a l:Addr} {i:Int} (x:IsRevT s.heap a l i):s.TypeIs (.ref a) "reversed":=let ⟨o,ho,hc,_⟩:=x; ⟨o,ho,hc⟩
theorem IsRevT.at {h h':Heap} {a l:Addr} {i:Int} (x:IsRevT h a l i) (e:∀ o,h.get? a=some o→h'.get? a=some o):IsRevT h' a l i:=let ⟨o,ho,r⟩:=x; ⟨o,e _ ho,r⟩
section
variable {prog:Program} {w:World} {A:Around} {E:Value→Shared→Prop} {s:Shared}
theorem next_revT {it l:Addr} {i:Nat} {items:Array Value} {x:Value} {Q:Option Value→Shared→Prop} (hit:IsRevT s.heap it l (i:Int)) (hl:IsTup s.heap l items) (hx:items[i]?=some x) (hz:(items.size:Int) < 2 ^ 63)
    (hQ:∀ h',IsRevT h' it l ((i:Int) - 1)→Heap.SameBut it s.heap h'→Q (some x) { s with heap:=h',toks:=s.toks + 1 }):wpAny (model prog w) A (pyNext (.ref it)) Q E s:=by
  obtain ⟨o,ho,hc,hd⟩:=id hit
  have hT:s.TypeIs (.ref l) "tuple":=(show s.heap.IsTuple l items from hl).typeIs
  unfold pyNext
  refine wpAny_bind (wpAny_attempt (wpAny_callSpecial?_slot (name:=Str.ofString "__next__") hit.typeIs RF.slot_rev_next
    (wpAny_call_entry RF.slot_rev_next hit.typeIs RF.entry_rev_next ?_ (RF.args_rev_next_1 _))))
  unfold Builtin.«reversed.__next__»
  refine wpAny_bind (wpAny_of_eq (a:=(Value.ref it,[])) rfl ?_)
  try dsimp only
  refine wpAny_bind (wpAny_field ho hd (x:=.ref l) rfl ?_)
  refine wpAny_bind (wpAny_field ho hd (x:=rawInt (i:Int)) rfl ?_)
  show wpAny _ _ (if (i:Int) < 0 then _ else _) _ _ s
  rw [if_neg (by omega)]
  refine wpAny_bind (wpAny_specialOf hT RF.slot_tg.lookup ?_)
  rw [if_neg (by decide)]
  have hi:i < items.size:=(Array.getElem?_eq_some_iff.mp hx).1
  refine wpAny_bind (wpAny_mkInt ?_)
  refine wpAny_bind (wpAny_attempt (PyProof.Rows.getItem_tuple (s:={ s with toks:=s.toks + 1 }) (j:=i) (x:=x) hl (by omega) (by omega) (by rw [seqIndex_of (by omega) (by omega)]; rfl) hx ?_))
  refine wpAny_bind (wpAny_field (s:={ s with toks:=s.toks + 1 }) ho hd (x:=rawInt (i:Int)) rfl ?_)
  refine wpAny_bind (wpAny_setField (s:={ s with toks:=s.toks + 1 }) ho hd (by simp) ?_)
  first
  | refine wpAny_pure ⟨x,rfl,wpAny_pure (hQ _ ?_ (Heap.SameBut.update ..))⟩
  | refine wpAny_bind (wpAny_pure (wpAny_pure ⟨x,rfl,wpAny_pure (hQ _ ?_ (Heap.SameBut.update ..))⟩))
  exact ⟨_,Heap.get?_update_self _ ho (Obj.isFreed_of_fields (Obj.data_mapFields hd _)),(Obj.cls_mapFields ..).trans hc,by
    rw [Obj.data_mapFields hd]; simp⟩
theorem end_revT {it l:Addr} {Q:Option Value→Shared→Prop} (hh:A.handled=none) (hit:IsRevT s.heap it l (-1))
    (hQ:∀ h',Heap.ExtBut it s.heap h'→Q none { s with heap:=h' }):wpAny (model prog w) A (pyNext (.ref it)) Q E s:=by
  obtain ⟨o,ho,hc,hd⟩:=id hit
  unfold pyNext
  refine wpAny_bind (wpAny_attempt (wpAny_callSpecial?_slot (name:=Str.ofString "__next__") hit.typeIs RF.slot_rev_next
    (wpAny_call_entry RF.slot_rev_next hit.typeIs RF.entry_rev_next ?_ (RF.args_rev_next_1 _))))
  unfold Builtin.«reversed.__next__»
  refine wpAny_bind (wpAny_of_eq (a:=(Value.ref it,[])) rfl ?_)
  try dsimp only
  refine wpAny_bind (wpAny_field ho hd (x:=.ref l) rfl ?_)
  refine wpAny_bind (wpAny_field ho hd (x:=rawInt (-1)) rfl ?_)
  show wpAny _ _ (if (-1:Int) < 0 then _ else _) _ _ s
  rw [if_pos (by decide)]
  refine wpAny_bind (wpAny_rule ?_)
  show wpAny _ _ ((do setField (.ref it) 1 (rawInt (-1)); setField (.ref it) 0 .none) >>= _) _ _ s
  refine wpAny_bind (wpAny_bind (wpAny_setField ho hd (by simp) ?_))
  have ho1:=Heap.get?_update_self (Obj.mapFields fun fs=>fs.setIfInBounds 1 (rawInt (-1))) ho (Obj.isFreed_of_fields (Obj.data_mapFields hd _))
  have hd1:=Obj.data_mapFields hd (fun fs=>fs.setIfInBounds 1 (rawInt (-1)))
  refine wpAny_setField ho1 hd1 (by simp) ?_
  first
  | show wpAny _ _ (newExc (.type "StopIteration") [] >>= _) _ _ _
  | (refine wpAny_bind ?_; show wpAny _ _ (newExc (.type "StopIteration") [] >>= _) _ _ _)
  refine wpAny_bind ?_
  simp only [newExc,newTuple]
  refine wpAny_bind (wpAny_newObj_type ?_ (by size_fits))
  refine wpAny_bind (m:=firstArgMember _ _) (wpAny_of_eq (a:=Value.none) (by first | rfl | (simp only [firstArgMember]; rfl)) ?_)
  refine wpAny_newObj_type ?_ (by size_fits)
  simp only [raiseNew]
  refine wpAny_bind (wpAny_handled ?_)
  first | rw [show A.in1.handled=none from hh] | rw [hh]
  refine wpAny_bind (wpAny_pure (wpAny_throw ?_))
  refine wpAny_bind (wpAny_isInstance (T:="StopIteration") (b:=true) ⟨_,Heap.get?_push_size _ rfl,rfl⟩ isSubtype_stop ?_)
  refine wpAny_pure (hQ _ ?_)
  refine ((Heap.ExtBut.push (Heap.ExtBut.push ?_ _)) _)
  exact fun b o hb e=>((Heap.SameBut.update ..).2 b hb).trans (((Heap.SameBut.update ..).2 b hb).trans e)
theorem iter_revT {it l:Addr} {i:Int} {Q:Value→Shared→Prop} (hit:IsRevT s.heap it l i) (h:Q (.ref it) s):wpAny (model prog w) A (pyIter (.ref it)) Q E s:=by
  refine wpAny_pyIter_slot hit.typeIs RF.slot_rev_iter (wpAny_call_entry RF.slot_rev_iter hit.typeIs RF.entry_rev_iter ?_ (RF.args_rev_iter_1 _))
  show wpAny _ _ (ret (.ref it)) _ _ s
  exact wpAny_pure ⟨_,rfl,"reversed",_,hit.typeIs,RF.slot_rev_next.lookup,h⟩
theorem call_revT {l:Addr} {items:Array Value} {Q:Value→Shared→Prop} (hl:IsTup s.heap l items) (hz:(items.size:Int) < 2 ^ 63)
    (h:Q (.ref s.heap.objs.size) { s with heap:=s.heap.push (revT l ((items.size:Int) - 1)),toks:=s.toks + 1 + 1 }):wpAny (model prog w) A (call (.type "reversed") [.ref l]) Q E s:=by
  refine callType_new RF.called_rev (by decide) (PySem.F.typeCall_reversed_1 _) (PySem.F.newCall_reversed_1 _) (fun obj=>PySem.F.args_object_init_2 obj _) PySem.F.entry_reversed_new (meets_rev_new l items) ⟨⟨hl,hz⟩,?_⟩
  exact ⟨⟨_,Heap.get?_push_size _ rfl,rfl⟩,h⟩
end
def Itv (K:PySem.W.Frag) (a:Addr) (n:Nat):It :=
  ⟨fun i H=>∃ xs x,SqT K H a xs∧xs.length=n∧i < n∧xs[n - 1 - i]?=some x,fun i H x H'=>H'=H∧∀ xs,SqT K H a xs→xs[n - 1 - i]?=some x,fun i _=>i=n⟩
theorem turn_rev {P:Program} {w:World} {K:PySem.W.Frag} {tg:Expr} (a it:Addr) (n:Nat):Turn P w K tg (Itv K a n) [it] it (fun i h=>IsRevT h it a ((n:Int) - 1 - (i:Int))∧True) where
  mem:=by simp
  obj:=fun i h st b hb=>by
    have e:b=it:=by simpa using hb
    subst e
    obtain ⟨⟨o,e,c,d⟩,_⟩:=st
    exact ⟨o,e,fun v z=>by rw [d] at z; cases z⟩
  keep:=fun i h h' st k=>⟨st.1.at fun o e=>k it (by simp) o e,trivial⟩
  item:=by
    intro X hP hw hK hc i pins s σ H E I hf st hg
    subst hP hw hK
    obtain ⟨xs,x,hq,hlen,hin,hx⟩:=hg
    obtain ⟨its,rv,p,hz⟩:=I.tuple hq
    obtain ⟨u,hu,ru⟩:=rv.get hx
    obtain ⟨f0,f1,f2,f3,f4,f5⟩:=hf it (by simp)
    have hl:=rv.length
    have hn:=line63
    have e1:(n:Int) - 1 - (i:Int)=((n - 1 - i:Nat):Int):=by omega
    have st1:=st.1
    rw [e1] at st1
    refine next_revT st1 p (x:=u) (by simpa using hu) (by rw [List.size_toArray]; omega) fun h' st' sb=>?_
    have I1:Inv X pins σ H { s with heap:=h',toks:=s.toks + 1 }:=I.turned (t':=s.toks + 1) (fun b o hb e=>(sb.2 b hb).trans e) f0 f1 f3 f4 f5
    obtain ⟨o,e,c,d⟩:=id st'
    have e2:((n - 1 - i:Nat):Int) - 1=(n:Int) - 1 - ((i + 1:Nat):Int):=by omega
    rw [e2] at st'
    exact ⟨u,rfl,go_of (s:={ s with heap:=h',toks:=s.toks + 1 }) e c d (by decide) ⟨x,H,I1,ru,⟨rfl,fun ys hy=>by rw [I.tuple_inj hy hq]; exact hx⟩,⟨st',trivial⟩,fun b hb=>(hf b hb).1⟩⟩
  done:=by
    intro X hP hw hK hc i pins s σ H E I hf st hg
    subst hP hw hK
    have hg:i=n:=hg
    obtain ⟨f0,f1,f2,f3,f4,f5⟩:=hf it (by simp)
    have e1:(n:Int) - 1 - (i:Int)=-1:=by omega
    have st1:=st.1
    rw [e1] at st1
    exact end_revT (I.ok.hd hc) st1 fun h' eb=>⟨rfl,I.turned (t':=s.toks) (fun b o hb e=>eb b o hb e) f0 f1 f3 f4 f5⟩
  self:=fun _ _ _ _ _ st h=>iter_revT st.1 h
section
variable {X:Cx} {tg:Expr}
def iRev (K:PySem.W.Frag) (ta:TA):TI:=fun σ H R=>ta σ H fun vs H1=>∃ a xs,vs=[.ref a]∧SqT K H1 a xs∧R (Itv K a xs.length) H1
theorem pi_rev {a:Expr} {ta:TA} {p pos:Pos} (hg:Gl X "reversed") (hm:X.mg "reversed"=none) (ha:PA X [a] ta) (hs:starEach [a] X.env=[(false,eval a X.env)]:=by rfl):PI X tg (.Call (.Name "reversed" p) [a] [] pos) (iRev X.K ta):=by
  intro pins s σ H R I h
  refine Call_ (ld_blt I hg hm boot_reversed (PyProof.Rows.callWith_type1 (thn (ha pos pins s σ H _ I h) fun us s1 ⟨vs,H1,I1,r1,q1⟩=>?_) hs rfl))
  obtain ⟨a,xs,e,hq,q⟩:=q1
  subst e
  obtain ⟨u,rfl,rx⟩:=vals1 r1
  cases rx
  obtain ⟨its,rv,pl,hz⟩:=I1.tuple hq
  have hl:=rv.length
  have hn:=line63
  refine call_revT pl (by rw [List.size_toArray]; omega) ?_
  have st:IsRevT (s1.heap.push (revT a ((its.toArray.size:Int) - 1))) s1.heap.objs.size a ((xs.length:Int) - 1 - ((0:Nat):Int)):=by
    refine ⟨_,Heap.get?_push_size _ rfl,rfl,?_⟩
    show Data.fields #[Value.ref a,rawInt ((its.toArray.size:Int) - 1)]=_
    rw [List.size_toArray,hl]
    congr 3
    simp
  refine iter_revT (s:={ s1 with heap:=s1.heap.push (revT a ((its.toArray.size:Int) - 1)),toks:=s1.toks + 1 + 1 }) st ?_
  refine ⟨s1.heap.objs.size,[s1.heap.objs.size],_,_,H1,rfl,I1.kept fun b o e=>Heap.get?_push_of_some _ e,turn_rev a _ xs.length,⟨st,trivial⟩,fun b hb=>?_,q⟩
  have e:b=s1.heap.objs.size:=by simpa using hb
  subst e
  exact I1.fpOk (Nat.le_refl _) (I1.hok.fresh (Nat.le_refl _))
end
theorem for_rev {K:PySem.W.Frag} {a:Addr} {xs:List V} {g:TG} {tb:TS} {D:Ends} {σ:St} {H:Hp} (Pv:Nat→St→Hp→Prop) (h0:Pv 0 σ H) (hl:∀ i σ H,i≤xs.length→Pv i σ H→SqT K H a xs)
    (hs:∀ i x σ H,i < xs.length→xs[xs.length - 1 - i]?=some x→Pv i σ H→g x σ H fun σ2 H2=>tb { D with nx:=Pv (i + 1),ct:=Pv (i + 1),bk:=D.nx } σ2 H2) (hd:∀ σ H,Pv xs.length σ H→D.nx σ H) :
    ∃ W:Nat→Nat→St→Hp→Prop,(∃ m,W 0 m σ H)∧∀ i m σ H,W i m σ H →
      ((Itv K a xs.length).stop i H∧D.nx σ H)∨((Itv K a xs.length).go i H∧∃ N:St→Hp→Prop,(∀ σ' H',N σ' H'→∃ m',m' < m∧W (i + 1) m' σ' H')∧∀ x H',(Itv K a xs.length).yld i H x H'→g x σ H' fun σ2 H2=>tb { D with nx:=N,ct:=N,bk:=D.nx } σ2 H2):=by
  refine ⟨fun i m σ H=>m=xs.length - i∧i≤xs.length∧Pv i σ H,⟨xs.length,by simp,Nat.zero_le _,h0⟩,?_⟩
  rintro i m σ H ⟨rfl,hi,p⟩
  have q:=hl i σ H hi p
  by_cases hlt:i < xs.length
  · refine .inr ⟨⟨xs,xs[xs.length - 1 - i]'(by omega),q,rfl,hlt,List.getElem?_eq_getElem _⟩,Pv (i + 1),fun σ' H' p'=>⟨xs.length - (i + 1),by omega,rfl,hlt,p'⟩,fun x H' y=>?_⟩
    obtain ⟨e,y⟩:=y
    subst e
    exact hs i x σ _ hlt (y xs q) p
  · have e:i=xs.length:=by omega
    subst e
    exact .inl ⟨rfl,hd σ H p⟩
end L2
namespace L2
open PySem PySem.Spec PyProof.Rows
def clStep (cells:List (Str × Addr)) (cs:List (Str × Addr)) (p:Str × NameKind):List (Str × Addr) :=
  if (p.2 == NameKind.free)=true then (match cells.lookup p.1 with | some a=>(p.1,a)::cs | none=>cs) else cs
def clOf (sc:Scope) (cells:List (Str × Addr)):List (Str × Addr):=sc.names.foldl (clStep cells) []
theorem closure_eq {sc:Scope} {env:Env} (h:∀ p ∈ sc.names,p.2=.free→∃ a,env.cells.lookup p.1=some a):closureFor sc env=pure (clOf sc env.cells):=by
  have key:∀ (l:List (Str × NameKind)) (cs:List (Str × Addr)),(∀ p ∈ l,p.2=.free→∃ a,env.cells.lookup p.1=some a) →
      (forIn l cs fun (x:Str × NameKind) (r:List (Str × Addr))=>match x with
        | (name,kind)=>if (kind == NameKind.free)=true then (do let a ← cellOf env name; pure (ForInStep.yield ((name,a)::r))) else (pure (ForInStep.yield r):Sem (ForInStep (List (Str × Addr)))))=(pure (l.foldl (clStep env.cells) cs):Sem (List (Str × Addr))):=by
    intro l
    induction l with
    | nil=>intro cs _; rfl
    | cons p r ih =>
      intro cs hp
      obtain ⟨n,k⟩:=p
      rw [List.forIn_cons,List.foldl_cons]
      by_cases hk:(k == NameKind.free)=true
      · obtain ⟨a,ea⟩:=hp (n,k) List.mem_cons_self (by simpa using hk)
        have e1:clStep env.cells cs (n,k)=(n,a)::cs:=by unfold clStep; rw [if_pos hk]; dsimp only; dsimp only at ea; rw [ea]
        rw [e1]
        dsimp only at ea ⊢
        rw [if_pos hk]
        unfold cellOf
        rw [ea]
        simp only [pure_bind]
        exact ih _ fun q hq=>hp q (List.mem_cons_of_mem _ hq)
      · have e1:clStep env.cells cs (n,k)=cs:=by unfold clStep; rw [if_neg hk]
        rw [e1]
        dsimp only
        rw [if_neg hk]
        simp only [pure_bind]
        exact ih _ fun q hq=>hp q (List.mem_cons_of_mem _ hq)
  unfold closureFor clOf
  rw [← key sc.names [] h]
  simp only [bind_pure]
theorem clOf_sub (sc:Scope) (cells:List (Str × Addr)) {y:Str} {c:Addr}:(clOf sc cells).lookup y=some c→cells.lookup y=some c:=by
  have key:∀ (l:List (Str × NameKind)) (cs:List (Str × Addr)),(∀ y c,cs.lookup y=some c→cells.lookup y=some c)→∀ y c,(l.foldl (clStep cells) cs).lookup y=some c→cells.lookup y=some c:=by
    intro l
    induction l with
    | nil=>intro cs h; exact h
    | cons p r ih =>
      intro cs h
      rw [List.foldl_cons]
      refine ih _ ?_
      intro y c e
      unfold clStep at e
      split at e
      · split at e
        · rename_i a ea
          rw [List.lookup_cons] at e
          cases q:y == p.1 with
          | true =>
            rw [q] at e
            cases e
            rw [eq_of_beq q]; exact ea
          | false=>rw [q] at e; exact h y c e
        · exact h y c e
      · exact h y c e
  exact key sc.names [] (fun _ _ h=>by cases h) y c
theorem clOf_has (sc:Scope) (cells:List (Str × Addr)) (h:∀ p ∈ sc.names,p.2=.free→∃ a,cells.lookup p.1=some a) {y:Str} (hy:(y,NameKind.free) ∈ sc.names):∃ c,(clOf sc cells).lookup y=some c:=by
  have mono:∀ (l:List (Str × NameKind)) (cs:List (Str × Addr)),(∃ c,cs.lookup y=some c)→∃ c,(l.foldl (clStep cells) cs).lookup y=some c:=by
    intro l
    induction l with
    | nil=>intro cs h; exact h
    | cons p r ih =>
      intro cs hc
      rw [List.foldl_cons]
      refine ih _ ?_
      unfold clStep
      split
      · split
        · rw [List.lookup_cons]
          cases q:y == p.1 with
          | true=>exact ⟨_,rfl⟩
          | false=>exact hc
        · exact hc
      · exact hc
  have key:∀ (l:List (Str × NameKind)) (cs:List (Str × Addr)),(∀ p ∈ l,p.2=.free→∃ a,cells.lookup p.1=some a)→(y,NameKind.free) ∈ l→∃ c,(l.foldl (clStep cells) cs).lookup y=some c:=by
    intro l
    induction l with
    | nil=>intro cs _ hm; cases hm
    | cons p r ih =>
      intro cs hp hm
      rw [List.foldl_cons]
      rcases List.mem_cons.mp hm with e | hm
      · subst e
        obtain ⟨a,ea⟩:=hp (y,.free) List.mem_cons_self rfl
        refine mono r _ ⟨a,?_⟩
        unfold clStep
        rw [if_pos (show (NameKind.free == NameKind.free)=true by decide)]
        dsimp only at ea ⊢
        rw [ea,List.lookup_cons,beq_self_eq_true]
      · exact ih _ (fun q hq=>hp q (List.mem_cons_of_mem _ hq)) hm
  exact key sc.names [] h hy
def cxLC (X:Cx) (x:Str) (scope:Scope) (C:Addr) (fp:List Addr) (s:Shared) (H:Hp):Cx where
  prog:=X.prog
  w:=X.w
  K:=X.K
  mg:=X.mg
  base:=X.base
  A:=X.A
  N:=x::X.N
  s₀:=s
  H₀:=H
  env:=compEnvC scope (clOf scope X.env.cells) C X.env
  outer:=X.stack
  stack:=X.stack
  ex:=fp
  fn:=fun _=>false
  calm:=X.calm
  pn:=[]
  xe:=fun _ _=>False
structure LcScope (X:Cx) (x:Str) (sc:Scope):Prop where
  kind:sc.kind=.function
  nocell:∀ p ∈ sc.names,p.2≠.cell
  loc:sc.names.lookup x=some .local
  names:∀ p ∈ sc.names,p.2=.local→sc.names.lookup p.1=some .local
  apart:∀ y ∈ X.N,sc.names.lookup y≠some .local
  nd:X.N.Nodup
  free:∀ p ∈ sc.names,p.2=.free→X.env.kindOf p.1=some .cell∨X.env.kindOf p.1=some .free
section
variable {X:Cx} {pins:List (Addr × Obj)} {σ:St} {H:Hp} {s:Shared} {x:Str} {sc:Scope} {C:Addr} {fp:List Addr}
theorem relabel_look {env:Env}:∀ {names:List (Str × NameKind)} {y:Str} {k:NameKind},(names.map fun (n,k)=>if (k == NameKind.free && env.scope.kind == .function && env.kindOf n == some .cell) then (n,NameKind.cell) else (n,k)).lookup y=some k →
    ∃ k',names.lookup y=some k'∧(k=k'∨(k'=.free∧k=.cell))
  | [],_,_,h=>by simp at h
  | (n,k0)::r,y,k,h=>by
    have ih:=@relabel_look env r y k
    have h:List.lookup y ((if (k0 == NameKind.free && env.scope.kind == .function && env.kindOf n == some .cell)=true then (n,NameKind.cell) else (n,k0))::(r.map _))=some k:=h
    cases hx:y == n with
    | true =>
      refine ⟨k0,by rw [List.lookup_cons,hx],?_⟩
      by_cases hc:(k0 == NameKind.free && env.scope.kind == .function && env.kindOf n == some .cell)=true
      · rw [if_pos hc,List.lookup_cons,hx] at h
        cases h
        simp only [Bool.and_eq_true,beq_iff_eq] at hc
        exact .inr ⟨hc.1.1,rfl⟩
      · rw [if_neg hc,List.lookup_cons,hx] at h
        cases h
        exact .inl rfl
    | false =>
      by_cases hc:(k0 == NameKind.free && env.scope.kind == .function && env.kindOf n == some .cell)=true
      · rw [if_pos hc,List.lookup_cons,hx] at h
        rw [List.lookup_cons,hx]; exact ih h
      · rw [if_neg hc,List.lookup_cons,hx] at h
        rw [List.lookup_cons,hx]; exact ih h
theorem LcScope.cells (S:LcScope X x sc) (ok:X.Ok):∀ p ∈ sc.names,p.2=.free→∃ a,X.env.cells.lookup p.1=some a:=fun p hp e=>ok.has p.1 (S.free p hp e)
theorem Inv.okLC (I:Inv X pins σ H s) (S:LcScope X x sc) (hC:s.heap.objs.size≤C) (hf:∀ b ∈ fp,FpOk X pins H b) (hlt:∀ b ∈ fp,b < s.heap.objs.size):(cxLC X x sc C fp s H).Ok where
  mod:=I.ok.mod
  kind:=S.kind
  glob:=I.ok.glob
  blt:=I.ok.blt
  above:=hC
  inj:=fun y z c e1 e2=>I.ok.inj y z c (clOf_sub sc X.env.cells e1) (clOf_sub sc X.env.cells e2)
  has:=fun y hy=>by
    have hy':(relabel sc X.env).names.lookup y=some .cell∨(relabel sc X.env).names.lookup y=some .free:=hy
    have fr:sc.names.lookup y=some .free:=by
      rcases hy' with h | h
      · obtain ⟨k',e,q⟩:=relabel_look h
        rcases q with q | ⟨q,_⟩
        · subst q; exact absurd rfl (S.nocell _ (PySem.mem_of_lookup e))
        · rw [e,q]
      · obtain ⟨k',e,q⟩:=relabel_look h
        rcases q with q | ⟨_,q⟩
        · rw [e,← q]
        · cases q
    exact clOf_has sc X.env.cells (S.cells I.ok) (PySem.mem_of_lookup fr)
  cab:=fun y c e=>by cases (show false=true from e)
  hd:=I.ok.hd
  frames:=I.ok.frames
  stk:=.inl rfl
  exf:=fun b hb=>⟨Nat.ne_of_lt (Nat.lt_of_lt_of_le (hlt b hb) hC),fun y c e=>(hf b hb).2.2.2.2.1 y c (clOf_sub sc X.env.cells e)⟩
  bs:=I.bs
  bsz:=Nat.le_trans I.ok.bsz I.sz
  noex:=fun b o e hb=>by
    rcases (hf b hb).2.2.2.1 with q | q
    · exact I.ok.noex b o e q
    · exact absurd (Nat.lt_of_lt_of_le (Heap.lt_size e) (Nat.le_trans I.ok.bsz q)) (Nat.lt_irrefl _)
  exfs:=fun b hb z=>by
    rcases List.mem_cons.mp (I.stkSub b z) with q | q
    · exact (hf b hb).2.1 q
    · exact (hf b hb).2.2.1 q
  funs:=I.stack
  frf:=I.stkFree
theorem Inv.startLC {D:Addr} {h1:Heap} {m:Str→Option Value} {tk:Nat} (I:Inv X pins σ H s) (S:LcScope X x sc) (hf:∀ b ∈ fp,FpOk X pins H b) (hlt:∀ b ∈ fp,b < s.heap.objs.size)
    (hD:D=s.heap.objs.size) (hC:s.heap.objs.size≤C) (hDC:C≠D) (hk:∀ b o,s.heap.get? b=some o→h1.get? b=some o) (hn:h1.Ns C m) (hl:h1.get? D=some { cls:=.type "list",data:=.seq ([]:List Value).toArray 0 }) :
    Inv (cxLC X x sc C fp s H) [] (none::σ) (upd H D (.lst [])) { s with heap:=h1,toks:=tk }:=by
  have hDle:s.heap.objs.size≤D:=by rw [hD]; exact Nat.le_refl _
  have cells:∀ y c,(clOf sc X.env.cells).lookup y=some c→c < s.heap.objs.size:=fun y c e=>by
    obtain ⟨v,q⟩:=I.cell y c (clOf_sub sc X.env.cells e)
    exact q.lt
  refine ⟨I.okLC S hC hf hlt,rfl,I.bare,Un.laid hk hDle (I.hok.fresh hDle),⟨m,hn,fun i y v e1 e2 e3=>?_⟩,fun y c e=>?_,?_,fun y c e=>?_,fun p hp=>absurd (show p ∈ ([]:List (Addr × Obj)) from hp) (by simp),I.hok.laid hk hDle ⟨Nat.zero_le _,[],0,.nil,hl⟩,?_⟩
  · cases i with
    | zero=>cases (show some (none:Option V)=some (some v) from e2)
    | succ j =>
      have e1':X.N[j]?=some y:=e1
      have e2':σ[j]?=some (some v):=e2
      have e3':Vis (relabel sc X.env) y:=e3
      have ny:sc.names.lookup y≠some .local:=S.apart y (List.mem_of_getElem? e1')
      have fr:sc.names.lookup y=some .free∧((relabel sc X.env).names.lookup y=some .cell∨(relabel sc X.env).names.lookup y=some .free):=by
        rcases e3' with h | h | h
        · obtain ⟨k',e,q⟩:=relabel_look h
          rcases q with q | ⟨_,q⟩
          · subst q; exact absurd e ny
          · cases q
        · obtain ⟨k',e,q⟩:=relabel_look h
          rcases q with q | ⟨q,_⟩
          · subst q; exact absurd rfl (S.nocell _ (PySem.mem_of_lookup e))
          · exact ⟨by rw [e,q],.inl h⟩
        · obtain ⟨k',e,q⟩:=relabel_look h
          rcases q with q | ⟨_,q⟩
          · exact ⟨by rw [e,← q],.inr h⟩
          · cases q
      have ok:=S.free (y,.free) (PySem.mem_of_lookup fr.1) rfl
      obtain ⟨m0,hn0,hl0⟩:=I.loc
      obtain ⟨u,r,l⟩:=hl0 j y v e1' e2' (.inr ok)
      refine ⟨u,r,.inr ⟨fr.2,?_⟩⟩
      rcases l with ⟨k,_⟩ | ⟨_,c,ec,z⟩
      · rcases ok with q | q <;> (rw [show X.env.kindOf y=some .local from k] at q; cases q)
      · obtain ⟨c',ec'⟩:=clOf_has sc X.env.cells (S.cells I.ok) (PySem.mem_of_lookup fr.1)
        have:=clOf_sub sc X.env.cells ec'
        rw [ec] at this
        cases this
        obtain ⟨o,ho,hd⟩:=z
        exact ⟨c,ec',o,hk _ _ ho,hd⟩
  · obtain ⟨v,o,ho,hd⟩:=I.cell y c (clOf_sub sc X.env.cells e)
    exact ⟨v,o,hk _ _ ho,hd⟩
  · show upd H D (.lst []) C=none
    rw [upd_ne hDC]
    exact I.hok.fresh hC
  · show upd H D (.lst []) c=none
    rw [upd_ne (Nat.ne_of_lt (Nat.lt_of_lt_of_le (cells y c e) hDle))]
    exact I.freeC y c (clOf_sub sc X.env.cells e)
  · show (none::σ).length=(x::X.N).length
    rw [List.length_cons,List.length_cons,I.len]
theorem Inv.butC {h':Heap} (I:Inv X pins σ H s) (hs:Heap.SameBut C s.heap h') (hC:X.s₀.heap.objs.size≤C) (hn:H C=none) (hL:C≠X.env.locals) (hc:∀ y c,X.env.cells.lookup y=some c→c≠C) (hp:∀ p ∈ X.pn++pins,p.1≠C) :
    Inv X pins σ H { s with heap:=h' }:=I.turned (t':=s.toks) (fun b o hb e=>(hs.2 b hb).trans e) hn hL (.inr hC) hc hp
theorem Inv.endLC {s2:Shared} {H2:Hp} {st:St} {pl:List (Addr × Obj)} (I:Inv X pins σ H s) (J:Inv (cxLC X x sc C fp s H) pl st H2 s2) (hf:∀ b ∈ fp,FpOk X pins H b):Inv X pins σ H2 s2 :=
  I.call' (ch:=fp) J.os J.base J.hok J.bare fun b hb=>⟨(hf b hb).2.2.2.1,(hf b hb).2.1,(hf b hb).2.2.2.2.1,(hf b hb).2.2.2.2.2⟩
end
def PTs (X:Cx) (ifs:List Expr) (t:TT):Prop :=
  ∀ (pins:List (Addr × Obj)) (s:Shared) (σ:St) (H:Hp) (Q:Bool→Hp→Prop),Inv X pins σ H s→t σ H Q →
    wpAny (model X.prog X.w) X.A (forIn ifs true fun c r=>if r=true then do let ok ← isTrue c X.env (eval c X.env); pure (ForInStep.yield ok) else pure (ForInStep.yield r)) (TP X pins σ Q) X.xe s
def tYes:TT:=fun _ H Q=>Q true H
theorem pts_nil {X:Cx}:PTs X [] tYes:=fun _ _ _ H _ I h=>wpAny_tests_nil ⟨H,I,h⟩
theorem pts_one {X:Cx} {c:Expr} {t:TT} (h:PT X c t):PTs X [c] t:=fun pins s σ H Q I q=>wpAny_tests_one (h pins s σ H Q I q)
theorem compLoop_own {prog:Program} {w:World} {A:Around} {R:Result→Shared→Prop} {s:Shared} {elt target iter:Expr} {ifs:List Expr} {scope:Scope} {pos:Pos} {it acc:Value} {env:Env} (I:Nat→Shared→Prop)
    (turn:∀ n s,I n s→wpAny (model prog w) A (pyNext it) (fun r s1=>match r with
      | none=>R (.ok .next) s1
      | some v=>wpAny (model prog w) A (letOwnedTupleGo target it v) (fun _ s1=>wpAny (model prog w) A (assign target env v) (fun _ s2 =>
          wpAny (model prog w) A (forIn ifs true fun c r=>if r=true then do let ok ← isTrue c env (eval c env); pure (ForInStep.yield ok) else pure (ForInStep.yield r)) (fun ok s3 =>
            if ok=true then wpAny (model prog w) A (eval elt env) (fun x s4 =>
              wpAny (model prog w) A (call (.builtin "list.append") [acc,x]) (fun _ s5=>∃ m,m < n∧I m s5) (fun _ _=>False) s4) (fun _ _=>False) s3
            else ∃ m,m < n∧I m s3) (fun _ _=>False) s2) (fun _ _=>False) s1) (fun _ _=>False) s1) (fun _ _=>False) s)
    (n:Nat) (h:I n s) :
    codeAny (model prog w) A (.compLoop (.ListComp elt [⟨target,iter,ifs,0⟩] scope pos) 0 it acc env) R s:=by
  refine codeAny_loop rfl I (fun n s hI=>?_) n h
  show wpAny _ A ((compTurn (.ListComp elt [⟨target,iter,ifs,0⟩] scope pos) 0 it acc env).onRaise (fun x=>do noteFrame x env; theTreesLotGoes x)) _ _ s
  refine wpAny_noted ?_
  rw [compTurn_list]
  refine wpAny_bind (wpAny_standAt (wpAny_bind (wpAny_mono (turn n s hI) (fun r s1 h1=>?_) fun _ _ h'=>h'.elim)))
  cases r with
  | none=>exact wpAny_pure h1
  | some v =>
    refine wpAny_bind (wpAny_mono h1 (fun _ s1 h1=>?_) fun _ _ h'=>h'.elim)
    refine wpAny_bind (wpAny_mono h1 (fun _ s2 h2=>wpAny_bind (wpAny_mono h2 (fun ok s3 h3=>?_) fun _ _ h'=>h'.elim)) fun _ _ h'=>h'.elim)
    cases ok with
    | false=>exact wpAny_pure ⟨rfl,h3⟩
    | true =>
      exact wpAny_bind (wpAny_bind (wpAny_mono h3 (fun x s4 h4=>wpAny_bind (wpAny_mono h4 (fun _ s5 h5=>wpAny_pure (wpAny_pure ⟨rfl,h5⟩)) fun _ _ h'=>h'.elim)) fun _ _ h'=>h'.elim))
def lcGo (tc:TT) (te:TE) (σ:St) (J:It) (D:Addr) (Fin:Hp→Prop) (H:Hp):Prop :=
  ∃ W:Nat→Nat→List V→Hp→Prop,(∃ m,W 0 m [] (upd H D (.lst [])))∧∀ i m ys H,W i m ys H→H D=some (.lst ys) ∧
    ((J.stop i H∧Fin H)∨(J.go i H∧∀ x H',J.yld i H x H'→tc (some x::σ) H' fun b H2=>if b=true then te (some x::σ) H2 fun y H3=>H3 D=some (.lst ys)∧ys.length < sizeLine∧∃ m',m' < m∧W (i + 1) m' (ys++[y]) (upd H3 D (.lst (ys++[y])))
      else ∃ m',m' < m∧W (i + 1) m' ys H2))
def tLC (wi:TI) (tc:TT) (te:TE):TE:=fun σ H Q=>wi σ H fun J H1=>∀ D,H1 D=none→lcGo tc te σ J D (fun H2=>Q (.ref D) H2) H1
section
variable {X:Cx} {x:Str} {sc:Scope} {elt iter:Expr} {ifs:List Expr} {px pos:Pos} {wi:TI} {tc:TT} {te:TE}
theorem lc_block {pins:List (Addr × Obj)} {σ:St} {H:Hp} {s:Shared} {it:Addr} {fp:List Addr} {tn:Nat→Heap→Prop} {J:It} {Fin:Addr→Hp→Prop} {RR:Value→Addr→Result→Shared→Prop} {E:Value→Shared→Prop}
    (hc:X.calm=true) (S:LcScope X x sc) (I:Inv X pins σ H s) (T:Turn X.prog X.w X.K (.Name x px) J fp it tn) (st:tn 0 s.heap) (hf:∀ b ∈ fp,FpOk X pins H b)
    (ht:∀ C s0 H0,PTs (cxLC X x sc C fp s0 H0) ifs tc) (he:∀ C s0 H0,PE (cxLC X x sc C fp s0 H0) elt te) (q:∀ D,H D=none→lcGo tc te σ J D (Fin D) H)
    (hR:∀ D C H2 s2 m,s.heap.objs.size≤C→Inv X pins σ H2 s2→H2 C=none→s2.heap.Ns C m→Fin D H2→RR (.ref D) C (.ok .next) s2) :
    wpAny (model X.prog X.w) X.A (newList []) (fun acc s3=>wpAny (model X.prog X.w) X.A (newFunctionEnv sc X.env.globals (clOf sc X.env.cells) [] X.env.qual none .none (some X.env)) (fun cenv s4 =>
      codeAny (model X.prog X.w) X.A (.compStart (.ListComp elt [⟨.Name x px,iter,ifs,0⟩] sc pos) 0 (.ref it) acc { cenv with scope:=relabel sc X.env }) (RR acc cenv.locals) s4) E s3) E s:=by
  have hlt:∀ b ∈ fp,b < s.heap.objs.size:=fun b hb=>by
    obtain ⟨o,e,_⟩:=T.obj 0 _ st b hb
    exact Heap.lt_size e
  refine wpAny_newObj_type (wpAny_newFunctionEnv S.nocell (by intro y hy; simp at hy) (fun h1 hns1 hsb1=>?_) S.kind)
  dsimp only at hns1 hsb1 ⊢
  generalize hH2:s.heap.push { cls:=.type "list",dict:=none,data:=.seq ([]:List Value).toArray }=G at hns1 hsb1 ⊢
  have hC:G.objs.size=s.heap.objs.size + 1:=by rw [← hH2,Heap.size_push]
  have hCle:s.heap.objs.size≤G.objs.size:=by rw [hC]; exact Nat.le_succ _
  have hDC:G.objs.size≠s.heap.objs.size:=by rw [hC]; exact Nat.succ_ne_self _
  have old:∀ b o,s.heap.get? b=some o→h1.get? b=some o:=fun b o e=>hsb1.extBut b o (Nat.ne_of_lt (Nat.lt_of_lt_of_le (Heap.lt_size e) hCle)) (Heap.get?_push_of_some _ (hH2 ▸ Heap.get?_push_of_some _ e))
  have hacc:h1.get? s.heap.objs.size=some { cls:=.type "list",data:=.seq ([]:List Value).toArray 0 }:=hsb1.extBut _ _ (Ne.symm hDC) (Heap.get?_push_of_some _ (hH2 ▸ Heap.get?_push_size _ rfl))
  have hDn:H s.heap.objs.size=none:=I.hok.fresh (Nat.le_refl _)
  obtain ⟨W,⟨m0,w0⟩,turn⟩:=q s.heap.objs.size hDn
  have st1:tn 0 h1:=T.keep _ _ _ st fun b _ o e=>old b o e
  have I1:=fun tk=>I.startLC (tk:=tk) S hf hlt rfl hCle hDC old hns1 hacc
  have fr1:∀ b ∈ fp,upd H s.heap.objs.size (.lst []) b=none:=fun b hb=>by rw [upd_ne (Nat.ne_of_lt (hlt b hb))]; exact (hf b hb).1
  have loop:∀ s3:Shared,s3={ s with heap:=h1,toks:=s.toks + ([]:List (Str × Value)).length } →
      codeAny (model X.prog X.w) X.A (.compLoop (.ListComp elt [⟨.Name x px,iter,ifs,0⟩] sc pos) 0 (.ref it) (.ref s.heap.objs.size) (compEnvC sc (clOf sc X.env.cells) G.objs.size X.env))
        (RR (.ref s.heap.objs.size) G.objs.size) s3:=by
    rintro s3 rfl
    have fpk:∀ {H':Hp},(∀ b ∈ fp,H' b=none)→∀ b ∈ fp,FpOk (cxLC X x sc G.objs.size fp s H) [] H' b:=fun hn b hb =>
      ⟨hn b hb,Nat.ne_of_lt (Nat.lt_of_lt_of_le (hlt b hb) hCle),(I.okLC (C:=G.objs.size) S hCle hf hlt).exfs b hb,.inl hb,fun y c e=>(hf b hb).2.2.2.2.1 y c (clOf_sub sc X.env.cells e),fun p hp=>absurd (show p ∈ ([]:List (Addr × Obj)) from hp) (by simp)⟩
    refine compLoop_own (fun n s'=>∃ i w ys H',Inv (cxLC X x sc G.objs.size fp s H) [] (w::σ) H' s'∧tn i s'.heap∧(∀ b ∈ fp,H' b=none)∧W i n ys H') ?_ m0 ⟨0,none,[],_,I1 _,st1,fr1,w0⟩
    rintro n s3 ⟨i,v0,ys,H3,I3,st3,fr3,w3⟩
    obtain ⟨hD3,turn3⟩:=turn i n ys H3 w3
    rcases turn3 with ⟨stop,fin⟩ | ⟨go,step⟩
    · refine thn (T.done (cxLC X x sc G.objs.size fp s H) rfl rfl rfl hc i [] s3 _ H3 _ I3 (fpk fr3) st3 stop) fun r s4 ⟨hr,I4⟩=>?_
      subst hr
      obtain ⟨m4,hn4,_⟩:=I4.loc
      exact hR _ _ H3 s4 m4 hCle (I.endLC I4 hf) I4.free hn4 fin
    · refine thn (T.item (cxLC X x sc G.objs.size fp s H) rfl rfl rfl hc i [] s3 _ H3 _ I3 (fpk fr3) st3 go) fun r s4 ⟨u,hr,h4⟩=>?_
      subst hr
      refine thn h4 fun _ s5 ⟨y,H5,I5,r5,y5,st5,fr5⟩=>?_
      have I5':=I5.pinned (fpk fr5) (T.obj _ _ st5)
      have hN:(x::X.N).Nodup:=List.nodup_cons.mpr ⟨fun hm=>S.apart x hm S.loc,S.nd⟩
      have pg:PG (cxLC X x sc G.objs.size fp s H) (.Name x px) (gName 0):=pg_name hN rfl (.inl (lookup_relabel_local S.loc)) (.inr (lookup_relabel_local S.loc))
      refine thn (pg _ s5 _ H5 y u (fun σ6 H6=>σ6=some y::σ∧H6=H5) I5' r5 ⟨rfl,rfl⟩) fun _ s6 ⟨σ6,H6,I6,e6,e6'⟩=>?_
      subst e6; subst e6'
      refine thn (ht G.objs.size s H _ s6 _ H6 _ I6 (step y H6 y5)) fun ok s7 ⟨H7,I7,q7⟩=>?_
      have again:∀ {H8:Hp} {s8:Shared} {zs:List V},Inv (cxLC X x sc G.objs.size fp s H) ([]++pinsAt fp s5.heap) (some y::σ) H8 s8→(∃ m',m' < n∧W (i + 1) m' zs H8)→∃ m,m < n∧∃ i w ys H',Inv (cxLC X x sc G.objs.size fp s H) [] (w::σ) H' s8∧tn i s8.heap∧(∀ b ∈ fp,H' b=none)∧W i m ys H':=fun {H8 s8 zs} I8 ⟨m',hm,w8⟩=>by
        refine ⟨m',hm,i + 1,some y,zs,H8,I8.unpinned,T.keep _ _ _ st5 fun b hb o e=>(I8.pin (b,o) (List.mem_append_right _ (List.mem_append_right _ (mem_pinsAt hb e)))).1,fun b hb=>?_,w8⟩
        obtain ⟨o,e,d⟩:=T.obj _ _ st5 b hb
        exact (I8.pin (b,o) (List.mem_append_right _ (List.mem_append_right _ (mem_pinsAt hb e)))).2.1
      cases ok with
      | false =>
        rw [if_neg Bool.false_ne_true] at q7 ⊢
        exact again I7 q7
      | true =>
        rw [if_pos rfl] at q7 ⊢
        refine thn (he G.objs.size s H _ s7 _ H7 _ I7 q7) fun z s8 ⟨zv,H8,I8,r8,hD8,hz8,w8⟩=>?_
        refine thn (mt_append _ s8 _ H8 (.ref s.heap.objs.size) [zv] (.ref s.heap.objs.size) [z] (fun _ H9=>∃ m',m' < n∧W (i + 1) m' (ys++[zv]) H9) I8 rfl (.cons r8 .nil) ⟨_,ys,zv,rfl,rfl,hD8,hz8,w8⟩) fun _ s9 ⟨_,H9,I9,_,w9⟩=>?_
        exact again I9 w9
  exact codeAny_compStart_list (loop _ rfl) (T.self X.A 0 _ _ _ st1 (loop _ rfl))
theorem pe_lc (hc:X.calm=true) (S:LcScope X x sc) (hi:PI X (.Name x px) iter wi) (ht:∀ C fp s0 H0,PTs (cxLC X x sc C fp s0 H0) ifs tc) (he:∀ C fp s0 H0,PE (cxLC X x sc C fp s0 H0) elt te)
    (hs:∀ v,foldedSetIterable iter X.env v=pure v:=by intro _; rfl):PE X (.ListComp elt [⟨.Name x px,iter,ifs,0⟩] sc pos) (tLC wi tc te):=by
  refine ⟨?_⟩
  intro pins s σ H Q I h
  rw [eval_ListComp]
  refine wpAny_comprehension_free (use:=none) rfl hs (closure_eq (S.cells I.ok)) S.kind S.names (thn (hi pins s σ H _ I h) fun v s1 h1=>thn h1 fun itv s2 h2=>?_)
  obtain ⟨it,fp,tn,J,H2,e,I2,T,st2,f2,q2⟩:=h2
  subst e
  refine lc_block (RR:=fun acc C=>compPost (model X.prog X.w) X.A X.xe none (EP X pins σ Q) acc C) (Fin:=fun D H3=>Q (.ref D) H3) hc S I2 T st2 f2 (fun C s0 H0=>ht C fp s0 H0) (fun C s0 H0=>he C fp s0 H0) q2 ?_
  intro D C H3 s3 m hC I3 hn hN q3
  refine ⟨m,hN,fun h' hs'=>⟨.ref D,H3,I3.butC hs' (Nat.le_trans I2.sz hC) hn (Nat.ne_of_gt (Nat.lt_of_lt_of_le I2.lt hC)) (fun y c e=>?_) (fun p hp=>?_),rfl,q3⟩⟩
  · obtain ⟨v,z⟩:=I2.cell y c e
    exact Nat.ne_of_lt (Nat.lt_of_lt_of_le z.lt hC)
  · exact Nat.ne_of_lt (Nat.lt_of_lt_of_le (Heap.lt_size (I2.pin p hp).1) hC)
theorem ps_setLC {i:Nat} {y:Str} {py spos:Pos} (hc:X.calm=true) (hi':X.N[i]?=some y) (hy:X.env.scope.names.lookup y=some .local) (S:LcScope X x sc) (hi:PI X (.Name x px) iter wi) (ht:∀ C fp s0 H0,PTs (cxLC X x sc C fp s0 H0) ifs tc) (he:∀ C fp s0 H0,PE (cxLC X x sc C fp s0 H0) elt te)
    (hsw:swapsWith (.ListComp elt [⟨.Name x px,iter,ifs,0⟩] sc pos) (some (.Name y py)) spos.line X.env=pure true:=by rfl) (hs:∀ v,foldedSetIterable iter X.env v=pure v:=by intro _; rfl) :
    PS X (.Assign [.Name y py] (.ListComp elt [⟨.Name x px,iter,ifs,0⟩] sc pos) spos) (tAsg (tLC wi tc te) (gName i)):=by
  refine ⟨?_⟩
  intro pins s σ H Dn I h
  rw [exec_Assign_Name_used _ _ _ _ hsw]
  refine wpAny_bind (wpAny_standAt (wpAny_bind ?_))
  show wpAny _ X.A (do let _ ← comprehension (.ListComp elt [⟨.Name x px,iter,ifs,0⟩] sc pos) sc X.env _ (newList []) false (eval iter X.env) (some (assign (.Name y py) X.env))) _ _ s
  refine wpAny_bind (wpAny_mono (wpAny_comprehension_free (use:=some (assign (.Name y py) X.env)) (Q:=fun _ s'=>SP X pins Dn .next s') rfl hs (closure_eq (S.cells I.ok)) S.kind S.names
    (thn (hi pins s σ H _ I h) fun v s1 h1=>thn h1 fun itv s2 h2=>?_)) (fun _ s' hq=>wpAny_pure (wpAny_pure hq)) fun _ _ e=>e)
  obtain ⟨it,fp,tn,J,H2,e,I2,T,st2,f2,q2⟩:=h2
  subst e
  refine lc_block (RR:=fun acc C=>compPost (model X.prog X.w) X.A X.xe (some (assign (.Name y py) X.env)) (fun _ s'=>SP X pins Dn .next s') acc C) (Fin:=fun D H3=>gName i (.ref D) σ H3 Dn.nx) hc S I2 T st2 f2 (fun C s0 H0=>ht C fp s0 H0) (fun C s0 H0=>he C fp s0 H0) q2 ?_
  intro D C H3 s3 m hC I3 hn hN q3
  show wpAny _ _ (assign (.Name y py) X.env (.ref D)) _ _ s3
  have cne:∀ y c,X.env.cells.lookup y=some c→c≠C:=fun y c e=>by
    obtain ⟨v,z⟩:=I2.cell y c e
    exact Nat.ne_of_lt (Nat.lt_of_lt_of_le z.lt hC)
  refine wpAny_assign_Name (store_ok2 I3 S.nd hi' (.inl hy) (show RelV (.ref D) (.ref D) from rfl) (fun s4 I4 ⟨a,hs4,ha⟩=>?_) (.inr hy))
  have haC:C≠a:=by
    rcases ha with e | e
    · rw [e]; exact Nat.ne_of_gt (Nat.lt_of_lt_of_le I2.lt hC)
    · exact Ne.symm (cne y a e)
  refine ⟨m,hN.sameBut hs4 haC,fun h' hs'=>⟨_,H3,I4.butC hs' (Nat.le_trans I2.sz hC) hn (Nat.ne_of_gt (Nat.lt_of_lt_of_le I2.lt hC)) cne (fun p hp=>?_),q3⟩⟩
  exact Nat.ne_of_lt (Nat.lt_of_lt_of_le (Heap.lt_size (I2.pin p hp).1) hC)
end
end L2
namespace L2
open PySem PySem.Spec PyProof.Rows
structure Fn (K:PySem.W.Frag) (mg:Str→Option Value) (x:Str) (st:Stmt) (ps:List Str) (f:Addr) (fd:FuncData):Prop where
  fn:Fun K x x st f fd
  m:mg x=some (.ref f)
  b:Binds K fd ps []
structure Fm (K:PySem.W.Frag) (C:Addr) (x qual:Str) (st:Stmt) (ps:List Str) (f:Addr) (fd:FuncData):Prop where
  fn:Fun K x qual st f fd
  m:Meth K C x f
  b:Binds K fd ps []
def Can (P:Program) (w:World) (K:PySem.W.Frag) (mg:Str→Option Value) (base:Heap) (k:Nat) (x:Str) (ps:List Str) (sp:Sp):Prop :=
  ∃ f fd,FnOk P w K mg base CX0 k f fd ps sp∧mg x=some (.ref f)∧PySem.W.keepIn K (.ref f)=true∧Binds K fd ps []
def CanM (P:Program) (w:World) (K:PySem.W.Frag) (mg:Str→Option Value) (base:Heap) (C:Addr) (k:Nat) (x:Str) (ps:List Str) (sp:Sp):Prop :=
  ∃ f fd,FnOk P w K mg base CX0 k f fd ps sp∧Meth K C x f∧Binds K fd ps []
section
variable {P:Program} {w:World} {K:PySem.W.Frag} {mg:Str→Option Value} {base:Heap}
theorem fn_can {x:Str} {st:Stmt} {N ps:List Str} {k:Nat} {sp:Sp} (h:∃ f fd,Fn K mg x st ps f fd) (S:FnScope N ps (defScope st)) (len:∀ vs H Q E,sp vs H Q E→vs.length=ps.length)
    (hbody:∀ (f:Addr) (cdv:Value) (A:Around) (outer:List Env) (s:Shared) (H:Hp) (vs:List V) (Q:VK) (E:XK),Room k (A.deeper (envOfC x (defScope st) s.heap.objs.size f cdv))→sp vs H Q E →
      ∃ t,PSs (cxOf CX0 P w K mg base N x (defScope st) f cdv A outer s H E).nox (defBody st) t∧t { nx:=fun _ H'=>Q .non H',rt:=Q } (start N vs) H):Can P w K mg base (k + 1) x ps sp:=by
  obtain ⟨f,fd,F⟩:=h
  exact ⟨f,fd,F.fn.ok S len fun cdv A outer s H vs Q E hr h=>hbody f cdv A outer s H vs Q E hr h,F.m,F.fn.kp,F.b⟩
theorem fm_can {C:Addr} {x qual:Str} {st:Stmt} {N ps:List Str} {k:Nat} {sp:Sp} (h:∃ f fd,Fm K C x qual st ps f fd) (S:FnScope N ps (defScope st)) (len:∀ vs H Q E,sp vs H Q E→vs.length=ps.length)
    (hbody:∀ (f:Addr) (cdv:Value) (A:Around) (outer:List Env) (s:Shared) (H:Hp) (vs:List V) (Q:VK) (E:XK),Room k (A.deeper (envOfC qual (defScope st) s.heap.objs.size f cdv))→sp vs H Q E →
      ∃ t,PSs (cxOf CX0 P w K mg base N qual (defScope st) f cdv A outer s H E).nox (defBody st) t∧t { nx:=fun _ H'=>Q .non H',rt:=Q } (start N vs) H):CanM P w K mg base C (k + 1) x ps sp:=by
  obtain ⟨f,fd,F⟩:=h
  exact ⟨f,fd,F.fn.ok S len fun cdv A outer s H vs Q E hr h=>hbody f cdv A outer s H vs Q E hr h,F.m,F.b⟩
end
section
variable {X:Cx} {k k':Nat} {x m:Str} {ps:List Str} {sp:Sp} {p pos apos:Pos} {e o:Expr} {es:List Expr} {ta:TE} {t:TA} {C:Addr}
theorem pe_can (h:Can X.prog X.w X.K X.mg X.base k x ps sp) (hr:Room k' X.A) (ha:PA X (e::es) t) (hg:Gl X x:=by rfl) (hk:k≤k':=by decide) (hdb:(x == ("__debug__" : Str))=false:=by decide)
    (hs:starEach (e::es) X.env=(false,eval e X.env)::starEach es X.env:=by rfl) (hpl:(backTo pos (starEach es X.env)).any (·.1)=false:=by rfl):PE X (.Call (.Name x p) (e::es) [] pos) (tCall sp [] E0 t):=by
  obtain ⟨f,fd,F,hm,kp,b⟩:=h
  exact pe_call F (hr.mono hk) hg hm kp b .nil pass0 ha hdb hs hpl
theorem pe_canM {pl:Sem Bool} (ho:PE X o ta) (c:Cls X.K C) (h:CanM X.prog X.w X.K X.mg X.base C k m ps sp) (hr:Room k' X.A) (ha:PA X (e::es) t) (hk:k≤k':=by decide)
    (hst:starEach (e::es) X.env=(false,eval e X.env)::starEach es X.env:=by rfl) (hpl:(backTo pos (starEach es X.env)).any (·.1)=false:=by rfl)
    (ht:eval (.Call (.Attribute o m apos) (e::es) [] pos) X.env=(do
      let ov ← eval o X.env
      standAt apos.atName
      let (f,first) ← holding [ov] (getMethod ov m pl)
      callWith pos f first (backTo pos (starEach (e::es) X.env)) (backToKw pos (keywordEach [] X.env))):=by rfl):PE X (.Call (.Attribute o m apos) (e::es) [] pos) (tMeth C m sp [] E0 ta t):=by
  obtain ⟨f,fd,F,hm,b⟩:=h
  exact pe_meth (pl:=pl) ho c hm F (hr.mono hk) b .nil pass0 ha hst hpl ht
theorem pe_canM0 {pl:Sem Bool} (ho:PE X o ta) (c:Cls X.K C) (h:CanM X.prog X.w X.K X.mg X.base C k m ps sp) (hr:Room k' X.A) (hk:k≤k':=by decide)
    (ht:eval (.Call (.Attribute o m apos) [] [] pos) X.env=(do
      let ov ← eval o X.env
      standAt apos.atName
      let (f,first) ← holding [ov] (getMethod ov m pl)
      callWith pos f first (backTo pos (starEach [] X.env)) (backToKw pos (keywordEach [] X.env))):=by rfl):PE X (.Call (.Attribute o m apos) [] [] pos) (tMeth C m sp [] E0 ta tNil):=by
  obtain ⟨f,fd,F,hm,b⟩:=h
  exact pe_meth0 (pl:=pl) ho c hm F (hr.mono hk) b .nil pass0 ht
theorem pe_gi {n:Int} (h:∃ t,X.mg x=some (.int n t)) (hg:Gl X x:=by rfl) (hd:(x == ("__debug__" : Str))=false:=by decide):PE X (.Name x pos) (tC (.int n)):=by
  obtain ⟨t,h⟩:=h
  exact pe_glob hg h ⟨t,rfl⟩ hd
theorem pe_b {id:String} {r:List V→Hp→VK→Prop} (hc:CallR X (.builtin id) r) (hm:X.mg x=none) (hv:bootBuiltins x=some (.builtin id)) (ha:PA X (e::es) t) (hg:Gl X x:=by rfl) (hn:x≠"__name__":=by decide) (hdb:(x == ("__debug__" : Str))=false:=by decide)
    (he:starEach (e::es) X.env=(false,eval e X.env)::starEach es X.env:=by rfl) (hpl:(backTo pos (starEach es X.env)).any (·.1)=false:=by rfl):PE X (.Call (.Name x p) (e::es) [] pos) (tCB r t):=pe_callB hc hg hm hv ha hn hdb he hpl
theorem pe_t {T:String} {r:List V→Hp→VK→Prop} (hc:CallR X (.type T) r) (hm:X.mg x=none) (hv:bootBuiltins x=some (.type T)) (ha:PA X (e::es) t) (hg:Gl X x:=by rfl) (hn:x≠"__name__":=by decide) (hdb:(x == ("__debug__" : Str))=false:=by decide)
    (he:starEach (e::es) X.env=(false,eval e X.env)::starEach es X.env:=by rfl) (hpl:(backTo pos (starEach es X.env)).any (·.1)=false:=by rfl):PE X (.Call (.Name x p) (e::es) [] pos) (tCB r t):=pe_callTy hc hg hm hv ha hn hdb he hpl
theorem pa1 {a:Expr} {ta:TE} (ha:PE X a ta) (hs:starEach [a] X.env=(false,eval a X.env)::starEach [] X.env:=by rfl):PA X [a] (tCons ta tNil):=pa_cons ha pa_nil hs
theorem pa2 {a b:Expr} {ta tb:TE} (ha:PE X a ta) (hb:PE X b tb) (hs:starEach [a,b] X.env=(false,eval a X.env)::starEach [b] X.env:=by rfl) (hs2:starEach [b] X.env=(false,eval b X.env)::starEach [] X.env:=by rfl):PA X [a,b] (tCons ta (tCons tb tNil)):=pa_cons ha (pa_cons hb pa_nil hs2) hs
theorem pa3 {a b c:Expr} {ta tb tc:TE} (ha:PE X a ta) (hb:PE X b tb) (hc:PE X c tc) (hs:starEach [a,b,c] X.env=(false,eval a X.env)::starEach [b,c] X.env:=by rfl) (hs1:starEach [b,c] X.env=(false,eval b X.env)::starEach [c] X.env:=by rfl) (hs2:starEach [c] X.env=(false,eval c X.env)::starEach [] X.env:=by rfl):PA X [a,b,c] (tCons ta (tCons tb (tCons tc tNil))):=pa_cons ha (pa_cons hb (pa_cons hc pa_nil hs2) hs1) hs
end
def But (p:Addr) (H H':Hp):Prop:=∀ b o,H b=some o→b≠p→H' b=some o
theorem But.trans {p:Addr} {H H1 H2:Hp} (a:But p H H1) (b:But p H1 H2):But p H H2:=fun c o h n=>b c o (a c o h n) n
theorem Same.but {p:Addr} {H H':Hp} (a:Same H H'):But p H H':=fun b o h _=>a b o h
theorem Same.upd {H:Hp} {p:Addr} {o:HO} (h:H p=none):Same H (upd H p o):=fun b u e=>by rw [upd_ne (ne_of_none e h)]; exact e
theorem Same.sqT {K:PySem.W.Frag} {H H':Hp} {a:Addr} {xs:List V} (e:Same H H') (h:SqT K H a xs):SqT K H' a xs:=by
  rcases h with (h | ⟨o,h⟩) | h
  · exact .inl (.inl (e _ _ h))
  · exact .inl (.inr ⟨o,e _ _ h⟩)
  · exact .inr h
end L2
namespace L2
open PySem PySem.Spec PyProof.Rows
theorem ul1:∀ {us:List Value},us.length=1→∃ a,us=[a]
  | [a],_=>⟨a,rfl⟩
theorem ul2 {us:List Value} (h:us.length=2):∃ a b,us=[a,b]:=by
  cases us with
  | nil=>cases h
  | cons a r=>obtain ⟨b,rfl⟩:=ul1 (Nat.succ.inj h); exact ⟨a,b,rfl⟩
theorem ul3 {us:List Value} (h:us.length=3):∃ a b c,us=[a,b,c]:=by
  cases us with
  | nil=>cases h
  | cons a r=>obtain ⟨b,c,rfl⟩:=ul2 (Nat.succ.inj h); exact ⟨a,b,c,rfl⟩
theorem ul4 {us:List Value} (h:us.length=4):∃ a b c d,us=[a,b,c,d]:=by
  cases us with
  | nil=>cases h
  | cons a r=>obtain ⟨b,c,d,rfl⟩:=ul3 (Nat.succ.inj h); exact ⟨a,b,c,d,rfl⟩
theorem ul5 {us:List Value} (h:us.length=5):∃ a b c d e,us=[a,b,c,d,e]:=by
  cases us with
  | nil=>cases h
  | cons a r=>obtain ⟨b,c,d,e,rfl⟩:=ul4 (Nat.succ.inj h); exact ⟨a,b,c,d,e,rfl⟩
section
variable {K:PySem.W.Frag} {x qual p q r s t u:Str} {st:Stmt} {g:Addr} {fd:FuncData}
abbrev fnQ (x qual:Str) (st:Stmt) (kV doc pm:Value) (an:Option Addr) (cdv ct:Value):FuncData:=PySem.W.fnOf x qual (defArgs st) (defBody st) (defScope st) .none kV doc pm an cdv ct
theorem Fun.b0 (F:Fun K x qual st g fd) (h:∀ kV doc pm an cdv ct,bindArgs (fnQ x qual st kV doc pm an cdv ct) ⟨[],[]⟩=pure []):Binds K fd [] []:=F.binds fun kV doc pm an cdv ct us hl=>by
  obtain rfl:us=[]:=List.eq_nil_of_length_eq_zero hl
  exact h kV doc pm an cdv ct
theorem Fun.b1 (F:Fun K x qual st g fd) (h:∀ kV doc pm an cdv ct a,bindArgs (fnQ x qual st kV doc pm an cdv ct) ⟨[a],[]⟩=pure [(p,a)]):Binds K fd [p] []:=F.binds fun kV doc pm an cdv ct us hl=>by
  obtain ⟨a,rfl⟩:=ul1 hl
  exact h kV doc pm an cdv ct a
theorem Fun.b2 (F:Fun K x qual st g fd) (h:∀ kV doc pm an cdv ct a b,bindArgs (fnQ x qual st kV doc pm an cdv ct) ⟨[a,b],[]⟩=pure [(p,a),(q,b)]):Binds K fd [p,q] []:=F.binds fun kV doc pm an cdv ct us hl=>by
  obtain ⟨a,b,rfl⟩:=ul2 hl
  exact h kV doc pm an cdv ct a b
theorem Fun.b3 (F:Fun K x qual st g fd) (h:∀ kV doc pm an cdv ct a b c,bindArgs (fnQ x qual st kV doc pm an cdv ct) ⟨[a,b,c],[]⟩=pure [(p,a),(q,b),(r,c)]):Binds K fd [p,q,r] []:=F.binds fun kV doc pm an cdv ct us hl=>by
  obtain ⟨a,b,c,rfl⟩:=ul3 hl
  exact h kV doc pm an cdv ct a b c
theorem Fun.b4 (F:Fun K x qual st g fd) (h:∀ kV doc pm an cdv ct a b c d,bindArgs (fnQ x qual st kV doc pm an cdv ct) ⟨[a,b,c,d],[]⟩=pure [(p,a),(q,b),(r,c),(s,d)]):Binds K fd [p,q,r,s] []:=F.binds fun kV doc pm an cdv ct us hl=>by
  obtain ⟨a,b,c,d,rfl⟩:=ul4 hl
  exact h kV doc pm an cdv ct a b c d
theorem Fun.b5 (F:Fun K x qual st g fd) (h:∀ kV doc pm an cdv ct a b c d e,bindArgs (fnQ x qual st kV doc pm an cdv ct) ⟨[a,b,c,d,e],[]⟩=pure [(p,a),(q,b),(r,c),(s,d),(t,e)]):Binds K fd [p,q,r,s,t] []:=F.binds fun kV doc pm an cdv ct us hl=>by
  obtain ⟨a,b,c,d,e,rfl⟩:=ul5 hl
  exact h kV doc pm an cdv ct a b c d e
end
end L2
namespace L2
open PySem PySem.Spec PyProof.Rows
section
variable {P:Program} {w:World} {H H':Hp} {h h':Heap} {a:Addr} {o:HO}
theorem ObjOk.there (x:ObjOk P w H h a o):∃ ob,h.get? a=some ob:=by
  cases o with
  | lst xs=>obtain ⟨_,_,_,_,e⟩:=x; exact ⟨_,e⟩
  | tup xs=>obtain ⟨_,_,_,ob,e,_⟩:=x; exact ⟨_,e⟩
  | dK kvs=>obtain ⟨_,_,_,_,o,_,_,e,_⟩:=x; exact ⟨_,e⟩
  | dT kvs=>obtain ⟨_,_,_,_,o,_,_,e,_⟩:=x; exact ⟨_,e⟩
  | set S n=>obtain ⟨o,_,_,_,e,_⟩:=x; exact ⟨_,e⟩
  | ins C dx fs=>obtain ⟨_,_,_,e,_⟩:=x; exact ⟨_,e⟩
  | own y=>exact x
  | xd fs=>obtain ⟨_,⟨_,_,_,e,_⟩,_⟩:=x; exact ⟨_,e⟩
  | rng lo hi=>obtain ⟨_,_,_,e⟩:=x; exact ⟨_,e⟩
  | frz ob u=>obtain ⟨e,_⟩:=x; exact ⟨_,e⟩
  | tbl ps=>exact ⟨_,x⟩
  | met f y=>exact ⟨_,x⟩
  | ext φ=>obtain ⟨_,⟨_,e⟩,_⟩:=x; exact ⟨_,e⟩
theorem HOk.none (x:HOk P w H h) (e:h.get? a=.none):H a=.none:=by
  cases q:H a with
  | none=>rfl
  | some u=>obtain ⟨_,e'⟩:=(x a u q).there; rw [e] at e'; cases e'
theorem funs_un {base:Heap} {fs:List Addr} (u:Un fs [] H H' h h'):∀ {l:List Env},(∀ b ∈ frs l,b ∈ fs∧H b=.none)→h.FunFrames base l→h'.FunFrames base l
  | [],_,_=>trivial
  | env::r,hs,hl=>by
    obtain ⟨hk,⟨L,o,hf,hn,ho,hd⟩,hr⟩:=hl
    have hL:=hs L (by unfold frs; rw [List.filterMap_cons,hf]; exact List.mem_cons_self)
    obtain ⟨sl,e⟩:=u.slot L o ho hL.2 hL.1 (by simp)
    exact ⟨hk,⟨L,_,hf,hn,e,hd⟩,funs_un u (fun b hb=>hs b (by unfold frs; rw [List.filterMap_cons,hf]; exact List.mem_cons_of_mem _ hb)) hr⟩
end
inductive XRec (g h:Heap) (H':Hp) (a:Addr) (cls:Value):Bool→Prop
  | new (oe:Obj) (vs:Array Value) (he:h.get? a=some oe) (hc:oe.cls=cls) (hd:oe.data=.fields vs) (hdi:oe.dict=none) (hn:H' a=none) (hg:g.get? a=none) (h1:vs[1]?=some .none):XRec g h H' a cls true
  | old (oe:Obj) (vs:Array Value) (he:h.get? a=some oe) (hc:oe.cls=cls) (hd:oe.data=.fields vs) (hdi:oe.dict=none) (hn:H' a=none) (hg:g.get? a=none) (T:Addr) (oT:Obj) (ts:Array Value) (h1:vs[1]?=some (.ref T)) (ht:T≠a) (hT:h.get? T=some oT)
      (hdT:oT.data=.fields ts) (h3:ts[3]?=some .none) (hnT:H' T=none) (hgT:g.get? T=none):XRec g h H' a cls false
theorem XRec.base {g h:Heap} {H':Hp} {a:Addr} {cls:Value} {b:Bool} (x:XRec g h H' a cls b):H' a=none∧g.get? a=none:=by
  cases x with
  | new oe vs he hc hd hdi hn hg=>exact ⟨hn,hg⟩
  | old oe vs he hc hd hdi hn hg=>exact ⟨hn,hg⟩
structure EX (P:Program) (w:World) (st:List Env) (H:Hp) (s:Shared) (new:Bool) (cls:Value) (a:Addr) (H':Hp) (s':Shared):Prop where
  os:s'.os=s.os
  bare:AllBare s'.gens
  un:Un (frs st) [] H H' s.heap s'.heap
  hok:HOk P w H' s'.heap
  rc:XRec s.heap s'.heap H' a cls new
def CX1 (P:Program) (w:World):CXT:=fun outer H s E e s'=>∃ a cls H',e=.ref a∧EX P w outer H s false cls a H' s'∧E cls none H'
section
variable {X:Cx} {pins:List (Addr × Obj)} {σ:St} {H H':Hp} {s s₁:Shared} {cls:Value} {a:Addr} {new:Bool}
theorem EX.inv (I:Inv X pins σ H s) (x:EX X.prog X.w X.stack H s new cls a H' s₁):Inv X pins σ H' s₁:=I.call' x.os x.un x.hok x.bare fun b hb=>by simp at hb
structure Noted (fs:List Addr) (e:Addr) (oe:Obj) (h h₃:Heap):Prop where
  stay:∀ b o,b ∉ fs→b≠e→h.get? b=some o→h₃.get? b=some o
  slot:∀ b ∈ fs,∀ o,h.get? b=some o→∃ sl,h₃.get? b=some { o with slots:=sl }
  tr:∃ T oT ts,h.objs.size≤T∧h₃.get? e=some (oe.mapFields fun z=>z.setIfInBounds 1 (.ref T))∧h₃.get? T=some oT∧oT.data=.fields ts∧ts[3]?=some .none
theorem x_entry {M:Model} {A:Around} {E:Value→Shared→Prop} {s:Shared} {base:Heap} {env:Env} {outer:List Env} {L e:Addr} {oe:Obj} {vs:Array Value} {head:Value} {hadNext:Bool} {Q:Unit→Shared→Prop}
    (hfr:A.frames=some (env::outer)) (hl:s.heap.FunFrames base (env::outer)) (hf:env.frame=some L) (he:s.heap.get? e=some oe) (hd:oe.data=.fields vs) (hsz:1 < vs.size) (h:∀ h₃,Noted (frs (env::outer)) e oe s.heap h₃→Q () { s with heap:=h₃ }) :
    wpAny M A (do let a ← frameOf env; let pl ← entryPlaceOf L hadNext; let b ← EntryCells.newEntry head a .none (rawInt L) .none pl; setField (.ref e) 1 b) (fun _ s'=>wpAny M A (setFlight (.ref e) none) Q E s') E s:=by
  have hene:e ∉ frs (env::outer):=fun hm=>by
    obtain ⟨_,o,ho,hnf⟩:=hl.mem hm
    rw [he] at ho; cases ho; exact hnf vs hd
  refine wpAny_bind (wpAny_frameOf_fun hfr hl hf fun h₁ hs₁=>wpAny_bind (wpAny_entryPlaceOf fun pl hpl=>?_))
  unfold EntryCells.newEntry newFields
  refine wpAny_bind (wpAny_newObj_type ?_ (hpl.sizeOk5 _ _ _ _ _))
  generalize htb:({ cls:=.type "traceback",dict:=none,data:=.fields ([head,.ref L,.none,rawInt L,.none]++(if pl.isEmpty then List.replicate 6 Value.none else pl)).toArray }:Obj)=tb
  have he₁:h₁.get? e=some oe:=(hs₁.2.1 e hene).trans he
  have he₂:(h₁.push tb).get? e=some oe:=Heap.get?_push_of_some _ he₁
  refine wpAny_setField he₂ hd hsz ?_
  have nTe:h₁.objs.size≠e:=Nat.ne_of_gt (Heap.lt_size he₁)
  have hd₃:=Obj.data_mapFields hd fun z=>z.setIfInBounds 1 (Value.ref h₁.objs.size)
  have he₃:=Heap.get?_update_self (Obj.mapFields fun z=>z.setIfInBounds 1 (Value.ref h₁.objs.size)) he₂ (Obj.isFreed_of_fields hd₃)
  have dtb:tb.data=.fields ([head,.ref L,.none,rawInt L,.none]++(if pl.isEmpty then List.replicate 6 Value.none else pl)).toArray:=by rw [← htb]
  have htbf:tb.isFreed=false:=Obj.isFreed_of_fields dtb
  have hT₃:=(Heap.get?_update_other (h₁.push tb) (Obj.mapFields fun z=>z.setIfInBounds 1 (Value.ref h₁.objs.size)) (Ne.symm nTe)).trans (Heap.get?_push_size h₁ htbf)
  unfold setFlight
  refine wpAny_bind (wpAny_field he₃ hd₃ (x:=.ref h₁.objs.size) (by simp [hsz]) ?_)
  rw [if_pos (show (Value.ref h₁.objs.size != Value.none)=true by simp)]
  have sz5:3 < ([head,.ref L,.none,rawInt L,.none]++(if pl.isEmpty then List.replicate 6 Value.none else pl)).toArray.size:=by
    rw [List.size_toArray,List.length_append]
    exact Nat.lt_of_lt_of_le (by decide:3 < 5) (Nat.le_add_right _ _)
  refine wpAny_setField hT₃ dtb sz5 (h _ ⟨fun b o hb hbe hbo=>?_,fun b hb o hbo=>?_,?_⟩)
  · have hb1:h₁.get? b=some o:=(hs₁.2.1 b hb).trans hbo
    rw [Heap.get?_update_other _ _ (Nat.ne_of_gt (Heap.lt_size hb1)),Heap.get?_update_other _ _ (Ne.symm hbe)]
    exact Heap.get?_push_of_some _ hb1
  · obtain ⟨sl,hb1⟩:=hs₁.2.2 b o hbo
    refine ⟨sl,?_⟩
    rw [Heap.get?_update_other _ _ (Nat.ne_of_gt (Heap.lt_size hb1)),Heap.get?_update_other _ _ (fun q=>hene (by rw [q]; exact hb))]
    exact Heap.get?_push_of_some _ hb1
  · refine ⟨h₁.objs.size,_,_,Nat.le_of_eq hs₁.1.symm,?_,Heap.get?_update_self _ hT₃ (Obj.isFreed_of_fields (Obj.data_mapFields dtb _)),Obj.data_mapFields dtb _,?_⟩
    · rw [Heap.get?_update_other _ _ nTe]; exact he₃
    · rw [Array.getElem?_setIfInBounds_self_of_lt sz5]
      rfl
theorem EX.fin (I:Inv X pins σ H s) (x:EX X.prog X.w X.stack H s new cls a H' s₁) {oe:Obj} {vs:Array Value} (he:s₁.heap.get? a=some oe) (hc:oe.cls=cls) (hd:oe.data=.fields vs) (hdi:oe.dict=none) (hv:1 < vs.size) {T0:Option Addr}
    (hT0:∀ T,T0=some T→H' T=none∧s.heap.get? T=none) {g h₃:Heap} (hg:∀ b o,(∀ T,T0=some T→b≠T)→s₁.heap.get? b=some o→g.get? b=some o) (hgf:∀ b ∈ frs X.stack,∀ o,s₁.heap.get? b=some o→g.get? b=some o) (hgs:s₁.heap.objs.size≤g.objs.size)
    (hge:g.get? a=some oe) (nt:Noted (frs X.stack) a oe g h₃):EX X.prog X.w X.stack H s false cls a H' { s₁ with heap:=h₃ }:=by
  obtain ⟨stay,slot,T,oT,ts,hTs,heT,hT,hdT,h3⟩:=nt
  obtain ⟨b1,b2⟩:=x.rc.base
  have frm:∀ b ∈ frs X.stack,∀ o,s.heap.get? b=some o→∃ sl,h₃.get? b=some { o with slots:=sl }:=fun b hb o e=>by
    obtain ⟨sl,e1⟩:=x.un.slot b o e (I.stkFree b hb) hb (by simp)
    obtain ⟨sl',e2⟩:=slot b hb _ (hgf b hb _ e1)
    exact ⟨sl',e2⟩
  have frn:∀ b ∈ frs X.stack,H' b=none:=fun b hb=>by
    obtain ⟨_,o,ho,_⟩:=I.stack.mem hb
    exact x.un.free b o ho (I.stkFree b hb) (by simp)
  refine ⟨x.os,x.bare,⟨fun b o e n hb _=>?_,fun b o e n hb _=>frm b hb o e,x.un.free,fun b o e _=>?_,x.un.tups,x.un.frzs,x.un.tbls⟩,fun b ob e=>?_,?_⟩
  · refine stay b o hb (fun q=>by rw [q,b2] at e; cases e) (hg b o (fun T hT q=>by rw [q,(hT0 T hT).2] at e; cases e) (x.un.keep b o e n hb (by simp)))
  · by_cases hm:b ∈ frs X.stack
    · obtain ⟨sl,e2⟩:=frm b hm o e
      exact ⟨_,e2⟩
    · obtain ⟨o',e1⟩:=x.un.there b o e (by simp)
      exact ⟨o',stay b o' hm (fun q=>by rw [q,b2] at e; cases e) (hg b o' (fun T hT q=>by rw [q,(hT0 T hT).2] at e; cases e) e1)⟩
  · refine (x.hok b ob e).stay (fun c u hc q=>?_) (fun _ q=>q) fun _ _ q=>q
    have tr:∃ v,H' c=some v:=by
      rcases hc with rfl | hc
      · exact ⟨_,e⟩
      · exact ⟨_,hc⟩
    obtain ⟨v,tr⟩:=tr
    refine stay c u (fun hm=>?_) (fun z=>?_) (hg c u (fun T hT z=>?_) q)
    · rw [frn c hm] at tr; cases tr
    · rw [z,b1] at tr; cases tr
    · rw [z,(hT0 T hT).1] at tr; cases tr
  · have hTn:s₁.heap.get? T=none:=Heap.get?_none_of_le (Nat.le_trans hgs hTs)
    have hTa:T≠a:=fun z=>by rw [z,he] at hTn; cases hTn
    refine .old _ _ heT ((Obj.cls_mapFields ..).trans hc) (Obj.data_mapFields hd _) ?_ b1 b2 T oT ts (by simp [hv]) hTa hT hdT h3 (x.hok.none hTn) ?_
    · obtain ⟨c0,d0,dt,sl⟩:=oe
      dsimp only at hd hdi
      subst hd hdi
      rfl
    · cases q:s.heap.get? T with
      | none=>rfl
      | some o=>obtain ⟨o',e2⟩:=x.un.there T o q (by simp); rw [hTn] at e2; cases e2
theorem note_ex {M:Model} {A:Around} {Q:Unit→Shared→Prop} {E:Value→Shared→Prop} (I:Inv X pins σ H s) (hst:X.stack=X.env::X.outer) (hf:X.env.frame=some X.env.locals) (hA:A.frames=some X.stack) (x:EX X.prog X.w X.stack H s new cls a H' s₁)
    (h:∀ h₃,EX X.prog X.w X.stack H s false cls a H' { s₁ with heap:=h₃ }→Q () { s₁ with heap:=h₃ }):wpAny M A (noteFrame (.ref a) X.env) (fun _ s₂=>wpAny M A (setFlight (.ref a) none) Q E s₂) E s₁:=by
  have hfun:s₁.heap.FunFrames X.base X.stack:=funs_un x.un (fun b hb=>⟨hb,I.stkFree b hb⟩) I.stack
  have rc:=x.rc
  cases rc with
  | new oe vs he hc hd hdi hn hg h1 =>
    unfold noteFrame
    simp only [hf]
    refine wpAny_bind (wpAny_field he hd h1 ?_)
    rw [if_neg (by decide)]
    rw [hst] at hA hfun
    refine x_entry hA hfun hf he hd (Array.getElem?_eq_some_iff.mp h1).1 fun h₃ nt=>h h₃ (x.fin I he hc hd hdi (Array.getElem?_eq_some_iff.mp h1).1 (T0:=none) (fun _ z=>nomatch z) (g:=s₁.heap) (fun _ _ _ e=>e) (fun _ _ _ e=>e) (Nat.le_refl _) he ?_)
    rw [hst]
    exact nt
  | old oe vs he hc hd hdi hn hg T oT ts h1 ht hT hdT h3 hnT hgT =>
    unfold noteFrame
    simp only [hf]
    refine wpAny_bind (wpAny_field he hd h1 ?_)
    rw [if_pos (show (Value.ref T != Value.none)=true by simp)]
    refine wpAny_bind (wpAny_field hT hdT h3 ?_)
    rw [if_neg (show ¬ ((Value.none == rawInt X.env.locals)=true) by simp [rawInt])]
    refine wpAny_bind (wpAny_setField hT hdT (Array.getElem?_eq_some_iff.mp h3).1 ?_)
    have oth:∀ c,c≠T→(s₁.heap.update T (Obj.mapFields fun z=>z.setIfInBounds 3 Value.none)).get? c=s₁.heap.get? c:=fun c hc=>Heap.get?_update_other _ _ (Ne.symm hc)
    have nrec:∀ c o,s₁.heap.get? c=some o→(∀ z,o.data≠.fields z)→c≠T:=fun c o hc hnf q=>by rw [q,hT] at hc; cases hc; exact hnf ts hdT
    have nfr:∀ c ∈ frs X.stack,c≠T:=fun c hc q=>by
      obtain ⟨_,o,ho,hnf⟩:=hfun.mem hc
      exact nrec c o ho hnf q
    have hfun2:(s₁.heap.update T (Obj.mapFields fun z=>z.setIfInBounds 3 Value.none)).FunFrames X.base X.stack:=hfun.of_keeps fun c o hc hnf=>⟨o,(oth c (nrec c o hc hnf)).trans hc,rfl⟩
    rw [hst] at hA hfun2
    have hv:=(Array.getElem?_eq_some_iff.mp h1).1
    refine x_entry hA hfun2 hf ((oth a (Ne.symm ht)).trans he) hd hv fun h₃ nt=>h h₃ (x.fin I he hc hd hdi hv (T0:=some T) (fun T' z=>by cases z; exact ⟨hnT,hgT⟩) (g:=s₁.heap.update T (Obj.mapFields fun z=>z.setIfInBounds 3 Value.none)) (fun c o n e=>(oth c (n T rfl)).trans e) (fun c hc o e=>(oth c (nfr c hc)).trans e) (Nat.le_of_eq (Heap.size_after_update ..).symm) ((oth a (Ne.symm ht)).trans he) ?_)
    rw [hst]
    exact nt
theorem leave_ex {M:Model} {A:Around} {Q:Unit→Shared→Prop} {E:Value→Shared→Prop} (I:Inv X pins σ H s) (hst:X.stack=X.env::X.outer) (hf:X.env.frame=some X.env.locals) (hA:A.frames=some X.stack) (x:EX X.prog X.w X.stack H s new cls a H' s₁)
    (h:∀ h₃,EX X.prog X.w X.stack H s false cls a H' { s₁ with heap:=h₃ }→Q () { s₁ with heap:=h₃ }):wpAny M A (leaving X.env (.ref a)) Q E s₁:=by
  unfold leaving
  exact wpAny_bind (note_ex I hst hf hA x h)
theorem EX.out (I:Inv X pins σ H s) (hex:X.ex=[]) (x:EX X.prog X.w X.stack H s false cls a H' s₁):EX X.prog X.w X.outer X.H₀ X.s₀ false cls a H' s₁:=by
  have base:=I.base
  rw [hex] at base
  have gone:∀ {b:Addr},s.heap.get? b=none→X.s₀.heap.get? b=none:=fun {b} e=>by
    cases q:X.s₀.heap.get? b with
    | none=>rfl
    | some o=>obtain ⟨o',e2⟩:=base.there b o q (by simp); rw [e] at e2; cases e2
  have nst:∀ {b:Addr} {o:Obj},X.s₀.heap.get? b=some o→b ∉ X.fs→b ∉ frs X.stack:=fun {b o} e n hm=>by
    rcases List.mem_cons.mp (I.stkSub b hm) with z | z
    · exact absurd (Nat.lt_of_lt_of_le (Heap.lt_size e) I.ok.above) (by rw [z]; exact Nat.lt_irrefl _)
    · exact n z
  refine ⟨x.os.trans I.os,x.bare,⟨fun b o e n hb _=>x.un.keep b o (base.keep b o e n hb (by simp)) (base.free b o e n (by simp)) (nst e hb) (by simp),fun b o e n hb _=>?_,fun b o e n _=>?_,fun b o e _=>?_,fun b xs e=>x.un.tups b xs (base.tups b xs e),fun b o u e=>x.un.frzs b o u (base.frzs b o u e),fun b ps e=>?_⟩,x.hok,?_⟩
  · obtain ⟨sl,e1⟩:=base.slot b o e n hb (by simp)
    obtain ⟨sl',e2⟩:=x.un.any e1 (base.free b o e n (by simp)) (by simp)
    exact ⟨sl',e2⟩
  · obtain ⟨sl,e1⟩:=base.any e n (by simp)
    exact x.un.free b _ e1 (base.free b o e n (by simp)) (by simp)
  · obtain ⟨o',e1⟩:=base.there b o e (by simp)
    exact x.un.there b o' e1 (by simp)
  · obtain ⟨m1,e1⟩:=base.tbls b ps e
    obtain ⟨m2,e2⟩:=x.un.tbls b _ e1
    exact ⟨m1++m2,by rw [e2,Array.append_assoc]⟩
  · have rc:=x.rc
    cases rc with
    | old oe vs he hc hd hdi hn hg T oT ts h1 ht hT hdT h3 hnT hgT=>exact .old oe vs he hc hd hdi hn (gone hg) T oT ts h1 ht hT hdT h3 hnT (gone hgT)
end
structure Wish (X:Cx) (E:XK):Prop where
  go:∀ (pins:List (Addr × Obj)) (σ:St) (H:Hp) (s:Shared) (new:Bool) (cls:Value) (a:Addr) (H':Hp) (s₁:Shared),Inv X pins σ H s→EX X.prog X.w X.stack H s new cls a H' s₁→E cls none H'→X.xe (.ref a) s₁
theorem Wish.pass {X:Cx} {E:XK} (W:Wish X E):Passes (CX1 X.prog X.w) X E:=fun pins σ H s e s' I ⟨a,cls,H',e1,x,q⟩=>by
  subst e1
  exact W.go pins σ H s false cls a H' s' I x q
theorem wish_def {P:Program} {w:World} {K:PySem.W.Frag} {mg:Str→Option Value} {base:Heap} {N:List Str} {qual:Str} {scope:Scope} {f:Addr} {cd:Value} {A:Around} {outer:List Env} {s:Shared} {H:Hp} {E:XK}:Wish (cxOf (CX1 P w) P w K mg base N qual scope f cd A outer s H E) E where
  go:=fun pins σ H1 s1 new cls a H' s₁ I x q=>by
    show wpAny (model P w) (A.deeper (envOfC qual scope s.heap.objs.size f cd)) (leaving (envOfC qual scope s.heap.objs.size f cd) (.ref a)) _ _ s₁
    refine leave_ex I rfl rfl I.ok.frames x fun h₃ x'=>⟨a,cls,H',rfl,x'.out I rfl,q⟩
end L2
namespace L2
open PySem PySem.Spec PyProof.Rows
theorem own_at {K:PySem.W.Frag} {h:Heap} {C:Addr} {bmB:List Value} {newId:String} (X:K.In h) (q:PySem.W.excIn K C bmB newId=true) :
    ∃ bm N nm q bs hdct sn sub ab col dd k0 k1 k2 k3 k5 mN,h.get? C=some (excClassObj nm q C N bs bm hdct sn sub ab col dd k0 k1 k2 k3 k5 newId)∧h.Ns N mN∧mN "__init__"=none∧OwnTail h bmB bm:=by
  unfold PySem.W.excIn at q
  split at q
  · rename_i dd cd sl ho
    split at q
    · rename_i C' bm k0 k1 k2 k3 n k5 hm hs
      simp only [Bool.and_eq_true,beq_iff_eq,Bool.not_eq_true'] at q
      obtain ⟨⟨⟨⟨⟨rfl,rfl⟩,hdel⟩,ht⟩,hok⟩,hni⟩:=q
      obtain ⟨nm,bs,mro,ns,qn,hd,sn,sub,ab,col,del⟩:=cd
      dsimp only at hm hdel hok hni
      subst hm hdel
      have hsl:sl=#[k0,k1,k2,k3,some (.builtin n),k5]:=by obtain ⟨l⟩:=sl; simp only at hs; rw [hs]
      subst hsl
      exact ⟨bm,ns,nm,qn,bs,hd,sn,sub,ab,col,dd,k0,k1,k2,k3,k5,_,X _ _ ho,.of_isNs (PySem.W.isNs_of_in X hok),PySem.W.nsMap_none_of_in X hok hni,PySem.W.tail_of_in X ht⟩
    · cases q
  · cases q
abbrev bmV:List Value:=[.type "ValueError",.type "Exception",.type "BaseException",.type "object"]
structure XCls (K:PySem.W.Frag) (mg:Str→Option Value) (x:Str) (C:Addr):Prop where
  m:mg x=some (.ref C)
  ok:PySem.W.excIn K C bmV "ValueError.__new__"=true
inductive tRaise (t:TA) (cls:Value) (E:XK) (D:Ends) (σ:St) (H:Hp):Prop
  | mk (h:t σ H fun vs H1=>vs.length≤sizeLine∧E cls none H1):tRaise t cls E D σ H
section
variable {X:Cx} {E:XK} {x:Str} {C:Addr} {e₀:Expr} {rest:List Expr} {t:TA} {np cpos pos:Pos}
theorem ps_raise (W:Wish X E) (hc:X.calm=true) (hC:XCls X.K X.mg x C) (ha:PA X (e₀::rest) t) (hg:Gl X x:=by rfl) (he:starEach (e₀::rest) X.env=(false,eval e₀ X.env)::starEach rest X.env:=by rfl)
    (hpl:(backTo cpos (starEach rest X.env)).any (·.1)=false:=by rfl) (hdb:(x == ("__debug__" : Str))=false:=by decide):PS X (.Raise (some (.Call (.Name x np) (e₀::rest) [] cpos)) none pos) (tRaise t (.ref C) E):=by
  refine ⟨?_⟩
  intro pins s σ H D I h
  obtain ⟨h⟩:=h
  obtain ⟨bm,N,nm,q,bs,hdct,sn,sub,ab,col,dd,k0,k1,k2,k3,k5,mN,hCo,hN,hni,T⟩:=own_at I.mod.kin hC.ok
  refine wpAny_Raise_call_subT (C:=C) (nm:=nm) (q:=q) (N:=N) (bs:=bs) (bm:=bm) (hdct:=hdct) (sn:=sn) (sub:=sub) (ab:=ab) (col:=col) (dd:=dd) (k0:=k0) (k1:=k1) (k2:=k2) (k3:=k3) (k5:=k5) PySem.F.excBase_ValueError (mN:=mN)
    (T.hasType PySem.F.excBase_ValueError.hasBase) (I.ok.hd hc) (by rw [he]; show (false || (backTo cpos (starEach rest X.env)).any (·.1))=false; rw [hpl]; rfl) hni (ld_glob I hg hC.m ⟨rfl,?_⟩ hdb)
  have hw:=ha cpos pins s σ H _ I h
  rw [he] at hw ⊢
  refine Calls.evalArgs_plain (wpAny_mono hw (fun us s₂ h₂=>?_) fun _ _ y=>y)
  obtain ⟨vs,H1,I1,r,hl,qe⟩:=h₂
  refine ⟨rfl,by rw [← r.length]; exact hl,I1.bk _ _ hCo,hN.keeps I1.bk,T.keeps I1.bk,fun h' e hm=>?_⟩
  obtain ⟨tt,he',_,_⟩:=hm.there
  exact W.go pins σ H1 s₂ true (.ref C) e H1 { s₂ with heap:=h' } I1 ⟨rfl,I1.bare,Un.kept hm.keeps,I1.hok.kept hm.keeps,.new _ _ he' rfl rfl rfl (I1.hok.none hm.new) hm.new rfl⟩ qe
end
def CanX (P:Program) (w:World) (K:PySem.W.Frag) (mg:Str→Option Value) (base:Heap) (k:Nat) (x:Str) (ps:List Str) (sp:Sp):Prop :=
  ∃ f fd,FnOk P w K mg base (CX1 P w) k f fd ps sp∧mg x=some (.ref f)∧PySem.W.keepIn K (.ref f)=true∧Binds K fd ps []
section
variable {P:Program} {w:World} {K:PySem.W.Frag} {mg:Str→Option Value} {base:Heap}
theorem fn_canX {x:Str} {st:Stmt} {N ps:List Str} {k:Nat} {sp:Sp} (h:∃ f fd,Fn K mg x st ps f fd) (S:FnScope N ps (defScope st)) (len:∀ vs H Q E,sp vs H Q E→vs.length=ps.length)
    (hbody:∀ (f:Addr) (cdv:Value) (A:Around) (outer:List Env) (s:Shared) (H:Hp) (vs:List V) (Q:VK) (E:XK),Room k (A.deeper (envOfC x (defScope st) s.heap.objs.size f cdv))→Wish (cxOf (CX1 P w) P w K mg base N x (defScope st) f cdv A outer s H E) E→sp vs H Q E →
      ∃ t,PSs (cxOf (CX1 P w) P w K mg base N x (defScope st) f cdv A outer s H E) (defBody st) t∧t { nx:=fun _ H'=>Q .non H',rt:=Q } (start N vs) H):CanX P w K mg base (k + 1) x ps sp:=by
  obtain ⟨f,fd,F⟩:=h
  obtain ⟨oc,od,kV,doc,pm,an,cdv,ct,osl,e,lk,hcd⟩:=F.fn.ex
  refine ⟨f,fd,?_,F.m,F.fn.kp,F.b⟩
  subst e
  exact fn_of lk hcd S len fun A outer s H vs Q E hr hsp=>hbody f cdv A outer s H vs Q E hr wish_def hsp
end
section
variable {X:Cx} {k k':Nat} {x:Str} {ps:List Str} {sp:Sp} {p pos:Pos} {e:Expr} {es:List Expr} {t:TA} {E:XK}
theorem pe_canX (h:CanX X.prog X.w X.K X.mg X.base k x ps sp) (W:Wish X E) (hr:Room k' X.A) (ha:PA X (e::es) t) (hg:Gl X x:=by rfl) (hk:k≤k':=by decide) (hdb:(x == ("__debug__" : Str))=false:=by decide)
    (hs:starEach (e::es) X.env=(false,eval e X.env)::starEach es X.env:=by rfl) (hpl:(backTo pos (starEach es X.env)).any (·.1)=false:=by rfl):PE X (.Call (.Name x p) (e::es) [] pos) (tCall sp [] E t):=by
  obtain ⟨f,fd,F,hm,kp,b⟩:=h
  exact pe_call F (hr.mono hk) hg hm kp b .nil W.pass ha hdb hs hpl
end
abbrev Cx.tryC (X:Cx) (pn:List (Addr × Obj)) (xe:Value→Shared→Prop):Cx:={ X with pn:=pn,xe:=xe }
abbrev Cx.mark (X:Cx) (a:Addr):Cx:={ X with A:=X.A.mark (some (.ref a)),calm:=false,xe:=fun _ _=>False }
section
variable {X:Cx} {pins pins2:List (Addr × Obj)} {σ:St} {H:Hp} {s:Shared} {xe:Value→Shared→Prop} {a:Addr}
theorem Cx.Ok.tryC (ok:X.Ok) (pn:List (Addr × Obj)) (xe:Value→Shared→Prop):(X.tryC pn xe).Ok :=
  ⟨ok.mod,ok.kind,ok.glob,ok.blt,ok.above,ok.inj,ok.has,ok.cab,ok.hd,ok.frames,ok.stk,ok.exf,ok.bs,ok.bsz,ok.noex,ok.exfs,ok.funs,ok.frf⟩
theorem Cx.Ok.untry {pn:List (Addr × Obj)} (ok:(X.tryC pn xe).Ok):X.Ok :=
  ⟨ok.mod,ok.kind,ok.glob,ok.blt,ok.above,ok.inj,ok.has,ok.cab,ok.hd,ok.frames,ok.stk,ok.exf,ok.bs,ok.bsz,ok.noex,ok.exfs,ok.funs,ok.frf⟩
theorem Inv.tryC (I:Inv X pins σ H s) (xe:Value→Shared→Prop):Inv (X.tryC (X.pn++pins) xe) [] σ H s :=
  ⟨I.ok.tryC _ _,I.os,I.bare,I.base,I.loc,I.cell,I.free,I.freeC,fun p hp=>I.pin p (by simpa using hp),I.hok,I.len⟩
theorem Inv.untry (I:Inv (X.tryC (X.pn++pins) xe) pins2 σ H s):Inv X pins σ H s :=
  ⟨I.ok.untry,I.os,I.bare,I.base,I.loc,I.cell,I.free,I.freeC,fun p hp=>I.pin p (List.mem_append_left _ hp),I.hok,I.len⟩
theorem SP.untry {D:Ends} {f:Flow} {s':Shared} (h:SP (X.tryC (X.pn++pins) xe) pins2 D f s'):SP X pins D f s':=by
  cases f with
  | next=>obtain ⟨σ',H',I,q⟩:=h; exact ⟨σ',H',I.untry,q⟩
  | brk=>obtain ⟨σ',H',I,q⟩:=h; exact ⟨σ',H',I.untry,q⟩
  | cont=>obtain ⟨σ',H',I,q⟩:=h; exact ⟨σ',H',I.untry,q⟩
  | ret u=>obtain ⟨v,σ',H',I,r,q⟩:=h; exact ⟨v,σ',H',I.untry,r,q⟩
theorem Inv.mark (I:Inv X pins σ H s) (a:Addr):Inv (X.mark a) pins σ H s :=
  ⟨⟨I.ok.mod,I.ok.kind,I.ok.glob,I.ok.blt,I.ok.above,I.ok.inj,I.ok.has,I.ok.cab,(fun z=>nomatch z),I.ok.frames,I.ok.stk,I.ok.exf,I.ok.bs,I.ok.bsz,I.ok.noex,I.ok.exfs,I.ok.funs,I.ok.frf⟩,I.os,I.bare,I.base,I.loc,I.cell,I.free,I.freeC,I.pin,I.hok,I.len⟩
theorem Inv.unmark (ok:X.Ok) (I:Inv (X.mark a) pins σ H s):Inv X pins σ H s:=⟨ok,I.os,I.bare,I.base,I.loc,I.cell,I.free,I.freeC,I.pin,I.hok,I.len⟩
theorem SP.unmark (ok:X.Ok) {D:Ends} {f:Flow} {s':Shared} (h:SP (X.mark a) pins D f s'):SP X pins D f s':=by
  cases f with
  | next=>obtain ⟨σ',H',I,q⟩:=h; exact ⟨σ',H',I.unmark ok,q⟩
  | brk=>obtain ⟨σ',H',I,q⟩:=h; exact ⟨σ',H',I.unmark ok,q⟩
  | cont=>obtain ⟨σ',H',I,q⟩:=h; exact ⟨σ',H',I.unmark ok,q⟩
  | ret u=>obtain ⟨v,σ',H',I,r,q⟩:=h; exact ⟨v,σ',H',I.unmark ok,r,q⟩
end
def PHs (X:Cx) (hs:List ExceptHandler) (th:Value→TS):Prop :=
  ∀ (pins:List (Addr × Obj)) (s:Shared) (σ:St) (H:Hp) (D:Ends) (a:Addr) (cls:Value) (g:Heap),Inv X pins σ H s→XRec g s.heap H a cls false→X.s₀.heap.get? a=none→(∀ p ∈ X.pn++pins,p.1≠a)→th cls D σ H→wpAny (model X.prog X.w) X.A (handleBy (.ref a) X.env hs) (SP X pins D) X.xe s
def tTry (n:Nat) (t:XK→TS) (th:Value→TS):TS:=fun D σ H=>t (fun cls _ H'=>∀ σ':St,σ'.length=n→th cls D σ' H') D σ H
section
variable {X:Cx} {body:List Stmt} {h₀:ExceptHandler} {hs:List ExceptHandler} {t:XK→TS} {th:Value→TS} {pos:Pos}
theorem ps_try {n:Nat} (hb:∀ (pn:List (Addr × Obj)) (xe:Value→Shared→Prop) (E:XK),Wish (X.tryC pn xe) E→PSs (X.tryC pn xe) body (t E)) (hh:PHs X (h₀::hs) th) (hst:X.stack=X.env::X.outer:=by rfl) (hf:X.env.frame=some X.env.locals:=by rfl) (hn:X.N.length=n:=by rfl) (hex:X.ex=[]:=by rfl) :
    PS X (.Try body (h₀::hs) [] [] pos) (tTry n t th):=by
  refine ⟨?_⟩
  intro pins s σ H D I h
  refine wpAny_Try_except (wpAny_mono (hb (X.pn++pins) (fun e s₁=>wpAny (model X.prog X.w) X.A (noteFrame e X.env) (fun _ s₂=>wpAny (model X.prog X.w) X.A (setFlight e none) (fun _ s₃=>wpAny (model X.prog X.w) X.A (handleBy e X.env (h₀::hs)) (SP X pins D) X.xe s₃) X.xe s₂) X.xe s₁) _ ⟨fun pins2 σ2 H2 s2 new cls a H' s₁ I2 x q=>?_⟩ [] s σ H D (I.tryC _) h) (fun f s₁ q=>?_) fun _ _ z=>z)
  · have I2':Inv X pins σ2 H2 s2:=I2.untry
    refine note_ex I2' hst hf I2'.ok.frames x fun h₃ x3=>?_
    have I3:=x3.inv I2'
    have fr:=x3.rc.base.2
    refine hh pins _ σ2 H' D a cls s2.heap I3 x3.rc ?_ (fun p hp z=>?_) (q σ2 (I3.len.trans hn))
    · cases e:X.s₀.heap.get? a with
      | none=>rfl
      | some o=>obtain ⟨o',e2⟩:=I2'.base.there a o e (by rw [hex]; simp); rw [fr] at e2; cases e2
    · have e:=(I2'.pin p hp).1
      rw [z,fr] at e
      cases e
  · cases f with
    | next =>
      obtain ⟨σ',H',I',q'⟩:=q
      exact pss_nil pins s₁ σ' H' D I'.untry q'
    | ret v=>exact q.untry
    | brk=>exact q.untry
    | cont=>exact q.untry
end
end L2
namespace L2
open PySem PySem.Spec PyProof.Rows
theorem set3 {ts:Array Value} (h:ts[3]?=some Value.none):ts.setIfInBounds 3 Value.none=ts:=by
  obtain ⟨hl,e⟩:=Array.getElem?_eq_some_iff.mp h
  refine Array.ext (by simp) fun i h1 h2=>?_
  rw [Array.getElem_setIfInBounds h2]
  by_cases hi:3=i
  · subst hi; simp [e]
  · simp [hi]
theorem map3 {o:Obj} {ts:Array Value} (hd:o.data=.fields ts) (h:ts[3]?=some Value.none):Obj.mapFields (fun z=>z.setIfInBounds 3 Value.none) o=o:=by
  obtain ⟨c,d,dt,sl⟩:=o
  dsimp only at hd
  subst hd
  unfold Obj.mapFields
  simp [set3 h]
theorem keep3 {h:Heap} {T:Addr} {oT:Obj} {ts:Array Value} (hT:h.get? T=some oT) (hd:oT.data=.fields ts) (h3:ts[3]?=some Value.none):∀ b u,h.get? b=some u→(h.update T (Obj.mapFields fun z=>z.setIfInBounds 3 Value.none)).get? b=some u:=fun b u e=>by
  by_cases hb:b=T
  · subst hb
    rw [hT] at e
    cases e
    rw [Heap.get?_update_self _ hT (by rw [map3 hd h3]; exact Obj.isFreed_of_fields hd),map3 hd h3]
  · rw [Heap.get?_update_other _ _ (Ne.symm hb)]; exact e
section
variable {X:Cx} {x n:Str} {C:Addr} {b₀:Stmt} {suite:List Stmt} {rest:List ExceptHandler} {pos np:Pos} {th:Value→TS}
theorem ph_nil:PHs X [] (fun _ _ _ _=>False):=fun _ _ _ _ _ _ _ _ _ _ _ _ h=>h.elim
theorem h_test {pins:List (Addr × Obj)} {σ:St} {H:Hp} {s:Shared} {a:Addr} {cls:Value} {g:Heap} {b:Bool} {name:Option Str} {Q:Flow→Shared→Prop} (I:Inv X pins σ H s) (xr:XRec g s.heap H a cls false) (hC:X.mg x=some (.ref C)) (hg:Gl X x) (hb:PySem.W.exmOne X.K cls (.ref C)=some b) (hdb:(x == ("__debug__" : Str))=false)
    (h:if b=true then codeAny (model X.prog X.w) (X.A.mark (some (.ref a))) (.handlers (.ref a) [.ExceptHandler none name (b₀::suite) pos] X.env) (fun r s₂=>match r with
          | .ok f=>(match name with | none=>Q f s₂ | some n=>wpAny (model X.prog X.w) X.A (do bindName X.env n .none; unbindBehindTheSuite X.env n pos) (fun _ s₃=>Q f s₃) X.xe s₂)
          | .error e=>cameBackBy (model X.prog X.w) X.A X.env X.xe e s₂) s
      else wpAny (model X.prog X.w) X.A (handleBy (.ref a) X.env rest) Q X.xe s) :
    wpAny (model X.prog X.w) X.A (handleBy (.ref a) X.env (.ExceptHandler (some (.Name x np)) name (b₀::suite) pos::rest)) Q X.xe s:=by
  refine wpAny_handleBy_cons (codeAny_handlers_test (ld_glob (X:=X.mark a) (I.mark a) hg hC ?_ hdb)) (by intro z; cases z)
  have LT:PySem.W.Looks (model X.prog X.w) s.heap (typeOf (.ref a)) cls:=by
    cases xr with
    | old oe vs he hc=>rw [← hc]; exact (PySem.W.Looks.ld he).andThen .now
  refine (PySem.W.exm_one (M:=model X.prog X.w) I.kIn LT hb).here ?_
  cases b with
  | true=>exact h
  | false=>exact h
inductive tH (K:PySem.W.Frag) (C:Addr) (ts:TS) (th:Value→TS) (cls:Value) (D:Ends) (σ:St) (H:Hp):Prop
  | mk (b:Bool) (e:PySem.W.exmOne K cls (.ref C)=some b) (q:if b=true then ts D σ H else th cls D σ H):tH K C ts th cls D σ H
theorem ph0 {ts:TS} (hC:X.mg x=some (.ref C)) (hs:∀ a,PSs (X.mark a) (b₀::suite) ts) (hr:PHs X rest th) (hg:Gl X x:=by rfl) (hdb:(x == ("__debug__" : Str))=false:=by decide):PHs X (.ExceptHandler (some (.Name x np)) none (b₀::suite) pos::rest) (tH X.K C ts th):=by
  intro pins s σ H D a cls g I xr x0 xp h
  obtain ⟨b,e,q⟩:=h
  refine h_test I xr hC hg e hdb ?_
  cases b with
  | false=>exact hr pins s σ H D a cls g I xr x0 xp q
  | true =>
    refine codeAny_handlers_suite ?_
    cases xr with
    | old oe vs he hc hd hdi hn hgg T oT ts' h1 ht hT hdT h3 hnT hgT =>
      refine wpAny_setFlight_none he hd h1 hT hdT (Array.getElem?_eq_some_iff.mp h3).1 ?_
      have I':Inv X pins σ H { s with heap:=s.heap.update T (Obj.mapFields fun z=>z.setIfInBounds 3 Value.none) }:=I.kept (t':=s.toks) (keep3 hT hdT h3)
      exact wpAny_mono (hs a pins _ σ H D (I'.mark a) q) (fun f s₂ z=>z.unmark I.ok) fun _ _ z=>z.elim
end
end L2
namespace L2
open PySem PySem.Spec PySem.W PyProof.Rows
structure XAttr (K:Frag) (C:Addr):Prop where
  ga:findIn K (.ref C) "__getattribute__"=some (some (.builtin "BaseException.__getattribute__"))
  gn:findIn K (.ref C) "__getattr__"=some none
  fo:findObj K C none "__class__"=some (.bind (.builtin "getset_descriptor.__get__") (.builtin "object.__class__"))
  mo:mroIn K C (.type "object")=some true
  sb:subIn K (.ref C) (.type "BaseException")=some true
section
variable {prog:Program} {w:World} {A:Around} {E:Value→Shared→Prop} {s:Shared} {K:Frag} {a C:Addr} {oe:Obj}
end
end L2
namespace L2
open PySem PySem.Spec PyProof.Rows
end L2
namespace L2
open PySem PySem.Spec PyProof.Rows
section
variable {X:Cx} {CX:CXT} {k:Nat} {f C:Addr} {fd:FuncData} {ps:List Str} {sp:Sp} {dvs:List V} {ds:List Value} {E:XK} {x m:Str} {p pos apos:Pos} {e o:Expr} {es:List Expr} {ta:TE} {t:TA}
end
section
variable {P:Program} {w:World} {K:PySem.W.Frag} {mg:Str→Option Value} {base:Heap}
end
section
variable {X:Cx} {k k':Nat} {x:Str} {ps:List Str} {sp:Sp} {p pos:Pos} {e:Expr} {es:List Expr} {t:TA}
end
end L2
namespace L2
open PySem PySem.Spec PyProof.Rows
def cOf (mg:Str→Option Value) (x:Str):Addr:=match mg x with
  | some (.ref C)=>C
  | _=>0
theorem cOf_eq {mg:Str→Option Value} {x:Str} {C:Addr} (h:mg x=some (.ref C)):cOf mg x=C:=by unfold cOf; rw [h]
structure XC (K:PySem.W.Frag) (mg:Str→Option Value) (x:Str):Prop where
  m:mg x=some (.ref (cOf mg x))
  ok:PySem.W.excIn K (cOf mg x) bmV "ValueError.__new__"=true
  at_:XAttr K (cOf mg x)
  cl:(PySem.W.clsIn K (cOf mg x)).isSome=true
theorem XC.cls {K:PySem.W.Frag} {mg:Str→Option Value} {x:Str} (h:XC K mg x):XCls K mg x (cOf mg x):=⟨h.m,h.ok⟩
theorem xc_mk {K:PySem.W.Frag} {mg:Str→Option Value} {x:Str} {C:Addr} (m:mg x=some (.ref C)) (ok:PySem.W.excIn K C bmV "ValueError.__new__"=true)
    (ga:PySem.W.findIn K (.ref C) "__getattribute__"=some (some (.builtin "BaseException.__getattribute__"))) (gn:PySem.W.findIn K (.ref C) "__getattr__"=some none)
    (fo:PySem.W.findIn K (.ref C) "__class__"=some (some (.builtin "object.__class__"))) (sp:PySem.W.specialIn K (.builtin "object.__class__") "__get__"=some (some (.builtin "getset_descriptor.__get__"))) (tk:PySem.W.takesIn K (.builtin "object.__class__")=some true) (mo:PySem.W.mroIn K C (.type "object")=some true) (sb:PySem.W.subIn K (.ref C) (.type "BaseException")=some true) {cd:ClassData} (cl:PySem.W.clsIn K C=some cd):XC K mg x:=by
  refine ⟨?_,?_,?_,?_⟩ <;> rw [cOf_eq m]
  · exact m
  · exact ok
  · refine ⟨ga,gn,?_,mo,sb⟩
    unfold PySem.W.findObj
    rw [cl,Option.bind_some,fo,Option.bind_some]
    simp [sp,tk]
  · rw [cl]; rfl
end L2
namespace Pr
open PySem L2
def top (i:Nat):Stmt:=PySem.Challenge.pw_peakroll_k43_whole_bars_of_covers.main.body.getD i (.Pass ⟨0,0,0,0⟩)
abbrev s_empty:Stmt:=top 2
abbrev s_in_order:Stmt:=top 3
abbrev s_place_of:Stmt:=top 4
abbrev s_bar_of:Stmt:=top 5
abbrev s_joined:Stmt:=top 6
abbrev s_is_whole:Stmt:=top 18
abbrev s_is_whole_from:Stmt:=top 19
abbrev s_is_wide:Stmt:=top 20
abbrev s_is_list:Stmt:=top 21
abbrev s_is_list_from:Stmt:=top 22
abbrev s_need_moment:Stmt:=top 23
abbrev s_need_roll:Stmt:=top 24
abbrev s_need_number:Stmt:=top 25
abbrev s_between:Stmt:=top 27
abbrev s_cover:Stmt:=top 30
abbrev s_need_time:Stmt:=top 31
abbrev s_first_begun:Stmt:=top 32
abbrev s_rest_between:Stmt:=top 33
abbrev s_greatest_runs:Stmt:=top 34
abbrev s_greater_within:Stmt:=top 35
abbrev s_bar_of_cover:Stmt:=top 36
abbrev s_piece_stretch:Stmt:=top 37
abbrev s_first_of:Stmt:=top 39
abbrev s_size_of:Stmt:=top 40
abbrev s_number_of:Stmt:=top 41
abbrev s_is_part:Stmt:=top 48
abbrev s_are_parts:Stmt:=top 49
abbrev s_are_sizes:Stmt:=top 50
abbrev s_is_row:Stmt:=top 51
abbrev s_are_rows:Stmt:=top 52
abbrev s_bar_lengths:Stmt:=top 53
abbrev s_law_pot:Stmt:=top 56
abbrev s_law_digit:Stmt:=top 57
abbrev s_law_wide:Stmt:=top 58
abbrev s_law_part:Stmt:=top 59
abbrev s_law_sizes:Stmt:=top 60
abbrev s_law_drawn:Stmt:=top 61
abbrev s_law_turn:Stmt:=top 62
abbrev s_law_starts:Stmt:=top 63
abbrev s_law_lowest:Stmt:=top 64
abbrev s_law_raised:Stmt:=top 65
abbrev s_law_lowered:Stmt:=top 66
abbrev s_law_begins:Stmt:=top 67
abbrev s_law_moment:Stmt:=top 68
abbrev s_law_key:Stmt:=top 69
abbrev s_law_entries:Stmt:=top 70
abbrev s_law_bar:Stmt:=top 71
abbrev s_law_time:Stmt:=top 72
abbrev s_law_within:Stmt:=top 73
abbrev s_law_handed:Stmt:=top 74
abbrev s_law_cover:Stmt:=top 75
abbrev s_law_cover_right:Stmt:=top 76
abbrev s_law_right:Stmt:=top 77
abbrev s_law:Stmt:=top 78
abbrev sm_init:Stmt:=inClass (top 54) 0
abbrev sm_begin:Stmt:=inClass (top 54) 1
abbrev sm_parts:Stmt:=inClass (top 54) 2
abbrev sm_rows:Stmt:=inClass (top 54) 3
abbrev sm_rolls:Stmt:=inClass (top 54) 4
abbrev sm_bar_at:Stmt:=inClass (top 54) 5
abbrev sm_stretch:Stmt:=inClass (top 54) 6
abbrev sm_first_moment:Stmt:=inClass (top 54) 7
abbrev sm_lesser:Stmt:=inClass (top 54) 8
abbrev sm_greater:Stmt:=inClass (top 54) 9
structure Txt (K:PySem.W.Frag) (mg:Str→Option Value) (C:Addr):Prop where
  f_empty:∃ f fd,Fn K mg "empty" s_empty [] f fd
  f_in_order:∃ f fd,Fn K mg "in_order" s_in_order ["entries"] f fd
  f_place_of:∃ f fd,Fn K mg "place_of" s_place_of ["entry"] f fd
  f_bar_of:∃ f fd,Fn K mg "bar_of" s_bar_of ["entries"] f fd
  f_joined:∃ f fd,Fn K mg "joined" s_joined ["one","other"] f fd
  f_is_whole:∃ f fd,Fn K mg "is_whole" s_is_whole ["value"] f fd
  f_is_whole_from:∃ f fd,Fn K mg "is_whole_from" s_is_whole_from ["value","least","greatest"] f fd
  f_is_wide:∃ f fd,Fn K mg "is_wide" s_is_wide ["value"] f fd
  f_is_list:∃ f fd,Fn K mg "is_list" s_is_list ["value"] f fd
  f_is_list_from:∃ f fd,Fn K mg "is_list_from" s_is_list_from ["value","fewest","most"] f fd
  f_need_moment:∃ f fd,Fn K mg "need_moment" s_need_moment ["value"] f fd
  f_need_roll:∃ f fd,Fn K mg "need_roll" s_need_roll ["value","least","greatest"] f fd
  f_need_number:∃ f fd,Fn K mg "need_number" s_need_number ["value"] f fd
  f_between:∃ f fd,Fn K mg "between" s_between ["entries","one","other"] f fd
  f_cover:∃ f fd,Fn K mg "cover" s_cover ["ladder","one","other"] f fd
  f_need_time:∃ f fd,Fn K mg "need_time" s_need_time ["one","other"] f fd
  f_first_begun:∃ f fd,Fn K mg "first_begun" s_first_begun ["ladder","moment"] f fd
  f_rest_between:∃ f fd,Fn K mg "rest_between" s_rest_between ["one","other"] f fd
  f_greatest_runs:∃ f fd,Fn K mg "greatest_runs" s_greatest_runs ["ladder","begin","end"] f fd
  f_greater_within:∃ f fd,Fn K mg "greater_within" s_greater_within ["ladder","roll","begin","end"] f fd
  f_bar_of_cover:∃ f fd,Fn K mg "bar_of_cover" s_bar_of_cover ["ladder","entries","pieces"] f fd
  f_piece_stretch:∃ f fd,Fn K mg "piece_stretch" s_piece_stretch ["ladder","piece"] f fd
  f_first_of:∃ f fd,Fn K mg "first_of" s_first_of ["begin","sizes","number"] f fd
  f_size_of:∃ f fd,Fn K mg "size_of" s_size_of ["sizes","number"] f fd
  f_number_of:∃ f fd,Fn K mg "number_of" s_number_of ["begin","sizes","place"] f fd
  f_is_part:∃ f fd,Fn K mg "is_part" s_is_part ["value"] f fd
  f_are_parts:∃ f fd,Fn K mg "are_parts" s_are_parts ["value"] f fd
  f_are_sizes:∃ f fd,Fn K mg "are_sizes" s_are_sizes ["value"] f fd
  f_is_row:∃ f fd,Fn K mg "is_row" s_is_row ["value"] f fd
  f_are_rows:∃ f fd,Fn K mg "are_rows" s_are_rows ["value"] f fd
  f_bar_lengths:∃ f fd,Fn K mg "bar_lengths" s_bar_lengths ["parts"] f fd
  f_law_pot:∃ f fd,Fn K mg "_law_pot" s_law_pot ["_law_script","_law_k"] f fd
  f_law_digit:∃ f fd,Fn K mg "_law_digit" s_law_digit ["_law_pot_here","_law_many"] f fd
  f_law_wide:∃ f fd,Fn K mg "_law_wide" s_law_wide ["_law_pot_here"] f fd
  f_law_part:∃ f fd,Fn K mg "_law_part" s_law_part ["_law_pot_here","_law_first"] f fd
  f_law_sizes:∃ f fd,Fn K mg "_law_sizes" s_law_sizes ["_law_pot_here"] f fd
  f_law_drawn:∃ f fd,Fn K mg "_law_drawn" s_law_drawn ["_law_pot_here"] f fd
  f_law_turn:∃ f fd,Fn K mg "_law_turn" s_law_turn ["_law_told"] f fd
  f_law_starts:∃ f fd,Fn K mg "_law_starts" s_law_starts ["_law_told"] f fd
  f_law_lowest:∃ f fd,Fn K mg "_law_lowest" s_law_lowest ["_law_told","_law_moment_here"] f fd
  f_law_raised:∃ f fd,Fn K mg "_law_raised" s_law_raised ["_law_row","_law_number"] f fd
  f_law_lowered:∃ f fd,Fn K mg "_law_lowered" s_law_lowered ["_law_row","_law_number"] f fd
  f_law_begins:∃ f fd,Fn K mg "_law_begins" s_law_begins ["_law_told","_law_roll","_law_number"] f fd
  f_law_moment:∃ f fd,Fn K mg "_law_moment" s_law_moment ["_law_pot_here","_law_told"] f fd
  f_law_key:∃ f fd,Fn K mg "_law_key" s_law_key ["_law_pot_here","_law_keys"] f fd
  f_law_entries:∃ f fd,Fn K mg "_law_entries" s_law_entries ["_law_pot_here","_law_told","_law_most"] f fd
  f_law_bar:∃ f fd,Fn K mg "_law_bar" s_law_bar ["_law_entries_here"] f fd
  f_law_time:∃ f fd,Fn K mg "_law_time" s_law_time ["_law_pot_here","_law_told"] f fd
  f_law_within:∃ f fd,Fn K mg "_law_within" s_law_within ["_law_entries_here","_law_one","_law_other"] f fd
  f_law_handed:∃ f fd,Fn K mg "_law_handed" s_law_handed ["_law_pot_here","_law_entries_here"] f fd
  f_law_cover:∃ f fd,Fn K mg "_law_cover" s_law_cover ["_law_ladder","_law_one","_law_other"] f fd
  f_law_cover_right:∃ f fd,Fn K mg "_law_cover_right" s_law_cover_right ["_law_pot_here","_law_ladder","_law_entries_here","_law_pieces","_law_due"] f fd
  f_law_right:∃ f fd,Fn K mg "_law_right" s_law_right ["_law_pot_here","_law_ladder","_law_told","_law_entries_here"] f fd
  f_law:∃ f fd,Fn K mg "law" s_law ["_law_script"] f fd
  c_WIDE_END:∃ t,mg "WIDE_END"=some (.int 1000000000000000000000000000000 t)
  c_NUMBER_END:∃ t,mg "NUMBER_END"=some (.int 10000000000000000000000000000000000000000 t)
  c_MOST_PIECES:∃ t,mg "MOST_PIECES"=some (.int 300 t)
  c_MOST_PARTS:∃ t,mg "MOST_PARTS"=some (.int 12 t)
  c_MOST_LENGTH:∃ t,mg "MOST_LENGTH"=some (.int 1000000000 t)
  c_MOST_ROWS:∃ t,mg "MOST_ROWS"=some (.int 4 t)
  c_MOST_SIZES:∃ t,mg "MOST_SIZES"=some (.int 12 t)
  c_MOST_SIZE:∃ t,mg "MOST_SIZE"=some (.int 1000 t)
  b_ValueError:mg "ValueError"=none
  b_abs:mg "abs"=none
  b_all:mg "all"=none
  b_bool:mg "bool"=none
  b_divmod:mg "divmod"=none
  b_int:mg "int"=none
  b_isinstance:mg "isinstance"=none
  b_len:mg "len"=none
  b_list:mg "list"=none
  b_max:mg "max"=none
  b_min:mg "min"=none
  b_range:mg "range"=none
  b_repr:mg "repr"=none
  b_reversed:mg "reversed"=none
  b_sorted:mg "sorted"=none
  b_str:mg "str"=none
  b_sum:mg "sum"=none
  b_tuple:mg "tuple"=none
  cl:Cls K C
  mgC:mg "Ladder"=some (.ref C)
  n_open_lengths:NoAttr K C "open_lengths"
  n_part_lengths:NoAttr K C "part_lengths"
  n_steps:NoAttr K C "steps"
  m_init:∃ f fd,Fun K "__init__" "Ladder.__init__" sm_init f fd∧Mk K C f∧Binds K fd ["self","begin","parts","rows"] []
  m_begin:∃ f fd,Fm K C "begin" "Ladder.begin" sm_begin ["self"] f fd
  m_parts:∃ f fd,Fm K C "parts" "Ladder.parts" sm_parts ["self"] f fd
  m_rows:∃ f fd,Fm K C "rows" "Ladder.rows" sm_rows ["self"] f fd
  m_rolls:∃ f fd,Fm K C "rolls" "Ladder.rolls" sm_rolls ["self"] f fd
  m_bar_at:∃ f fd,Fm K C "bar_at" "Ladder.bar_at" sm_bar_at ["self","roll","moment"] f fd
  m_stretch:∃ f fd,Fm K C "stretch" "Ladder.stretch" sm_stretch ["self","roll","number"] f fd
  m_first_moment:∃ f fd,Fm K C "first_moment" "Ladder.first_moment" sm_first_moment ["self","roll","number"] f fd
  m_lesser:∃ f fd,Fm K C "lesser" "Ladder.lesser" sm_lesser ["self","roll","number"] f fd
  m_greater:∃ f fd,Fm K C "greater" "Ladder.greater" sm_greater ["self","roll","number"] f fd
  x_TooMany:XC K mg "TooMany"
  e_TooMany_TooMany:PySem.W.exmOne K (.ref (cOf mg "TooMany")) (.ref (cOf mg "TooMany"))=some true
end Pr
namespace Lad
def Good (S:List Int):Prop:=S≠[]∧∀ v ∈ S,1≤v
def fst (b:Int) (S:List Int) (k:Int):Int:=b + k / (S.length:Int) * S.sum + (S.take (k % (S.length:Int)).toNat).sum
def sz (S:List Int) (k:Int):Int:=S.getD (k % (S.length:Int)).toNat 0
def walk:List Int→Int→Nat
  | [],_=>0
  | v::r,x=>if x < v then 0 else walk r (x - v) + 1
def num (b:Int) (S:List Int) (p:Int):Int:=(p - b) / S.sum * (S.length:Int) + (walk S ((p - b) % S.sum):Int)
theorem len_le_sum:∀ (S:List Int),(∀ v ∈ S,1≤v)→(S.length:Int)≤S.sum
  | [],_=>by simp
  | v::r,h=>by
    have h1:=len_le_sum r fun x hx=>h x (List.mem_cons_of_mem _ hx)
    have h2:=h v List.mem_cons_self
    rw [List.length_cons,List.sum_cons]
    omega
theorem Good.len {S:List Int} (g:Good S):1≤S.length:=by
  cases S with
  | nil=>exact absurd rfl g.1
  | cons v r=>rw [List.length_cons]; omega
theorem Good.sum {S:List Int} (g:Good S):1≤S.sum:=by
  have:=len_le_sum S g.2
  have:=g.len
  omega
theorem take_succ_sum (S:List Int) (i:Nat):(S.take (i + 1)).sum=(S.take i).sum + S.getD i 0:=by
  rw [List.take_add_one,List.sum_append_int]
  cases e:S[i]? with
  | none=>simp [List.getD_eq_getElem?_getD,e]
  | some v=>simp [List.getD_eq_getElem?_getD,e]
theorem getD_pos {S:List Int} (h:∀ v ∈ S,1≤v) {i:Nat} (hi:i < S.length):1≤S.getD i 0:=by
  rw [List.getD_eq_getElem?_getD,List.getElem?_eq_getElem hi]
  exact h _ (List.getElem_mem hi)
theorem walk_spec:∀ (S:List Int) (x:Int),0≤x→x < S.sum→walk S x < S.length∧(S.take (walk S x)).sum≤x∧x < (S.take (walk S x + 1)).sum
  | [],x,h0,h1=>by simp at h1; omega
  | v::r,x,h0,h1=>by
    rw [List.sum_cons] at h1
    unfold walk
    by_cases h:x < v
    · rw [if_pos h]
      refine ⟨by rw [List.length_cons]; omega,by simpa using h0,?_⟩
      rw [List.take_succ_cons,List.sum_cons,List.take_zero,List.sum_nil]
      omega
    · rw [if_neg h]
      obtain ⟨a,b,c⟩:=walk_spec r (x - v) (by omega) (by omega)
      refine ⟨by rw [List.length_cons]; omega,?_,?_⟩
      · rw [List.take_succ_cons,List.sum_cons]; omega
      · rw [List.take_succ_cons,List.sum_cons]; omega
theorem fst_zero (b:Int) (S:List Int):fst b S 0=b:=by unfold fst; simp
theorem fst_at {b:Int} {S:List Int} {q r:Int} (h0:0≤r) (h1:r < (S.length:Int)):fst b S (q * (S.length:Int) + r)=b + q * S.sum + (S.take r.toNat).sum:=by
  unfold fst
  have e1:(q * (S.length:Int) + r) / (S.length:Int)=q:=by
    rw [Int.add_comm,Int.add_mul_ediv_right _ _ (by omega),Int.ediv_eq_zero_of_lt h0 h1]
    omega
  have e2:(q * (S.length:Int) + r) % (S.length:Int)=r:=by
    rw [Int.add_comm,Int.add_mul_emod_self_right,Int.emod_eq_of_lt h0 h1]
  rw [e1,e2]
theorem fst_succ {S:List Int} (g:Good S) (b k:Int):fst b S (k + 1)=fst b S k + sz S k:=by
  have hn:=g.len
  have hr0:0≤k % (S.length:Int):=Int.emod_nonneg _ (by omega)
  have hr1:k % (S.length:Int) < (S.length:Int):=Int.emod_lt_of_pos _ (by omega)
  have hk:k=k / (S.length:Int) * (S.length:Int) + k % (S.length:Int):=by
    have:=Int.mul_ediv_add_emod k (S.length:Int)
    rw [Int.mul_comm] at this
    omega
  have e0:fst b S k=b + k / (S.length:Int) * S.sum + (S.take (k % (S.length:Int)).toNat).sum:=rfl
  rw [e0]
  unfold sz
  generalize k / (S.length:Int)=q at *
  generalize k % (S.length:Int)=r at *
  by_cases h:r + 1 < (S.length:Int)
  · have e:k + 1=q * (S.length:Int) + (r + 1):=by omega
    rw [e,fst_at (by omega) h]
    have e2:(r + 1).toNat=r.toNat + 1:=by omega
    rw [e2,take_succ_sum]
    omega
  · have e:k + 1=(q + 1) * (S.length:Int) + 0:=by rw [Int.add_mul]; omega
    rw [e,fst_at (by omega) (by omega)]
    have e2:S.sum=(S.take r.toNat).sum + S.getD r.toNat 0:=by
      rw [← take_succ_sum,show r.toNat + 1=S.length by omega,List.take_length]
    rw [show ((0:Int).toNat)=0 from rfl,List.take_zero,List.sum_nil,Int.add_mul,Int.one_mul]
    omega
theorem sz_pos {S:List Int} (g:Good S) (k:Int):1≤sz S k:=by
  have hn:=g.len
  have hr0:0≤k % (S.length:Int):=Int.emod_nonneg _ (by omega)
  have hr1:k % (S.length:Int) < (S.length:Int):=Int.emod_lt_of_pos _ (by omega)
  exact getD_pos g.2 (by omega)
theorem fst_add {S:List Int} (g:Good S) (b k:Int):∀ n:Nat,fst b S k + n≤fst b S (k + n):=by
  intro n
  induction n with
  | zero=>simp
  | succ n ih =>
    have e:k + ((n + 1:Nat):Int)=(k + n) + 1:=by omega
    rw [e,fst_succ g]
    have:=sz_pos g (k + n)
    omega
theorem fst_mono {S:List Int} (g:Good S) (b:Int) {j k:Int} (h:j≤k):fst b S j + (k - j)≤fst b S k:=by
  have:=fst_add g b j (k - j).toNat
  have e:j + ((k - j).toNat:Int)=k:=by omega
  rw [e] at this
  omega
theorem num_form {S:List Int} (g:Good S) (b p:Int):0≤(walk S ((p - b) % S.sum):Int)∧(walk S ((p - b) % S.sum):Int) < (S.length:Int)∧fst b S (num b S p)≤p∧p < fst b S (num b S p + 1):=by
  have hs:=g.sum
  have h0:0≤(p - b) % S.sum:=Int.emod_nonneg _ (by omega)
  have h1:(p - b) % S.sum < S.sum:=Int.emod_lt_of_pos _ (by omega)
  have hp:p - b=(p - b) / S.sum * S.sum + (p - b) % S.sum:=by
    have:=Int.mul_ediv_add_emod (p - b) S.sum
    rw [Int.mul_comm] at this
    omega
  obtain ⟨a,c,d⟩:=walk_spec S _ h0 h1
  have a':(walk S ((p - b) % S.sum):Int) < (S.length:Int):=by omega
  refine ⟨by omega,a',?_,?_⟩
  · unfold num
    rw [fst_at (by omega) a',Int.toNat_natCast]
    omega
  · rw [fst_succ g]
    have hz:sz S (num b S p)=S.getD (walk S ((p - b) % S.sum)) 0:=by
      unfold sz num
      rw [Int.add_comm,Int.add_mul_emod_self_right,Int.emod_eq_of_lt (by omega) a',Int.toNat_natCast]
    rw [hz]
    unfold num
    rw [fst_at (by omega) a',Int.toNat_natCast]
    rw [take_succ_sum] at d
    omega
theorem num_spec {S:List Int} (g:Good S) (b p:Int):fst b S (num b S p)≤p∧p < fst b S (num b S p + 1):=(num_form g b p).2.2
theorem num_bound {S:List Int} (g:Good S) (b p:Int):(0≤num b S p∧num b S p≤p - b)∨(num b S p < 0∧p - b≤num b S p):=by
  obtain ⟨a,c⟩:=num_spec g b p
  by_cases h:0≤num b S p
  · have:=fst_mono g b h
    rw [fst_zero] at this
    exact .inl ⟨h,by omega⟩
  · have:=fst_mono g b (show num b S p + 1≤0 by omega)
    rw [fst_zero] at this
    exact .inr ⟨by omega,by omega⟩
abbrev Step:=Int × List Int
def up (st:List Step) (m:Int):Int:=st.foldl (fun n s=>num s.1 s.2 n) m
def down (st:List Step) (k:Int):Int:=st.foldr (fun s p=>fst s.1 s.2 p) k
def Goods (st:List Step):Prop:=∀ s ∈ st,Good s.2
theorem down_mono:∀ (st:List Step),Goods st→∀ {j k:Int},j≤k→down st j + (k - j)≤down st k
  | [],_,j,k,h=>by show j + (k - j)≤k; omega
  | s::r,g,j,k,h=>by
    have h1:=down_mono r (fun x hx=>g x (List.mem_cons_of_mem _ hx)) h
    have h2:=fst_mono (g s List.mem_cons_self) s.1 (show down r j≤down r k by omega)
    show fst s.1 s.2 (down r j) + (k - j)≤fst s.1 s.2 (down r k)
    omega
theorem up_spec:∀ (st:List Step),Goods st→∀ m,down st (up st m)≤m∧m < down st (up st m + 1)
  | [],_,m=>by show m≤m∧m < m + 1; omega
  | s::r,g,m=>by
    have gs:=g s List.mem_cons_self
    obtain ⟨a,b⟩:=up_spec r (fun x hx=>g x (List.mem_cons_of_mem _ hx)) (num s.1 s.2 m)
    obtain ⟨c,d⟩:=num_spec gs s.1 m
    have h1:=fst_mono gs s.1 a
    have h2:=fst_mono gs s.1 (show num s.1 s.2 m + 1≤down r (up r (num s.1 s.2 m) + 1) by omega)
    show fst s.1 s.2 (down r (up r (num s.1 s.2 m)))≤m∧m < fst s.1 s.2 (down r (up r (num s.1 s.2 m) + 1))
    omega
theorem up_bound {B:Int} (hB:0≤B):∀ (st:List Step),Goods st→(∀ s ∈ st,-B≤s.1∧s.1≤B)→∀ m:Int,-(B * (st.length:Int)) - (if m < 0 then -m else m)≤up st m∧up st m≤B * (st.length:Int) + (if m < 0 then -m else m)
  | [],_,_,m=>by
    show -(B * ((0:Nat):Int)) - (if m < 0 then -m else m)≤m∧m≤B * ((0:Nat):Int) + (if m < 0 then -m else m)
    split <;> omega
  | s::r,g,h,m=>by
    have ih:=up_bound hB r (fun x hx=>g x (List.mem_cons_of_mem _ hx)) (fun x hx=>h x (List.mem_cons_of_mem _ hx)) (num s.1 s.2 m)
    have hb:=num_bound (g s List.mem_cons_self) s.1 m
    have hs:=h s List.mem_cons_self
    have e:B * (((s::r).length:Nat):Int)=B * (r.length:Int) + B:=by rw [List.length_cons,Int.natCast_add,Int.mul_add]; simp
    show -(B * (((s::r).length:Nat):Int)) - _≤up r (num s.1 s.2 m)∧up r (num s.1 s.2 m)≤B * (((s::r).length:Nat):Int) + _
    rw [e]
    generalize num s.1 s.2 m=n at *
    generalize up r n=u at *
    generalize B * (r.length:Int)=c at *
    split at ih <;> split <;> omega
def PartsOk (ps:List Int):Prop:=(∀ p ∈ ps,p≠0)∧∃ p r,ps=p::r∧0 < p
def barsFrom (cur:Int):List Int→List Int
  | []=>[cur]
  | p::r=>if 0 < p then cur::barsFrom p r else barsFrom (cur - p) r
def bars:List Int→List Int
  | []=>[]
  | p::r=>barsFrom p r
def opens (ps:List Int):List Int:=ps.filter fun p=>decide (0 < p)
def absI (p:Int):Int:=if p < 0 then -p else p
def total (ps:List Int):Int:=(ps.map absI).sum
def psums (c:Int):List Int→List Int
  | []=>[]
  | v::r=>c::psums (c + v) r
def stF (at':Int):List Int→List Int
  | []=>[]
  | p::r=>if 0 < p then at'::stF (at' + absI p) r else stF (at' + absI p) r
def addPart (acc:List Int) (p:Int):List Int:=if 0 < p then acc++[p] else acc.dropLast++[acc.getLastD 0 - p]
theorem addPart_from:∀ (r:List Int) (acc:List Int) (cur:Int),r.foldl addPart (acc++[cur])=acc++barsFrom cur r
  | [],acc,cur=>rfl
  | p::r,acc,cur=>by
    rw [List.foldl_cons]
    unfold addPart barsFrom
    by_cases h:0 < p
    · rw [if_pos h,if_pos h]
      have:=addPart_from r (acc++[cur]) p
      unfold addPart at this
      rw [this,List.append_assoc]
      rfl
    · rw [if_neg h,if_neg h]
      have e:(acc++[cur]).dropLast++[(acc++[cur]).getLastD 0 - p]=acc++[cur - p]:=by simp
      rw [e]
      have:=addPart_from r acc (cur - p)
      unfold addPart at this
      exact this
theorem foldl_bars {ps:List Int} (h:PartsOk ps):ps.foldl addPart []=bars ps:=by
  obtain ⟨_,p,r,rfl,hp⟩:=h
  rw [List.foldl_cons]
  have e:addPart [] p=[]++[p]:=by unfold addPart; rw [if_pos hp]
  rw [e,addPart_from]
  rfl
theorem from_good:∀ (r:List Int) (cur:Int),(∀ p ∈ r,p≠0)→1≤cur→(∀ v ∈ barsFrom cur r,1≤v)∧barsFrom cur r≠[]
  | [],cur,_,h=>⟨fun v hv=>by
      have e:v=cur:=by simpa [barsFrom] using hv
      omega,by simp [barsFrom]⟩
  | p::r,cur,hr,h=>by
    have hp:=hr p List.mem_cons_self
    unfold barsFrom
    by_cases h1:0 < p
    · rw [if_pos h1]
      obtain ⟨a,b⟩:=from_good r p (fun x hx=>hr x (List.mem_cons_of_mem _ hx)) h1
      refine ⟨fun v hv=>?_,by simp⟩
      rcases List.mem_cons.mp hv with e | hv
      · omega
      · exact a v hv
    · rw [if_neg h1]
      exact from_good r (cur - p) (fun x hx=>hr x (List.mem_cons_of_mem _ hx)) (by omega)
theorem bars_good {ps:List Int} (h:PartsOk ps):Good (bars ps):=by
  obtain ⟨h0,p,r,rfl,hp⟩:=h
  obtain ⟨a,b⟩:=from_good r p (fun x hx=>h0 x (List.mem_cons_of_mem _ hx)) hp
  exact ⟨b,a⟩
theorem from_sum:∀ (r:List Int) (cur:Int),(barsFrom cur r).sum=cur + total r
  | [],cur=>by simp [barsFrom,total]
  | p::r,cur=>by
    unfold barsFrom total
    rw [List.map_cons,List.sum_cons]
    by_cases h1:0 < p
    · rw [if_pos h1,List.sum_cons,from_sum r p]
      unfold total absI
      rw [if_neg (show ¬ p < 0 by omega)]
    · rw [if_neg h1,from_sum r (cur - p)]
      unfold total absI
      by_cases h2:p < 0
      · rw [if_pos h2]; omega
      · rw [if_neg h2]; omega
theorem bars_sum {ps:List Int} (h:PartsOk ps):(bars ps).sum=total ps:=by
  obtain ⟨h0,p,r,rfl,hp⟩:=h
  show (barsFrom p r).sum=_
  rw [from_sum]
  unfold total absI
  rw [List.map_cons,List.sum_cons,if_neg (show ¬ p < 0 by omega)]
theorem from_len:∀ (r:List Int) (cur:Int),(barsFrom cur r).length=1 + (opens r).length
  | [],cur=>rfl
  | p::r,cur=>by
    unfold barsFrom opens
    by_cases h1:0 < p
    · rw [if_pos h1,List.length_cons,from_len r p,List.filter_cons_of_pos (by simpa using h1),List.length_cons]
      show 1 + (opens r).length + 1=1 + ((opens r).length + 1)
      omega
    · rw [if_neg h1,from_len r (cur - p),List.filter_cons_of_neg (by simpa using h1)]
      rfl
theorem bars_len {ps:List Int} (h:PartsOk ps):(bars ps).length=(opens ps).length:=by
  obtain ⟨h0,p,r,rfl,hp⟩:=h
  show (barsFrom p r).length=_
  rw [from_len]
  unfold opens
  rw [List.filter_cons_of_pos (by simpa using hp),List.length_cons]
  omega
theorem from_starts:∀ (r:List Int) (c cur:Int),(∀ p ∈ r,p≠0)→psums c (barsFrom cur r)=c::stF (c + cur) r
  | [],c,cur,_=>rfl
  | p::r,c,cur,h=>by
    have hp:=h p List.mem_cons_self
    unfold barsFrom stF
    by_cases h1:0 < p
    · rw [if_pos h1,if_pos h1]
      show c::psums (c + cur) (barsFrom p r)=_
      rw [from_starts r (c + cur) p fun x hx=>h x (List.mem_cons_of_mem _ hx)]
      have e:absI p=p:=by unfold absI; rw [if_neg (by omega)]
      rw [e]
    · rw [if_neg h1,if_neg h1,from_starts r c (cur - p) fun x hx=>h x (List.mem_cons_of_mem _ hx)]
      have e:absI p=-p:=by unfold absI; rw [if_pos (by omega)]
      rw [e,show c + (cur - p)=c + cur + -p by omega]
theorem starts_bars {ps:List Int} (h:PartsOk ps):stF 0 ps=psums 0 (bars ps):=by
  obtain ⟨h0,p,r,rfl,hp⟩:=h
  show _=psums 0 (barsFrom p r)
  rw [from_starts r 0 p fun x hx=>h0 x (List.mem_cons_of_mem _ hx)]
  have e:absI p=p:=by unfold absI; rw [if_neg (by omega)]
  show (if 0 < p then 0::stF (0 + absI p) r else stF (0 + absI p) r)=_
  rw [if_pos hp,e]
theorem psums_len:∀ (S:List Int) (c:Int),(psums c S).length=S.length
  | [],_=>rfl
  | v::r,c=>by show (c::psums (c + v) r).length=_; rw [List.length_cons,List.length_cons,psums_len]
theorem psums_ge:∀ (S:List Int) (c:Int),(∀ v ∈ S,1≤v)→∀ x ∈ psums c S,c≤x
  | [],_,_,x,h=>by cases h
  | v::r,c,g,x,h=>by
    rcases List.mem_cons.mp h with e | h
    · omega
    · have:=psums_ge r (c + v) (fun y hy=>g y (List.mem_cons_of_mem _ hy)) x h
      have:=g v List.mem_cons_self
      omega
theorem count_walk:∀ (S:List Int) (c x:Int),(∀ v ∈ S,1≤v)→c≤x→x < c + S.sum→(((psums c S).filter fun s=>decide (s≤x)).length:Int)=walk S (x - c) + 1
  | [],c,x,_,h1,h2=>by simp at h2; omega
  | v::r,c,x,g,h1,h2=>by
    rw [List.sum_cons] at h2
    have gr:∀ y ∈ r,1≤y:=fun y hy=>g y (List.mem_cons_of_mem _ hy)
    show (((c::psums (c + v) r).filter fun s=>decide (s≤x)).length:Int)=_
    rw [List.filter_cons_of_pos (by simpa using h1),List.length_cons]
    unfold walk
    by_cases h:x - c < v
    · rw [if_pos h]
      have e:((psums (c + v) r).filter fun s=>decide (s≤x))=[]:=by
        rw [List.filter_eq_nil_iff]
        intro y hy
        have:=psums_ge r (c + v) gr y hy
        simp
        omega
      rw [e]
      rfl
    · rw [if_neg h]
      have ih:=count_walk r (c + v) x gr (by omega) (by omega)
      rw [show x - c - v=x - (c + v) by omega]
      omega
theorem lowest_eq {ps:List Int} (h:PartsOk ps) (b m:Int) :
    (m - b) / total ps * ((stF 0 ps).length:Int) + (((stF 0 ps).filter fun s=>decide (s≤(m - b) % total ps)).length:Int) - 1=num b (bars ps) m:=by
  have g:=bars_good h
  have hs:=g.sum
  have h0:0≤(m - b) % total ps:=Int.emod_nonneg _ (by rw [← bars_sum h]; omega)
  have h1:(m - b) % total ps < total ps:=Int.emod_lt_of_pos _ (by rw [← bars_sum h]; omega)
  rw [starts_bars h,psums_len,count_walk (bars ps) 0 _ g.2 h0 (by rw [bars_sum h]; omega)]
  unfold num
  rw [bars_sum h,show (m - b) % total ps - 0=(m - b) % total ps by omega]
  omega
end Lad
namespace Lad
theorem psums_getD:∀ (S:List Int) (c:Int) (i:Nat),i < S.length→(psums c S).getD i 0=c + (S.take i).sum
  | [],_,_,h=>by simp at h
  | v::r,c,0,_=>by simp [psums]
  | v::r,c,i + 1,h=>by
    have ih:=psums_getD r (c + v) i (by simpa using h)
    show (psums (c + v) r).getD i 0=_
    rw [ih,List.take_succ_cons,List.sum_cons]
    omega
theorem begins_eq {ps:List Int} (h:PartsOk ps) (b z:Int):b + z / ((stF 0 ps).length:Int) * total ps + (stF 0 ps).getD (z % ((stF 0 ps).length:Int)).toNat 0=fst b (bars ps) z:=by
  have g:=bars_good h
  have hl:=g.len
  rw [starts_bars h,psums_len,← bars_sum h]
  have h0:0≤z % ((bars ps).length:Int):=Int.emod_nonneg _ (by omega)
  have h1:z % ((bars ps).length:Int) < ((bars ps).length:Int):=Int.emod_lt_of_pos _ (by omega)
  rw [psums_getD _ _ _ (by omega),Int.zero_add]
  rfl
theorem down_snoc (st:List Step) (s:Step) (n:Int):down (st++[s]) n=down st (fst s.1 s.2 n):=by
  unfold down
  rw [List.foldr_append]
  rfl
end Lad
namespace L2
open PySem PySem.Spec PyProof.Rows
section
variable {X:Cx} {st:Stmt} {rest:List Stmt} {t u:TS} {e:Expr} {te:TE}
def tCut (t u:TS):TS:=fun D σ H=>∃ M:St→Hp→Prop,t { D with nx:=M } σ H∧∀ σ' H',M σ' H'→u D σ' H'
theorem pss_cut (h1:PS X st t) (h2:PSs X rest u):PSs X (st::rest) (tCut t u):=by
  refine ⟨?_⟩
  intro pins s σ H D I h
  obtain ⟨M,a,b⟩:=h
  refine wpAny_execs_cons (thn (h1 pins s σ H { D with nx:=M } I a) fun f s1 q=>?_)
  cases f with
  | next =>
    obtain ⟨σ',H',I',q⟩:=q
    exact h2 pins s1 σ' H' D I' (b _ _ q)
  | ret v=>exact q
  | brk=>exact q
  | cont=>exact q
end
end L2
namespace L2
open PySem PySem.Spec PyProof.Rows
def LcNx (n i:Nat) (D:Addr) (ys:List V) (Pv:Nat→List V→Hp→Prop) (y:V) (H3:Hp):Prop :=
  H3 D=some (.lst ys)∧ys.length < sizeLine∧∃ m',m' < n - i∧(m'=n - (i + 1)∧i + 1≤n∧Pv (i + 1) (ys++[y]) (upd H3 D (.lst (ys++[y]))))
def LcNo (n i:Nat) (ys:List V) (Pv:Nat→List V→Hp→Prop) (H3:Hp):Prop:=∃ m',m' < n - i∧(m'=n - (i + 1)∧i + 1≤n∧Pv (i + 1) ys H3)
theorem LcNx.mk {n i:Nat} {D:Addr} {ys:List V} {Pv:Nat→List V→Hp→Prop} {y:V} {H3:Hp} (hi:i < n) (hn:n≤1000) (hl:ys.length≤i) (h:H3 D=some (.lst ys)) (p:Pv (i + 1) (ys++[y]) (upd H3 D (.lst (ys++[y])))):LcNx n i D ys Pv y H3 :=
  ⟨h,small1000 (by omega),n - (i + 1),by omega,rfl,hi,p⟩
theorem LcNo.mk {n i:Nat} {ys:List V} {Pv:Nat→List V→Hp→Prop} {H3:Hp} (hi:i < n) (p:Pv (i + 1) ys H3):LcNo n i ys Pv H3:=⟨n - (i + 1),by omega,rfl,hi,p⟩
theorem lc_go {tc:TT} {te:TE} {σ:St} {J:It} {D:Addr} {Fin:Hp→Prop} {H:Hp} {n:Nat} (Pv:Nat→List V→Hp→Prop) (h0:Pv 0 [] (upd H D (.lst [])))
    (hD:∀ i ys H,Pv i ys H→H D=some (.lst ys)) (hend:∀ ys H,Pv n ys H→J.stop n H∧Fin H)
    (hgo:∀ i ys H,i < n→Pv i ys H→J.go i H∧∀ x H',J.yld i H x H'→tc (some x::σ) H' fun b H2=>if b=true then te (some x::σ) H2 (LcNx n i D ys Pv) else LcNo n i ys Pv H2):lcGo tc te σ J D Fin H:=by
  refine ⟨fun i m ys H=>m=n - i∧i≤n∧Pv i ys H,⟨n,rfl,Nat.zero_le _,h0⟩,?_⟩
  rintro i m ys H ⟨rfl,hi,p⟩
  refine ⟨hD i ys H p,?_⟩
  by_cases hlt:i < n
  · exact .inr (hgo i ys H hlt p)
  · have e:i=n:=by omega
    subst e
    exact .inl (hend ys H p)
theorem lc_list {K:PySem.W.Frag} {a:Addr} {xs:List V} {tc:TT} {te:TE} {σ:St} {D:Addr} {Fin:Hp→Prop} {H:Hp} (Pv:Nat→List V→Hp→Prop) (h0:Pv 0 [] (upd H D (.lst [])))
    (hD:∀ i ys H,Pv i ys H→H D=some (.lst ys)∧SqL K H a xs) (hend:∀ ys H,Pv xs.length ys H→Fin H)
    (hgo:∀ i x ys H,i < xs.length→xs[i]?=some x→Pv i ys H→tc (some x::σ) H fun b H2=>if b=true then te (some x::σ) H2 (LcNx xs.length i D ys Pv) else LcNo xs.length i ys Pv H2):lcGo tc te σ (Itl K a) D Fin H:=by
  refine lc_go Pv h0 (fun i ys H p=>(hD i ys H p).1) (fun ys H p=>⟨⟨xs,(hD _ _ _ p).2,Nat.le_refl _⟩,hend ys H p⟩) fun i ys H hi p=>?_
  refine ⟨⟨xs,xs[i],(hD _ _ _ p).2,List.getElem?_eq_getElem hi⟩,fun x H' y=>?_⟩
  obtain ⟨e,y⟩:=y
  subst e
  exact hgo i x ys _ hi (y xs (hD _ _ _ p).2) p
theorem lc_tup {K:PySem.W.Frag} {a:Addr} {xs:List V} {tc:TT} {te:TE} {σ:St} {D:Addr} {Fin:Hp→Prop} {H:Hp} (Pv:Nat→List V→Hp→Prop) (h0:Pv 0 [] (upd H D (.lst [])))
    (hD:∀ i ys H,Pv i ys H→H D=some (.lst ys)∧SqT K H a xs) (hend:∀ ys H,Pv xs.length ys H→Fin H)
    (hgo:∀ i x ys H,i < xs.length→xs[i]?=some x→Pv i ys H→tc (some x::σ) H fun b H2=>if b=true then te (some x::σ) H2 (LcNx xs.length i D ys Pv) else LcNo xs.length i ys Pv H2):lcGo tc te σ (Itt K a) D Fin H:=by
  refine lc_go Pv h0 (fun i ys H p=>(hD i ys H p).1) (fun ys H p=>⟨⟨xs,(hD _ _ _ p).2,Nat.le_refl _⟩,hend ys H p⟩) fun i ys H hi p=>?_
  refine ⟨⟨xs,xs[i],(hD _ _ _ p).2,List.getElem?_eq_getElem hi⟩,fun x H' y=>?_⟩
  obtain ⟨e,y⟩:=y
  subst e
  exact hgo i x ys _ hi (y xs (hD _ _ _ p).2) p
theorem lc_range {lo:Int} {n:Nat} {tc:TT} {te:TE} {σ:St} {D:Addr} {Fin:Hp→Prop} {H:Hp} (Pv:Nat→List V→Hp→Prop) (h0:Pv 0 [] (upd H D (.lst [])))
    (hD:∀ i ys H,Pv i ys H→H D=some (.lst ys)) (hend:∀ ys H,Pv n ys H→Fin H)
    (hgo:∀ i ys H,i < n→Pv i ys H→tc (some (.int (lo + i))::σ) H fun b H2=>if b=true then te (some (.int (lo + i))::σ) H2 (LcNx n i D ys Pv) else LcNo n i ys Pv H2):lcGo tc te σ (Itr lo n) D Fin H:=by
  refine lc_go Pv h0 hD (fun ys H p=>⟨Nat.le_refl _,hend ys H p⟩) fun i ys H hi p=>?_
  refine ⟨hi,fun x H' y=>?_⟩
  obtain ⟨e,y⟩:=y
  subst e y
  exact hgo i ys _ hi p
section
variable {X:Cx}
theorem ix_tupK (K:PySem.W.Frag) (e:X.K=K:=by rfl):IxR X (rIxT K):=by rw [← e]; exact ix_tup
theorem ix_listK (K:PySem.W.Frag) (e:X.K=K:=by rfl):IxR X (rIxL K):=by rw [← e]; exact ix_list
end
theorem yesI {σ:St} {H:Hp} {A B:Hp→Prop} (h:A H):tYes σ H (fun b H2=>if b=true then A H2 else B H2):=by
  show if true=true then A H else B H
  rw [if_pos rfl]
  exact h
theorem lcS {X:Cx} {x:Str} {sc scp:Scope} {N ps:List Str} (S:FnScope N ps scp) (hN:X.N=N:=by rfl) (hs:X.env.scope=scp:=by rfl) (h1:sc.kind=.function:=by rfl) (h2:∀ p ∈ sc.names,p.2≠.cell:=by decide +kernel) (h3:sc.names.lookup x=some .local:=by rfl)
    (h4:∀ p ∈ sc.names,p.2=.local→sc.names.lookup p.1=some .local:=by decide +kernel) (h5:∀ y ∈ N,sc.names.lookup y≠some .local:=by decide +kernel)
    (h7:∀ p ∈ sc.names,p.2=.free→scp.names.lookup p.1=some .cell∨scp.names.lookup p.1=some .free:=by decide +kernel):LcScope X x sc :=
  ⟨h1,h2,h3,h4,by rw [hN]; exact h5,by rw [hN]; exact S.nd,fun p hp e=>by
    show X.env.scope.names.lookup p.1=_∨X.env.scope.names.lookup p.1=_
    rw [hs]
    exact h7 p hp e⟩
theorem Paired.get {α β:Type} {F:α→β→Prop}:∀ {xs:List α} {ys:List β} {i:Nat} {x:α},Paired F xs ys→xs[i]?=some x→∃ y,ys[i]?=some y∧F x y
  | _,_,_,_,.nil,e=>by simp at e
  | _,_,0,_,.cons r _,e=>by simp at e; subst e; exact ⟨_,rfl,r⟩
  | _,_,i + 1,x,.cons _ t,e=>by
    obtain ⟨u,h1,h2⟩:=Paired.get (i:=i) (x:=x) t (by simpa using e)
    exact ⟨u,by simpa using h1,h2⟩
theorem Paired.take {α β:Type} {F:α→β→Prop}:∀ {xs:List α} {ys:List β} (n:Nat),Paired F xs ys→Paired F (xs.take n) (ys.take n)
  | _,_,0,_=>.nil
  | _,_,_ + 1,.nil=>.nil
  | _,_,n + 1,.cons r t=>.cons r (Paired.take n t)
end L2
namespace Srt
open PySem PySem.W PyProof.Rows
def Good (n:Nat) (lt:Nat→Nat→Bool) {α:Type}:KasT α→(α→Prop)→Prop
  | .ret a,Q=>Q a
  | .ask i j k,Q=>i < n∧j < n∧Good n lt (k (lt i j)) Q
section
variable {n:Nat} {lt:Nat→Nat→Bool} {α β:Type}
theorem good_mono {Q Q':α→Prop} (h:∀ a,Q a→Q' a):∀ t:KasT α,Good n lt t Q→Good n lt t Q'
  | .ret a,q=>h a q
  | .ask i j k,q=>⟨q.1,q.2.1,good_mono h (k (lt i j)) q.2.2⟩
theorem good_bind {f:α→KasT β} {Q:β→Prop}:∀ t:KasT α,Good n lt t (fun a=>Good n lt (f a) Q)→Good n lt (t.bind f) Q
  | .ret a,q=>q
  | .ask i j k,q=>⟨q.1,q.2.1,good_bind (k (lt i j)) q.2.2⟩
theorem good_wp {cmp:Nat→Nat→(Bool→Shared→Prop)→Shared→Prop} {s:Shared} {Q:α→Shared→Prop} (hc:∀ i j (C:Bool→Shared→Prop),i < n→j < n→C (lt i j) s→cmp i j C s):∀ t:KasT α,Good n lt t (fun a=>Q a s)→t.kasWp cmp Q s
  | .ret a,q=>q
  | .ask i j k,q=>hc i j _ q.1 q.2.1 (good_wp hc (k (lt i j)) q.2.2)
end
structure Ord (lt:Nat→Nat→Bool):Prop where
  asym:∀ {a b},lt a b=true→lt b a=false
  tr:∀ {a b c},lt b a=false→lt c b=false→lt c a=false
section
variable {lt:Nat→Nat→Bool} {N:Nat}
theorem Ord.ltle (O:Ord lt) {a b c:Nat} (h:lt a b=true) (h':lt c b=false):lt a c=true:=by
  cases e:lt a c with
  | true=>rfl
  | false=>rw [O.tr h' e] at h; cases h
theorem Ord.lelt (O:Ord lt) {a b c:Nat} (h:lt b a=false) (h':lt b c=true):lt a c=true:=by
  cases e:lt a c with
  | true=>rfl
  | false=>rw [O.tr e h] at h'; cases h'
def R (lt:Nat→Nat→Bool) (a b:Nat):Prop:=lt a b=true∨(lt b a=false∧a < b)
theorem R.le (O:Ord lt) {a b:Nat} (h:R lt a b):lt b a=false:=h.elim O.asym (·.1)
abbrev g (p:Array Nat) (i:Nat):Nat:=p.getD i 0
theorem g_eq {p:Array Nat} {i:Nat}:g p i=(p[i]?).getD 0:=by simp [g]
theorem g_rev {p:Array Nat} {i j:Nat} (hj:j≤p.size) (k:Nat):g (kas_rev p i j) k=if i≤k∧k < j then g p (i + j - 1 - k) else g p k:=by
  unfold kas_rev
  rw [g_eq,getElem?_mirror_all hj,g_eq,g_eq]
  split <;> rfl
theorem g_bub {p:Array Nat} {k d:Nat} (hs:k < p.size) (hd:d≤k) (i:Nat):g (bubble p k d) i=if i=k - d then g p k else if k - d < i∧i≤k then g p (i - 1) else g p i:=by
  rw [g_eq,getElem?_bubble hs d hd,g_eq,g_eq,g_eq]
  split
  · rfl
  · split <;> rfl
structure Pm (N:Nat) (p:Array Nat) (n:Nat):Prop where
  sz:p.size=N
  pm:p.Perm (List.toArray (List.range N))
  lo:∀ i,i < n→g p i < n
  hi:∀ i,n≤i→i < N→g p i=i
theorem Pm.rev {p:Array Nat} {n i j:Nat} (h:Pm N p n) (hj:j≤n) (hn:n≤N):Pm N (kas_rev p i j) n where
  sz:=by rw [kas_rev_size]; exact h.sz
  pm:=(mirror_perm _ _ _ _).trans h.pm
  lo:=fun k hk=>by
    rw [g_rev (by rw [h.sz]; omega)]
    split
    · exact h.lo _ (by omega)
    · exact h.lo _ hk
  hi:=fun k hk hk2=>by
    rw [g_rev (by rw [h.sz]; omega),if_neg (by omega)]
    exact h.hi k hk hk2
theorem Pm.succ {p:Array Nat} {n:Nat} (h:Pm N p n) (hn:n < N):Pm N p (n + 1) where
  sz:=h.sz
  pm:=h.pm
  lo:=fun i hi=>by
    rcases Nat.lt_or_ge i n with h1 | h1
    · exact Nat.lt_succ_of_lt (h.lo i h1)
    · rw [h.hi i h1 (by omega)]; exact hi
  hi:=fun i h1 h2=>h.hi i (by omega) h2
def Asc (lt:Nat→Nat→Bool) (p:Array Nat) (n:Nat):Prop:=∀ i j,i < j→j < n→R lt (g p i) (g p j)
theorem asc_ok (O:Ord lt) (p:Array Nat):∀ (f n:Nat),1≤n→n + f=N→Pm N p n→Asc lt p n →
    Good N lt (kas_asc p f n) (fun m=>n≤m∧m≤N∧Pm N p m∧Asc lt p m∧(m < N→lt (g p m) (g p (m - 1))=true))
  | 0,n,h1,hn,hp,ha=>⟨Nat.le_refl _,by omega,hp,ha,fun h=>by omega⟩
  | f + 1,n,h1,hn,hp,ha=>by
    have hnN:n < N:=by omega
    have en:=hp.hi n (Nat.le_refl _) hnN
    have e1:=hp.lo (n - 1) (by omega)
    show Good N lt (.ask (g p n) (g p (n - 1)) fun c=>if c=true then .ret n else kas_asc p f (n + 1)) _
    refine ⟨by omega,by omega,?_⟩
    cases hc:lt (g p n) (g p (n - 1)) with
    | true =>
      try dsimp only
      rw [if_pos rfl]
      exact ⟨Nat.le_refl _,by omega,hp,ha,fun _=>hc⟩
    | false =>
      try dsimp only
      rw [if_neg (by simp)]
      refine good_mono (fun m h=>⟨by omega,h.2⟩) _ (asc_ok O p f (n + 1) (by omega) (by omega) (hp.succ hnN) fun i j hij hj=>?_)
      rcases Nat.lt_or_ge j n with h2 | h2
      · exact ha i j hij h2
      · obtain rfl:j=n:=by omega
        have hlo:=hp.lo i hij
        refine .inr ⟨?_,by omega⟩
        rcases Nat.lt_or_ge i (j - 1) with h3 | h3
        · exact O.tr ((ha i (j - 1) h3 (by omega)).le O) hc
        · obtain rfl:i=j - 1:=by omega
          exact hc
structure Dsc (lt:Nat→Nat→Bool) (p:Array Nat) (n q:Nat):Prop where
  a:∀ i j,i < j→j < n - (q + 1)→R lt (g p j) (g p i)
  b:∀ i j,i < n - (q + 1)→n - (q + 1)≤j→j < n→lt (g p j) (g p i)=true
  c:∀ i j,n - (q + 1)≤i→i < j→j < n→lt (g p i) (g p j)=false∧lt (g p j) (g p i)=false∧g p i < g p j
def Rv (lt:Nat→Nat→Bool) (p:Array Nat) (n:Nat):Prop:=∀ i j,i < j→j < n→R lt (g p j) (g p i)
theorem Dsc.rv0 {p:Array Nat} {n:Nat} (h:Dsc lt p n 0) (h1:1≤n):Rv lt p n:=fun i j hij hj=>by
  rcases Nat.lt_or_ge j (n - 1) with h2 | h2
  · exact h.a i j hij h2
  · exact .inl (h.b i j (by omega) h2 hj)
theorem Dsc.rv {p:Array Nat} {n q:Nat} (h:Dsc lt p n q) (hq:q + 1≤n) (hn:n≤p.size):Rv lt (kas_rev p (n - (q + 1)) n) n:=fun i j hij hj=>by
  rw [g_rev hn,g_rev hn]
  by_cases hi:n - (q + 1)≤i
  · rw [if_pos ⟨by omega,hj⟩,if_pos ⟨hi,by omega⟩]
    obtain ⟨c1,c2,c3⟩:=h.c (n - (q + 1) + n - 1 - j) (n - (q + 1) + n - 1 - i) (by omega) (by omega) (by omega)
    exact .inr ⟨c2,c3⟩
  · rw [if_neg (show ¬ (n - (q + 1)≤i∧i < n) by omega)]
    by_cases hj2:n - (q + 1)≤j
    · rw [if_pos ⟨hj2,hj⟩]
      exact .inl (h.b i _ (by omega) (by omega) (by omega))
    · rw [if_neg (by omega)]
      exact h.a i j hij (by omega)
theorem desc_ok (O:Ord lt):∀ (f:Nat) (p:Array Nat) (n q:Nat),q + 1≤n→n + f=N→Pm N p n→Dsc lt p n q →
    Good N lt (kas_desc f p n q) (fun r=>r.2.2 + 1≤r.2.1∧r.2.1≤N∧Pm N r.1 r.2.1∧Dsc lt r.1 r.2.1 r.2.2)
  | 0,p,n,q,hq,hn,hp,hd=>⟨hq,by show n≤N; omega,hp,hd⟩
  | f + 1,p,n,q,hq,hn,hp,hd=>by
    have hnN:n < N:=by omega
    have en:=hp.hi n (Nat.le_refl _) hnN
    have e1:=hp.lo (n - 1) (by omega)
    have hsz:=hp.sz
    refine ⟨by show g p n < N; omega,by show g p (n - 1) < N; omega,?_⟩
    cases hc:lt (p.getD n 0) (p.getD (n - 1) 0) with
    | true =>
      try dsimp only
      rw [if_pos rfl]
      have hx:∀ i,i < n→lt (g p n) (g p i)=true:=fun i hi=>by
        rcases Nat.lt_or_ge i (n - (q + 1)) with h2 | h2
        · have:=hd.b i (n - 1) h2 (by omega) (by omega)
          exact O.ltle hc (O.asym this)
        · rcases Nat.lt_or_ge i (n - 1) with h3 | h3
          · exact O.ltle hc (hd.c i (n - 1) h2 h3 (by omega)).1
          · obtain rfl:i=n - 1:=by omega
            exact hc
      have go:∀ p':Array Nat,Pm N p' n→Rv lt p' n→(∀ i,i < n→∃ i',i' < n∧g p' i=g p i')→g p' n=g p n →
          Good N lt (kas_desc f p' (n + 1) 0) (fun r=>r.2.2 + 1≤r.2.1∧r.2.1≤N∧Pm N r.1 r.2.1∧Dsc lt r.1 r.2.1 r.2.2):=fun p' hp' hv hs he=>by
        refine desc_ok O f p' (n + 1) 0 (by omega) (by omega) (hp'.succ hnN) ⟨fun i j hij hj=>hv i j hij (by omega),fun i j hi hj hj2=>?_,fun i j hi hij hj=>by omega⟩
        obtain rfl:j=n:=by omega
        obtain ⟨i',hi',e⟩:=hs i (by omega)
        rw [he,e]
        exact hx i' hi'
      by_cases hq0:q > 0
      · rw [if_pos hq0]
        refine go _ (hp.rev (Nat.le_refl _) (by omega)) (hd.rv hq (by omega)) (fun i hi=>?_) ?_
        · rw [g_rev (by omega)]
          split
          · exact ⟨_,by omega,rfl⟩
          · exact ⟨i,hi,rfl⟩
        · rw [g_rev (by omega),if_neg (by omega)]
      · rw [if_neg hq0]
        obtain rfl:q=0:=by omega
        exact go p hp (hd.rv0 hq) (fun i hi=>⟨i,hi,rfl⟩) rfl
    | false =>
      try dsimp only
      rw [if_neg (by simp)]
      refine ⟨by show g p (n - 1) < N; omega,by show g p n < N; omega,?_⟩
      cases hdd:lt (p.getD (n - 1) 0) (p.getD n 0) with
      | true =>
        try dsimp only
        rw [if_pos rfl]
        exact ⟨hq,by show n≤N; omega,hp,hd⟩
      | false =>
        try dsimp only
        rw [if_neg (by simp)]
        have eb:n + 1 - (q + 1 + 1)=n - (q + 1):=by omega
        refine desc_ok O f p (n + 1) (q + 1) (by omega) (by omega) (hp.succ hnN) ⟨fun i j hij hj=>hd.a i j hij (by omega),fun i j hi hj hj2=>?_,fun i j hi hij hj=>?_⟩
        · rw [eb] at hi hj
          rcases Nat.lt_or_ge j n with h2 | h2
          · exact hd.b i j hi hj h2
          · obtain rfl:j=n:=by omega
            exact O.lelt (c:=g p i) hdd (hd.b i (j - 1) hi (by omega) (by omega))
        · rw [eb] at hi
          rcases Nat.lt_or_ge j n with h2 | h2
          · exact hd.c i j hi hij h2
          · obtain rfl:j=n:=by omega
            have hlo:=hp.lo i hij
            rcases Nat.lt_or_ge i (j - 1) with h3 | h3
            · obtain ⟨c1,c2,c3⟩:=hd.c i (j - 1) hi h3 (by omega)
              exact ⟨O.tr hdd c1,O.tr c2 hc,by omega⟩
            · obtain rfl:i=j - 1:=by omega
              exact ⟨hdd,hc,by omega⟩
abbrev Cnt (N:Nat) (lt:Nat→Nat→Bool) (r:Nat × Array Nat):Prop:=1≤r.1∧r.1≤N∧Pm N r.2 r.1∧Asc lt r.2 r.1
theorem tail3_ok (O:Ord lt) {p:Array Nat} {n:Nat} (h1:1≤n) (hn:n≤N) (hp:Pm N p n) (hv:Rv lt p n):Good N lt (kas_tail3 n N p) (Cnt N lt):=by
  have hsz:=hp.sz
  refine good_bind _ (good_mono (fun m h=>?_) _ (asc_ok O (kas_rev p 0 n) (N - n) n h1 (by omega) (hp.rev (Nat.le_refl _) hn) fun i j hij hj=>?_))
  · exact ⟨by show 1≤m; omega,h.2.1,h.2.2.1,h.2.2.2.1⟩
  · rw [g_rev (by omega),g_rev (by omega),if_pos (by omega),if_pos (by omega)]
    exact hv _ _ (by omega) (by omega)
theorem descPart_ok (O:Ord lt) {p:Array Nat} {n:Nat} (hn:n < N) (hp:Pm N p n) (hv:Rv lt p n) (hx:∀ i,i < n→lt (g p n) (g p i)=true):Good N lt (kas_descPart n N p) (Cnt N lt):=by
  refine good_bind _ (good_mono (fun r h=>?_) _ (desc_ok O (N - (n + 1)) p (n + 1) 0 (by omega) (by omega) (hp.succ hn) ⟨fun i j hij hj=>hv i j hij (by omega),fun i j hi hj hj2=>?_,fun i j hi hij hj=>by omega⟩))
  · obtain ⟨q1,q2,q3,q4⟩:=h
    have hsz:=q3.sz
    by_cases hq:r.2.2 > 0
    · rw [if_pos hq]
      exact tail3_ok O (by omega) q2 (q3.rev (Nat.le_refl _) q2) (q4.rv q1 (by omega))
    · rw [if_neg hq]
      have e0:r.2.2=0:=by omega
      rw [e0] at q4
      exact tail3_ok O (by omega) q2 q3 (q4.rv0 (by omega))
  · obtain rfl:j=n:=by omega
    exact hx i (by omega)
theorem count_ok (O:Ord lt) {p:Array Nat} (h1:1≤N) (hp:Pm N p 1):Good N lt (kas_count N p) (Cnt N lt):=by
  have hsz:=hp.sz
  refine good_bind _ (good_mono (fun m h=>?_) _ (asc_ok O p (N - 1) 1 (Nat.le_refl _) (by omega) hp fun i j hij hj=>by omega))
  obtain ⟨m1,m2,m3,m4,m5⟩:=h
  by_cases hm:m=N
  · rw [if_pos (by rw [hm]; exact beq_self_eq_true _)]
    exact ⟨m1,m2,m3,m4⟩
  · rw [if_neg (by intro e; exact hm (by simpa using e))]
    have hlt:=m5 (by omega)
    by_cases hm1:m > 1
    · rw [if_pos hm1]
      have l0:=m3.lo 0 (by omega)
      have l1:=m3.lo (m - 1) (by omega)
      refine ⟨by show g p 0 < N; omega,by show g p (m - 1) < N; omega,?_⟩
      cases hc:lt (p.getD 0 0) (p.getD (m - 1) 0) with
      | true =>
        try dsimp only
        rw [if_pos rfl]
        exact ⟨m1,m2,m3,m4⟩
      | false =>
        try dsimp only
        rw [if_neg (by simp)]
        have le1:∀ i,i < m→lt (g p i) (g p (m - 1))=false:=fun i hi=>by
          rcases Nat.eq_zero_or_pos i with h0 | h0
          · subst h0; exact hc
          · exact O.tr hc ((m4 0 i h0 hi).le O)
        have le2:∀ i,i < m→lt (g p (m - 1)) (g p i)=false:=fun i hi=>by
          rcases Nat.lt_or_ge i (m - 1) with h0 | h0
          · exact (m4 i (m - 1) h0 (by omega)).le O
          · obtain rfl:i=m - 1:=by omega
            exact le1 _ hi
        have all:∀ i j,i < m→j < m→lt (g p i) (g p j)=false:=fun i j hi hj=>O.tr (le2 j hj) (le1 i hi)
        have idx:∀ i j,i < j→j < m→g p i < g p j:=fun i j hij hj=>by
          rcases m4 i j hij hj with h | h
          · rw [all i j (by omega) hj] at h; cases h
          · exact h.2
        refine descPart_ok O (by omega) (m3.rev (Nat.le_refl _) m2) (fun i j hij hj=>?_) fun i hi=>?_
        · rw [g_rev (by omega),g_rev (by omega),if_pos (by omega),if_pos (by omega)]
          exact .inr ⟨all _ _ (by omega) (by omega),idx _ _ (by omega) (by omega)⟩
        · rw [g_rev (by omega),g_rev (by omega),if_neg (by omega),if_pos (by omega)]
          exact O.ltle hlt (le1 _ (by omega))
    · rw [if_neg hm1]
      obtain rfl:m=1:=by omega
      refine descPart_ok O (by omega) m3 (fun i j hij hj=>by omega) fun i hi=>?_
      obtain rfl:i=0:=by omega
      exact hlt
theorem place_ok (O:Ord lt) {p:Array Nat} {k:Nat} (hk:k < N) (hp:Pm N p k) (ha:Asc lt p k):∀ (f l r:Nat),l≤r→r≤k→r - l≤f→(∀ i,i < l→lt (g p k) (g p i)=false)→(∀ i,r≤i→i < k→lt (g p k) (g p i)=true) →
    Good N lt (kas_place p k f l r) (fun l'=>l'≤k∧(∀ i,i < l'→lt (g p k) (g p i)=false)∧∀ i,l'≤i→i < k→lt (g p k) (g p i)=true)
  | 0,l,r,h1,h2,h3,hl,hr=>⟨by omega,hl,fun i h4 h5=>hr i (by omega) h5⟩
  | f + 1,l,r,h1,h2,h3,hl,hr=>by
    show Good N lt (if l ≥ r then .ret l else .ask (p.getD k 0) (p.getD ((l + r) / 2) 0) fun c=>if c=true then kas_place p k f l ((l + r) / 2) else kas_place p k f ((l + r) / 2 + 1) r) _
    by_cases hlr:l ≥ r
    · rw [if_pos hlr]
      exact ⟨by omega,hl,fun i h4 h5=>hr i (by omega) h5⟩
    · rw [if_neg hlr]
      have ek:=hp.hi k (Nat.le_refl _) hk
      have em:=hp.lo ((l + r) / 2) (by omega)
      refine ⟨by show g p k < N; omega,by show g p _ < N; omega,?_⟩
      cases hc:lt (p.getD k 0) (p.getD ((l + r) / 2) 0) with
      | true =>
        try dsimp only
        rw [if_pos rfl]
        refine place_ok O hk hp ha f l ((l + r) / 2) (by omega) (by omega) (by omega) hl fun i h4 h5=>?_
        rcases Nat.lt_or_ge ((l + r) / 2) i with h6 | h6
        · exact O.ltle hc ((ha _ i h6 h5).le O)
        · obtain rfl:i=(l + r) / 2:=by omega
          exact hc
      | false =>
        try dsimp only
        rw [if_neg (by simp)]
        refine place_ok O hk hp ha f ((l + r) / 2 + 1) r (by omega) h2 (by omega) (fun i h4=>?_) hr
        rcases Nat.lt_or_ge i ((l + r) / 2) with h6 | h6
        · exact O.tr ((ha i _ h6 (by omega)).le O) hc
        · obtain rfl:i=(l + r) / 2:=by omega
          exact hc
theorem bin_ok (O:Ord lt):∀ (f:Nat) (p:Array Nat) (k:Nat),k + f=N→Pm N p k→Asc lt p k→Good N lt (kas_bin f p k) (fun p'=>Pm N p' N∧Asc lt p' N)
  | 0,p,k,hk,hp,ha=>by
    obtain rfl:k=N:=by omega
    exact ⟨hp,ha⟩
  | f + 1,p,k,hk,hp,ha=>by
    refine good_bind _ (good_mono (fun l h=>?_) _ (place_ok O (by omega) hp ha k 0 k (Nat.zero_le _) (Nat.le_refl _) (by omega) (fun i h=>by omega) fun i h1 h2=>by omega))
    obtain ⟨hl,h1,h2⟩:=h
    have hsz:=hp.sz
    have ek:=hp.hi k (Nat.le_refl _) (by omega)
    have gb:=fun i=>g_bub (p:=p) (k:=k) (d:=k - l) (by omega) (by omega) i
    have el:k - (k - l)=l:=by omega
    rw [el] at gb
    refine bin_ok O f _ (k + 1) (by omega) ⟨by rw [bubble_size]; exact hsz,(bubble_perm _ _ _).trans hp.pm,fun i hi=>?_,fun i hi hi2=>?_⟩ fun i j hij hj=>?_
    · rw [gb]
      split
      · omega
      · split
        · have:=hp.lo (i - 1) (by omega); omega
        · have:=hp.lo i (by omega); omega
    · rw [gb,if_neg (by omega),if_neg (by omega)]
      exact hp.hi i (by omega) hi2
    · rw [gb,gb]
      by_cases j1:j=l
      · rw [if_pos j1,if_neg (by omega),if_neg (by omega)]
        have:=hp.lo i (by omega)
        exact .inr ⟨h1 i (by omega),by omega⟩
      · rw [if_neg j1]
        by_cases i1:i=l
        · rw [if_pos i1,if_pos (by omega)]
          exact .inl (h2 (j - 1) (by omega) (by omega))
        · rw [if_neg i1]
          by_cases j2:l < j∧j≤k
          · rw [if_pos j2]
            split
            · exact ha _ _ (by omega) (by omega)
            · exact ha _ _ (by omega) (by omega)
          · rw [if_neg j2,if_neg (by omega)]
            exact ha i j hij (by omega)
theorem start_pm (N:Nat):Pm N (List.toArray (List.range N)) 1 where
  sz:=by simp
  pm:=Array.Perm.refl _
  lo:=fun i hi=>by
    obtain rfl:i=0:=by omega
    rw [g_eq]
    cases N with
    | zero=>simp
    | succ m=>simp
  hi:=fun i _ hi=>by rw [g_eq]; simp [hi]
theorem sort_ok (O:Ord lt) (h1:1≤N):Good N lt (kas_sort N) (fun p=>Pm N p N∧Asc lt p N):=by
  refine good_bind _ (good_mono (fun r h=>?_) _ (count_ok O h1 (start_pm N)))
  obtain ⟨r1,r2,r3,r4⟩:=h
  by_cases hr:r.1 < N
  · rw [if_pos hr]
    have em:max r.1 1=r.1:=by omega
    rw [em]
    exact bin_ok O _ _ _ (by omega) r3 r4
  · rw [if_neg hr]
    have e:r.1=N:=by omega
    rw [e] at r3 r4
    exact ⟨r3,r4⟩
theorem out_ok {p:Array Nat} (hp:Pm N p N) (ha:Asc lt p N):p.toList.Perm (List.range N)∧p.toList.Pairwise (R lt):=by
  refine ⟨by simpa using Array.perm_iff_toList_perm.mp hp.pm,List.pairwise_iff_getElem.mpr fun i j hi hj hij=>?_⟩
  have hsz:=hp.sz
  rw [Array.length_toList] at hi hj
  have:=ha i j hij (by omega)
  simpa [g,Array.getD,hi,hj] using this
end
end Srt
namespace L2
open PySem PySem.Spec PyProof.Rows
def inn (X:Cx):Cx:={ X with A:=X.A.in1.in1,xe:=fun _ _=>False }
section
variable {X:Cx} {pins:List (Addr × Obj)} {σ:St} {H:Hp} {s:Shared}
theorem Inv.inn (I:Inv X pins σ H s):Inv (inn X) pins σ H s :=
  ⟨⟨I.ok.mod,I.ok.kind,I.ok.glob,I.ok.blt,I.ok.above,I.ok.inj,I.ok.has,I.ok.cab,I.ok.hd,I.ok.frames,I.ok.stk,I.ok.exf,I.ok.bs,I.ok.bsz,I.ok.noex,I.ok.exfs,I.ok.funs,I.ok.frf⟩,I.os,I.bare,I.base,I.loc,I.cell,I.free,I.freeC,I.pin,I.hok,I.len⟩
theorem Inv.out (ok:X.Ok) (I:Inv (L2.inn X) pins σ H s):Inv X pins σ H s :=
  ⟨ok,I.os,I.bare,I.base,I.loc,I.cell,I.free,I.freeC,I.pin,I.hok,I.len⟩
theorem Inv.track {D:Addr} {ys:List V} {its:List Value} {n:Nat} (I:Inv X pins σ H s) (f:FpOk X pins H D) (hg:s.heap.get? D=some { cls:=.type "list",data:=.seq its.toArray n }) (hv:Vals ys its) (hz:ys.length≤sizeLine):Inv X pins σ (upd H D (.lst ys)) s:=by
  obtain ⟨f1,f2,f3,f4,f5,f6⟩:=f
  have nD:∀ b u,H b=some u→b≠D:=fun b u e z=>by rw [z,f1] at e; cases e
  have J:=I.step (h':=s.heap) (g':=s.gens) (t':=s.toks) (d':=s.drawn) (ch:=[D]) (H':=upd H D (.lst ys)) (fun b hb=>by
      have e:b=D:=by simpa using hb
      subst e
      exact ⟨f4,f2,f5,f6⟩)
    (fun b o _ _ _ e _=>e) (fun b o _ _ _ e _=>⟨o.slots,e⟩) (fun b o hc e n=>by rw [upd_ne (by simpa using hc)]; exact n) (fun b o _ e=>⟨o,e⟩)
    (fun b xs e=>by rw [upd_ne (nD _ _ e)]; exact e) (fun b o u e=>by rw [upd_ne (nD _ _ e)]; exact e) (fun b ps e=>⟨#[],by rw [upd_ne (nD _ _ e),e]; simp⟩) (fun m hm=>hm) (fun b u e=>by
      by_cases hb:b=D
      · subst hb
        rw [upd_same] at e
        cases e
        exact ⟨hz,its,n,hv,hg⟩
      · rw [upd_ne hb] at e
        exact (I.hok b u e).stay (fun _ _ _ q=>q) (fun c q=>by rw [upd_ne (nD _ _ q)]; exact q) fun c xs q=>by rw [upd_ne (nD _ _ q)]; exact q) I.bare
  exact J
theorem FpOk.pinned {b:Addr} {pl:List (Addr × Obj)} (f:FpOk X pins H b) (h:∀ p ∈ pl,p.1≠b):FpOk X (pins++pl) H b:=by
  obtain ⟨f1,f2,f3,f4,f5,f6⟩:=f
  refine ⟨f1,f2,f3,f4,f5,fun p hp=>?_⟩
  rcases List.mem_append.mp hp with hp | hp
  · exact f6 p (List.mem_append_left _ hp)
  · rcases List.mem_append.mp hp with hp | hp
    · exact f6 p (List.mem_append_right _ hp)
    · exact h p hp
theorem FpOk.on {b:Addr} {H':Hp} (f:FpOk X pins H b) (h:H' b=none):FpOk X pins H' b:=⟨h,f.2⟩
theorem Inv.wr {b:Addr} {h':Heap} {t':Nat} (I:Inv X pins σ H s) (f:FpOk X pins H b) (k:∀ c o,c≠b→s.heap.get? c=some o→h'.get? c=some o):Inv X pins σ H { s with heap:=h',toks:=t' } :=
  I.turned k f.1 f.2.1 f.2.2.2.1 f.2.2.2.2.1 f.2.2.2.2.2
theorem upd_keeps {h:Heap} {b:Addr} {f:Obj→Obj}:∀ c o,c≠b→h.get? c=some o→(h.update b f).get? c=some o:=fun c o hc e=>by
  rw [Heap.get?_update_ne _ _ _ _ hc]
  exact e
end
abbrev kd (pins:List (Addr × Obj)) (kS D:Addr) (ks:List Value) (e e1:Nat):List (Addr × Obj):=pins++[(kS,seqObj "list" ks.toArray e),(D,seqObj "list" #[] e1)]
section
variable {X:Cx} {pins:List (Addr × Obj)} {σ:St} {H:Hp} {s:Shared} {kS D:Addr} {its:List Value} {xs:List V} {f:Value} {Q:VK}
structure Asks (X:Cx) (n:Nat) (ks:List Value) (s:Shared) (κ:SortKind) (lt:Nat→Nat→Bool):Prop where
  ord:Srt.Ord lt
  kind:2≤n→∀ Q:SortKind→Shared→Prop,Q κ s→wpAny (model X.prog X.w) X.A.in1.in1 (keyKind' ks.toArray) Q (fun _ _=>False) s
  ask:∀ i j (C:Bool→Shared→Prop),i < n→j < n→C (lt i j) s→PySem.W.kas_ask X.prog X.w X.A.in1.in1 κ ks i j C s
def SEnd (X:Cx) (xs:List V) (Q:VK) (J:Nat→Hp→List Value→Prop):Prop:=∀ (pins:List (Addr × Obj)) (σ:St) (H:Hp) (s:Shared) (ks:List Value),J xs.length H ks→ks.length=xs.length→Inv (inn X) pins σ H s→∃ κ lt,Asks X xs.length ks s κ lt ∧
  ∀ p:List Nat,p.Perm (List.range xs.length)→p.Pairwise (Srt.R lt)→∀ D,H D=none→Q (.ref D) (upd H D (.lst (p.map fun i=>xs.getD i .non)))
theorem vals_pick {xs:List V} {its:List Value} (r:Vals xs its):∀ (p:List Nat),(∀ i ∈ p,i < xs.length)→Vals (p.map fun i=>xs.getD i .non) (p.map fun i=>its.getD i Value.none)
  | [],_=>.nil
  | i::p,h=>by
    have hi:=h i List.mem_cons_self
    refine .cons ?_ (vals_pick r p fun j hj=>h j (List.mem_cons_of_mem _ hj))
    obtain ⟨u,e,ru⟩:=r.get (List.getElem?_eq_getElem hi)
    show RelV (xs.getD i .non) (its.getD i Value.none)
    rw [List.getD_eq_getElem?_getD,List.getD_eq_getElem?_getD,e,List.getElem?_eq_getElem hi]
    exact ru
theorem sort_tail {out:List Value} {ys:List V} {ks:List Value} {e e1:Nat} {st:SortSt} {E:Value→Shared→Prop} (ok:X.Ok) (I:Inv (inn X) (kd pins kS D ks e e1) σ H s) (fk:FpOk (inn X) pins H kS) (fD:FpOk (inn X) pins H D) (hne:kS≠D) (hz:out.length < 64) (hkz:ks.length < 64)
    (hout:(arrOf st).map (·.2)=List.toArray out) (hf:failedOf st=none) (hv:Vals ys out) (q:Q (.ref D) (upd H D (.lst ys))) :
    wpAny (model X.prog X.w) X.A.in1.in1 (ksk_tail D false e1 (.ref kS) st) (fun fin s'=>fin=.done (.ret .none)∧EP X pins σ Q (.ref D) s') E s:=by
  have pk:=I.pin (kS,seqObj "list" ks.toArray e) (by simp)
  have pD:=I.pin (D,seqObj "list" #[] e1) (by simp)
  have I0:Inv (inn X) pins σ H s:=I.pins_of fun p hp=>I.pin p (List.mem_append_right _ (List.mem_append_left _ hp))
  unfold ksk_tail
  try dsimp only
  rw [hout]
  refine wpAny_bind (listUpdate_at pk.1 rfl ?_ (by rw [List.size_toArray,sizeLine_eq]; omega) (Nat.zero_le _))
  refine wpAny_bind (wpAny_letGo ?_)
  have gD:(s.heap.update kS (Obj.mapSeq fun _=>(#[]:Array Value))).get? D=some (seqObj "list" #[] e1):=upd_keeps D _ (Ne.symm hne) pD.1
  refine wpAny_bind (seqEpoch_at gD rfl ?_)
  refine wpAny_bind (listUpdate_at gD rfl ?_ (Nat.zero_le _) (by simp only [Bool.false_eq_true,if_false]; rw [List.size_toArray,sizeLine_eq]; omega))
  rw [hf]
  simp only [bne_self_eq_false,Bool.false_eq_true,if_false]
  have I1:=I0.wr (t':=s.toks) fk (h':=s.heap.update kS (Obj.mapSeq fun _=>(#[]:Array Value))) upd_keeps
  have I2:=I1.wr (t':=s.toks) fD (h':=(s.heap.update kS (Obj.mapSeq fun _=>(#[]:Array Value))).update D (Obj.mapSeq fun _=>List.toArray out)) upd_keeps
  obtain ⟨c2,hc2⟩:∃ c2,((s.heap.update kS (Obj.mapSeq fun _=>(#[]:Array Value))).update D (Obj.mapSeq fun _=>List.toArray out)).get? D=some (seqObj "list" (List.toArray out) c2):=⟨_,get?_update_seq gD fun _=>List.toArray out⟩
  have I3:=I2.track (ys:=ys) (its:=out) (n:=c2) fD hc2 hv (by rw [hv.length,sizeLine_eq]; omega)
  exact wpAny_pure ⟨rfl,.ref D,_,Inv.out ok I3,rfl,q⟩
theorem sort_end {J:Nat→Hp→List Value→Prop} {ks:List Value} {e e1:Nat} {E:Value→Shared→Prop} (ok:X.Ok) (I:Inv (inn X) (kd pins kS D ks e e1) σ H s) (fk:FpOk (inn X) pins H kS) (fD:FpOk (inn X) pins H D) (hne:kS≠D) (h64:its.length < 64)
    (rv:Vals xs its) (hk:ks.length=xs.length) (hJ:J xs.length H ks) (h:SEnd X xs Q J) :
    wpAny (model X.prog X.w) X.A.in1.in1 (ksk_end D false its.toArray e1 (.ref kS) ks.toArray) (fun fin s'=>fin=.done (.ret .none)∧EP X pins σ Q (.ref D) s') E s:=by
  have hl:=rv.length
  obtain ⟨κ,lt,ha,q⟩:=h _ _ _ _ ks hJ hk I
  unfold ksk_end
  try dsimp only
  simp only [Bool.false_eq_true,if_false]
  by_cases h2:its.toArray.size < 2
  · rw [if_pos h2,if_pos h2]
    refine wpAny_bind (wpAny_pure ?_)
    rw [StateT.run_pure]
    refine wpAny_bind (wpAny_pure ?_)
    try dsimp only
    rw [List.size_toArray] at h2
    have ep:(List.range xs.length).map (fun i=>xs.getD i .non)=xs:=by
      refine List.ext_getElem (by simp) fun i h1 h2=>?_
      simp at h1
      simp [h1]
    have q0:=q (List.range xs.length) (List.Perm.refl _) (by
      rcases Nat.lt_or_ge xs.length 1 with z | z
      · rw [show xs.length=0 by omega]; exact List.Pairwise.nil
      · rw [show xs.length=1 by omega]; exact List.pairwise_singleton _ _) D fD.1
    rw [ep] at q0
    refine sort_tail (st:=SortSt.mk' general' (ks.toArray.zip its.toArray) #[] 7 none) ok I fk fD hne h64 (by omega) ?_ rfl rv q0
    show (ks.toArray.zip its.toArray).map (·.2)=its.toArray
    apply Array.toList_inj.mp
    rw [Array.toList_map,ksk_zip]
    simp only [List.toList_toArray]
    exact List.map_snd_zip (by omega)
  · rw [if_neg h2,if_neg h2]
    rw [List.size_toArray] at h2
    refine wpAny_bind (wpAny_mono (ha.kind (by omega) (fun κ' s'=>κ'=κ∧s'=s) ⟨rfl,rfl⟩) (fun κ' s' hκ=>?_) fun _ _ x=>x.elim)
    obtain ⟨rfl,rfl⟩:=hκ
    have so:=Srt.good_wp (Q:=fun p s''=>s''=s'∧Srt.Pm its.length p its.length∧Srt.Asc lt p its.length) (s:=s') (cmp:=PySem.W.kas_ask X.prog X.w X.A.in1.in1 κ' ks) (fun i j C hi hj hC=>ha.ask i j C (by omega) (by omega) hC)
      (PySem.W.kas_sort its.length) (Srt.good_mono (fun p hp=>⟨rfl,hp⟩) _ (Srt.sort_ok ha.ord (by omega)))
    refine wpAny_bind (wpAny_mono (PySem.W.kat_run (Q:=fun st' s''=>∃ p:Array Nat,arrOf st'=p.map (PySem.W.kas_item (ks.toArray.zip its.toArray))∧failedOf st'=none∧s''=s'∧Srt.Pm its.length p its.length∧Srt.Asc lt p its.length)
      (by omega) (by omega) h64 (fun p' st' s'' a1 a2 a3 a4=>⟨p',a2,a3,a4⟩) so) ?_ fun _ _ x=>x)
    rintro ⟨⟨⟩,st'⟩ s'' ⟨p,har,hf,rfl,hp,hasc⟩
    try dsimp only
    obtain ⟨o1,o2⟩:=Srt.out_ok hp hasc
    rw [← hl] at o1
    have hlt:∀ i ∈ p.toList,i < xs.length:=fun i hi=>List.mem_range.mp (o1.mem_iff.mp hi)
    refine sort_tail (out:=p.toList.map fun i=>its.getD i Value.none) (ys:=p.toList.map fun i=>xs.getD i .non) ok I fk fD hne ?_ (by omega) (PySem.W.kat_snds (by omega) har) hf (vals_pick rv _ hlt) (q _ o1 o2 D fD.1)
    rw [List.length_map,Array.length_toList,hp.sz]
    exact h64
theorem sort_rest {J:Nat→Hp→List Value→Prop} {e1:Nat} {E:Value→Shared→Prop} (ok:X.Ok) (I:Inv (inn X) (kd pins kS D [] 0 e1) σ H s) (fk:FpOk (inn X) pins H kS) (fD:FpOk (inn X) pins H D) (hne:kS≠D) (h64:its.length < 64)
    (rv:Vals xs its) (hJ:J 0 H []) (turn:∀ (i:Nat) (x:V) (v:Value) (pins:List (Addr × Obj)) (σ:St) (H:Hp) (s:Shared) (ks:List Value),xs[i]?=some x→RelV x v→J i H ks→ks.length=i→Inv (inn X) pins σ H s →
      wpAny (model X.prog X.w) X.A.in1.in1 (call f [v]) (fun u s2=>∃ H2,Inv (inn X) pins σ H2 s2∧J (i + 1) H2 (ks++[u])) (fun _ _=>False) s) (h:SEnd X xs Q J) :
    wpAny (model X.prog X.w) X.A.in1.in1 (ksk_rest D f false its.toArray e1 (.ref kS)) (fun fin s'=>fin=.done (.ret .none)∧EP X pins σ Q (.ref D) s') E s:=by
  have hl:=rv.length
  unfold ksk_rest
  refine wpAny_bind (wpAny_rule ?_)
  rw [List.forIn_toArray]
  refine wpAny_bind (ksk_fold (fun i s'=>∃ H' ks e,J i H' ks∧ks.length=i∧Inv (inn X) (kd pins kS D ks e e1) σ H' s') its 0 s ⟨H,[],0,hJ,rfl,I⟩ ?step ?done)
  case step =>
    rintro j v s' hv ⟨H',ks,e,hJ',hk,I'⟩
    simp only [Nat.zero_add] at hJ' hk ⊢
    have hj:j < its.length:=(List.getElem?_eq_some_iff.mp hv).1
    have hx:xs[j]?=some (xs[j]'(by omega)):=List.getElem?_eq_getElem _
    obtain ⟨u,eu,ru⟩:=rv.get hx
    rw [hv] at eu
    cases eu
    refine wpAny_bind (wpAny_attempt (wpAny_mono (turn j _ v _ _ _ _ ks hx ru hJ' hk I') (fun u s2 hu=>?_) fun _ _ hF=>hF.elim))
    obtain ⟨H2,I2,J2⟩:=hu
    try dsimp only
    have pk:=I2.pin (kS,seqObj "list" ks.toArray e) (by simp)
    have pD:=I2.pin (D,seqObj "list" #[] e1) (by simp)
    have I3:Inv (inn X) (pins++[(D,seqObj "list" #[] e1)]) σ H2 s2:=I2.pins_of fun p hp=>I2.pin p (by
      refine List.mem_append_right _ ?_
      rcases List.mem_append.mp hp with z | z
      · exact List.mem_append_left _ z
      · exact List.mem_append_right _ (.tail _ z))
    refine wpAny_bind (listUpdate_at pk.1 rfl ?_ (by rw [List.size_toArray,sizeLine_eq]; omega) (Nat.le_trans (Nat.le_of_eq (Array.size_push ..)) (by rw [List.size_toArray,sizeLine_eq]; omega)))
    have ea:(List.toArray ks).push u=List.toArray (ks++[u]):=by simp
    obtain ⟨c2,hc2⟩:∃ c2,(s2.heap.update kS (Obj.mapSeq (·.push u))).get? kS=some (seqObj "list" (List.toArray (ks++[u])) c2):=⟨_,by rw [← ea]; exact get?_update_seq pk.1 (·.push u)⟩
    have I4:=I3.wr (t':=s2.toks) ((fk.on pk.2.1).pinned fun p hp=>by rw [List.mem_singleton.mp hp]; exact Ne.symm hne) (h':=s2.heap.update kS (Obj.mapSeq (·.push u))) upd_keeps
    refine wpAny_pure ⟨rfl,H2,ks++[u],c2,J2,by rw [List.length_append,List.length_singleton,hk],I4.pins_of fun p hp=>?_⟩
    rcases List.mem_append.mp hp with z | z
    · exact I4.pin p (List.mem_append_right _ (List.mem_append_left _ z))
    · rcases List.mem_cons.mp z with rfl | z
      · exact ⟨hc2,pk.2.1,pk.2.2.1,pk.2.2.2.1,fun v e=>nomatch e⟩
      · exact I4.pin p (List.mem_append_right _ (List.mem_append_right _ z))
  case done =>
    rintro s' ⟨H',ks,e,hJ',hk,I'⟩
    rw [Nat.zero_add,← hl] at hJ' hk
    have pk:=I'.pin (kS,seqObj "list" ks.toArray e) (by simp)
    have pD:=I'.pin (D,seqObj "list" #[] e1) (by simp)
    try dsimp only
    refine wpAny_bind (listItems_at pk.1 rfl ?_)
    exact sort_end ok I' (fk.on pk.2.1) (fD.on pD.2.1) hne h64 rv hk hJ' h
theorem sort_call {J:Nat→Hp→List Value→Prop} {l q:Addr} (I:Inv X pins σ H s) (hl:SqL X.K H l xs) (h64:xs.length < 64)
    (hJ:J 0 H []) (turn:∀ (i:Nat) (x:V) (v:Value) (pins:List (Addr × Obj)) (σ:St) (H:Hp) (s:Shared) (ks:List Value),xs[i]?=some x→RelV x v→J i H ks→ks.length=i→Inv (inn X) pins σ H s →
      wpAny (model X.prog X.w) X.A.in1.in1 (call (.ref q) [v]) (fun u s2=>∃ H2,Inv (inn X) pins σ H2 s2∧J (i + 1) H2 (ks++[u])) (fun _ _=>False) s) (h:SEnd X xs Q J) :
    wpAny (model X.prog X.w) X.A (call (.builtin "sorted") [.ref l] [(Str.ofString "key",.ref q)]) (EP X pins σ Q) X.xe s:=by
  obtain ⟨its,rv,hIl,hzl⟩:=I.list hl
  have hlen:=rv.length
  have h64':its.length < 64:=by omega
  refine call_function_entry_kw kind_sorted plain_sorted entry_sorted (ksk_s1 _ _) ?_
  unfold Builtin.«sorted»
  refine wpAny_bind (m:=checkCount "sorted" 1 1 _) (wpAny_pure ?_)
  refine wpAny_bind (collect_list hIl.isList ?_ (by rw [sizeLine_eq]; omega))
  refine wpAny_bind (wpAny_newList ?_ (by rw [sizeLine_eq]; omega))
  have hsz:((s.heap.push (seqObj "list" #[] 0)).update s.heap.objs.size (Obj.mapSeq (·++its.toArray))).objs.size=s.heap.objs.size + 1:=by
    rw [Heap.size_update,size_push']
  have hoL:(((s.heap.push (seqObj "list" #[] 0)).update s.heap.objs.size (Obj.mapSeq (·++its.toArray))).push (seqObj "list" its.toArray 0)).get? (s.heap.objs.size + 1)=some (seqObj "list" its.toArray 0):=by
    rw [← hsz]; exact Heap.get?_push_size _ rfl
  have keep:∀ b o,s.heap.get? b=some o→(((s.heap.push (seqObj "list" #[] 0)).update s.heap.objs.size (Obj.mapSeq (·++its.toArray))).push (seqObj "list" its.toArray 0)).get? b=some o:=fun b o q=>by
    have hlt:b < s.heap.objs.size:=Heap.lt_size q
    rw [Heap.get?_push_ne _ _ _ (by rw [hsz]; exact Nat.ne_of_lt (Nat.lt_succ_of_lt hlt)),Heap.get?_update_ne _ _ _ _ (Nat.ne_of_lt hlt),Heap.get?_push_ne _ _ _ (Nat.ne_of_lt hlt)]
    exact q
  show wpAny _ _ _ _ _ { s with heap:=((s.heap.push (seqObj "list" #[] 0)).update s.heap.objs.size (Obj.mapSeq (·++its.toArray))).push (seqObj "list" its.toArray 0) }
  rw [hsz]
  have fD:FpOk (inn X) pins H (s.heap.objs.size + 1):=I.inn.fpOk (Nat.le_succ _) (I.hok.fresh (Nat.le_succ _))
  have I1:=I.inn.kept (t':=s.toks) keep
  refine wpAny_bind (wpAny_holding (wpAny_call_entry_kw slot_list_sort ⟨_,hoL,rfl⟩ entry_list_sort ?body (ksk_l1 _ _)))
  case body =>
    show wpAny (model X.prog X.w) X.A.in1.in1 (Builtin.«list.sort» ⟨[.ref (s.heap.objs.size + 1)],_⟩) _ _ _
    rw [ksk_t1]
    unfold ksk_tree
    refine wpAny_bind (listItems_at hoL rfl ?_)
    refine wpAny_bind (listUpdate_at hoL rfl ?_ (by rw [List.size_toArray,sizeLine_eq]; omega) (Nat.zero_le _))
    obtain ⟨e1,ho1⟩:∃ e1,((((s.heap.push (seqObj "list" #[] 0)).update s.heap.objs.size (Obj.mapSeq (·++its.toArray))).push (seqObj "list" its.toArray 0)).update (s.heap.objs.size + 1) (Obj.mapSeq fun _=>(#[]:Array Value))).get? (s.heap.objs.size + 1)=some (seqObj "list" #[] e1):=⟨_,get?_update_seq hoL fun _=>#[]⟩
    have I2:=I1.wr (t':=s.toks) fD (h':=(((s.heap.push (seqObj "list" #[] 0)).update s.heap.objs.size (Obj.mapSeq (·++its.toArray))).push (seqObj "list" its.toArray 0)).update (s.heap.objs.size + 1) (Obj.mapSeq fun _=>(#[]:Array Value))) upd_keeps
    generalize hh:(((s.heap.push (seqObj "list" #[] 0)).update s.heap.objs.size (Obj.mapSeq (·++its.toArray))).push (seqObj "list" its.toArray 0)).update (s.heap.objs.size + 1) (Obj.mapSeq fun _=>(#[]:Array Value))=h2 at *
    refine wpAny_bind (seqEpoch_at ho1 rfl ?_)
    refine wpAny_bind (wpAny_newTuple ?_ (by show its.length≤_; rw [sizeLine_eq]; omega))
    refine wpAny_bind (wpAny_newList ?_ (Nat.zero_le _))
    refine wpAny_holding ?_
    have hlt:s.heap.objs.size + 1 < h2.objs.size:=Heap.lt_size ho1
    have k3:∀ b o,h2.get? b=some o→((h2.push (seqObj "tuple" its.toArray 0)).push (seqObj "list" #[] 0)).get? b=some o:=fun b o q=>Heap.get?_push_of_some _ (Heap.get?_push_of_some _ q)
    have I3:=I2.kept (t':=s.toks) (h':=(h2.push (seqObj "tuple" its.toArray 0)).push (seqObj "list" #[] 0)) k3
    have hkS:(h2.push (seqObj "tuple" its.toArray 0)).objs.size=h2.objs.size + 1:=size_push' _ _
    have fk:FpOk (inn X) pins H (h2.push (seqObj "tuple" its.toArray 0)).objs.size:=I2.fpOk (by show h2.objs.size≤_; rw [hkS]; exact Nat.le_succ _) (I2.hok.fresh (by show h2.objs.size≤_; rw [hkS]; exact Nat.le_succ _))
    refine wpAny_mono (sort_rest (s:={ s with heap:=(h2.push (seqObj "tuple" its.toArray 0)).push (seqObj "list" #[] 0) }) (kS:=(h2.push (seqObj "tuple" its.toArray 0)).objs.size) (D:=s.heap.objs.size + 1) (σ:=σ) (e1:=e1) (f:=.ref q) I.ok ?_ fk fD (Nat.ne_of_gt (by rw [hkS]; omega)) h64' rv hJ turn h) (fun fin s' hq=>?_) fun _ _ x=>x
    · refine I3.pins_of fun p hp=>?_
      rcases List.mem_append.mp hp with z | z
      · exact I3.pin p (List.mem_append_right _ z)
      · rcases List.mem_cons.mp z with rfl | z
        · exact ⟨Heap.get?_push_size _ rfl,fk.1,fk.2.1,fk.2.2.1,fun v e=>nomatch e⟩
        · rw [List.mem_singleton.mp z]
          exact ⟨k3 _ _ ho1,fD.1,fD.2.1,fD.2.2.1,fun v e=>nomatch e⟩
    · obtain ⟨rfl,hq⟩:=hq
      exact ⟨_,rfl,wpAny_pure ⟨_,rfl,hq⟩⟩
end
end L2
namespace L2
open PySem PySem.Spec PyProof.Rows
def Ob (o:HO) (xs:List V):Prop:=o=.lst xs∨o=.tup xs
theorem Ob.sq {K:PySem.W.Frag} {H:Hp} {a:Addr} {o:HO} {xs:List V} (h:Ob o xs) (e:H a=some o):SqL K H a xs∨SqT K H a xs:=by
  rcases h with h | h
  · subst h; exact .inl (.of e)
  · subst h; exact .inr (.of e)
def ItOk (J:It) (a:Addr) (o:HO) (xs:List V):Prop:=∀ H:Hp,H a=some o→(∀ i x,xs[i]?=some x→J.go i H∧∀ y H',J.yld i H y H'→H'=H∧y=x)∧J.stop xs.length H
def iSeq (K:PySem.W.Frag) (tl:TE):TI:=fun σ H R=>tl σ H fun x H1=>∃ a o xs,x=.ref a∧H1 a=some o∧Ob o xs∧∀ J,ItOk J a o xs→R J H1
theorem itl_ok {K:PySem.W.Frag} {a:Addr} {xs:List V}:ItOk (Itl K a) a (.lst xs) xs:=fun H e=>⟨fun i x hx=>⟨⟨xs,x,.of e,hx⟩,fun y H' z=>⟨z.1,by
    have:=z.2 xs (.of e)
    rw [hx] at this
    exact (Option.some.inj this).symm⟩⟩,⟨xs,.of e,Nat.le_refl _⟩⟩
theorem itt_ok {K:PySem.W.Frag} {a:Addr} {xs:List V}:ItOk (Itt K a) a (.tup xs) xs:=fun H e=>⟨fun i x hx=>⟨⟨xs,x,.of e,hx⟩,fun y H' z=>⟨z.1,by
    have:=z.2 xs (.of e)
    rw [hx] at this
    exact (Option.some.inj this).symm⟩⟩,⟨xs,.of e,Nat.le_refl _⟩⟩
section
variable {X:Cx} {tg:Expr}
theorem pi_seq {l:Expr} {tl:TE} (hl:PE X l tl):PI X tg l (iSeq X.K tl):=by
  intro pins s σ H R I h
  refine thn (hl pins s σ H _ I h) fun v s1 ⟨x,H1,I1,r1,q1⟩=>?_
  obtain ⟨a,o,xs,e,ha,ho,q⟩:=q1
  subst e
  cases r1
  have fpk:∀ b ∈ [s1.heap.objs.size],FpOk X pins H1 b:=fun b hb=>by
    have e:b=s1.heap.objs.size:=by simpa using hb
    subst e
    exact I1.fpOk (Nat.le_refl _) (I1.hok.fresh (Nat.le_refl _))
  rcases ho with ho | ho
  · subst ho
    obtain ⟨its,rv,p,hz⟩:=I1.list (.of ha:SqL X.K H1 a xs)
    refine wpAny_pyIter_list p.isList ?_
    exact ⟨s1.heap.objs.size,[s1.heap.objs.size],_,_,H1,rfl,I1.kept (t':=s1.toks) fun b o e=>Heap.get?_push_of_some _ e,turn_list a _,⟨_,Heap.get?_push_size _ rfl,rfl,rfl⟩,fpk,q _ itl_ok⟩
  · subst ho
    obtain ⟨its,rv,p,hz⟩:=I1.tuple (.of ha:SqT X.K H1 a xs)
    refine wpAny_pyIter_tuple (show s1.heap.IsTuple a its.toArray from p) ?_
    exact ⟨s1.heap.objs.size,[s1.heap.objs.size],_,_,H1,rfl,I1.kept (t':=s1.toks) fun b o e=>Heap.get?_push_of_some _ e,turn_tuple a _,⟨_,Heap.get?_push_size _ rfl,rfl,rfl⟩,fpk,q _ itt_ok⟩
def rIxSq (K:PySem.W.Frag):R2:=fun x y H Q=>∃ p xs i v,x=.ref p∧y=.int i∧(SqL K H p xs∨SqT K H p xs)∧atI xs i=some v∧Q v H
theorem ix_sq:IxR X (rIxSq X.K):=by
  intro value slice pins s σ H x y v u Q I rx ry h hs
  obtain ⟨p,xs,i,z,e1,e2,hq,he,q⟩:=h
  rcases hq with hq | hq
  · exact ix_list value slice pins s σ H x y v u Q I rx ry ⟨p,xs,i,z,e1,e2,hq,he,q⟩ hs
  · exact ix_tup value slice pins s σ H x y v u Q I rx ry ⟨p,xs,i,z,e1,e2,hq,he,q⟩ hs
end
theorem lc_it {J:It} {a:Addr} {o:HO} {xs:List V} {tc:TT} {te:TE} {σ:St} {D:Addr} {Fin:Hp→Prop} {H:Hp} (hJ:ItOk J a o xs) (Pv:Nat→List V→Hp→Prop) (h0:Pv 0 [] (upd H D (.lst [])))
    (hD:∀ i ys H,Pv i ys H→H D=some (.lst ys)∧H a=some o) (hend:∀ ys H,Pv xs.length ys H→Fin H)
    (hgo:∀ i x ys H,i < xs.length→xs[i]?=some x→Pv i ys H→tc (some x::σ) H fun b H2=>if b=true then te (some x::σ) H2 (LcNx xs.length i D ys Pv) else LcNo xs.length i ys Pv H2):lcGo tc te σ J D Fin H:=by
  refine lc_go Pv h0 (fun i ys H p=>(hD i ys H p).1) (fun ys H p=>⟨(hJ H (hD _ _ _ p).2).2,hend ys H p⟩) fun i ys H hi p=>?_
  obtain ⟨g,k⟩:=(hJ H (hD _ _ _ p).2).1 i xs[i] (List.getElem?_eq_getElem hi)
  refine ⟨g,fun x H' y=>?_⟩
  obtain ⟨e1,e2⟩:=k x H' y
  subst e1 e2
  exact hgo i _ ys _ hi (List.getElem?_eq_getElem hi) p
theorem for_it {J:It} {a:Addr} {o:HO} {xs:List V} {g:TG} {tb:TS} {D:Ends} {σ:St} {H:Hp} (hJ:ItOk J a o xs) (Pv:Nat→St→Hp→Prop) (h0:Pv 0 σ H) (hl:∀ i σ H,i≤xs.length→Pv i σ H→H a=some o)
    (hs:∀ i x σ H,xs[i]?=some x→Pv i σ H→g x σ H fun σ2 H2=>tb { D with nx:=Pv (i + 1),ct:=Pv (i + 1),bk:=D.nx } σ2 H2) (hd:∀ σ H,Pv xs.length σ H→D.nx σ H) :
    ∃ W:Nat→Nat→St→Hp→Prop,(∃ m,W 0 m σ H)∧∀ i m σ H,W i m σ H →
      (J.stop i H∧D.nx σ H)∨(J.go i H∧∃ N:St→Hp→Prop,(∀ σ' H',N σ' H'→∃ m',m' < m∧W (i + 1) m' σ' H')∧∀ x H',J.yld i H x H'→g x σ H' fun σ2 H2=>tb { D with nx:=N,ct:=N,bk:=D.nx } σ2 H2):=by
  refine ⟨fun i m σ H=>m=xs.length - i∧i≤xs.length∧Pv i σ H,⟨xs.length,by simp,Nat.zero_le _,h0⟩,?_⟩
  rintro i m σ H ⟨rfl,hi,p⟩
  have q:=hl i σ H hi p
  by_cases hlt:i < xs.length
  · obtain ⟨gg,k⟩:=(hJ H q).1 i xs[i] (List.getElem?_eq_getElem hlt)
    refine .inr ⟨gg,Pv (i + 1),fun σ' H' p'=>⟨xs.length - (i + 1),by omega,rfl,hlt,p'⟩,fun x H' y=>?_⟩
    obtain ⟨e1,e2⟩:=k x H' y
    subst e1 e2
    exact hs i _ σ _ (List.getElem?_eq_getElem hlt) p
  · have e:i=xs.length:=by omega
    subst e
    exact .inl ⟨(hJ H q).2,hd σ H p⟩
section
variable {X:Cx}
end
end L2
namespace L2
open PySem PySem.Spec PyProof.Rows
def cxLN (X:Cx) (xs Ns:List Str) (scope:Scope) (C:Addr) (fp:List Addr) (s:Shared) (H:Hp):Cx where
  prog:=X.prog
  w:=X.w
  K:=X.K
  mg:=X.mg
  base:=X.base
  A:=X.A
  N:=xs++Ns
  s₀:=s
  H₀:=H
  env:=compEnvC scope (clOf scope X.env.cells) C X.env
  outer:=X.stack
  stack:=X.stack
  ex:=fp
  fn:=fun _=>false
  calm:=X.calm
  pn:=[]
  xe:=fun _ _=>False
structure LnScope (X:Cx) (xs Ns:List Str) (sc:Scope):Prop where
  kind:sc.kind=.function
  nocell:∀ p ∈ sc.names,p.2≠.cell
  loc:∀ x ∈ xs,sc.names.lookup x=some .local
  names:∀ p ∈ sc.names,p.2=.local→sc.names.lookup p.1=some .local
  apart:∀ y ∈ Ns,sc.names.lookup y≠some .local
  sub:∀ (i:Nat) (y:Str),Ns[i]?=some y→sc.names.lookup y=some .free→X.N[i]?=some y
  len:Ns.length=X.N.length
  all:(xs++Ns).Nodup
  free:∀ p ∈ sc.names,p.2=.free→X.env.kindOf p.1=some .cell∨X.env.kindOf p.1=some .free
section
variable {X:Cx} {pins:List (Addr × Obj)} {σ:St} {H:Hp} {s:Shared} {xs Ns:List Str} {sc:Scope} {C:Addr} {fp:List Addr}
theorem LnScope.cells (S:LnScope X xs Ns sc) (ok:X.Ok):∀ p ∈ sc.names,p.2=.free→∃ a,X.env.cells.lookup p.1=some a:=fun p hp e=>ok.has p.1 (S.free p hp e)
theorem Inv.okLN (I:Inv X pins σ H s) (S:LnScope X xs Ns sc) (hC:s.heap.objs.size≤C) (hf:∀ b ∈ fp,FpOk X pins H b) (hlt:∀ b ∈ fp,b < s.heap.objs.size):(cxLN X xs Ns sc C fp s H).Ok where
  mod:=I.ok.mod
  kind:=S.kind
  glob:=I.ok.glob
  blt:=I.ok.blt
  above:=hC
  inj:=fun y z c e1 e2=>I.ok.inj y z c (clOf_sub sc X.env.cells e1) (clOf_sub sc X.env.cells e2)
  has:=fun y hy=>by
    have hy':(relabel sc X.env).names.lookup y=some .cell∨(relabel sc X.env).names.lookup y=some .free:=hy
    have fr:sc.names.lookup y=some .free:=by
      rcases hy' with h | h
      · obtain ⟨k',e,q⟩:=relabel_look h
        rcases q with q | ⟨q,_⟩
        · subst q; exact absurd rfl (S.nocell _ (PySem.mem_of_lookup e))
        · rw [e,q]
      · obtain ⟨k',e,q⟩:=relabel_look h
        rcases q with q | ⟨_,q⟩
        · rw [e,← q]
        · cases q
    exact clOf_has sc X.env.cells (S.cells I.ok) (PySem.mem_of_lookup fr)
  cab:=fun y c e=>by cases (show false=true from e)
  hd:=I.ok.hd
  frames:=I.ok.frames
  stk:=.inl rfl
  exf:=fun b hb=>⟨Nat.ne_of_lt (Nat.lt_of_lt_of_le (hlt b hb) hC),fun y c e=>(hf b hb).2.2.2.2.1 y c (clOf_sub sc X.env.cells e)⟩
  bs:=I.bs
  bsz:=Nat.le_trans I.ok.bsz I.sz
  noex:=fun b o e hb=>by
    rcases (hf b hb).2.2.2.1 with q | q
    · exact I.ok.noex b o e q
    · exact absurd (Nat.lt_of_lt_of_le (Heap.lt_size e) (Nat.le_trans I.ok.bsz q)) (Nat.lt_irrefl _)
  exfs:=fun b hb z=>by
    rcases List.mem_cons.mp (I.stkSub b z) with q | q
    · exact (hf b hb).2.1 q
    · exact (hf b hb).2.2.1 q
  funs:=I.stack
  frf:=I.stkFree
theorem Inv.startLN {D:Addr} {h1:Heap} {m:Str→Option Value} {tk:Nat} {w:St} (I:Inv X pins σ H s) (S:LnScope X xs Ns sc) (hf:∀ b ∈ fp,FpOk X pins H b) (hlt:∀ b ∈ fp,b < s.heap.objs.size) (hw:w=xs.map fun _=>none)
    (hD:D=s.heap.objs.size) (hC:s.heap.objs.size≤C) (hDC:C≠D) (hk:∀ b o,s.heap.get? b=some o→h1.get? b=some o) (hn:h1.Ns C m) (hl:h1.get? D=some { cls:=.type "list",data:=.seq ([]:List Value).toArray 0 }) :
    Inv (cxLN X xs Ns sc C fp s H) [] (w++σ) (upd H D (.lst [])) { s with heap:=h1,toks:=tk }:=by
  have hwl:w.length=xs.length:=by rw [hw,List.length_map]
  have hDle:s.heap.objs.size≤D:=by rw [hD]; exact Nat.le_refl _
  have cells:∀ y c,(clOf sc X.env.cells).lookup y=some c→c < s.heap.objs.size:=fun y c e=>by
    obtain ⟨v,q⟩:=I.cell y c (clOf_sub sc X.env.cells e)
    exact q.lt
  refine ⟨I.okLN S hC hf hlt,rfl,I.bare,Un.laid hk hDle (I.hok.fresh hDle),⟨m,hn,fun i y v e1 e2 e3=>?_⟩,fun y c e=>?_,?_,fun y c e=>?_,fun p hp=>absurd (show p ∈ ([]:List (Addr × Obj)) from hp) (by simp),I.hok.laid hk hDle ⟨Nat.zero_le _,[],0,.nil,hl⟩,?_⟩
  · have e1:(xs++Ns)[i]?=some y:=e1
    have e2:(w++σ)[i]?=some (some v):=e2
    rcases Nat.lt_or_ge i xs.length with hi | hi
    · rw [List.getElem?_append_left (by omega),hw,List.getElem?_map,List.getElem?_eq_getElem hi] at e2
      cases e2
    · have e1':Ns[i - xs.length]?=some y:=by rw [List.getElem?_append_right hi] at e1; exact e1
      have e2':σ[i - xs.length]?=some (some v):=by rw [List.getElem?_append_right (by omega),hwl] at e2; exact e2
      have e3':Vis (relabel sc X.env) y:=e3
      have ny:sc.names.lookup y≠some .local:=S.apart y (List.mem_of_getElem? e1')
      have fr:sc.names.lookup y=some .free∧((relabel sc X.env).names.lookup y=some .cell∨(relabel sc X.env).names.lookup y=some .free):=by
        rcases e3' with h | h | h
        · obtain ⟨k',e,q⟩:=relabel_look h
          rcases q with q | ⟨_,q⟩
          · subst q; exact absurd e ny
          · cases q
        · obtain ⟨k',e,q⟩:=relabel_look h
          rcases q with q | ⟨q,_⟩
          · subst q; exact absurd rfl (S.nocell _ (PySem.mem_of_lookup e))
          · exact ⟨by rw [e,q],.inl h⟩
        · obtain ⟨k',e,q⟩:=relabel_look h
          rcases q with q | ⟨_,q⟩
          · exact ⟨by rw [e,← q],.inr h⟩
          · cases q
      have ok:=S.free (y,.free) (PySem.mem_of_lookup fr.1) rfl
      obtain ⟨m0,hn0,hl0⟩:=I.loc
      obtain ⟨u,r,l⟩:=hl0 _ y v (S.sub _ y e1' fr.1) e2' (.inr ok)
      refine ⟨u,r,.inr ⟨fr.2,?_⟩⟩
      rcases l with ⟨k,_⟩ | ⟨_,c,ec,z⟩
      · rcases ok with q | q <;> (rw [show X.env.kindOf y=some .local from k] at q; cases q)
      · obtain ⟨c',ec'⟩:=clOf_has sc X.env.cells (S.cells I.ok) (PySem.mem_of_lookup fr.1)
        have:=clOf_sub sc X.env.cells ec'
        rw [ec] at this
        cases this
        obtain ⟨o,ho,hd⟩:=z
        exact ⟨c,ec',o,hk _ _ ho,hd⟩
  · obtain ⟨v,o,ho,hd⟩:=I.cell y c (clOf_sub sc X.env.cells e)
    exact ⟨v,o,hk _ _ ho,hd⟩
  · show upd H D (.lst []) C=none
    rw [upd_ne hDC]
    exact I.hok.fresh hC
  · show upd H D (.lst []) c=none
    rw [upd_ne (Nat.ne_of_lt (Nat.lt_of_lt_of_le (cells y c e) hDle))]
    exact I.freeC y c (clOf_sub sc X.env.cells e)
  · show (w++σ).length=(xs++Ns).length
    rw [List.length_append,List.length_append,I.len,hwl,S.len]
theorem Inv.endLN {s2:Shared} {H2:Hp} {st:St} {pl:List (Addr × Obj)} (I:Inv X pins σ H s) (J:Inv (cxLN X xs Ns sc C fp s H) pl st H2 s2) (hf:∀ b ∈ fp,FpOk X pins H b):Inv X pins σ H2 s2 :=
  I.call' (ch:=fp) J.os J.base J.hok J.bare fun b hb=>⟨(hf b hb).2.2.2.1,(hf b hb).2.1,(hf b hb).2.2.2.2.1,(hf b hb).2.2.2.2.2⟩
end
def lcGoN (n:Nat) (g:TG) (tc:TT) (te:TE) (σ:St) (J:It) (D:Addr) (Fin:Hp→Prop) (H:Hp):Prop :=
  ∃ W:Nat→Nat→List V→Hp→Prop,(∃ m,W 0 m [] (upd H D (.lst [])))∧∀ i m ys H,W i m ys H→H D=some (.lst ys) ∧
    ((J.stop i H∧Fin H)∨(J.go i H∧∀ x H' (u:St),u.length=n→J.yld i H x H'→g x (u++σ) H' fun σ2 H2=>(∃ u2:St,u2.length=n∧σ2=u2++σ)∧tc σ2 H2 fun b H3=>if b=true then te σ2 H3 fun y H4=>H4 D=some (.lst ys)∧ys.length < sizeLine∧∃ m',m' < m∧W (i + 1) m' (ys++[y]) (upd H4 D (.lst (ys++[y])))
      else ∃ m',m' < m∧W (i + 1) m' ys H3))
def tLN (n:Nat) (wi:TI) (g:TG) (tc:TT) (te:TE):TE:=fun σ H Q=>wi σ H fun J H1=>∀ D,H1 D=none→lcGoN n g tc te σ J D (fun H2=>Q (.ref D) H2) H1
section
variable {X:Cx} {xs Ns:List Str} {sc:Scope} {elt iter tg:Expr} {ifs:List Expr} {pos:Pos} {wi:TI} {g:TG} {tc:TT} {te:TE}
theorem ln_block {pins:List (Addr × Obj)} {σ:St} {H:Hp} {s:Shared} {it:Addr} {fp:List Addr} {tn:Nat→Heap→Prop} {J:It} {Fin:Addr→Hp→Prop} {RR:Value→Addr→Result→Shared→Prop} {E:Value→Shared→Prop}
    (hc:X.calm=true) (S:LnScope X xs Ns sc) (I:Inv X pins σ H s) (T:Turn X.prog X.w X.K tg J fp it tn) (st:tn 0 s.heap) (hf:∀ b ∈ fp,FpOk X pins H b) (hg:∀ C s0 H0,PG (cxLN X xs Ns sc C fp s0 H0) tg g)
    (ht:∀ C s0 H0,PTs (cxLN X xs Ns sc C fp s0 H0) ifs tc) (he:∀ C s0 H0,PE (cxLN X xs Ns sc C fp s0 H0) elt te) (q:∀ D,H D=none→lcGoN xs.length g tc te σ J D (Fin D) H)
    (hR:∀ D C H2 s2 m,s.heap.objs.size≤C→Inv X pins σ H2 s2→H2 C=none→s2.heap.Ns C m→Fin D H2→RR (.ref D) C (.ok .next) s2) :
    wpAny (model X.prog X.w) X.A (newList []) (fun acc s3=>wpAny (model X.prog X.w) X.A (newFunctionEnv sc X.env.globals (clOf sc X.env.cells) [] X.env.qual none .none (some X.env)) (fun cenv s4 =>
      codeAny (model X.prog X.w) X.A (.compStart (.ListComp elt [⟨tg,iter,ifs,0⟩] sc pos) 0 (.ref it) acc { cenv with scope:=relabel sc X.env }) (RR acc cenv.locals) s4) E s3) E s:=by
  have hlt:∀ b ∈ fp,b < s.heap.objs.size:=fun b hb=>by
    obtain ⟨o,e,_⟩:=T.obj 0 _ st b hb
    exact Heap.lt_size e
  refine wpAny_newObj_type (wpAny_newFunctionEnv S.nocell (by intro y hy; simp at hy) (fun h1 hns1 hsb1=>?_) S.kind)
  dsimp only at hns1 hsb1 ⊢
  generalize hH2:s.heap.push { cls:=.type "list",dict:=none,data:=.seq ([]:List Value).toArray }=G at hns1 hsb1 ⊢
  have hC:G.objs.size=s.heap.objs.size + 1:=by rw [← hH2,Heap.size_push]
  have hCle:s.heap.objs.size≤G.objs.size:=by rw [hC]; exact Nat.le_succ _
  have hDC:G.objs.size≠s.heap.objs.size:=by rw [hC]; exact Nat.succ_ne_self _
  have old:∀ b o,s.heap.get? b=some o→h1.get? b=some o:=fun b o e=>hsb1.extBut b o (Nat.ne_of_lt (Nat.lt_of_lt_of_le (Heap.lt_size e) hCle)) (Heap.get?_push_of_some _ (hH2 ▸ Heap.get?_push_of_some _ e))
  have hacc:h1.get? s.heap.objs.size=some { cls:=.type "list",data:=.seq ([]:List Value).toArray 0 }:=hsb1.extBut _ _ (Ne.symm hDC) (Heap.get?_push_of_some _ (hH2 ▸ Heap.get?_push_size _ rfl))
  have hDn:H s.heap.objs.size=none:=I.hok.fresh (Nat.le_refl _)
  obtain ⟨W,⟨m0,w0⟩,turn⟩:=q s.heap.objs.size hDn
  have st1:tn 0 h1:=T.keep _ _ _ st fun b _ o e=>old b o e
  have I1:=fun tk=>I.startLN (tk:=tk) (w:=xs.map fun _=>none) S hf hlt rfl rfl hCle hDC old hns1 hacc
  have fr1:∀ b ∈ fp,upd H s.heap.objs.size (.lst []) b=none:=fun b hb=>by rw [upd_ne (Nat.ne_of_lt (hlt b hb))]; exact (hf b hb).1
  have loop:∀ s3:Shared,s3={ s with heap:=h1,toks:=s.toks + ([]:List (Str × Value)).length } →
      codeAny (model X.prog X.w) X.A (.compLoop (.ListComp elt [⟨tg,iter,ifs,0⟩] sc pos) 0 (.ref it) (.ref s.heap.objs.size) (compEnvC sc (clOf sc X.env.cells) G.objs.size X.env))
        (RR (.ref s.heap.objs.size) G.objs.size) s3:=by
    rintro s3 rfl
    have fpk:∀ {H':Hp},(∀ b ∈ fp,H' b=none)→∀ b ∈ fp,FpOk (cxLN X xs Ns sc G.objs.size fp s H) [] H' b:=fun hn b hb =>
      ⟨hn b hb,Nat.ne_of_lt (Nat.lt_of_lt_of_le (hlt b hb) hCle),(I.okLN (C:=G.objs.size) S hCle hf hlt).exfs b hb,.inl hb,fun y c e=>(hf b hb).2.2.2.2.1 y c (clOf_sub sc X.env.cells e),fun p hp=>absurd (show p ∈ ([]:List (Addr × Obj)) from hp) (by simp)⟩
    refine compLoop_own (fun n s'=>∃ i w ys H',w.length=xs.length∧Inv (cxLN X xs Ns sc G.objs.size fp s H) [] (w++σ) H' s'∧tn i s'.heap∧(∀ b ∈ fp,H' b=none)∧W i n ys H') ?_ m0 ⟨0,_,[],_,List.length_map _,I1 _,st1,fr1,w0⟩
    rintro n s3 ⟨i,v0,ys,H3,hv0,I3,st3,fr3,w3⟩
    obtain ⟨hD3,turn3⟩:=turn i n ys H3 w3
    rcases turn3 with ⟨stop,fin⟩ | ⟨go,step⟩
    · refine thn (T.done (cxLN X xs Ns sc G.objs.size fp s H) rfl rfl rfl hc i [] s3 _ H3 _ I3 (fpk fr3) st3 stop) fun r s4 ⟨hr,I4⟩=>?_
      subst hr
      obtain ⟨m4,hn4,_⟩:=I4.loc
      exact hR _ _ H3 s4 m4 hCle (I.endLN I4 hf) I4.free hn4 fin
    · refine thn (T.item (cxLN X xs Ns sc G.objs.size fp s H) rfl rfl rfl hc i [] s3 _ H3 _ I3 (fpk fr3) st3 go) fun r s4 ⟨u,hr,h4⟩=>?_
      subst hr
      refine thn h4 fun _ s5 ⟨y,H5,I5,r5,y5,st5,fr5⟩=>?_
      have I5':=I5.pinned (fpk fr5) (T.obj _ _ st5)
      refine thn (hg G.objs.size s H _ s5 _ H5 y u _ I5' r5 (step y H5 v0 hv0 y5)) fun _ s6 ⟨σ6,H6,I6,⟨w6,hw6,e6⟩,q6⟩=>?_
      subst e6
      refine thn (ht G.objs.size s H _ s6 _ H6 _ I6 q6) fun ok s7 ⟨H7,I7,q7⟩=>?_
      have again:∀ {H8:Hp} {s8:Shared} {zs:List V},Inv (cxLN X xs Ns sc G.objs.size fp s H) ([]++pinsAt fp s5.heap) (w6++σ) H8 s8→(∃ m',m' < n∧W (i + 1) m' zs H8)→∃ m,m < n∧∃ i w ys H',w.length=xs.length∧Inv (cxLN X xs Ns sc G.objs.size fp s H) [] (w++σ) H' s8∧tn i s8.heap∧(∀ b ∈ fp,H' b=none)∧W i m ys H':=fun {H8 s8 zs} I8 ⟨m',hm,w8⟩=>by
        refine ⟨m',hm,i + 1,w6,zs,H8,hw6,I8.unpinned,T.keep _ _ _ st5 fun b hb o e=>(I8.pin (b,o) (List.mem_append_right _ (List.mem_append_right _ (mem_pinsAt hb e)))).1,fun b hb=>?_,w8⟩
        obtain ⟨o,e,d⟩:=T.obj _ _ st5 b hb
        exact (I8.pin (b,o) (List.mem_append_right _ (List.mem_append_right _ (mem_pinsAt hb e)))).2.1
      cases ok with
      | false =>
        rw [if_neg Bool.false_ne_true] at q7 ⊢
        exact again I7 q7
      | true =>
        rw [if_pos rfl] at q7 ⊢
        refine thn (he G.objs.size s H _ s7 _ H7 _ I7 q7) fun z s8 ⟨zv,H8,I8,r8,hD8,hz8,w8⟩=>?_
        refine thn (mt_append _ s8 _ H8 (.ref s.heap.objs.size) [zv] (.ref s.heap.objs.size) [z] (fun _ H9=>∃ m',m' < n∧W (i + 1) m' (ys++[zv]) H9) I8 rfl (.cons r8 .nil) ⟨_,ys,zv,rfl,rfl,hD8,hz8,w8⟩) fun _ s9 ⟨_,H9,I9,_,w9⟩=>?_
        exact again I9 w9
  exact codeAny_compStart_list (loop _ rfl) (T.self X.A 0 _ _ _ st1 (loop _ rfl))
theorem pe_ln (hc:X.calm=true) (S:LnScope X xs Ns sc) (hi:PI X tg iter wi) (hg:∀ C fp s0 H0,PG (cxLN X xs Ns sc C fp s0 H0) tg g) (ht:∀ C fp s0 H0,PTs (cxLN X xs Ns sc C fp s0 H0) ifs tc) (he:∀ C fp s0 H0,PE (cxLN X xs Ns sc C fp s0 H0) elt te)
    (hs:∀ v,foldedSetIterable iter X.env v=pure v:=by intro _; rfl):PE X (.ListComp elt [⟨tg,iter,ifs,0⟩] sc pos) (tLN xs.length wi g tc te):=by
  refine ⟨?_⟩
  intro pins s σ H Q I h
  rw [eval_ListComp]
  refine wpAny_comprehension_free (use:=none) rfl hs (closure_eq (S.cells I.ok)) S.kind S.names (thn (hi pins s σ H _ I h) fun v s1 h1=>thn h1 fun itv s2 h2=>?_)
  obtain ⟨it,fp,tn,J,H2,e,I2,T,st2,f2,q2⟩:=h2
  subst e
  refine ln_block (RR:=fun acc C=>compPost (model X.prog X.w) X.A X.xe none (EP X pins σ Q) acc C) (Fin:=fun D H3=>Q (.ref D) H3) hc S I2 T st2 f2 (fun C s0 H0=>hg C fp s0 H0) (fun C s0 H0=>ht C fp s0 H0) (fun C s0 H0=>he C fp s0 H0) q2 ?_
  intro D C H3 s3 m hC I3 hn hN q3
  refine ⟨m,hN,fun h' hs'=>⟨.ref D,H3,I3.butC hs' (Nat.le_trans I2.sz hC) hn (Nat.ne_of_gt (Nat.lt_of_lt_of_le I2.lt hC)) (fun y c e=>?_) (fun p hp=>?_),rfl,q3⟩⟩
  · obtain ⟨v,z⟩:=I2.cell y c e
    exact Nat.ne_of_lt (Nat.lt_of_lt_of_le z.lt hC)
  · exact Nat.ne_of_lt (Nat.lt_of_lt_of_le (Heap.lt_size (I2.pin p hp).1) hC)
end
theorem lcN_go {tc:TT} {te:TE} {g:TG} {k:Nat} {σ:St} {J:It} {D:Addr} {Fin:Hp→Prop} {H:Hp} {n:Nat} (Pv:Nat→List V→Hp→Prop) (h0:Pv 0 [] (upd H D (.lst [])))
    (hD:∀ i ys H,Pv i ys H→H D=some (.lst ys)) (hend:∀ ys H,Pv n ys H→J.stop n H∧Fin H)
    (hgo:∀ i ys H,i < n→Pv i ys H→J.go i H∧∀ x H' (u:St),u.length=k→J.yld i H x H'→g x (u++σ) H' fun σ2 H2=>(∃ u2:St,u2.length=k∧σ2=u2++σ)∧tc σ2 H2 fun b H3=>if b=true then te σ2 H3 (LcNx n i D ys Pv) else LcNo n i ys Pv H3):lcGoN k g tc te σ J D Fin H:=by
  refine ⟨fun i m ys H=>m=n - i∧i≤n∧Pv i ys H,⟨n,rfl,Nat.zero_le _,h0⟩,?_⟩
  rintro i m ys H ⟨rfl,hi,p⟩
  refine ⟨hD i ys H p,?_⟩
  by_cases hlt:i < n
  · exact .inr (hgo i ys H hlt p)
  · have e:i=n:=by omega
    subst e
    exact .inl (hend ys H p)
theorem lcN_list {K:PySem.W.Frag} {a:Addr} {xs:List V} {tc:TT} {te:TE} {g:TG} {k:Nat} {σ:St} {D:Addr} {Fin:Hp→Prop} {H:Hp} (Pv:Nat→List V→Hp→Prop) (h0:Pv 0 [] (upd H D (.lst [])))
    (hD:∀ i ys H,Pv i ys H→H D=some (.lst ys)∧SqL K H a xs) (hend:∀ ys H,Pv xs.length ys H→Fin H)
    (hgo:∀ i x ys H (u:St),u.length=k→i < xs.length→xs[i]?=some x→Pv i ys H→g x (u++σ) H fun σ2 H2=>(∃ u2:St,u2.length=k∧σ2=u2++σ)∧tc σ2 H2 fun b H3=>if b=true then te σ2 H3 (LcNx xs.length i D ys Pv) else LcNo xs.length i ys Pv H3):lcGoN k g tc te σ (Itl K a) D Fin H:=by
  refine lcN_go Pv h0 (fun i ys H p=>(hD i ys H p).1) (fun ys H p=>⟨⟨xs,(hD _ _ _ p).2,Nat.le_refl _⟩,hend ys H p⟩) fun i ys H hi p=>?_
  refine ⟨⟨xs,xs[i],(hD _ _ _ p).2,List.getElem?_eq_getElem hi⟩,fun x H' u hu y=>?_⟩
  obtain ⟨e,y⟩:=y
  subst e
  exact hgo i x ys _ u hu hi (y xs (hD _ _ _ p).2) p
theorem len1 {α:Type}:∀ {u:List α},u.length=1→∃ a,u=[a]
  | [a],_=>⟨a,rfl⟩
theorem sub_of {N Ns:List Str} {sc:Scope} (h:(Ns.zip N).all (fun p=>decide (p.1=p.2) || !(sc.names.lookup p.1 == some NameKind.free))=true) (hl:Ns.length=N.length):∀ (i:Nat) (y:Str),Ns[i]?=some y→sc.names.lookup y=some .free→N[i]?=some y:=fun i y e f=>by
  have hi:i < Ns.length:=(List.getElem?_eq_some_iff.mp e).1
  have hN:N[i]?=some (N[i]'(by omega)):=List.getElem?_eq_getElem (by omega)
  have hm:(y,N[i]'(by omega)) ∈ Ns.zip N:=by
    refine List.mem_of_getElem? (i:=i) ?_
    rw [List.getElem?_zip_eq_some]
    exact ⟨e,hN⟩
  have:=List.all_eq_true.mp h _ hm
  dsimp only at this
  rw [f] at this
  have z:y=N[i]'(by omega):=by simpa using this
  rw [hN,← z]
theorem lnS {X:Cx} {xs:List Str} (Ns:List Str) {sc scp:Scope} {N ps:List Str} (S:FnScope N ps scp) (hN:X.N=N:=by rfl) (hs:X.env.scope=scp:=by rfl) (h1:sc.kind=.function:=by rfl) (h2:∀ p ∈ sc.names,p.2≠.cell:=by decide +kernel) (h3:∀ x ∈ xs,sc.names.lookup x=some .local:=by decide +kernel)
    (h4:∀ p ∈ sc.names,p.2=.local→sc.names.lookup p.1=some .local:=by decide +kernel) (h5:∀ y ∈ Ns,sc.names.lookup y≠some .local:=by decide +kernel) (h6:(Ns.zip N).all (fun p=>decide (p.1=p.2) || !(sc.names.lookup p.1 == some NameKind.free))=true:=by decide +kernel) (hl:Ns.length=N.length:=by rfl) (hall:(xs++Ns).Nodup:=by decide +kernel)
    (h7:∀ p ∈ sc.names,p.2=.free→scp.names.lookup p.1=some .cell∨scp.names.lookup p.1=some .free:=by decide +kernel):LnScope X xs Ns sc :=
  ⟨h1,h2,h3,h4,h5,by rw [hN]; exact sub_of h6 hl,by rw [hN]; exact hl,hall,fun p hp e=>by
    show X.env.scope.names.lookup p.1=_∨X.env.scope.names.lookup p.1=_
    rw [hs]
    exact h7 p hp e⟩
end L2
namespace HT
open PySem PyProof.Rows
section
variable {prog:Program} {w:World} {A:Around} {E:Value→Shared→Prop} {s:Shared}
theorem getItem_tuple_whole {t sl:Addr} {items:Array Value} {vl vu:Value} {lo hi:Option Int} {Q:Value→Shared→Prop} (ht:IsTup s.heap t items) (hs:s.heap.IsSliceOf sl vl vu .none) (pl:IsPart vl lo) (pu:IsPart vu hi)
    (hw:sIx items.size 0 lo=0∧sIx items.size items.size hi=items.size)
    (h:Q (.ref t) s):wpAny (model prog w) A (getItem (.ref t) (.ref sl)) Q E s:=by
  obtain ⟨os,hos,hcs,hds⟩:=id hs
  have hTs:s.TypeIs (.ref sl) "slice":=⟨os,hos,hcs⟩
  unfold getItem
  try with_reducible refine wpAny_holding ?_
  first | refine wpAny_bind (wpAny_pure ?_) | skip
  refine wpAny_bind (wpAny_sequenceKey ht.typeIs (by decide) ?_)
  refine wpAny_bind (wpAny_callSpecial?_slot (name:=Str.ofString "__getitem__") ht.typeIs PyProof.Rows.slot_tuple_getitem
    (wpAny_call_entry PyProof.Rows.slot_tuple_getitem ht.typeIs entry_tuple_getitem ?_ (args_tuple_getitem _ _)))
  show wpAny _ _ (Builtin.Tuple.tupleItemsOf (.ref t) >>= _) _ _ s
  refine wpAny_bind (tupleItemsOf_ ht ?_)
  refine wpAny_bind (wpAny_typeOf hTs ?_)
  rw [if_pos (by decide)]
  refine wpAny_bind (sliceApplied_gen hs pl pu ?_)
  have hyes:(((sIx items.size 0 lo:Nat):Int) == 0 && (1:Int) == 1 && (sIx items.size items.size hi - sIx items.size 0 lo) == items.size)=true:=by
    rw [hw.1,hw.2]
    simp
  show wpAny _ _ (if (((sIx items.size 0 lo:Nat):Int) == 0 && (1:Int) == 1 && (sIx items.size items.size hi - sIx items.size 0 lo) == items.size)=true then _ else _) _ _ s
  rw [if_pos hyes]
  wp_walk
  obtain ⟨ot,hot,hct,_⟩:=id ht
  refine wpAny_loadPart hot (wpAny_pure (wpAny_pure ?_))
  rw [hct,if_pos (by decide)]
  exact wpAny_bind (wpAny_rule (wpAny_pure ⟨_,rfl,wpAny_pure h⟩))
end
end HT
namespace L2
open PySem PySem.Spec PyProof.Rows
theorem pick_rev (its:List Value):slicePick its.toArray none none (some (-1))=its.reverse.toArray:=by
  unfold slicePick
  have e:sliceBounds none none (some (-1)) its.toArray.size=((its.length:Int) - 1,-1,-1):=by
    rw [List.size_toArray]; rfl
  rw [e]
  dsimp only
  congr 1
  unfold sliceRange
  dsimp only
  rw [if_neg (by decide)]
  have ec:(if (its.length:Int) - 1 > -1 then ((its.length:Int) - 1 - -1 - -1 - 1) / (- -1) else 0).toNat=its.length:=by
    by_cases h:(its.length:Int) - 1 > -1
    · rw [if_pos h]
      have e2:((its.length:Int) - 1 - -1 - -1 - 1) / (- -1)=(its.length:Int):=by
        rw [show (- -1:Int)=1 by decide,Int.ediv_one]
        omega
      rw [e2]
      omega
    · rw [if_neg h]
      omega
  rw [ec]
  apply List.ext_getElem?
  intro i
  have key:∀ (n:Nat),n≤its.length→((List.range n).map fun (k:Nat)=>((its.length:Int) - 1 + -1 * (k:Int)).toNat).filterMap (its.toArray[·]?)=its.reverse.take n:=by
    intro n
    induction n with
    | zero=>intro _; rfl
    | succ n ih =>
      intro hn
      rw [List.range_succ,List.map_append,List.filterMap_append,ih (by omega),List.take_add_one]
      congr 1
      have e1:((its.length:Int) - 1 + -1 * (n:Int)).toNat=its.length - 1 - n:=by omega
      have e2:its.reverse[n]?=some (its[its.length - 1 - n]'(by omega)):=by
        rw [List.getElem?_reverse (by omega)]
        exact List.getElem?_eq_getElem _
      rw [e2]
      simp only [List.map_cons,List.map_nil,e1,List.filterMap_cons,List.filterMap_nil,List.getElem?_toArray]
      rw [List.getElem?_eq_getElem (by omega)]
      rfl
  rw [key its.length (Nat.le_refl _),List.take_of_length_le (by rw [List.length_reverse]; exact Nat.le_refl _)]
section
variable {X:Cx} {e:Expr} {te:TE} {pos p2:Pos}
def rSlW (K:PySem.W.Frag):V→Option Int→Option Int→Hp→VK→Prop:=fun x lo hi H Q=>∃ a xs,x=.ref a∧SqT K H a xs ∧
  (HT.sIx xs.length 0 lo=0∧HT.sIx xs.length xs.length hi=xs.length)∧Q (.ref a) H
theorem sl_tupW:SlR X (rSlW X.K):=by
  intro pins s σ H x v vl vu lo hi sl Q I rx hs pl pu h
  obtain ⟨a,xs,rfl,hx,hw,q⟩:=h
  cases rx
  obtain ⟨its,r,ht,hz⟩:=I.tuple hx
  have hlen:its.toArray.size=xs.length:=by rw [List.size_toArray]; exact r.length.symm
  refine ⟨"tuple",_,PyProof.Rows.slot_tuple_getitem.lookup,ht.typeIs,?_⟩
  exact HT.getItem_tuple_whole ht hs pl pu (by rw [hlen]; exact hw) ⟨.ref a,H,I,rfl,q⟩
theorem sl_tupA:SlR X (fun x lo hi H Q=>∃ a xs,x=.ref a∧SqT X.K H a xs∧((HT.sIx xs.length 0 lo=0∧HT.sIx xs.length xs.length hi=xs.length)→Q (.ref a) H)∧∀ p,H p=none→Q (.ref p) (upd H p (.tup (cutV xs lo hi)))):=by
  intro pins s σ H x v vl vu lo hi sl Q I rx hs pl pu h
  obtain ⟨a,xs,ex,hx,q1,q2⟩:=h
  by_cases hw:HT.sIx xs.length 0 lo=0∧HT.sIx xs.length xs.length hi=xs.length
  · exact sl_tupW pins s σ H x v vl vu lo hi sl Q I rx hs pl pu ⟨a,xs,ex,hx,hw,q1 hw⟩
  · exact sl_tup pins s σ H x v vl vu lo hi sl Q I rx hs pl pu ⟨a,xs,ex,hx,hw,q2⟩
theorem pe_rev {st:Expr} {tst:TE} (he:PE X e te) (hst:PE X st tst):PE X (.Subscript e (.Slice none none (some st) p2) pos) (fun σ H Q=>te σ H fun x H1=>tst σ H1 fun y H2=>∃ a xs,x=.ref a∧y=.int (-1)∧SqL X.K H2 a xs∧∀ p,H2 p=none→Q (.ref p) (upd H2 p (.lst xs.reverse))):=by
  refine ⟨?_⟩
  intro pins s σ H Q I h
  refine Subscript_ (thn (he pins s σ H _ I h) fun v s1 ⟨x,H1,I1,r1,q1⟩=>?_)
  refine wpAny_Slice ?_
  rw [evalPart_none]
  refine wpAny_pure (wpAny_pure ?_)
  show wpAny (model X.prog X.w) X.A (eval st X.env) _ _ _
  refine thn (hst pins s1 σ H1 _ I1 q1) fun u s2 ⟨y,H2,I2,r2,q2⟩=>?_
  obtain ⟨a,xs,e1,e2,hq,q⟩:=q2
  subst e1 e2
  cases r1
  obtain ⟨t,rfl⟩:=r2
  have I4:Inv X pins σ H2 { s2 with heap:=s2.heap.push { cls:=.type "slice",data:=.fields #[.none,.none,.int (-1) t] } }:=I2.kept (t':=s2.toks) fun b ob q=>Heap.get?_push_of_some _ q
  obtain ⟨its,r,ht,hz⟩:=I4.list hq
  have hlen:=r.length
  refine tail_any (ops:=[.ref a,.ref s2.heap.objs.size]) ht.isList.typeIs slot_list_getitem.lookup ?_ (by with_unfolding_all rfl)
  refine wpAny_getItem_list_slice ht.isList (Heap.IsSliceOf.new ..) .none .none (.int (-1) t) (by decide) ?_ (by rw [List.size_toArray] <;> omega)
  rw [pick_rev]
  refine ⟨.ref _,_,I4.laid (t':=s2.toks) (o:=.lst xs.reverse) (fun b ob q=>Heap.get?_push_of_some _ q) (Nat.le_refl _) ?_,rfl,q _ (I4.hok.fresh (Nat.le_refl _))⟩
  exact ⟨by rw [List.length_reverse]; exact hz,_,0,r.reverse,Heap.get?_push_size _ rfl⟩
end
end L2
namespace L2
open PySem PySem.Spec PyProof.Rows
section
variable {X:Cx} {tg:Expr}
theorem pi_listK (K:PySem.W.Frag) {l:Expr} {tl:TE} (hl:PE X l tl) (e:X.K=K:=by rfl):PI X tg l (iList K tl):=by subst e; exact pi_list hl
theorem pi_tupK (K:PySem.W.Frag) {l:Expr} {tl:TE} (hl:PE X l tl) (e:X.K=K:=by rfl):PI X tg l (iTup K tl):=by subst e; exact pi_tup hl
inductive cLen (K:PySem.W.Frag) (xs:List V) (H:Hp) (Q:VK):Prop
  | mk (p:Addr) (ys:List V) (e:xs=[.ref p]) (h:SqL K H p ys∨SqT K H p ys) (q:Q (.int ys.length) H):cLen K xs H Q
theorem call_lenK (K:PySem.W.Frag) (e:X.K=K:=by rfl):CallR X (.builtin "len") (cLen K):=by
  subst e
  intro pins s σ H xs us Q I r h
  obtain ⟨p,ys,e,h,q⟩:=h
  exact call_len_seq pins s σ H xs us Q I r ⟨p,ys,e,h,q⟩
inductive cSum (K:PySem.W.Frag) (xs:List V) (H:Hp) (Q:VK):Prop
  | mk (p:Addr) (ns:List Int) (e:xs=[.ref p]) (h:SqL K H p (ns.map V.int)∨SqT K H p (ns.map V.int)) (q:Q (.int ns.sum) H):cSum K xs H Q
theorem call_sum_seqK (K:PySem.W.Frag) (hc:X.calm=true) (e:X.K=K:=by rfl):CallR X (.builtin "sum") (cSum K):=by
  subst e
  intro pins s σ H xs us Q I r h
  obtain ⟨p,ns,e,h,q⟩:=h
  exact call_sum_seq hc pins s σ H xs us Q I r ⟨p,ns,e,h,q⟩
theorem sl_listK (K:PySem.W.Frag) (e:X.K=K:=by rfl):SlR X (rSlL K):=by subst e; exact sl_list
theorem call_list_ofK (K:PySem.W.Frag) (e:X.K=K:=by rfl):CallR X (.type "list") (fun xs H Q=>∃ p ys,xs=[.ref p]∧(SqL K H p ys∨SqT K H p ys)∧∀ l,H l=none→Q (.ref l) (upd H l (.lst ys))):=by subst e; exact call_list_of
theorem pg_tupK (K:PySem.W.Frag) {es:List Expr} {k:Nat} {t:TGs} {n:Nat} {pos:Pos} (hc:X.calm=true) (h:PGs X es t) (hn:(assignEach es X.env).length=n:=by rfl) (hst:(assignEach es X.env).findIdx? (·.1)=none:=by rfl) (ek:X.K=K:=by rfl):PG X (.Tuple es k pos) (gTup K n t):=by subst ek; exact pg_tup hc h hn hst
theorem pe_bmK (K:PySem.W.Frag) {o e:Expr} {es:List Expr} {to:TE} {t:TA} {name:Str} {apos cpos:Pos} {T id:String} {r:V→List V→Hp→VK→Prop} (pa:PlainAttrs T) (slot:Slot T name id) (hty:typeOf (.builtin id)=pure (.type "method_descriptor")) (hm:MtR X id r) (ho:PE X o to) (ha:PA X (e::es) t)
    (hbase:attributeBase o name X.env (eval o X.env)=eval o X.env:=by rfl)
    (hfew:((backTo cpos (starEach (e::es) X.env)).all (fun x=>!x.1) && (backToKw cpos (keywordEach [] X.env)).all (fun x=>x.1.isSome) && decide ((e::es).length + ([]:List Keyword).length + (if ([]:List Keyword).isEmpty then 0 else 1) < 30))=true:=by rfl)
    (hline:(apos.endLine == cpos.line)=true:=by rfl) (hs:starEach (e::es) X.env=(false,eval e X.env)::starEach es X.env:=by rfl) (hplain:(backTo cpos (starEach es X.env)).any (·.1)=false:=by rfl) (ek:X.K=K:=by rfl) :
    PE X (.Call (.Attribute o name apos) (e::es) [] cpos) (tBM K T r to t):=by subst ek; exact pe_bm pa slot hty hm ho ha hbase hfew hline hs hplain
theorem pe_revK (K:PySem.W.Frag) {e st:Expr} {te tst:TE} {pos p2:Pos} (he:PE X e te) (hst:PE X st tst) (ek:X.K=K:=by rfl):PE X (.Subscript e (.Slice none none (some st) p2) pos) (fun σ H Q=>te σ H fun x H1=>tst σ H1 fun y H2=>∃ a xs,x=.ref a∧y=.int (-1)∧SqL K H2 a xs∧∀ p,H2 p=none→Q (.ref p) (upd H2 p (.lst xs.reverse))):=by subst ek; exact pe_rev he hst
end
end L2
namespace L2
open PySem PySem.Spec PyProof.Rows
section
variable {X:Cx} {pins:List (Addr × Obj)} {σ:St} {H:Hp} {s:Shared}
end
section
variable {X:Cx}
end
end L2
namespace L2
open PySem PySem.Spec PyProof.Rows
section
variable {X:Cx} {pins:List (Addr × Obj)} {σ:St} {H:Hp} {s:Shared}
end
section
variable {X:Cx}
end
end L2
namespace Pr
open PySem L2 PyProof.Rows
def Sq (H:Hp) (a:Addr) (xs:List V):Prop:=H a=some (.lst xs)∨H a=some (.tup xs)
theorem Sq.same {H H':Hp} {a:Addr} {xs:List V} (h:Sq H a xs) (s:Same H H'):Sq H' a xs:=by
  rcases h with h | h
  · exact .inl (s _ _ h)
  · exact .inr (s _ _ h)
theorem Sq.or {K:PySem.W.Frag} {H:Hp} {a:Addr} {xs:List V} (h:Sq H a xs):SqL K H a xs∨SqT K H a xs:=by
  rcases h with h | h
  · exact .inl (.of h)
  · exact .inr (.of h)
theorem two_line:2≤sizeLine:=by decide
theorem three_line:3≤sizeLine:=by decide
theorem cut_take (xs:List V) {k:Int} (h:0≤k):cutV xs none (some k)=xs.take k.toNat:=by
  unfold cutV
  obtain ⟨n,rfl⟩:∃ n:Nat,k=n:=⟨k.toNat,by omega⟩
  rw [HT.sIx_none,HT.sIx_nat,List.drop_zero,Nat.sub_zero,Int.toNat_natCast,List.take_eq_take_iff]
  omega
theorem iteB {c:Bool} {A B:Prop} (h1:c=true→A) (h2:c=false→B):if c=true then A else B:=by
  cases c with
  | true=>rw [if_pos rfl]; exact h1 rfl
  | false=>rw [if_neg Bool.false_ne_true]; exact h2 rfl
section
variable {P:Program} {w:World} {K:PySem.W.Frag} {mg:Str→Option Value} {base:Heap} {C:Addr}
theorem kit_int (K:PySem.W.Frag):PySem.W.kitOne K (.type "int") (.type "int")=some true:=by rfl
theorem kit_int_bool (K:PySem.W.Frag):PySem.W.kitOne K (.type "int") (.type "bool")=some false:=by rfl
theorem kit_lst (K:PySem.W.Frag):PySem.W.kitAny K (.type "list") [.type "list",.type "tuple"]=some true:=by rfl
theorem kit_tup (K:PySem.W.Frag):PySem.W.kitAny K (.type "tuple") [.type "list",.type "tuple"]=some true:=by rfl
inductive sp_is_whole (vs:List V) (H:Hp) (Q:VK) (E:XK):Prop
  | mk (i:Int) (h0_:vs=[.int i]) (h1_:Q (.bl true) H):sp_is_whole vs H Q E
theorem sc_is_whole:FnScope ["value"] ["value"] (defScope s_is_whole):=⟨rfl,rfl,rfl,by decide +kernel,rfl,by decide +kernel,by decide +kernel⟩
theorem is_whole (T:Txt K mg C):Can P w K mg base 1 "is_whole" ["value"] sp_is_whole:=by
  refine fn_can T.f_is_whole sc_is_whole (fun vs H Q E h=>?_) (fun f cdv A outer s H vs Q E hr h=>?_)
  · obtain ⟨i,rfl,_⟩:=h
    rfl
  · obtain ⟨i,rfl,k⟩:=h
    refine ⟨_,pss_one (ps_ret (pe_and (pe_b call_isi1 T.b_isinstance boot_isinstance (pa2 (pv 0) (pe_ty rfl T.b_int boot_int))) (pe_one (pe_not (pe_b call_isi1 T.b_isinstance boot_isinstance (pa2 (pv 0) (pe_ty rfl T.b_bool boot_bool))))))),?_⟩
    refine ⟨_,rfl,_,_,_,_,rfl,.int i,kit_int _,_,rfl,iteT ?_⟩
    exact ⟨_,rfl,_,_,_,_,rfl,.int i,kit_int_bool _,_,rfl,k⟩
inductive sp_is_whole_from (vs:List V) (H:Hp) (Q:VK) (E:XK):Prop
  | mk (i:Int) (a:Int) (b:Int) (h0_:vs=[.int i,.int a,.int b]) (h1_:Q (.bl (decide (a≤i) && decide (i≤b))) H):sp_is_whole_from vs H Q E
theorem sc_is_whole_from:FnScope ["value","least","greatest"] ["value","least","greatest"] (defScope s_is_whole_from):=⟨rfl,rfl,rfl,by decide +kernel,rfl,by decide +kernel,by decide +kernel⟩
theorem is_whole_from (T:Txt K mg C):Can P w K mg base 2 "is_whole_from" ["value","least","greatest"] sp_is_whole_from:=by
  refine fn_can T.f_is_whole_from sc_is_whole_from (fun vs H Q E h=>?_) (fun f cdv A outer s H vs Q E hr h=>?_)
  · obtain ⟨i,a,b,rfl,_⟩:=h
    rfl
  · obtain ⟨i,a,b,rfl,k⟩:=h
    refine ⟨_,pss_one (ps_ret (pe_and (pe_can (is_whole T) hr (pa1 (pv 0))) (pe_one (pe_chain op_le op_le (pv 1) (pv 0) (pv 2))))),?_⟩
    refine ⟨_,rfl,i,rfl,_,rfl,iteT ?_⟩
    refine ⟨_,rfl,_,rfl,_,_,rfl,rfl,_,rfl,?_⟩
    refine iteB (fun h=>?_) (fun h=>?_)
    · rw [h,Bool.true_and] at k
      exact ⟨_,rfl,_,_,rfl,rfl,k⟩
    · rw [h,Bool.false_and] at k
      exact k
abbrev W30:Int:=1000000000000000000000000000000
abbrev W40:Int:=10000000000000000000000000000000000000000
inductive sp_is_wide (vs:List V) (H:Hp) (Q:VK) (E:XK):Prop
  | mk (i:Int) (h0_:vs=[.int i]) (h1_:Q (.bl (decide (-W30 < i) && decide (i < W30))) H):sp_is_wide vs H Q E
theorem sc_is_wide:FnScope ["value"] ["value"] (defScope s_is_wide):=⟨rfl,rfl,rfl,by decide +kernel,rfl,by decide +kernel,by decide +kernel⟩
theorem is_wide (T:Txt K mg C):Can P w K mg base 2 "is_wide" ["value"] sp_is_wide:=by
  refine fn_can T.f_is_wide sc_is_wide (fun vs H Q E h=>?_) (fun f cdv A outer s H vs Q E hr h=>?_)
  · obtain ⟨i,rfl,_⟩:=h
    rfl
  · obtain ⟨i,rfl,k⟩:=h
    refine ⟨_,pss_one (ps_ret (pe_and (pe_can (is_whole T) hr (pa1 (pv 0))) (pe_one (pe_chain op_lt op_lt (pe_un un_neg (pe_gi T.c_WIDE_END)) (pv 0) (pe_gi T.c_WIDE_END))))),?_⟩
    refine ⟨_,rfl,i,rfl,_,rfl,iteT ?_⟩
    refine ⟨_,rfl,_,rfl,_,_,rfl,rfl,_,rfl,?_⟩
    refine iteB (fun h=>?_) (fun h=>?_)
    · rw [h,Bool.true_and] at k
      exact ⟨_,_,rfl,rfl,k⟩
    · rw [h,Bool.false_and] at k
      exact k
inductive sp_is_list (vs:List V) (H:Hp) (Q:VK) (E:XK):Prop
  | mk (a:Addr) (xs:List V) (h0_:vs=[.ref a]) (h1_:Sq H a xs) (h2_:∀ H',Same H H'→Q (.bl true) H'):sp_is_list vs H Q E
theorem sc_is_list:FnScope ["value"] ["value"] (defScope s_is_list):=⟨rfl,rfl,rfl,by decide +kernel,rfl,by decide +kernel,by decide +kernel⟩
theorem is_list (T:Txt K mg C):Can P w K mg base 1 "is_list" ["value"] sp_is_list:=by
  refine fn_can T.f_is_list sc_is_list (fun vs H Q E h=>?_) (fun f cdv A outer s H vs Q E hr h=>?_)
  · obtain ⟨a,xs,rfl,_⟩:=h
    rfl
  · obtain ⟨a,xs,rfl,hq,k⟩:=h
    refine ⟨_,pss_one (ps_ret (pe_b call_isi2 T.b_isinstance boot_isinstance (pa2 (pv 0) (pe_tup (pa2 (pe_ty rfl T.b_list boot_list) (pe_ty rfl T.b_tuple boot_tuple)))))),?_⟩
    refine ⟨_,rfl,two_line,fun p hp=>?_⟩
    have s1:∀ o,Same H (upd H p o):=fun o=>Same.upd hp
    rcases hq.same (s1 _) with hq | hq
    · exact ⟨_,_,p,_,_,_,rfl,.of upd_same,.lst hq,kit_lst _,k _ (s1 _)⟩
    · exact ⟨_,_,p,_,_,_,rfl,.of upd_same,.tup hq,kit_tup _,k _ (s1 _)⟩
inductive sp_is_list_from (vs:List V) (H:Hp) (Q:VK) (E:XK):Prop
  | mk (a:Addr) (xs:List V) (lo:Int) (hi:Int) (h0_:vs=[.ref a,.int lo,.int hi]) (h1_:Sq H a xs) (h2_:∀ H',Same H H'→Q (.bl (decide (lo≤(xs.length:Int)) && decide ((xs.length:Int)≤hi))) H'):sp_is_list_from vs H Q E
theorem sc_is_list_from:FnScope ["value","fewest","most"] ["value","fewest","most"] (defScope s_is_list_from):=⟨rfl,rfl,rfl,by decide +kernel,rfl,by decide +kernel,by decide +kernel⟩
theorem is_list_from (T:Txt K mg C):Can P w K mg base 2 "is_list_from" ["value","fewest","most"] sp_is_list_from:=by
  refine fn_can T.f_is_list_from sc_is_list_from (fun vs H Q E h=>?_) (fun f cdv A outer s H vs Q E hr h=>?_)
  · obtain ⟨a,xs,lo,hi,rfl,_⟩:=h
    rfl
  · obtain ⟨a,xs,lo,hi,rfl,hq,k⟩:=h
    refine ⟨_,pss_one (ps_ret (pe_and (pe_can (is_list T) hr (pa1 (pv 0))) (pe_one (pe_chain op_le op_le (pv 1) (pe_b call_len_seq T.b_len boot_len (pa1 (pv 0))) (pv 2))))),?_⟩
    refine ⟨_,rfl,a,xs,rfl,hq,fun H1 s1=>⟨_,rfl,iteT ?_⟩⟩
    refine ⟨_,rfl,_,rfl,a,xs,rfl,(hq.same s1).or,_,_,rfl,rfl,_,rfl,?_⟩
    have k1:=k H1 s1
    refine iteB (fun h=>?_) (fun h=>?_)
    · rw [h,Bool.true_and] at k1
      exact ⟨_,rfl,_,_,rfl,rfl,k1⟩
    · rw [h,Bool.false_and] at k1
      exact k1
inductive sp_need_roll (vs:List V) (H:Hp) (Q:VK) (E:XK):Prop
  | mk (i:Int) (a:Int) (b:Int) (h0_:vs=[.int i,.int a,.int b]) (h1_:a≤i) (h2_:i≤b) (h3_:Q .non H):sp_need_roll vs H Q E
theorem sc_need_roll:FnScope ["value","least","greatest"] ["value","least","greatest"] (defScope s_need_roll):=⟨rfl,rfl,rfl,by decide +kernel,rfl,by decide +kernel,by decide +kernel⟩
theorem need_roll (T:Txt K mg C):Can P w K mg base 3 "need_roll" ["value","least","greatest"] sp_need_roll:=by
  refine fn_can T.f_need_roll sc_need_roll (fun vs H Q E h=>?_) (fun f cdv A outer s H vs Q E hr h=>?_)
  · obtain ⟨i,a,b,rfl,_⟩:=h
    rfl
  · obtain ⟨i,a,b,rfl,h1,h2,k⟩:=h
    refine ⟨_,pss_one (ps_if (pt_not (pt_val (pe_can (is_whole_from T) hr (pa3 (pv 0) (pv 1) (pv 2))))) pss_never pss_nil),?_⟩
    refine ⟨_,rfl,_,rfl,_,rfl,i,a,b,rfl,_,rfl,?_⟩
    rw [decide_eq_true h1,decide_eq_true h2]
    exact iteF k
inductive sp_need_number (vs:List V) (H:Hp) (Q:VK) (E:XK):Prop
  | mk (i:Int) (h0_:vs=[.int i]) (h1_ : -W40 < i) (h2_:i < W40) (h3_:Q .non H):sp_need_number vs H Q E
theorem sc_need_number:FnScope ["value"] ["value"] (defScope s_need_number):=⟨rfl,rfl,rfl,by decide +kernel,rfl,by decide +kernel,by decide +kernel⟩
theorem need_number (T:Txt K mg C):Can P w K mg base 2 "need_number" ["value"] sp_need_number:=by
  refine fn_can T.f_need_number sc_need_number (fun vs H Q E h=>?_) (fun f cdv A outer s H vs Q E hr h=>?_)
  · obtain ⟨i,rfl,_⟩:=h
    rfl
  · obtain ⟨i,rfl,h1,h2,k⟩:=h
    refine ⟨_,pss_one (ps_if (pw_or (pt_not (pt_val (pe_can (is_whole T) hr (pa1 (pv 0))))) (pw_or1 (pt_not (pt_chain op_lt op_lt (pe_un un_neg (pe_gi T.c_NUMBER_END)) (pv 0) (pe_gi T.c_NUMBER_END))))).pt pss_never pss_nil),?_⟩
    refine ⟨_,rfl,i,rfl,_,rfl,iteF ?_⟩
    refine ⟨_,rfl,_,rfl,_,_,rfl,rfl,_,rfl,?_⟩
    rw [decide_eq_true h1]
    refine iteT ⟨_,_,rfl,rfl,_,rfl,?_⟩
    rw [decide_eq_true h2]
    exact iteF k
structure SzOk (S:List Int):Prop where
  g:Lad.Good S
  n:S.length≤1000
  s:S.sum < 2 ^ 60
inductive sp_first_of (vs:List V) (H:Hp) (Q:VK) (E:XK):Prop
  | mk (b:Int) (a:Addr) (S:List Int) (k:Int) (h0_:vs=[.int b,.ref a,.int k]) (h1_:H a=some (.tup (S.map V.int))) (h2_:SzOk S) (h3_:∀ H',Same H H'→Q (.int (Lad.fst b S k)) H'):sp_first_of vs H Q E
theorem sc_first_of:FnScope ["begin","sizes","number","turns","at"] ["begin","sizes","number"] (defScope s_first_of):=⟨rfl,rfl,rfl,by decide +kernel,rfl,by decide +kernel,by decide +kernel⟩
theorem first_of (T:Txt K mg C):Can P w K mg base 1 "first_of" ["begin","sizes","number"] sp_first_of:=by
  refine fn_can T.f_first_of sc_first_of (fun vs H Q E h=>?_) (fun f cdv A outer s H vs Q E hr h=>?_)
  · obtain ⟨b,a,S,k,rfl,_⟩:=h
    rfl
  · obtain ⟨b,a,S,k,rfl,ha,⟨g,hn,hs⟩,q⟩:=h
    refine ⟨_,pss_cons (ps_asg (pe_b call_divmodB T.b_divmod boot_divmod (pa2 (pv 2) (pe_b call_len_seq T.b_len boot_len (pa1 (pv 1))))) (pg_tup rfl (pgs_cons (pg_name (i:=3) sc_first_of.nd rfl (Or.inl rfl)) (pgs_cons (pg_name (i:=4) sc_first_of.nd rfl (Or.inl rfl)) pgs_nil))))
      (pss_one (ps_ret (pe_op op_add (pe_op op_add (pv 0) (pe_op op_mul (pv 3) (pe_b (call_sum_seq rfl) T.b_sum boot_sum (pa1 (pv 1))))) (pe_b (call_sum_seq rfl) T.b_sum boot_sum (pa1 (pe_slice sl_tup (pv 1) po_none (po_some (pv 4)))))))),?_⟩
    have h1:=g.len
    have h2:=g.sum
    have hl:(((S.map V.int).length:Nat):Int)=(S.length:Int):=by rw [List.length_map]
    refine ⟨_,rfl,_,rfl,a,_,rfl,.inr (.of ha),k,_,rfl,⟨by omega,by omega⟩,fun p hp=>?_⟩
    have s1:∀ o,Same H (upd H p o):=fun o=>Same.upd hp
    refine ⟨p,_,rfl,.of upd_same,rfl,_,_,rfl,_,_,rfl,rfl,?_⟩
    refine ⟨_,rfl,_,rfl,_,rfl,a,S,rfl,.inr (.of (s1 _ _ _ ha)),_,_,rfl,rfl,.inr ⟨by omega,by omega⟩,_,_,rfl,rfl,?_⟩
    have hk0:0≤k % (((S.map V.int).length:Nat):Int):=Int.emod_nonneg _ (by omega)
    have hk1:k % (((S.map V.int).length:Nat):Int) < (((S.map V.int).length:Nat):Int):=Int.emod_lt_of_pos _ (by omega)
    refine ⟨_,rfl,_,rfl,_,rfl,a,_,rfl,.of (s1 _ _ _ ha),?_,fun p2 hp2=>?_⟩
    · rintro ⟨_,z⟩
      obtain ⟨n,e⟩:∃ n:Nat,k % (((S.map V.int).length:Nat):Int)=n:=⟨_,(Int.toNat_of_nonneg hk0).symm⟩
      rw [e] at z hk1
      rw [HT.sIx_nat] at z
      omega
    · have s2:∀ o,Same (upd H p _) (upd (upd H p _) p2 o):=fun o=>Same.upd hp2
      refine ⟨p2,S.take (k % (S.length:Int)).toNat,rfl,.inr (.of ?_),_,_,rfl,rfl,?_⟩
      · rw [upd_same,cut_take _ hk0,hl,List.map_take]
      · have e:b + k / (((S.map V.int).length:Nat):Int) * S.sum + (S.take (k % (S.length:Int)).toNat).sum=Lad.fst b S k:=by rw [hl]; rfl
        show Q (.int (b + k / (((S.map V.int).length:Nat):Int) * S.sum + (S.take (k % (S.length:Int)).toNat).sum)) _
        rw [e]
        exact q _ ((s1 _).trans (s2 _))
inductive sp_size_of (vs:List V) (H:Hp) (Q:VK) (E:XK):Prop
  | mk (a:Addr) (S:List Int) (k:Int) (h0_:vs=[.ref a,.int k]) (h1_:H a=some (.tup (S.map V.int))) (h2_:1≤S.length) (h3_:Q (.int (Lad.sz S k)) H):sp_size_of vs H Q E
theorem sc_size_of:FnScope ["sizes","number"] ["sizes","number"] (defScope s_size_of):=⟨rfl,rfl,rfl,by decide +kernel,rfl,by decide +kernel,by decide +kernel⟩
theorem atI_ints {S:List Int} {i:Int} (h0:0≤i) (h1:i < (S.length:Int)):atI (S.map V.int) i=some (.int (S.getD i.toNat 0)):=by
  obtain ⟨n,rfl⟩:∃ n:Nat,i=n:=⟨i.toNat,by omega⟩
  refine atI_nat ?_
  rw [Int.toNat_natCast,List.getElem?_map,List.getElem?_eq_getElem (by omega),List.getD_eq_getElem?_getD,List.getElem?_eq_getElem (by omega)]
  rfl
theorem size_of (T:Txt K mg C):Can P w K mg base 1 "size_of" ["sizes","number"] sp_size_of:=by
  refine fn_can T.f_size_of sc_size_of (fun vs H Q E h=>?_) (fun f cdv A outer s H vs Q E hr h=>?_)
  · obtain ⟨a,S,k,rfl,_⟩:=h
    rfl
  · obtain ⟨a,S,k,rfl,ha,h1,q⟩:=h
    refine ⟨_,pss_one (ps_ret (pe_ix ix_tup (pv 0) (pe_op op_mod (pv 1) (pe_b call_len_seq T.b_len boot_len (pa1 (pv 0)))) (fun _ _=>rfl))),?_⟩
    have hl:(((S.map V.int).length:Nat):Int)=(S.length:Int):=by rw [List.length_map]
    refine ⟨_,rfl,_,rfl,_,rfl,a,_,rfl,.inr (.of ha),_,_,rfl,rfl,by omega,a,_,_,_,rfl,rfl,.of ha,atI_ints (Int.emod_nonneg _ (by omega)) ?_,?_⟩
    · rw [hl]; exact Int.emod_lt_of_pos _ (by omega)
    · rw [hl]; exact q
inductive sp_number_of (vs:List V) (H:Hp) (Q:VK) (E:XK):Prop
  | mk (b:Int) (a:Addr) (S:List Int) (p:Int) (h0_:vs=[.int b,.ref a,.int p]) (h1_:H a=some (.tup (S.map V.int))) (h2_:SzOk S) (h3_:∀ H',Same H H'→Q (.int (Lad.num b S p)) H'):sp_number_of vs H Q E
theorem sc_number_of:FnScope ["begin","sizes","place","turns","rest","at"] ["begin","sizes","place"] (defScope s_number_of):=⟨rfl,rfl,rfl,by decide +kernel,rfl,by decide +kernel,by decide +kernel⟩
theorem walk_step (S:List Int):∀ (n:Nat) (x:Int),n < S.length→S.getD n 0≤x→Lad.walk (S.drop n) x=Lad.walk (S.drop (n + 1)) (x - S.getD n 0) + 1:=by
  intro n x hn h
  rw [List.drop_eq_getElem_cons hn]
  have e:S.getD n 0=S[n]:=by rw [List.getD_eq_getElem?_getD,List.getElem?_eq_getElem hn]; rfl
  rw [e] at h ⊢
  show (if x < S[n] then 0 else _)=_
  rw [if_neg (by omega)]
theorem walk_stop (S:List Int) {n:Nat} {x:Int} (hn:n < S.length) (h:x < S.getD n 0):Lad.walk (S.drop n) x=0:=by
  rw [List.drop_eq_getElem_cons hn]
  have e:S.getD n 0=S[n]:=by rw [List.getD_eq_getElem?_getD,List.getElem?_eq_getElem hn]; rfl
  rw [e] at h
  show (if x < S[n] then 0 else _)=_
  rw [if_pos h]
theorem sum_drop (S:List Int) (n:Nat) (hn:n < S.length):(S.drop n).sum=S.getD n 0 + (S.drop (n + 1)).sum:=by
  rw [List.drop_eq_getElem_cons hn,List.sum_cons,List.getD_eq_getElem?_getD,List.getElem?_eq_getElem hn]
  rfl
theorem number_of (T:Txt K mg C):Can P w K mg base 1 "number_of" ["begin","sizes","place"] sp_number_of:=by
  refine fn_can T.f_number_of sc_number_of (fun vs H Q E h=>?_) (fun f cdv A outer s H vs Q E hr h=>?_)
  · obtain ⟨b,a,S,p,rfl,_⟩:=h
    rfl
  · obtain ⟨b,a,S,p,rfl,ha,⟨g,hn,hs⟩,q⟩:=h
    refine ⟨_,pss_cons (ps_asg (pe_b call_divmodB T.b_divmod boot_divmod (pa2 (pe_op op_sub (pv 2) (pv 0)) (pe_b (call_sum_seq rfl) T.b_sum boot_sum (pa1 (pv 1))))) (pg_tup rfl (pgs_cons (pg_name (i:=3) sc_number_of.nd rfl (Or.inl rfl)) (pgs_cons (pg_name (i:=4) sc_number_of.nd rfl (Or.inl rfl)) pgs_nil))))
      (pss_cons (ps_set (i:=5) sc_number_of.nd rfl (Or.inl rfl) pe_int)
      (pss_cons (ps_while PassesOwn.never (pt_cmpR op_ge (pv 4) (pe_ix ix_tup (pv 1) (pv 5) (fun _ _=>rfl)) (nomark _))
        (pss_cons (ps_aug (i:=4) sc_number_of.nd rfl (Or.inl rfl) (pe_ix ix_tup (pv 1) (pv 5) (fun _ _=>rfl)) ip_sub)
          (pss_one (ps_aug (i:=5) sc_number_of.nd rfl (Or.inl rfl) pe_int ip_add))))
      (pss_one (ps_ret (pe_op op_add (pe_op op_mul (pv 3) (pe_b call_len_seq T.b_len boot_len (pa1 (pv 1)))) (pv 5)))))),?_⟩
    have h1:=g.len
    have h2:=g.sum
    have hl:(((S.map V.int).length:Nat):Int)=(S.length:Int):=by rw [List.length_map]
    refine ⟨_,rfl,_,rfl,_,_,rfl,rfl,_,rfl,a,S,rfl,.inr (.of ha),_,_,rfl,⟨by omega,by omega⟩,fun p1 hp1=>?_⟩
    have s1:∀ o,Same H (upd H p1 o):=fun o=>Same.upd hp1
    refine ⟨p1,_,rfl,.of upd_same,rfl,_,_,rfl,_,_,rfl,rfl,?_⟩
    have hr0:0≤(p - b) % S.sum:=Int.emod_nonneg _ (by omega)
    have hr1:(p - b) % S.sum < S.sum:=Int.emod_lt_of_pos _ (by omega)
    refine ⟨fun m σ H2=>∃ (n:Nat) (x:Int),m=S.length - n∧n < S.length∧0≤x∧x < (S.drop n).sum∧Lad.walk S ((p - b) % S.sum)=n + Lad.walk (S.drop n) x∧Same H H2 ∧
      σ=[some (.int b),some (.ref a),some (.int p),some (.int ((p - b) / S.sum)),some (.int x),some (.int n)],⟨_,0,(p - b) % S.sum,rfl,by omega,hr0,by simpa using hr1,by simp,s1 _,rfl⟩,?_⟩
    rintro m σ H2 ⟨n,x,rfl,hnl,hx0,hx1,hw,s2,rfl⟩
    refine ⟨_,rfl,_,rfl,_,rfl,a,_,_,_,rfl,rfl,.of (s2 _ _ ha),atI_ints (i:=(n:Int)) (by omega) (by omega),_,_,rfl,rfl,_,rfl,?_⟩
    rw [Int.toNat_natCast]
    have hd:=sum_drop S n hnl
    have hpos:=Lad.getD_pos g.2 hnl
    refine ite2 (fun hc=>?_) (fun hc=>?_)
    · have hc:S.getD n 0≤x:=of_decide_eq_true hc
      have hn1:n + 1 < S.length:=by
        rcases Nat.lt_or_ge (n + 1) S.length with z | z
        · exact z
        · rw [List.drop_eq_nil_of_le z,List.sum_nil] at hd
          omega
      refine ⟨fun σ' H'=>∃ (n':Nat) (x':Int),S.length - n' < S.length - n∧n' < S.length∧0≤x'∧x' < (S.drop n').sum∧Lad.walk S ((p - b) % S.sum)=n' + Lad.walk (S.drop n') x'∧Same H H' ∧
        σ'=[some (.int b),some (.ref a),some (.int p),some (.int ((p - b) / S.sum)),some (.int x'),some (.int n')],fun σ' H' ⟨n',x',l,r⟩=>⟨_,l,n',x',rfl,r⟩,?_⟩
      refine ⟨_,rfl,_,rfl,_,rfl,a,_,_,_,rfl,rfl,.of (s2 _ _ ha),atI_ints (i:=(n:Int)) (by omega) (by omega),_,_,rfl,rfl,?_⟩
      refine ⟨_,rfl,_,_,rfl,rfl,?_⟩
      rw [Int.toNat_natCast]
      refine ⟨n + 1,x - S.getD n 0,by omega,hn1,by omega,by omega,?_,s2,rfl⟩
      rw [hw,walk_step S n x hnl hc]
      omega
    · have hc:¬ S.getD n 0≤x:=fun z=>hc (decide_eq_true z)
      refine ⟨_,rfl,_,rfl,a,_,rfl,.inr (.of (s2 _ _ ha)),_,_,rfl,rfl,.inr ⟨by omega,by omega⟩,_,rfl,_,_,rfl,rfl,?_⟩
      have e:(p - b) / S.sum * (((S.map V.int).length:Nat):Int) + (n:Int)=Lad.num b S p:=by
        unfold Lad.num
        rw [hw,walk_stop S hnl (by omega),hl]
        omega
      show Q (.int ((p - b) / S.sum * (((S.map V.int).length:Nat):Int) + (n:Int))) H2
      rw [e]
      exact q _ s2
end
end Pr
namespace L2
open PySem PySem.Spec PyProof.Rows
section
variable {X:Cx}
def rIxO:R2:=fun x y H Q=>∃ p o xs i v,x=.ref p∧y=.int i∧H p=some o∧Ob o xs∧atI xs i=some v∧Q v H
theorem ix_ob:IxR X rIxO:=by
  intro value slice pins s σ H x y v u Q I rx ry h hs
  obtain ⟨p,o,xs,i,z,e1,e2,hp,ho,he,q⟩:=h
  exact ix_sq value slice pins s σ H x y v u Q I rx ry ⟨p,xs,i,z,e1,e2,ho.sq hp,he,q⟩ hs
theorem call_tup_ob:CallR X (.type "tuple") (fun xs H Q=>∃ a o ys,xs=[.ref a]∧H a=some o∧Ob o ys∧∀ l H',Same H H'→H' l=some (.tup ys)→Q (.ref l) H'):=by
  intro pins s σ H xs us Q I r h
  obtain ⟨a,o,ys,e1,ha,ho,q⟩:=h
  refine call_tuple_of pins s σ H xs us Q I r ⟨a,ys,e1,?_⟩
  rcases ho with ho | ho
  · subst ho
    exact .inl ⟨.of ha,fun l hl=>q l _ (Same.upd hl) upd_same⟩
  · subst ho
    exact .inr ⟨.of ha,q a H (Same.refl _) ha⟩
end
end L2
namespace Pr
open PySem L2 PyProof.Rows
theorem _root_.L2.Ob.to {H:Hp} {a:Addr} {o:HO} {xs:List V} (h:Ob o xs) (e:H a=some o):Sq H a xs:=by
  rcases h with h | h
  · subst h; exact .inl e
  · subst h; exact .inr e
theorem _root_.L2.Ob.ne {H:Hp} {a p C dx:Addr} {o:HO} {xs:List V} {fs:List (Str × V)} (h:Ob o xs) (e:H a=some o) (hp:H p=some (.ins C dx fs)):a≠p:=by
  rcases h with h | h
  · subst h; exact ne_of e hp (by intro z; cases z)
  · subst h; exact ne_of e hp (by intro z; cases z)
def partB (i:Int):Bool:=(decide (-1000000000≤i) && decide (i≤1000000000)) && !decide (i=0)
def sizeB (i:Int):Bool:=decide (1≤i) && decide (i≤1000)
def wideB (i:Int):Bool:=decide (-W30 < i) && decide (i < W30)
def lenB (lo hi:Int) (n:Nat):Bool:=decide (lo≤(n:Int)) && decide ((n:Int)≤hi)
def headB (ps:List Int):Bool:=decide (0 < ps.headD 0)
def partsB (ps:List Int):Bool:=lenB 1 12 ps.length && (ps.all partB && headB ps)
def sizesB (S:List Int):Bool:=lenB 1 12 S.length && S.all sizeB
def rowB (s:Lad.Step):Bool:=wideB s.1 && sizesB s.2
def rowsB (rows:List Lad.Step):Bool:=lenB 0 4 rows.length && rows.all rowB
section
variable {P:Program} {w:World} {K:PySem.W.Frag} {mg:Str→Option Value} {base:Heap} {C:Addr}
inductive sp_is_part (vs:List V) (H:Hp) (Q:VK) (E:XK):Prop
  | mk (i:Int) (h0_:vs=[.int i]) (h1_:Q (.bl (partB i)) H):sp_is_part vs H Q E
theorem sc_is_part:FnScope ["value"] ["value"] (defScope s_is_part):=⟨rfl,rfl,rfl,by decide +kernel,rfl,by decide +kernel,by decide +kernel⟩
theorem is_part (T:Txt K mg C):Can P w K mg base 3 "is_part" ["value"] sp_is_part:=by
  refine fn_can T.f_is_part sc_is_part (fun vs H Q E h=>?_) (fun f cdv A outer s H vs Q E hr h=>?_)
  · obtain ⟨i,rfl,_⟩:=h
    rfl
  · obtain ⟨i,rfl,k⟩:=h
    refine ⟨_,pss_one (ps_ret (pe_and (pe_can (is_whole_from T) hr (pa3 (pv 0) (pe_un un_neg (pe_gi T.c_MOST_LENGTH)) (pe_gi T.c_MOST_LENGTH))) (pe_one (pe_cmpR op_ne (pv 0) pe_int (nomark _))))),?_⟩
    refine ⟨_,rfl,_,rfl,_,_,_,rfl,_,rfl,?_⟩
    have e:decide (V.int i=V.int 0)=decide (i=0):=by rw [dec_int]; exact Bool.beq_eq_decide_eq i 0
    unfold partB at k
    refine iteB (fun h=>?_) (fun h=>?_)
    · have h':(decide (-1000000000≤i) && decide (i≤1000000000))=true:=h
      rw [h',Bool.true_and,← e] at k
      exact ⟨_,rfl,rfl,k⟩
    · have h':(decide (-1000000000≤i) && decide (i≤1000000000))=false:=h
      rw [h',Bool.false_and] at k
      exact k
theorem all_map (f:Int→Bool) (S:List Int):((S.map f).all id)=S.all f:=by rw [List.all_map]; rfl
inductive sp_are_parts (vs:List V) (H:Hp) (Q:VK) (E:XK):Prop
  | mk (a:Addr) (o:HO) (ps:List Int) (h0_:vs=[.ref a]) (h1_:H a=some o) (h2_:Ob o (ps.map V.int)) (h3_:ps.length≤1000) (h4_:∀ H',Same H H'→Q (.bl (partsB ps)) H'):sp_are_parts vs H Q E
theorem sc_are_parts:FnScope ["value"] ["value"] (defScope s_are_parts):=⟨rfl,rfl,rfl,by decide +kernel,rfl,by decide +kernel,by decide +kernel⟩
theorem int_of_map {S:List Int} {i:Nat} {x:V} (e:(S.map V.int)[i]?=some x):∃ n,S[i]?=some n∧x=.int n:=by
  rw [List.getElem?_map] at e
  cases q:S[i]? with
  | none=>rw [q] at e; cases e
  | some n=>rw [q] at e; exact ⟨n,rfl,(Option.some.inj e).symm⟩
theorem take_map_snoc {α β:Type} {S:List α} {i:Nat} {n:α} (f:α→β) (e:S[i]?=some n):(S.take i).map f++[f n]=(S.take (i + 1)).map f:=by
  rw [List.take_add_one,e,List.map_append]
  rfl
theorem are_parts (T:Txt K mg C):Can P w K mg base 4 "are_parts" ["value"] sp_are_parts:=by
  refine fn_can T.f_are_parts sc_are_parts (fun vs H Q E h=>?_) (fun f cdv A outer s H vs Q E hr h=>?_)
  · obtain ⟨a,o,ps,rfl,_⟩:=h
    rfl
  · obtain ⟨a,o,ps,rfl,ha,ho,hlen,k⟩:=h
    refine ⟨_,pss_one (ps_ret (pe_and (pe_can (is_list_from T) hr (pa3 (pv 0) pe_int (pe_gi T.c_MOST_PARTS)))
      (pe_and (pe_b (call_all_seq rfl) T.b_all boot_all (pa1 (pe_lc rfl (lcS sc_are_parts) (pi_seq (pv 0)) (fun _ _ _ _=>pts_nil) (fun _ _ _ _=>pe_can (is_part T) hr (pa1 (pv 0))))))
      (pe_one (pe_cmpR op_gt (pe_ix ix_ob (pv 0) pe_int (fun _ _=>rfl)) pe_int (nomark _)))))),?_⟩
    refine ⟨_,rfl,a,_,_,_,rfl,ho.to ha,fun H1 s1=>⟨_,rfl,?_⟩⟩
    have ha1:=s1 _ _ ha
    refine iteB (fun h=>?_) (fun h=>?_)
    · have h':lenB 1 12 ps.length=true:=by unfold lenB; rw [List.length_map] at h; exact h
      refine ⟨_,rfl,a,o,_,rfl,ha1,ho,fun J hJ D hD=>?_⟩
      refine lc_it hJ (fun i ys H2=>ys=((ps.take i).map partB).map V.bl∧Same H1 H2∧H2 D=some (.lst ys)) ⟨rfl,Same.upd hD,upd_same⟩ (fun i ys H2 ⟨_,s2,d⟩=>⟨d,s2 _ _ ha1⟩) (fun ys H2 ⟨e,s2,d⟩=>?_) (fun i x ys H2 hi hx ⟨e,s2,d⟩=>?_)
      · rw [List.length_map,List.take_length] at e
        subst e
        refine ⟨D,ps.map partB,rfl,.of d,_,rfl,?_⟩
        rw [all_map]
        have k2:=k _ (s1.trans s2)
        unfold partsB at k2
        rw [h',Bool.true_and] at k2
        refine iteB (fun h2=>?_) (fun h2=>?_)
        · rw [h2,Bool.true_and] at k2
          have hne:1≤ps.length:=by
            unfold lenB at h'
            rw [Bool.and_eq_true,decide_eq_true_eq] at h'
            omega
          refine ⟨_,rfl,a,o,_,_,_,rfl,rfl,s2 _ _ ha1,ho,atI_ints (i:=0) (by omega) (by omega),_,_,rfl,rfl,?_⟩
          have e:headB ps=decide (0 < ps.getD 0 0):=by
            unfold headB
            cases ps <;> rfl
          rw [e] at k2
          exact k2
        · rw [h2,Bool.false_and] at k2
          exact k2
      · obtain ⟨n,hn,rfl⟩:=int_of_map hx
        rw [List.length_map] at hi
        refine yesI ⟨_,rfl,n,rfl,LcNx.mk (by rw [List.length_map]; exact hi) (by rw [List.length_map]; exact hlen) (by rw [e,List.length_map,List.length_map,List.length_take]; omega) d ⟨?_,?_,upd_same⟩⟩
        · rw [e,← take_map_snoc partB hn,List.map_append]
          rfl
        · exact fun b o z=>by rw [upd_ne (ne_of_none z hD)]; exact s2 b o z
    · have h':lenB 1 12 ps.length=false:=by unfold lenB; rw [List.length_map] at h; exact h
      have k2:=k _ s1
      unfold partsB at k2
      rw [h',Bool.false_and] at k2
      exact k2
inductive sp_are_sizes (vs:List V) (H:Hp) (Q:VK) (E:XK):Prop
  | mk (a:Addr) (o:HO) (S:List Int) (h0_:vs=[.ref a]) (h1_:H a=some o) (h2_:Ob o (S.map V.int)) (h3_:S.length≤1000) (h4_:∀ H',Same H H'→Q (.bl (sizesB S)) H'):sp_are_sizes vs H Q E
theorem sc_are_sizes:FnScope ["value"] ["value"] (defScope s_are_sizes):=⟨rfl,rfl,rfl,by decide +kernel,rfl,by decide +kernel,by decide +kernel⟩
theorem are_sizes (T:Txt K mg C):Can P w K mg base 3 "are_sizes" ["value"] sp_are_sizes:=by
  refine fn_can T.f_are_sizes sc_are_sizes (fun vs H Q E h=>?_) (fun f cdv A outer s H vs Q E hr h=>?_)
  · obtain ⟨a,o,S,rfl,_⟩:=h
    rfl
  · obtain ⟨a,o,S,rfl,ha,ho,hlen,k⟩:=h
    refine ⟨_,pss_one (ps_ret (pe_and (pe_can (is_list_from T) hr (pa3 (pv 0) pe_int (pe_gi T.c_MOST_SIZES)))
      (pe_one (pe_b (call_all_seq rfl) T.b_all boot_all (pa1 (pe_lc rfl (lcS sc_are_sizes) (pi_seq (pv 0)) (fun _ _ _ _=>pts_nil) (fun _ _ _ _=>pe_can (is_whole_from T) hr (pa3 (pv 0) pe_int (pe_gi T.c_MOST_SIZE))))))))),?_⟩
    refine ⟨_,rfl,a,_,_,_,rfl,ho.to ha,fun H1 s1=>⟨_,rfl,?_⟩⟩
    have ha1:=s1 _ _ ha
    refine iteB (fun h=>?_) (fun h=>?_)
    · have h':lenB 1 12 S.length=true:=by unfold lenB; rw [List.length_map] at h; exact h
      refine ⟨_,rfl,a,o,_,rfl,ha1,ho,fun J hJ D hD=>?_⟩
      refine lc_it hJ (fun i ys H2=>ys=((S.take i).map sizeB).map V.bl∧Same H1 H2∧H2 D=some (.lst ys)) ⟨rfl,Same.upd hD,upd_same⟩ (fun i ys H2 ⟨_,s2,d⟩=>⟨d,s2 _ _ ha1⟩) (fun ys H2 ⟨e,s2,d⟩=>?_) (fun i x ys H2 hi hx ⟨e,s2,d⟩=>?_)
      · rw [List.length_map,List.take_length] at e
        subst e
        refine ⟨D,S.map sizeB,rfl,.of d,?_⟩
        rw [all_map]
        have k2:=k _ (s1.trans s2)
        unfold sizesB at k2
        rw [h',Bool.true_and] at k2
        exact k2
      · obtain ⟨n,hn,rfl⟩:=int_of_map hx
        rw [List.length_map] at hi
        refine yesI ⟨_,rfl,_,_,_,rfl,LcNx.mk (by rw [List.length_map]; exact hi) (by rw [List.length_map]; exact hlen) (by rw [e,List.length_map,List.length_map,List.length_take]; omega) d ⟨?_,?_,upd_same⟩⟩
        · rw [e,← take_map_snoc sizeB hn,List.map_append]
          rfl
        · exact fun b o z=>by rw [upd_ne (ne_of_none z hD)]; exact s2 b o z
    · have h':lenB 1 12 S.length=false:=by unfold lenB; rw [List.length_map] at h; exact h
      have k2:=k _ s1
      unfold sizesB at k2
      rw [h',Bool.false_and] at k2
      exact k2
inductive RowG (H:Hp) (v:V) (s:Lad.Step):Prop
  | mk (r:Addr) (l:Addr) (o1:HO) (o2:HO) (h0_:v=.ref r) (h1_:H r=some o1) (h2_:Ob o1 [.int s.1,.ref l]) (h3_:H l=some o2) (h4_:Ob o2 (s.2.map V.int)) (h5_:s.2.length≤1000):RowG H v s
theorem RowG.same {H H':Hp} (e:Same H H') {v:V} {s:Lad.Step} (h:RowG H v s):RowG H' v s:=by
  obtain ⟨r,l,o1,o2,e1,h1,h2,h3,h4,h5⟩:=h
  exact ⟨r,l,o1,o2,e1,e _ _ h1,h2,e _ _ h3,h4,h5⟩
inductive sp_is_row (vs:List V) (H:Hp) (Q:VK) (E:XK):Prop
  | mk (v:V) (st:Lad.Step) (h0_:vs=[v]) (h1_:RowG H v st) (h2_:∀ H',Same H H'→Q (.bl (rowB st)) H'):sp_is_row vs H Q E
theorem sc_is_row:FnScope ["value"] ["value"] (defScope s_is_row):=⟨rfl,rfl,rfl,by decide +kernel,rfl,by decide +kernel,by decide +kernel⟩
theorem is_row (T:Txt K mg C):Can P w K mg base 4 "is_row" ["value"] sp_is_row:=by
  refine fn_can T.f_is_row sc_is_row (fun vs H Q E h=>?_) (fun f cdv A outer s H vs Q E hr h=>?_)
  · obtain ⟨v,st,rfl,_⟩:=h
    rfl
  · obtain ⟨v,st,rfl,⟨r,l,o1,o2,rfl,hr1,ho1,hl1,ho2,hlen⟩,k⟩:=h
    refine ⟨_,pss_one (ps_ret (pe_and (pe_can (is_list_from T) hr (pa3 (pv 0) pe_int pe_int))
      (pe_and (pe_can (is_wide T) hr (pa1 (pe_ix ix_ob (pv 0) pe_int (fun _ _=>rfl)))) (pe_one (pe_can (are_sizes T) hr (pa1 (pe_ix ix_ob (pv 0) pe_int (fun _ _=>rfl)))))))),?_⟩
    refine ⟨_,rfl,r,_,_,_,rfl,ho1.to hr1,fun H1 s1=>⟨_,rfl,iteT ?_⟩⟩
    have hr2:=s1 _ _ hr1
    have hl2:=s1 _ _ hl1
    refine ⟨_,rfl,r,o1,_,_,_,rfl,rfl,hr2,ho1,rfl,_,rfl,_,rfl,?_⟩
    refine iteB (fun h=>?_) (fun h=>?_)
    · refine ⟨_,rfl,r,o1,_,_,_,rfl,rfl,hr2,ho1,rfl,l,o2,st.2,rfl,hl2,ho2,hlen,fun H2 s2=>?_⟩
      have k2:=k _ (s1.trans s2)
      unfold rowB wideB at k2
      rw [h,Bool.true_and] at k2
      exact k2
    · have k2:=k _ s1
      unfold rowB wideB at k2
      rw [h,Bool.false_and] at k2
      exact k2
inductive sp_are_rows (vs:List V) (H:Hp) (Q:VK) (E:XK):Prop
  | mk (a:Addr) (o:HO) (us:List V) (rows:List Lad.Step) (h0_:vs=[.ref a]) (h1_:H a=some o) (h2_:Ob o us) (h3_:Paired (RowG H) us rows) (h4_:rows.length≤1000) (h5_:∀ H',Same H H'→Q (.bl (rowsB rows)) H'):sp_are_rows vs H Q E
theorem sc_are_rows:FnScope ["value"] ["value"] (defScope s_are_rows):=⟨rfl,rfl,rfl,by decide +kernel,rfl,by decide +kernel,by decide +kernel⟩
theorem all_mapS (f:Lad.Step→Bool) (S:List Lad.Step):((S.map f).all id)=S.all f:=by rw [List.all_map]; rfl
theorem are_rows (T:Txt K mg C):Can P w K mg base 5 "are_rows" ["value"] sp_are_rows:=by
  refine fn_can T.f_are_rows sc_are_rows (fun vs H Q E h=>?_) (fun f cdv A outer s H vs Q E hr h=>?_)
  · obtain ⟨a,o,us,rows,rfl,_⟩:=h
    rfl
  · obtain ⟨a,o,us,rows,rfl,ha,ho,hp,hlen,k⟩:=h
    refine ⟨_,pss_one (ps_ret (pe_and (pe_can (is_list_from T) hr (pa3 (pv 0) pe_int (pe_gi T.c_MOST_ROWS)))
      (pe_one (pe_b (call_all_seq rfl) T.b_all boot_all (pa1 (pe_lc rfl (lcS sc_are_rows) (pi_seq (pv 0)) (fun _ _ _ _=>pts_nil) (fun _ _ _ _=>pe_can (is_row T) hr (pa1 (pv 0))))))))),?_⟩
    have hl:us.length=rows.length:=Paired.length hp
    refine ⟨_,rfl,a,_,_,_,rfl,ho.to ha,fun H1 s1=>⟨_,rfl,?_⟩⟩
    have ha1:=s1 _ _ ha
    refine iteB (fun h=>?_) (fun h=>?_)
    · have h':lenB 0 4 rows.length=true:=by unfold lenB; rw [hl] at h; exact h
      refine ⟨_,rfl,a,o,_,rfl,ha1,ho,fun J hJ D hD=>?_⟩
      refine lc_it hJ (fun i ys H2=>ys=((rows.take i).map rowB).map V.bl∧Same H1 H2∧H2 D=some (.lst ys)) ⟨rfl,Same.upd hD,upd_same⟩ (fun i ys H2 ⟨_,s2,d⟩=>⟨d,s2 _ _ ha1⟩) (fun ys H2 ⟨e,s2,d⟩=>?_) (fun i x ys H2 hi hx ⟨e,s2,d⟩=>?_)
      · rw [hl,List.take_length] at e
        subst e
        refine ⟨D,rows.map rowB,rfl,.of d,?_⟩
        rw [all_mapS]
        have k2:=k _ (s1.trans s2)
        unfold rowsB at k2
        rw [h',Bool.true_and] at k2
        exact k2
      · obtain ⟨st,hn,hst⟩:=Paired.get hp hx
        refine yesI ⟨_,rfl,_,st,rfl,(hst.same s1).same s2,fun H3 s3=>LcNx.mk hi (by omega) (by rw [e,List.length_map,List.length_map,List.length_take]; omega) (s3 _ _ d) ⟨?_,?_,upd_same⟩⟩
        · rw [e,← take_map_snoc rowB hn,List.map_append]
          rfl
        · exact fun b o z=>by rw [upd_ne (ne_of_none z hD)]; exact s3 b o (s2 b o z)
    · have h':lenB 0 4 rows.length=false:=by unfold lenB; rw [hl] at h; exact h
      have k2:=k _ s1
      unfold rowsB at k2
      rw [h',Bool.false_and] at k2
      exact k2
inductive sp_bar_lengths (vs:List V) (H:Hp) (Q:VK) (E:XK):Prop
  | mk (a:Addr) (o:HO) (ps:List Int) (h0_:vs=[.ref a]) (h1_:H a=some o) (h2_:Ob o (ps.map V.int)) (h3_:Lad.PartsOk ps) (h4_:ps.length≤1000) (h5_:∀ l H',Same H H'→H l=none→H' l=some (.lst ((Lad.bars ps).map V.int))→Q (.ref l) H'):sp_bar_lengths vs H Q E
theorem sc_bar_lengths:FnScope ["parts","lengths","part"] ["parts"] (defScope s_bar_lengths):=⟨rfl,rfl,rfl,by decide +kernel,rfl,by decide +kernel,by decide +kernel⟩
theorem addPart_len (acc:List Int) (p:Int):(Lad.addPart acc p).length≤acc.length + 1:=by
  unfold Lad.addPart
  split
  · simp
  · rw [List.length_append,List.length_dropLast,List.length_singleton]; omega
theorem foldl_len:∀ (ps acc:List Int),(ps.foldl Lad.addPart acc).length≤acc.length + ps.length
  | [],acc=>by simp
  | p::r,acc=>by
    rw [List.foldl_cons,List.length_cons]
    have h1:=foldl_len r (Lad.addPart acc p)
    have h2:=addPart_len acc p
    omega
theorem foldl_ne:∀ (ps acc:List Int),acc≠[]→ps.foldl Lad.addPart acc≠[]
  | [],acc,h=>h
  | p::r,acc,h=>by
    rw [List.foldl_cons]
    refine foldl_ne r _ ?_
    unfold Lad.addPart
    split <;> simp
theorem bar_lengths (T:Txt K mg C):Can P w K mg base 1 "bar_lengths" ["parts"] sp_bar_lengths:=by
  refine fn_can T.f_bar_lengths sc_bar_lengths (fun vs H Q E h=>?_) (fun f cdv A outer s H vs Q E hr h=>?_)
  · obtain ⟨a,o,ps,rfl,_⟩:=h
    rfl
  · obtain ⟨a,o,ps,rfl,ha,ho,hok,hlen,k⟩:=h
    refine ⟨_,pss_cons (ps_set (i:=1) sc_bar_lengths.nd rfl (Or.inl rfl) (pe_lst pa_nil))
      (pss_cons (ps_for PassesOwn.never rfl (pi_seq (pv 0)) (pg_name (i:=2) sc_bar_lengths.nd rfl (Or.inl rfl))
        (pss_one (ps_if (pt_cmpR op_gt (pv 2) pe_int (nomark _))
          (pss_one (ps_expr (pe_bm PySem.F.plainAttrs_list PySem.F.slot_list_append PySem.F.type_list_append mt_append (pv 1) (pa1 (pv 2)))))
          (pss_one (ps_augS (pv 1) (pe_un un_neg pe_int) pget_list (pv 2) ip_sub set_list)))))
      (pss_one (ps_ret (pv 1)))),?_⟩
    refine ⟨Nat.zero_le _,fun l hl=>?_⟩
    have s1:∀ o,Same H (upd H l o):=fun o=>Same.upd hl
    refine ⟨_,rfl,a,o,_,rfl,s1 _ _ _ ha,ho,fun J hJ=>for_it hJ (fun i σ H2=>∃ v,σ=[some (.ref a),some (.ref l),v]∧Same H H2∧H2 l=some (.lst (((ps.take i).foldl Lad.addPart []).map V.int)))
      ⟨none,rfl,s1 _,upd_same⟩ (fun i σ H2 _ ⟨_,_,s2,_⟩=>s2 _ _ ha) ?_ ?_⟩
    · rintro i x σ H2 hx ⟨v,rfl,s2,d⟩
      obtain ⟨n,hn,rfl⟩:=int_of_map hx
      have hi:i < ps.length:=(List.getElem?_eq_some_iff.mp hn).1
      have hfl:=foldl_len (ps.take i) []
      rw [List.length_take,List.length_nil] at hfl
      have e1:(ps.take (i + 1)).foldl Lad.addPart []=Lad.addPart ((ps.take i).foldl Lad.addPart []) n:=by
        rw [List.take_add_one,hn,List.foldl_append]
        rfl
      refine ⟨_,rfl,_,_,rfl,rfl,_,rfl,?_⟩
      refine ite2 (fun hc=>?_) (fun hc=>?_)
      · have hc:0 < n:=of_decide_eq_true hc
        refine ⟨_,rfl,.inl ⟨rfl,_,.of d⟩,_,rfl,l,_,_,rfl,rfl,d,small1000 (by rw [List.length_map]; omega),_,rfl,?_,?_⟩
        · exact fun b o z=>by rw [upd_ne (ne_of_none z hl)]; exact s2 b o z
        · rw [upd_same,e1]
          unfold Lad.addPart
          rw [if_pos hc,List.map_append]
          rfl
      · have hc:¬ 0 < n:=fun z=>hc (decide_eq_true z)
        have hi0:i≠0:=by
          rintro rfl
          obtain ⟨_,p,r,rfl,hp⟩:=hok
          have:n=p:=by simpa using hn.symm
          omega
        have hne:(ps.take i).foldl Lad.addPart []≠[]:=by
          obtain ⟨hz,p,r,rfl,hp⟩:=hok
          obtain ⟨j,rfl⟩:∃ j,i=j + 1:=⟨i - 1,by omega⟩
          rw [List.take_succ_cons,List.foldl_cons]
          refine foldl_ne _ _ ?_
          unfold Lad.addPart
          rw [if_pos hp]
          simp
        generalize hL:(ps.take i).foldl Lad.addPart []=L at *
        obtain ⟨L0,z,rfl⟩:∃ L0 z,L=L0++[z]:=⟨L.dropLast,L.getLast hne,(List.dropLast_concat_getLast hne).symm⟩
        have ez:(L0++[z]).map V.int=L0.map V.int++[V.int z]:=by rw [List.map_append]; rfl
        rw [ez] at d
        have eix:ixN (L0.map V.int++[V.int z]).length (-1)=some L0.length:=by
          unfold ixN
          rw [if_neg (by omega),List.length_append,List.length_map,List.length_singleton,if_pos (by omega)]
          congr 1
          omega
        refine ⟨_,rfl,_,rfl,l,_,_,_,rfl,rfl,.of d,atI_last _ _,_,rfl,_,_,rfl,rfl,l,_,_,_,rfl,rfl,d,eix,_,rfl,?_,?_⟩
        · exact fun b o q=>by rw [upd_ne (ne_of_none q hl)]; exact s2 b o q
        · rw [upd_same,e1]
          unfold Lad.addPart
          rw [if_neg hc]
          congr 2
          rw [List.map_append,List.dropLast_concat,List.getLastD_concat,List.set_append_right _ _ (by rw [List.length_map]; exact Nat.le_refl _),List.length_map,Nat.sub_self]
          rfl
    · rintro σ H2 ⟨v,rfl,s2,d⟩
      rw [List.length_map,List.take_length,Lad.foldl_bars hok] at d
      exact ⟨_,rfl,k l H2 s2 hl d⟩
end
end Pr
namespace Pr
open PySem L2 PyProof.Rows
def flds (a o c:Addr):List (Str × V):=putF "steps" (.ref c) (putF "open_lengths" (.ref o) (putF "part_lengths" (.ref a) []))
theorem flds_steps (a o c:Addr):(flds a o c).lookup ("steps" : Str)=some (.ref c):=by
  unfold flds; rw [lookup_putF,if_pos rfl]
theorem flds_no (a o c:Addr) {m:Str} (h1:¬ m="steps") (h2:¬ m="open_lengths") (h3:¬ m="part_lengths"):(flds a o c).lookup m=none:=by
  unfold flds
  rw [lookup_putF,if_neg h1,lookup_putF,if_neg h2,lookup_putF,if_neg h3]
  rfl
inductive StepAt (H:Hp) (v:V) (s:Lad.Step):Prop
  | mk (r:Addr) (l:Addr) (h0_:v=.ref r) (h1_:H r=some (.tup [.int s.1,.ref l])) (h2_:H l=some (.tup (s.2.map V.int))):StepAt H v s
theorem StepAt.same {H H':Hp} (e:Same H H') {v:V} {s:Lad.Step} (h:StepAt H v s):StepAt H' v s:=by
  obtain ⟨r,l,e1,h1,h2⟩:=h
  exact ⟨r,l,e1,e _ _ h1,e _ _ h2⟩
theorem RowG.but {p:Addr} {H H':Hp} (e:But p H H') {C dx:Addr} {fs:List (Str × V)} (hp:H p=some (.ins C dx fs)) {v:V} {s:Lad.Step} (h:RowG H v s):RowG H' v s:=by
  obtain ⟨r,l,o1,o2,e1,h1,h2,h3,h4,h5⟩:=h
  exact ⟨r,l,o1,o2,e1,e _ _ h1 (h2.ne h1 hp),h2,e _ _ h3 (h4.ne h3 hp),h4,h5⟩
theorem StepAt.but {p:Addr} {H H':Hp} (e:But p H H') {C dx:Addr} {fs:List (Str × V)} (hp:H p=some (.ins C dx fs)) {v:V} {s:Lad.Step} (h:StepAt H v s):StepAt H' v s:=by
  obtain ⟨r,l,e1,h1,h2⟩:=h
  exact ⟨r,l,e1,e _ _ h1 (ne_of h1 hp (by intro z; cases z)),e _ _ h2 (ne_of h2 hp (by intro z; cases z))⟩
inductive LadAt (C:Addr) (H:Hp) (p:Addr) (b:Int) (ps:List Int) (rows:List Lad.Step):Prop
  | mk (dx:Addr) (a:Addr) (o:Addr) (c:Addr) (us:List V) (h0_:H p=some (.ins C dx (flds a o c))) (h1_:H a=some (.tup (ps.map V.int))) (h2_:H o=some (.tup ((Lad.opens ps).map V.int))) (h3_:H c=some (.tup us)) (h4_:Paired (StepAt H) us ((b,Lad.bars ps)::rows)):LadAt C H p b ps rows
theorem LadAt.same {C:Addr} {H H':Hp} {p:Addr} {b:Int} {ps:List Int} {rows:List Lad.Step} (h:LadAt C H p b ps rows) (e:Same H H'):LadAt C H' p b ps rows:=by
  obtain ⟨dx,a,o,c,us,h1,h2,h3,h4,h5⟩:=h
  exact ⟨dx,a,o,c,us,e _ _ h1,e _ _ h2,e _ _ h3,e _ _ h4,Paired.mono (fun _ _ x=>x.same e) h5⟩
structure LadOk (b:Int) (ps:List Int) (rows:List Lad.Step):Prop where
  b:wideB b=true
  p:partsB ps=true
  r:rowsB rows=true
theorem partsB_ok {ps:List Int} (h:partsB ps=true):Lad.PartsOk ps∧ps.length≤12∧∀ p ∈ ps,-1000000000≤p∧p≤1000000000:=by
  unfold partsB lenB at h
  simp only [Bool.and_eq_true,decide_eq_true_eq,List.all_eq_true] at h
  obtain ⟨⟨h1,h2⟩,h3,h4⟩:=h
  have hp:∀ p ∈ ps,(-1000000000≤p∧p≤1000000000)∧p≠0:=fun p hp=>by
    have:=h3 p hp
    unfold partB at this
    simpa using this
  refine ⟨⟨fun p hq=>(hp p hq).2,?_⟩,by omega,fun p hq=>(hp p hq).1⟩
  unfold headB at h4
  cases ps with
  | nil=>simp at h1
  | cons p r=>exact ⟨p,r,rfl,by simpa using h4⟩
theorem sizesB_ok {S:List Int} (h:sizesB S=true):Lad.Good S∧S.length≤12∧∀ v ∈ S,v≤1000:=by
  unfold sizesB lenB at h
  simp only [Bool.and_eq_true,decide_eq_true_eq,List.all_eq_true] at h
  obtain ⟨⟨h1,h2⟩,h3⟩:=h
  have hp:∀ p ∈ S,1≤p∧p≤1000:=fun p hp=>by
    have:=h3 p hp
    unfold sizeB at this
    simpa using this
  refine ⟨⟨fun e=>?_,fun v hv=>(hp v hv).1⟩,by omega,fun v hv=>(hp v hv).2⟩
  rw [e] at h1
  simp at h1
theorem wideB_ok {i:Int} (h:wideB i=true) : -W30 < i∧i < W30:=by
  unfold wideB at h
  simpa using h
theorem rowsB_ok {rows:List Lad.Step} (h:rowsB rows=true):rows.length≤4∧∀ s ∈ rows,rowB s=true:=by
  unfold rowsB lenB at h
  simp only [Bool.and_eq_true,decide_eq_true_eq,List.all_eq_true] at h
  exact ⟨by omega,h.2⟩
theorem sum_le:∀ {S:List Int} {B:Int},(∀ v ∈ S,v≤B)→S.sum≤B * (S.length:Int)
  | [],B,_=>by simp
  | v::r,B,h=>by
    have h1:=sum_le (S:=r) (B:=B) fun x hx=>h x (List.mem_cons_of_mem _ hx)
    have h2:=h v List.mem_cons_self
    rw [List.sum_cons,List.length_cons,Int.natCast_add,Int.mul_add]
    omega
theorem szOk_sizes {S:List Int} (h:sizesB S=true):SzOk S:=by
  obtain ⟨g,n,v⟩:=sizesB_ok h
  refine ⟨g,by omega,?_⟩
  have:=sum_le v
  omega
theorem total_le {ps:List Int} (h:∀ p ∈ ps,-1000000000≤p∧p≤1000000000):Lad.total ps≤1000000000 * (ps.length:Int):=by
  have:∀ v ∈ ps.map Lad.absI,v≤1000000000:=fun v hv=>by
    obtain ⟨p,hp,rfl⟩:=List.mem_map.mp hv
    have:=h p hp
    unfold Lad.absI
    split <;> omega
  have:=sum_le this
  rw [List.length_map] at this
  exact this
theorem opens_len (ps:List Int):(Lad.opens ps).length≤ps.length:=List.length_filter_le _ _
theorem szOk_bars {ps:List Int} (h:partsB ps=true):SzOk (Lad.bars ps):=by
  obtain ⟨ok,n,v⟩:=partsB_ok h
  have h1:=total_le v
  have h2:=opens_len ps
  refine ⟨Lad.bars_good ok,?_,?_⟩
  · rw [Lad.bars_len ok]; omega
  · rw [Lad.bars_sum ok]; omega
theorem LadOk.steps {b:Int} {ps:List Int} {rows:List Lad.Step} (h:LadOk b ps rows):∀ s ∈ (b,Lad.bars ps)::rows,SzOk s.2∧-W30 < s.1∧s.1 < W30:=fun s hs=>by
  rcases List.mem_cons.mp hs with e | hs
  · rw [e]
    exact ⟨szOk_bars h.p,wideB_ok h.b⟩
  · have:=(rowsB_ok h.r).2 s hs
    unfold rowB at this
    rw [Bool.and_eq_true] at this
    exact ⟨szOk_sizes this.2,wideB_ok this.1⟩
theorem But.same {p:Addr} {H H1 H2:Hp} (a:But p H H1) (b:Same H1 H2):But p H H2:=fun c o h n=>b c o (a c o h n)
theorem But.upd {p:Addr} {H:Hp} {o:HO}:But p H (upd H p o):=fun c u h n=>by rw [upd_ne n]; exact h
theorem filter_snoc {S:List Int} {i:Nat} {n:Int} (f:Int→Bool) (e:S[i]?=some n):(S.take (i + 1)).filter f=(S.take i).filter f++(if f n then [n] else []):=by
  rw [List.take_add_one,e,List.filter_append]
  cases h:f n <;> simp [h]
section
variable {P:Program} {w:World} {K:PySem.W.Frag} {mg:Str→Option Value} {base:Heap} {C:Addr}
inductive sp_init (C:Addr) (vs:List V) (H:Hp) (Q:VK) (E:XK):Prop
  | mk (p:Addr) (dx:Addr) (b:Int) (pa:Addr) (po:HO) (ps:List Int) (ra:Addr) (ro:HO) (us:List V) (rows:List Lad.Step) (h0_:vs=[.ref p,.int b,.ref pa,.ref ra]) (h1_:H p=some (.ins C dx [])) (h2_:H pa=some po) (h3_:Ob po (ps.map V.int)) (h4_:H ra=some ro) (h5_:Ob ro us) (h6_:Paired (RowG H) us rows) (h7_:LadOk b ps rows) (h8_:∀ H',But p H H'→LadAt C H' p b ps rows→Q .non H'):sp_init C vs H Q E
theorem sc_init:FnScope ["self","begin","parts","rows","lowest"] ["self","begin","parts","rows"] (defScope sm_init):=⟨rfl,rfl,rfl,by decide +kernel,rfl,by decide +kernel,by decide +kernel⟩
theorem init_ok (T:Txt K mg C) {f:Addr} {fd:FuncData} (F:Fun K "__init__" "Ladder.__init__" sm_init f fd):FnOk P w K mg base CX0 6 f fd ["self","begin","parts","rows"] (sp_init C):=by
  refine F.ok sc_init (fun vs H Q E h=>?_) (fun cdv A outer s H vs Q E hr h=>?_)
  · obtain ⟨p,dx,b,pa,po,ps,ra,ro,us,rows,rfl,_⟩:=h
    rfl
  · obtain ⟨p,dx,b,pa,po,ps,ra,ro,us,rows,rfl,hp,hpa,hpo,hra,hro,hrows,ok,k⟩:=h
    obtain ⟨pok,plen,_⟩:=partsB_ok ok.p
    obtain ⟨rlen,_⟩:=rowsB_ok ok.r
    have hul:us.length=rows.length:=Paired.length hrows
    refine ⟨_,pss_cons (ps_if (pt_not (pw_and (pt_val (pe_can (is_wide T) hr (pa1 (pv 1)))) (pw_and (pt_val (pe_can (are_parts T) hr (pa1 (pv 2)))) (pw_and1 (pt_val (pe_can (are_rows T) hr (pa1 (pv 3))))))).pt) pss_never pss_nil)
      (pss_cons (ps_fld (pv 0) (pe_t call_tup_ob T.b_tuple boot_tuple (pa1 (pv 2))) rfl)
      (pss_cons (ps_fld (pv 0) (pe_t call_tup_ob T.b_tuple boot_tuple (pa1 (pe_lc rfl (lcS sc_init) (pi_seq (pv 2)) (fun _ _ _ _=>pts_one (pt_cmpR op_gt (pv 0) pe_int (nomark _))) (fun _ _ _ _=>pv 0)))) rfl)
      (pss_cons (ps_set (i:=4) sc_init.nd rfl (Or.inl rfl) (pe_tup (pa2 (pv 1) (pe_t call_tup_ob T.b_tuple boot_tuple (pa1 (pe_can (bar_lengths T) hr (pa1 (pv 2))))))))
      (pss_one (ps_fld (pv 0) (pe_t call_tup_ob T.b_tuple boot_tuple (pa1 (pe_op op_cat (pe_lst (pa1 (pv 4)))
        (pe_lc rfl (lcS sc_init) (pi_seq (pv 3)) (fun _ _ _ _=>pts_nil) (fun _ _ _ _=>pe_tup (pa2 (pe_ix ix_ob (pv 0) pe_int (fun _ _=>rfl)) (pe_t call_tup_ob T.b_tuple boot_tuple (pa1 (pe_ix ix_ob (pv 0) pe_int (fun _ _=>rfl)))))))))) rfl))))),?_⟩
    have wb:(decide (-W30 < b) && decide (b < W30))=true:=ok.b
    refine ⟨_,rfl,b,rfl,_,rfl,?_⟩
    rw [wb]
    refine iteT ⟨_,rfl,pa,po,ps,rfl,hpa,hpo,by omega,fun H0 s0=>⟨_,rfl,?_⟩⟩
    rw [ok.p]
    refine iteT ⟨_,rfl,ra,ro,us,rows,rfl,s0 _ _ hra,hro,Paired.mono (fun _ _ x=>x.same s0) hrows,by omega,fun H1 s1'=>⟨_,rfl,?_⟩⟩
    rw [ok.r]
    refine iteF ?_
    have s1:Same H H1:=s0.trans s1'
    have hp1:=s1 _ _ hp
    have hpa1:=s1 _ _ hpa
    refine ⟨_,rfl,pa,po,_,rfl,hpa1,hpo,fun l1 H2 s2 hl1=>?_⟩
    have hp2:=s2 _ _ hp1
    have n1:p≠l1:=ne_of hp2 hl1 (by intro z; cases z)
    refine ⟨_,rfl,p,C,dx,_,rfl,hp2,T.cl,T.n_part_lengths,(by show 0 < 1000; decide),?_⟩
    generalize hH3:upd H2 p _=H3
    have b3:But p H1 H3:=by rw [← hH3]; exact s2.but.trans But.upd
    have hp3:H3 p=some (.ins C dx (putF "part_lengths" (.ref l1) [])):=by rw [← hH3]; exact upd_same
    have hl13:H3 l1=some (.tup (ps.map V.int)):=by rw [← hH3,upd_ne (Ne.symm n1)]; exact hl1
    have hpa3:H3 pa=some po:=b3 _ _ hpa1 (hpo.ne hpa1 hp1)
    clear hH3
    refine ⟨_,rfl,pa,po,_,rfl,hpa3,hpo,fun J hJ D hD=>?_⟩
    refine lc_it hJ (fun i ys H4=>ys=((ps.take i).filter fun q=>decide (0 < q)).map V.int∧Same H3 H4∧H4 D=some (.lst ys)) ⟨rfl,Same.upd hD,upd_same⟩ (fun i ys H4 ⟨_,s4,d⟩=>⟨d,s4 _ _ hpa3⟩) (fun ys H4 ⟨e,s4,d⟩=>?_) (fun i x ys H4 hi hx ⟨e,s4,d⟩=>?_)
    case refine_2 =>
      obtain ⟨n,hn,rfl⟩:=int_of_map hx
      rw [List.length_map] at hi
      refine ⟨_,rfl,_,_,rfl,rfl,_,rfl,?_⟩
      have e2:=filter_snoc (fun q=>decide (0 < q)) hn
      refine iteB (fun hc=>?_) (fun hc=>?_)
      · refine ⟨_,rfl,LcNx.mk (by rw [List.length_map]; exact hi) (by rw [List.length_map]; omega) (by rw [e,List.length_map]; exact Nat.le_trans (List.length_filter_le _ _) (by rw [List.length_take]; omega)) d ⟨?_,?_,upd_same⟩⟩
        · rw [e2,if_pos hc,e,List.map_append]
          rfl
        · exact fun b o z=>by rw [upd_ne (ne_of_none z hD)]; exact s4 b o z
      · refine LcNo.mk (by rw [List.length_map]; exact hi) ⟨?_,s4,d⟩
        rw [e2,if_neg (by rw [hc]; exact Bool.false_ne_true),e,List.append_nil]
    rw [List.length_map,List.take_length] at e
    subst e
    refine ⟨D,_,_,rfl,d,.inl rfl,fun l2 H4' s4' hl2=>?_⟩
    have hp4:=s4' _ _ (s4 _ _ hp3)
    have n2:p≠l2:=ne_of hp4 hl2 (by intro z; cases z)
    refine ⟨_,rfl,p,C,dx,_,rfl,hp4,T.cl,T.n_open_lengths,(by show 1 < 1000; decide),?_⟩
    generalize hH5:upd H4' p _=H5
    have b5:But p H4 H5:=by rw [← hH5]; exact s4'.but.trans But.upd
    have hp5:H5 p=some (.ins C dx (putF "open_lengths" (.ref l2) (putF "part_lengths" (.ref l1) []))):=by rw [← hH5]; exact upd_same
    have hl25:H5 l2=some (.tup ((Lad.opens ps).map V.int)):=by rw [← hH5,upd_ne (Ne.symm n2)]; exact hl2
    have hl15:H5 l1=some (.tup (ps.map V.int)):=b5 _ _ (s4 _ _ hl13) (Ne.symm n1)
    have hpa5:H5 pa=some po:=b5 _ _ (s4 _ _ hpa3) (hpo.ne hpa1 hp1)
    have b15:But p H1 H5:=(b3.trans s4.but).trans b5
    clear hH5
    refine ⟨_,rfl,_,rfl,pa,po,ps,rfl,hpa5,hpo,pok,by omega,fun l3 H6 s6 hl3 h6=>?_⟩
    refine ⟨l3,_,_,rfl,h6,.inl rfl,fun l4 H6' s6' hl4=>⟨two_line,fun l5 hl5=>?_⟩⟩
    generalize hH7:upd H6' l5 _=H7
    have s7:Same H6 H7:=by rw [← hH7]; exact s6'.trans (Same.upd hl5)
    have hl47:H7 l4=some (.tup ((Lad.bars ps).map V.int)):=by rw [← hH7]; exact Same.upd hl5 _ _ hl4
    have hl57:H7 l5=some (.tup [.int b,.ref l4]):=by rw [← hH7]; exact upd_same
    have s57:Same H5 H7:=s6.trans s7
    have b17:But p H1 H7:=But.same b15 s57
    have hra7:H7 ra=some ro:=b17 _ _ (s1 _ _ hra) (hro.ne hra hp)
    have hrows7:Paired (RowG H7) us rows:=Paired.mono (fun _ _ x=>RowG.but b17 hp1 (x.same s1)) hrows
    clear hH7
    refine ⟨_,rfl,Nat.succ_le_of_lt (small1000 (by decide)),fun l6 hl6=>?_⟩
    have s8:∀ o,Same H7 (upd H7 l6 o):=fun o=>Same.upd hl6
    generalize hH8:upd H7 l6 _=H8
    have s78:Same H7 H8:=by rw [← hH8]; exact s8 _
    have hl68:H8 l6=some (.lst [.ref l5]):=by rw [← hH8]; exact upd_same
    clear hH8
    have hra8:=s78 _ _ hra7
    refine ⟨_,rfl,ra,ro,_,rfl,hra8,hro,fun J2 hJ2 D2 hD2=>?_⟩
    refine lc_it hJ2 (fun i ys H9=>Paired (StepAt H9) ys (rows.take i)∧Same H8 H9∧H9 D2=some (.lst ys)) ⟨.nil,Same.upd hD2,upd_same⟩ (fun i ys H9 ⟨_,s9,d⟩=>⟨d,s9 _ _ hra8⟩) (fun ys H9 ⟨e,s9,d9⟩=>?_) (fun i x ys H9 hi hx ⟨e,s9,d9⟩=>?_)
    case refine_2 =>
      obtain ⟨st,hn,r,l,o1,o2,rfl,hr1,ho1,hl1',ho2,_⟩:=Paired.get hrows7 hx
      have hr9:=s9 _ _ (s78 _ _ hr1)
      have hl9:=s9 _ _ (s78 _ _ hl1')
      have hyl:ys.length=(rows.take i).length:=Paired.length e
      rw [List.length_take] at hyl
      refine yesI ⟨_,rfl,r,o1,_,_,_,rfl,rfl,hr9,ho1,rfl,_,rfl,r,o1,_,_,_,rfl,rfl,hr9,ho1,rfl,l,o2,_,rfl,hl9,ho2,fun m1 H10 t1 hm1=>⟨two_line,fun m2 hm2=>?_⟩⟩
      have t2:∀ o',Same H9 (upd H10 m2 o'):=fun o'=>t1.trans (Same.upd hm2)
      have d10:=t1 _ _ d9
      have nD1:D2≠m1:=ne_of d10 hm1 (by intro z; cases z)
      have nD2:D2≠m2:=ne_of_none d10 hm2
      refine LcNx.mk hi (by omega) (by omega) (t2 _ _ _ d9) ⟨?_,?_,upd_same⟩
      · have e3:rows.take (i + 1)=rows.take i++[st]:=by rw [List.take_add_one,hn]; rfl
        rw [e3]
        have up:∀ {v:V} {s':Lad.Step},StepAt H9 v s'→StepAt (upd (upd H10 m2 (.tup [.int st.1,.ref m1])) D2 (.lst (ys++[.ref m2]))) v s':=fun {v s'} ⟨r',l',e',q1,q2⟩ =>
          ⟨r',l',e',by rw [upd_ne (ne_of q1 d9 (by intro z; cases z))]; exact t2 _ _ _ q1,by rw [upd_ne (ne_of q2 d9 (by intro z; cases z))]; exact t2 _ _ _ q2⟩
        refine Paired.snoc (Paired.mono (fun _ _ x=>up x) e) ⟨m2,m1,rfl,?_,?_⟩
        · rw [upd_ne (Ne.symm nD2),upd_same]
        · rw [upd_ne (Ne.symm nD1)]; exact Same.upd hm2 _ _ hm1
      · exact fun b o z=>by rw [upd_ne (ne_of_none z hD2)]; exact t2 _ _ _ (s9 b o z)
    rw [hul,List.take_length] at e
    have hyl:ys.length=rows.length:=Paired.length e
    have hl69:=s9 _ _ hl68
    refine ⟨l6,D2,_,_,rfl,rfl,hl69,d9,Nat.le_of_lt (small1000 (by rw [List.length_singleton]; omega)),fun l7 hl7=>?_⟩
    refine ⟨l7,_,_,rfl,upd_same,.inl rfl,fun l8 H10 s10' hl8=>?_⟩
    have s10:Same H9 H10:=(Same.upd hl7).trans s10'
    have s59:Same H5 H9:=(s57.trans s78).trans s9
    have hp9:H9 p=some (.ins C dx (putF "open_lengths" (.ref l2) (putF "part_lengths" (.ref l1) []))):=s59 _ _ hp5
    have n8:p≠l8:=ne_of (s10 _ _ hp9) hl8 (by intro z; cases z)
    refine ⟨_,rfl,p,C,dx,_,rfl,s10 _ _ hp9,T.cl,T.n_steps,(by show 2 < 1000; decide),?_⟩
    generalize hH11:upd H10 p _=H11
    have b11:But p H9 H11:=by rw [← hH11]; exact s10.but.trans But.upd
    have hp11:H11 p=some (.ins C dx (flds l1 l2 l8)):=by rw [← hH11]; exact upd_same
    have hl811:H11 l8=some (.tup (.ref l5::ys)):=by rw [← hH11,upd_ne (Ne.symm n8)]; exact hl8
    have b511:∀ c o,H5 c=some o→c≠p→H11 c=some o:=fun c o h n=>b11 _ _ (s59 _ _ h) n
    have nl:∀ {c:Addr} {xs:List V},H9 c=some (.tup xs)→c≠p:=fun h=>ne_of h hp9 (by intro z; cases z)
    refine k H11 (fun c o h n=>b511 c o (b15 c o (s1 c o h) n) n) ⟨dx,l1,l2,l8,_,hp11,b511 _ _ hl15 (Ne.symm n1),b511 _ _ hl25 (Ne.symm n2),hl811,.cons ⟨l5,l4,rfl,?_,?_⟩ (Paired.mono (fun _ _ x=>StepAt.but b11 hp9 x) e)⟩
    · have z:=s9 _ _ (s78 _ _ hl57)
      exact b11 _ _ z (nl z)
    · have z:=s9 _ _ (s78 _ _ hl47)
      exact b11 _ _ z (nl z)
end
end Pr
namespace Pr
open PySem L2 PyProof.Rows
theorem take_whole {α:Type} {xs:List α} {k:Int} (h0:0≤k) (h:HT.sIx xs.length xs.length (some k)=xs.length):xs.take k.toNat=xs:=by
  obtain ⟨n,rfl⟩:∃ n:Nat,k=n:=⟨k.toNat,by omega⟩
  rw [HT.sIx_nat] at h
  rw [Int.toNat_natCast,List.take_of_length_le (by omega)]
theorem sl_tupN {X:Cx}:SlR X (fun x lo hi H Q=>∃ a us n,x=.ref a∧H a=some (.tup us)∧lo=none∧hi=some n∧0≤n∧∀ t H1,Same H H1→H1 t=some (.tup (us.take n.toNat))→Q (.ref t) H1):=by
  intro pins s σ H x v vl vu lo hi sl Q I rx hs pl pu h
  obtain ⟨a,us,n,rfl,ha,rfl,rfl,hn,k⟩:=h
  refine sl_tupA pins s σ H _ v vl vu none (some n) sl Q I rx hs pl pu ⟨a,us,rfl,.of ha,fun hw=>?_,fun t ht=>?_⟩
  · refine k a H (Same.refl _) ?_
    rw [take_whole hn hw.2]
    exact ha
  · refine k t _ (Same.upd ht) ?_
    rw [upd_same,cut_take _ hn]
section
variable {P:Program} {w:World} {K:PySem.W.Frag} {mg:Str→Option Value} {base:Heap} {C:Addr}
inductive sp_rolls (C:Addr) (vs:List V) (H:Hp) (Q:VK) (E:XK):Prop
  | mk (p:Addr) (b:Int) (ps:List Int) (rows:List Lad.Step) (h0_:vs=[.ref p]) (h1_:LadAt C H p b ps rows) (h2_:Q (.int ((rows.length + 1:Nat):Int)) H):sp_rolls C vs H Q E
theorem sc_rolls:FnScope ["self"] ["self"] (defScope sm_rolls):=⟨rfl,rfl,rfl,by decide +kernel,rfl,by decide +kernel,by decide +kernel⟩
theorem rolls (T:Txt K mg C):CanM P w K mg base C 1 "rolls" ["self"] (sp_rolls C):=by
  refine fm_can T.m_rolls sc_rolls (fun vs H Q E h=>?_) (fun f cdv A outer s H vs Q E hr h=>?_)
  · obtain ⟨p,b,ps,rows,rfl,_⟩:=h
    rfl
  · obtain ⟨p,b,ps,rows,rfl,⟨dx,a,o,c,us,h1,h2,h3,h4,h5⟩,k⟩:=h
    refine ⟨_,pss_one (ps_ret (pe_b call_len_seq T.b_len boot_len (pa1 (pe_fld (pv 0) rfl)))),?_⟩
    refine ⟨_,rfl,p,C,dx,_,_,rfl,h1,T.cl,T.n_steps,flds_steps _ _ _,c,us,rfl,.inr (.of h4),?_⟩
    have e:us.length=rows.length + 1:=Paired.length h5
    rw [e]
    exact k
def stepsTo (b:Int) (ps:List Int) (rows:List Lad.Step) (r:Int):List Lad.Step:=((b,Lad.bars ps)::rows).take (r + 1).toNat
inductive sp_first_moment (C:Addr) (vs:List V) (H:Hp) (Q:VK) (E:XK):Prop
  | mk (p:Addr) (r:Int) (n:Int) (b:Int) (ps:List Int) (rows:List Lad.Step) (h0_:vs=[.ref p,.int r,.int n]) (h1_:LadAt C H p b ps rows) (h2_:LadOk b ps rows) (h3_:0≤r) (h4_:r≤(rows.length:Int)) (h5_:∀ H',Same H H'→Q (.int (Lad.down (stepsTo b ps rows r) n)) H'):sp_first_moment C vs H Q E
theorem sc_first_moment:FnScope ["self","roll","number","place","begin","sizes"] ["self","roll","number"] (defScope sm_first_moment):=⟨rfl,rfl,rfl,by decide +kernel,rfl,by decide +kernel,by decide +kernel⟩
theorem down_drop (st:List Lad.Step) (n:Int) {i:Nat} {s:Lad.Step} (h:st[i]?=some s):Lad.down (st.drop i) n=Lad.fst s.1 s.2 (Lad.down (st.drop (i + 1)) n):=by
  have hi:i < st.length:=(List.getElem?_eq_some_iff.mp h).1
  rw [List.drop_eq_getElem_cons hi]
  have e:st[i]=s:=(List.getElem?_eq_some_iff.mp h).2
  rw [e]
  rfl
theorem first_moment (T:Txt K mg C):CanM P w K mg base C 2 "first_moment" ["self","roll","number"] (sp_first_moment C):=by
  refine fm_can T.m_first_moment sc_first_moment (fun vs H Q E h=>?_) (fun f cdv A outer s H vs Q E hr h=>?_)
  · obtain ⟨p,r,n,b,ps,rows,rfl,_⟩:=h
    rfl
  · obtain ⟨p,r,n,b,ps,rows,rfl,L,ok,r0,r1,k⟩:=h
    obtain ⟨dx,a,o,c,us,h1,h2,h3,h4,h5⟩:=id L
    refine ⟨_,pss_cons (ps_set (i:=3) sc_first_moment.nd rfl (Or.inl rfl) (pv 2))
      (pss_cons (ps_for PassesOwn.never rfl (pi_rev rfl T.b_reversed (pa1 (pe_slice sl_tupN (pe_fld (pv 0) rfl) po_none (po_some (pe_op op_add (pv 1) pe_int)))))
          (pg_tup rfl (pgs_cons (pg_name (i:=4) sc_first_moment.nd rfl (Or.inl rfl)) (pgs_cons (pg_name (i:=5) sc_first_moment.nd rfl (Or.inl rfl)) pgs_nil)))
          (pss_one (ps_set (i:=3) sc_first_moment.nd rfl (Or.inl rfl) (pe_can (first_of T) hr (pa3 (pv 4) (pv 5) (pv 3))))))
      (pss_one (ps_ret (pv 3)))),?_⟩
    refine ⟨_,rfl,?_⟩
    refine ⟨_,rfl,p,C,dx,_,_,rfl,h1,T.cl,T.n_steps,flds_steps _ _ _,_,rfl,_,_,rfl,rfl,_,rfl,c,us,_,rfl,h4,rfl,rfl,by omega,fun t H1 s1 ht=>?_⟩
    have hlt:(us.take (r + 1).toNat).length=(((b,Lad.bars ps)::rows).take (r + 1).toNat).length:=Paired.length (Paired.take _ h5)
    refine ⟨t,us.take (r + 1).toNat,rfl,.of ht,for_rev (K:=K) (a:=t) (xs:=us.take (r + 1).toNat) (fun i σ H2=>i≤(us.take (r + 1).toNat).length∧∃ x y,σ=[some (.ref p),some (.int r),some (.int n),some (.int (Lad.down ((((b,Lad.bars ps)::rows).take (r + 1).toNat).drop ((us.take (r + 1).toNat).length - i)) n)),x,y]∧Same H1 H2)
        ⟨Nat.zero_le _,none,none,by rw [Nat.sub_zero,hlt,List.drop_length]; rfl,Same.refl _⟩ (fun i σ H2 _ ⟨_,_,_,_,s2⟩=>.of (s2 _ _ ht)) ?_ ?_⟩
    · rintro i x σ H2 hi hx ⟨_,x0,y0,rfl,s2⟩
      obtain ⟨st,hst,r',l',rfl,hr',hl'⟩:=Paired.get (Paired.take (r + 1).toNat h5) hx
      have hr2:=s2 _ _ (s1 _ _ hr')
      have hl2:=s2 _ _ (s1 _ _ hl')
      have hmem:st ∈ (b,Lad.bars ps)::rows:=List.mem_of_mem_take (List.mem_of_getElem? hst)
      refine ⟨r',_,rfl,.of hr2,rfl,_,_,rfl,_,_,rfl,rfl,?_⟩
      refine ⟨_,rfl,_,rfl,_,rfl,_,l',st.2,_,rfl,hl2,(ok.steps st hmem).1,fun H3 s3=>?_⟩
      refine ⟨hi,some (.int st.1),some (.ref l'),?_,s2.trans s3⟩
      have e:=down_drop (((b,Lad.bars ps)::rows).take (r + 1).toNat) n hst
      have e2:(us.take (r + 1).toNat).length - 1 - i + 1=(us.take (r + 1).toNat).length - i:=by omega
      have e3:(us.take (r + 1).toNat).length - 1 - i=(us.take (r + 1).toNat).length - (i + 1):=by omega
      rw [e2,e3] at e
      rw [e]
      rfl
    · rintro σ H2 ⟨_,x0,y0,rfl,s2⟩
      refine ⟨_,rfl,?_⟩
      rw [Nat.sub_self,List.drop_zero]
      exact k H2 (s1.trans s2)
inductive sp_stretch (C:Addr) (vs:List V) (H:Hp) (Q:VK) (E:XK):Prop
  | mk (p:Addr) (r:Int) (n:Int) (b:Int) (ps:List Int) (rows:List Lad.Step) (h0_:vs=[.ref p,.int r,.int n]) (h1_:LadAt C H p b ps rows) (h2_:LadOk b ps rows) (h3_:0≤r) (h4_:r≤(rows.length:Int)) (h5_ : -W40 < n) (h6_:n < W40) (h7_:∀ t H',Same H H'→H' t=some (.tup [.int (Lad.down (stepsTo b ps rows r) n),.int (Lad.down (stepsTo b ps rows r) (n + 1))])→Q (.ref t) H'):sp_stretch C vs H Q E
theorem sc_stretch:FnScope ["self","roll","number"] ["self","roll","number"] (defScope sm_stretch):=⟨rfl,rfl,rfl,by decide +kernel,rfl,by decide +kernel,by decide +kernel⟩
theorem stretch (T:Txt K mg C):CanM P w K mg base C 4 "stretch" ["self","roll","number"] (sp_stretch C):=by
  refine fm_can T.m_stretch sc_stretch (fun vs H Q E h=>?_) (fun f cdv A outer s H vs Q E hr h=>?_)
  · obtain ⟨p,r,n,b,ps,rows,rfl,_⟩:=h
    rfl
  · obtain ⟨p,r,n,b,ps,rows,rfl,L,ok,r0,r1,n0,n1,k⟩:=h
    obtain ⟨dx,a,o,c,us,h1,h2,h3,h4,h5⟩:=id L
    refine ⟨_,pss_cons (ps_expr (pe_can (need_roll T) hr (pa3 (pv 1) pe_int (pe_op op_sub (pe_canM0 (pv 0) T.cl (rolls T) hr) pe_int))))
      (pss_cons (ps_expr (pe_can (need_number T) hr (pa1 (pv 2))))
      (pss_one (ps_ret (pe_tup (pa2 (pe_canM (pv 0) T.cl (first_moment T) hr (pa2 (pv 1) (pv 2))) (pe_canM (pv 0) T.cl (first_moment T) hr (pa2 (pv 1) (pe_op op_add (pv 2) pe_int)))))))),?_⟩
    have nof:(flds a o c).lookup ("first_moment" : Str)=none:=flds_no _ _ _ (by decide +kernel) (by decide +kernel) (by decide +kernel)
    refine ⟨_,rfl,_,rfl,p,dx,_,rfl,h1,flds_no _ _ _ (by decide +kernel) (by decide +kernel) (by decide +kernel),p,b,ps,rows,rfl,L,_,_,rfl,rfl,_,_,_,rfl,r0,by omega,?_⟩
    refine ⟨_,rfl,n,rfl,n0,n1,?_⟩
    refine ⟨_,rfl,p,dx,_,rfl,h1,nof,_,rfl,_,rfl,p,r,n,b,ps,rows,rfl,L,ok,r0,r1,fun H1 s1=>?_⟩
    refine ⟨_,rfl,p,dx,_,rfl,s1 _ _ h1,nof,_,rfl,_,rfl,_,_,rfl,rfl,p,r,n + 1,b,ps,rows,rfl,L.same s1,ok,r0,r1,fun H2 s2=>?_⟩
    exact ⟨two_line,fun t ht=>k t _ ((s1.trans s2).trans (Same.upd ht)) upd_same⟩
end
end Pr
namespace Pr
open PySem L2 PyProof.Rows
section
variable {P:Program} {w:World} {K:PySem.W.Frag} {mg:Str→Option Value} {base:Heap} {C:Addr}
def sp_need_moment:Sp:=fun vs H Q _=>∃ i,vs=[.int i]∧-W30 < i∧i < W30∧Q .non H
theorem sc_need_moment:FnScope ["value"] ["value"] (defScope s_need_moment):=⟨rfl,rfl,rfl,by decide +kernel,rfl,by decide +kernel,by decide +kernel⟩
theorem need_moment (T:Txt K mg C):Can P w K mg base 3 "need_moment" ["value"] sp_need_moment:=by
  refine fn_can T.f_need_moment sc_need_moment (fun vs H Q E h=>?_) (fun f cdv A outer s H vs Q E hr h=>?_)
  · obtain ⟨i,rfl,_⟩:=h
    rfl
  · obtain ⟨i,rfl,h1,h2,k⟩:=h
    refine ⟨_,pss_one (ps_if (pt_not (pt_val (pe_can (is_wide T) hr (pa1 (pv 0))))) pss_never pss_nil),?_⟩
    refine ⟨_,rfl,i,rfl,_,rfl,?_⟩
    rw [decide_eq_true h1,decide_eq_true h2]
    exact iteF k
end
end Pr
namespace Pr
open PySem L2 PyProof.Rows
theorem up_snoc (st:List Lad.Step) (s:Lad.Step) (m:Int):Lad.up (st++[s]) m=Lad.num s.1 s.2 (Lad.up st m):=by
  unfold Lad.up
  rw [List.foldl_append]
  rfl
section
variable {P:Program} {w:World} {K:PySem.W.Frag} {mg:Str→Option Value} {base:Heap} {C:Addr}
def sp_bar_at (C:Addr):Sp:=fun vs H Q _=>∃ p r m b ps rows,vs=[.ref p,.int r,.int m]∧LadAt C H p b ps rows∧LadOk b ps rows∧0≤r∧r≤(rows.length:Int)∧-W30 < m∧m < W30∧∀ H',Same H H'→Q (.int (Lad.up (stepsTo b ps rows r) m)) H'
theorem sc_bar_at:FnScope ["self","roll","moment","number","begin","sizes"] ["self","roll","moment"] (defScope sm_bar_at):=⟨rfl,rfl,rfl,by decide +kernel,rfl,by decide +kernel,by decide +kernel⟩
theorem bar_at (T:Txt K mg C):CanM P w K mg base C 4 "bar_at" ["self","roll","moment"] (sp_bar_at C):=by
  refine fm_can T.m_bar_at sc_bar_at (fun vs H Q E h=>?_) (fun f cdv A outer s H vs Q E hr h=>?_)
  · obtain ⟨p,r,m,b,ps,rows,rfl,_⟩:=h
    rfl
  · obtain ⟨p,r,m,b,ps,rows,rfl,L,ok,r0,r1,m0,m1,k⟩:=h
    obtain ⟨dx,a,o,c,us,h1,h2,h3,h4,h5⟩:=id L
    refine ⟨_,pss_cons (ps_expr (pe_can (need_roll T) hr (pa3 (pv 1) pe_int (pe_op op_sub (pe_canM0 (pv 0) T.cl (rolls T) hr) pe_int))))
      (pss_cons (ps_expr (pe_can (need_moment T) hr (pa1 (pv 2))))
      (pss_cons (ps_set (i:=3) sc_bar_at.nd rfl (Or.inl rfl) (pv 2))
      (pss_cons (ps_for PassesOwn.never rfl (pi_tup (pe_slice sl_tupN (pe_fld (pv 0) rfl) po_none (po_some (pe_op op_add (pv 1) pe_int))))
          (pg_tup rfl (pgs_cons (pg_name (i:=4) sc_bar_at.nd rfl (Or.inl rfl)) (pgs_cons (pg_name (i:=5) sc_bar_at.nd rfl (Or.inl rfl)) pgs_nil)))
          (pss_one (ps_set (i:=3) sc_bar_at.nd rfl (Or.inl rfl) (pe_can (number_of T) hr (pa3 (pv 4) (pv 5) (pv 3))))))
      (pss_one (ps_ret (pv 3)))))),?_⟩
    refine ⟨_,rfl,_,rfl,p,dx,_,rfl,h1,flds_no _ _ _ (by decide +kernel) (by decide +kernel) (by decide +kernel),p,b,ps,rows,rfl,L,_,_,rfl,rfl,_,_,_,rfl,r0,by omega,?_⟩
    refine ⟨_,rfl,m,rfl,m0,m1,_,rfl,?_⟩
    refine ⟨_,rfl,p,C,dx,_,_,rfl,h1,T.cl,T.n_steps,flds_steps _ _ _,_,rfl,_,_,rfl,rfl,_,rfl,c,us,_,rfl,h4,rfl,rfl,by omega,fun t H1 s1 ht=>?_⟩
    refine ⟨t,rfl,⟨_,.of ht⟩,for_tup (K:=K) (a:=t) (xs:=us.take (r + 1).toNat) (fun i σ H2=>∃ x y,σ=[some (.ref p),some (.int r),some (.int m),some (.int (Lad.up ((((b,Lad.bars ps)::rows).take (r + 1).toNat).take i) m)),x,y]∧Same H1 H2)
        ⟨none,none,rfl,Same.refl _⟩ (fun i σ H2 _ ⟨_,_,_,s2⟩=>.of (s2 _ _ ht)) ?_ ?_⟩
    · rintro i x σ H2 hx ⟨x0,y0,rfl,s2⟩
      obtain ⟨st,hst,r',l',rfl,hr',hl'⟩:=Paired.get (Paired.take (r + 1).toNat h5) hx
      have hr2:=s2 _ _ (s1 _ _ hr')
      have hl2:=s2 _ _ (s1 _ _ hl')
      have hmem:st ∈ (b,Lad.bars ps)::rows:=List.mem_of_mem_take (List.mem_of_getElem? hst)
      refine ⟨r',_,rfl,.of hr2,rfl,_,_,rfl,_,_,rfl,rfl,?_⟩
      refine ⟨_,rfl,_,rfl,_,rfl,_,l',st.2,_,rfl,hl2,(ok.steps st hmem).1,fun H3 s3=>?_⟩
      refine ⟨some (.int st.1),some (.ref l'),?_,s2.trans s3⟩
      have e:(((b,Lad.bars ps)::rows).take (r + 1).toNat).take (i + 1)=(((b,Lad.bars ps)::rows).take (r + 1).toNat).take i++[st]:=by rw [List.take_add_one,hst]; rfl
      rw [e,up_snoc]
      rfl
    · rintro σ H2 ⟨x0,y0,rfl,s2⟩
      refine ⟨_,rfl,?_⟩
      have hl:(us.take (r + 1).toNat).length=(((b,Lad.bars ps)::rows).take (r + 1).toNat).length:=Paired.length (Paired.take _ h5)
      rw [hl,List.take_length]
      exact k H2 (s1.trans s2)
end
end Pr
namespace Pr
open PySem L2 PyProof.Rows
section
variable {P:Program} {w:World} {K:PySem.W.Frag} {mg:Str→Option Value} {base:Heap} {C:Addr}
inductive sp_lesser (C:Addr) (vs:List V) (H:Hp) (Q:VK) (E:XK):Prop
  | mk (p:Addr) (r:Int) (k:Nat) (n:Int) (b:Int) (ps:List Int) (rows:List Lad.Step) (st:Lad.Step) (h0_:vs=[.ref p,.int r,.int n]) (h1_:r=((k + 1:Nat):Int)) (h2_:LadAt C H p b ps rows) (h3_:LadOk b ps rows) (h4_:rows[k]?=some st) (h5_ : -W40 < n) (h6_:n < W40) (h7_:∀ t H',Same H H'→H' t=some (.tup [.int (Lad.fst st.1 st.2 n),.int (Lad.sz st.2 n)])→Q (.ref t) H'):sp_lesser C vs H Q E
theorem sc_lesser:FnScope ["self","roll","number","begin","sizes"] ["self","roll","number"] (defScope sm_lesser):=⟨rfl,rfl,rfl,by decide +kernel,rfl,by decide +kernel,by decide +kernel⟩
theorem lesser (T:Txt K mg C):CanM P w K mg base C 4 "lesser" ["self","roll","number"] (sp_lesser C):=by
  refine fm_can T.m_lesser sc_lesser (fun vs H Q E h=>?_) (fun f cdv A outer s H vs Q E hr h=>?_)
  · obtain ⟨p,r,k,n,b,ps,rows,st,rfl,_⟩:=h
    rfl
  · obtain ⟨p,r,k,n,b,ps,rows,st,rfl,rfl,L,ok,hst,n0,n1,q⟩:=h
    obtain ⟨dx,a,o,c,us,h1,h2,h3,h4,h5⟩:=id L
    have hk:k < rows.length:=(List.getElem?_eq_some_iff.mp hst).1
    refine ⟨_,pss_cons (ps_expr (pe_can (need_roll T) hr (pa3 (pv 1) pe_int (pe_op op_sub (pe_canM0 (pv 0) T.cl (rolls T) hr) pe_int))))
      (pss_cons (ps_expr (pe_can (need_number T) hr (pa1 (pv 2))))
      (pss_cons (ps_asg (pe_ix ix_tup (pe_fld (pv 0) rfl) (pv 1) (fun _ _=>rfl)) (pg_tup rfl (pgs_cons (pg_name (i:=3) sc_lesser.nd rfl (Or.inl rfl)) (pgs_cons (pg_name (i:=4) sc_lesser.nd rfl (Or.inl rfl)) pgs_nil))))
      (pss_one (ps_ret (pe_tup (pa2 (pe_can (first_of T) hr (pa3 (pv 3) (pv 4) (pv 2))) (pe_can (size_of T) hr (pa2 (pv 4) (pv 2))))))))),?_⟩
    have hul:us.length=rows.length + 1:=Paired.length h5
    have hx:us[k + 1]?=some (us[k + 1]'(by omega)):=List.getElem?_eq_getElem (by omega)
    obtain ⟨st',hst',r',l',er,hr',hl'⟩:=Paired.get h5 hx
    rw [List.getElem?_cons_succ,hst] at hst'
    obtain rfl:=Option.some.inj hst'
    rw [er] at hx
    have hmem:st ∈ (b,Lad.bars ps)::rows:=List.mem_cons_of_mem _ (List.mem_of_getElem? hst)
    have sz:=(ok.steps st hmem).1
    refine ⟨_,rfl,_,rfl,p,dx,_,rfl,h1,flds_no _ _ _ (by decide +kernel) (by decide +kernel) (by decide +kernel),p,b,ps,rows,rfl,L,_,_,rfl,rfl,_,_,_,rfl,by omega,by omega,?_⟩
    refine ⟨_,rfl,n,rfl,n0,n1,?_⟩
    refine ⟨_,rfl,p,C,dx,_,_,rfl,h1,T.cl,T.n_steps,flds_steps _ _ _,_,rfl,c,us,_,_,rfl,rfl,.of h4,atI_nat hx,r',_,rfl,.of hr',rfl,_,_,rfl,_,_,rfl,rfl,?_⟩
    refine ⟨_,rfl,_,rfl,_,rfl,_,l',st.2,_,rfl,hl',sz,fun H1 s1=>?_⟩
    refine ⟨_,rfl,_,rfl,l',st.2,_,rfl,s1 _ _ hl',sz.g.len,two_line,fun t ht=>?_⟩
    exact q t _ (s1.trans (Same.upd ht)) upd_same
inductive sp_greater (C:Addr) (vs:List V) (H:Hp) (Q:VK) (E:XK):Prop
  | mk (p:Addr) (r:Int) (k:Nat) (n:Int) (b:Int) (ps:List Int) (rows:List Lad.Step) (st:Lad.Step) (h0_:vs=[.ref p,.int r,.int n]) (h1_:r=(k:Int)) (h2_:LadAt C H p b ps rows) (h3_:LadOk b ps rows) (h4_:rows[k]?=some st) (h5_ : -W40 < n) (h6_:n < W40) (h7_:∀ H',Same H H'→Q (.int (Lad.num st.1 st.2 n)) H'):sp_greater C vs H Q E
theorem sc_greater:FnScope ["self","roll","number","begin","sizes"] ["self","roll","number"] (defScope sm_greater):=⟨rfl,rfl,rfl,by decide +kernel,rfl,by decide +kernel,by decide +kernel⟩
theorem greater (T:Txt K mg C):CanM P w K mg base C 4 "greater" ["self","roll","number"] (sp_greater C):=by
  refine fm_can T.m_greater sc_greater (fun vs H Q E h=>?_) (fun f cdv A outer s H vs Q E hr h=>?_)
  · obtain ⟨p,r,k,n,b,ps,rows,st,rfl,_⟩:=h
    rfl
  · obtain ⟨p,r,k,n,b,ps,rows,st,rfl,rfl,L,ok,hst,n0,n1,q⟩:=h
    obtain ⟨dx,a,o,c,us,h1,h2,h3,h4,h5⟩:=id L
    have hk:k < rows.length:=(List.getElem?_eq_some_iff.mp hst).1
    refine ⟨_,pss_cons (ps_expr (pe_can (need_roll T) hr (pa3 (pv 1) pe_int (pe_op op_sub (pe_canM0 (pv 0) T.cl (rolls T) hr) pe_int))))
      (pss_cons (ps_expr (pe_can (need_number T) hr (pa1 (pv 2))))
      (pss_cons (ps_asg (pe_ix ix_tup (pe_fld (pv 0) rfl) (pe_op op_add (pv 1) pe_int) (fun _ _=>rfl)) (pg_tup rfl (pgs_cons (pg_name (i:=3) sc_greater.nd rfl (Or.inl rfl)) (pgs_cons (pg_name (i:=4) sc_greater.nd rfl (Or.inl rfl)) pgs_nil))))
      (pss_one (ps_ret (pe_can (number_of T) hr (pa3 (pv 3) (pv 4) (pv 2))))))),?_⟩
    have hul:us.length=rows.length + 1:=Paired.length h5
    have hx:us[k + 1]?=some (us[k + 1]'(by omega)):=List.getElem?_eq_getElem (by omega)
    obtain ⟨st',hst',r',l',er,hr',hl'⟩:=Paired.get h5 hx
    rw [List.getElem?_cons_succ,hst] at hst'
    obtain rfl:=Option.some.inj hst'
    rw [er] at hx
    have hat:atI us ((k:Int) + 1)=some (.ref r'):=atI_nat (j:=k + 1) hx
    have hmem:st ∈ (b,Lad.bars ps)::rows:=List.mem_cons_of_mem _ (List.mem_of_getElem? hst)
    have sz:=(ok.steps st hmem).1
    refine ⟨_,rfl,_,rfl,p,dx,_,rfl,h1,flds_no _ _ _ (by decide +kernel) (by decide +kernel) (by decide +kernel),p,b,ps,rows,rfl,L,_,_,rfl,rfl,_,_,_,rfl,by omega,by omega,?_⟩
    refine ⟨_,rfl,n,rfl,n0,n1,?_⟩
    refine ⟨_,rfl,p,C,dx,_,_,rfl,h1,T.cl,T.n_steps,flds_steps _ _ _,_,rfl,_,_,rfl,rfl,c,us,_,_,rfl,rfl,.of h4,hat,r',_,rfl,.of hr',rfl,_,_,rfl,_,_,rfl,rfl,?_⟩
    refine ⟨_,rfl,_,rfl,_,rfl,_,l',st.2,_,rfl,hl',sz,fun H1 s1=>q _ s1⟩
end
end Pr
namespace Pr
open PySem L2 PyProof.Rows
inductive RowL (H:Hp) (v:V) (s:Lad.Step):Prop
  | mk (r:Addr) (l:Addr) (h0_:v=.ref r) (h1_:H r=some (.tup [.int s.1,.ref l])) (h2_:H l=some (.lst (s.2.map V.int))) (h3_:s.2.length≤1000):RowL H v s
theorem RowL.same {H H':Hp} (e:Same H H') {v:V} {s:Lad.Step} (h:RowL H v s):RowL H' v s:=by
  obtain ⟨r,l,e1,h1,h2,h3⟩:=h
  exact ⟨r,l,e1,e _ _ h1,e _ _ h2,h3⟩
theorem RowL.g {H:Hp} {v:V} {s:Lad.Step} (h:RowL H v s):RowG H v s:=by
  obtain ⟨r,l,e1,h1,h2,h3⟩:=h
  exact ⟨r,l,_,_,e1,h1,.inr rfl,h2,.inl rfl,h3⟩
end Pr
namespace Pr
open PySem L2 PyProof.Rows
inductive PotAt (H:Hp) (p:Addr):Prop
  | mk (x:Int) (y:Int) (h0_:H p=some (.lst [.int x,.int y])):PotAt H p
theorem PotAt.ne {H:Hp} {p l:Addr} (h:PotAt H p) (hl:H l=none):l≠p:=by
  obtain ⟨x,y,h⟩:=h
  exact Ne.symm (ne_of_none h hl)
theorem PotAt.same {H H':Hp} {p:Addr} (h:PotAt H p) (s:Same H H'):PotAt H' p:=by
  obtain ⟨x,y,h⟩:=h
  exact ⟨x,y,s _ _ h⟩
theorem getD_all {S:List Int} {Pp:Int→Prop} (h:∀ v ∈ S,Pp v) {i:Nat} (hi:i < S.length):Pp (S.getD i 0):=by
  rw [List.getD_eq_getElem?_getD,List.getElem?_eq_getElem hi]
  exact h _ (List.getElem_mem hi)
theorem pa5 {X:Cx} {a b c d e:Expr} {ta tb tc td te:TE} (ha:PE X a ta) (hb:PE X b tb) (hc:PE X c tc) (hd:PE X d td) (he:PE X e te)
    (h1:starEach [a,b,c,d,e] X.env=(false,eval a X.env)::starEach [b,c,d,e] X.env:=by rfl) (h2:starEach [b,c,d,e] X.env=(false,eval b X.env)::starEach [c,d,e] X.env:=by rfl) (h3:starEach [c,d,e] X.env=(false,eval c X.env)::starEach [d,e] X.env:=by rfl) (h4:starEach [d,e] X.env=(false,eval d X.env)::starEach [e] X.env:=by rfl) (h5:starEach [e] X.env=(false,eval e X.env)::starEach [] X.env:=by rfl) :
    PA X [a,b,c,d,e] (tCons ta (tCons tb (tCons tc (tCons td (tCons te tNil))))):=pa_cons ha (pa_cons hb (pa_cons hc (pa_cons hd (pa_cons he pa_nil h5) h4) h3) h2) h1
theorem small_line {n:Nat} (h:n≤1000):n≤sizeLine:=Nat.le_of_lt (small1000 h)
section
variable {P:Program} {w:World} {K:PySem.W.Frag} {mg:Str→Option Value} {base:Heap} {C:Addr}
inductive sp_pot (K:PySem.W.Frag) (vs:List V) (H:Hp) (Q:VK) (E:XK):Prop
  | mk (a:Addr) (ns:List Int) (k:Int) (h0_:vs=[.ref a,.int k]) (h1_:SqL K H a (ns.map V.int)) (h2_:ns.length≤900) (h3_:0≤k) (h4_:∀ p H',Same H H'→H p=none→PotAt H' p→Q (.ref p) H'):sp_pot K vs H Q E
theorem sc_pot:FnScope ["_law_script","_law_k","_law_cell"] ["_law_script","_law_k"] (defScope s_law_pot):=⟨rfl,rfl,rfl,by decide +kernel,rfl,by decide +kernel,by decide +kernel⟩
theorem pot (T:Txt K mg C):Can P w K mg base 1 "_law_pot" ["_law_script","_law_k"] (sp_pot K):=by
  refine fn_can T.f_law_pot sc_pot (fun vs H Q E h=>?_) (fun f cdv A outer s H vs Q E hr h=>?_)
  · obtain ⟨a,ns,k,rfl,_⟩:=h
    rfl
  · obtain ⟨a,ns,k,rfl,ha,hlen,hk,q⟩:=h
    refine ⟨_,pss_cons (ps_set (i:=2) sc_pot.nd rfl (Or.inl rfl) (pe_ix (ix_listK K) (pe_op op_cat (pe_t (call_list_ofK K) T.b_list boot_list (pa1 (pv 0))) (pe_lst (pa1 pe_int))) (pe_b (call_min2 rfl) T.b_min boot_min (pa2 (pv 1) (pe_b (call_lenK K) T.b_len boot_len (pa1 (pv 0))))) (fun _ _=>rfl)))
      (pss_one (ps_ret (pe_lst (pa2 (pe_b (call_max2 rfl) T.b_max boot_max (pa2 pe_int (pe_op op_sub (pv 2) (pe_op op_pow pe_int pe_int))))
        (pe_op op_mod (pe_op op_add (pe_op op_add (pe_op op_mul (pe_op op_mod (pv 2) pe_int) pe_int) (pe_op op_mul pe_int (pv 1))) pe_int) pe_int))))),?_⟩
    refine ⟨_,rfl,a,_,rfl,.inl ha,fun l1 hl1=>⟨small_line (by decide +kernel),fun l2 hl2=>?_⟩⟩
    have n12:l1≠l2:=ne_of_none upd_same hl2
    refine ⟨l1,l2,_,_,rfl,rfl,by rw [upd_ne n12]; exact upd_same,upd_same,small_line (by rw [List.length_map,List.length_singleton]; omega),fun l3 hl3=>?_⟩
    have s3:Same H _:=((Same.upd (o:=.lst (ns.map V.int)) hl1).trans (Same.upd (o:=.lst [.int 0]) hl2)).trans (Same.upd (o:=.lst (ns.map V.int++[.int 0])) hl3)
    refine ⟨_,rfl,_,rfl,a,_,rfl,.inl (s3.seq ha),_,_,rfl,?_⟩
    have hm0:0≤(if (((ns.map V.int).length:Nat):Int) < k then (((ns.map V.int).length:Nat):Int) else k):=by split <;> omega
    have hm1:(if (((ns.map V.int).length:Nat):Int) < k then (((ns.map V.int).length:Nat):Int) else k) < (((ns++[0]).length:Nat):Int):=by
      rw [List.length_map,List.length_append,List.length_singleton]
      split <;> omega
    have e3:ns.map V.int++[V.int 0]=(ns++[0]).map V.int:=by rw [List.map_append]; rfl
    refine ⟨l3,_,_,_,rfl,rfl,.of (upd_same.trans (by rw [e3])),atI_ints hm0 hm1,?_⟩
    refine ⟨_,rfl,_,_,rfl,rfl,⟨by decide +kernel,by decide +kernel,by decide +kernel⟩,_,_,rfl,rfl,_,_,rfl,?_⟩
    refine ⟨_,rfl,_,_,rfl,rfl,(by show (0:Int) < _; decide +kernel),_,_,rfl,rfl,.inr ⟨by decide +kernel,by decide +kernel⟩,_,rfl,_,_,rfl,rfl,.inl ⟨by decide +kernel,by decide +kernel⟩,_,_,rfl,rfl,_,_,rfl,rfl,_,_,rfl,rfl,(by show (0:Int) < _; decide +kernel),two_line,fun p hp=>?_⟩
    refine q p _ (s3.trans (Same.upd hp)) ?_ ⟨_,_,upd_same⟩
    exact s3.free hp
inductive sp_digit (vs:List V) (H:Hp) (Q:VK) (E:XK):Prop
  | mk (p:Addr) (many:Int) (h0_:vs=[.ref p,.int many]) (h1_:PotAt H p) (h2_:0 < many) (h3_:many < 2 ^ 300) (h4_:∀ d H',0≤d→d < many→But p H H'→PotAt H' p→Q (.int d) H'):sp_digit vs H Q E
theorem sc_digit:FnScope ["_law_pot_here","_law_many","_law_digit_here"] ["_law_pot_here","_law_many"] (defScope s_law_digit):=⟨rfl,rfl,rfl,by decide +kernel,rfl,by decide +kernel,by decide +kernel⟩
theorem digit (T:Txt K mg C):Can P w K mg base 1 "_law_digit" ["_law_pot_here","_law_many"] sp_digit:=by
  refine fn_can T.f_law_digit sc_digit (fun vs H Q E h=>?_) (fun f cdv A outer s H vs Q E hr h=>?_)
  · obtain ⟨p,many,rfl,_⟩:=h
    rfl
  · obtain ⟨p,many,rfl,⟨x,y,hp⟩,h0,h1,q⟩:=h
    refine ⟨_,pss_cons (ps_if (pt_cmpR op_gt (pe_ix (ix_listK K) (pv 0) pe_int (fun _ _=>rfl)) pe_int (nomark _))
        (pss_cons (ps_set (i:=2) sc_digit.nd rfl (Or.inl rfl) (pe_op op_mod (pe_ix (ix_listK K) (pv 0) pe_int (fun _ _=>rfl)) (pv 1)))
        (pss_cons (ps_asg (pe_op op_fdivB (pe_ix (ix_listK K) (pv 0) pe_int (fun _ _=>rfl)) (pv 1)) (pg_sub (pv 0) pe_int set_list))
        (pss_one (ps_ret (pv 2))))) pss_nil)
      (pss_cons (ps_asg (pe_op op_mod (pe_op op_add (pe_op op_mul (pe_ix (ix_listK K) (pv 0) pe_int (fun _ _=>rfl)) pe_int) pe_int) pe_int) (pg_sub (pv 0) pe_int set_list))
      (pss_one (ps_ret (pe_op op_mod (pe_op op_fdivB (pe_op op_mod (pe_op op_mul (pe_ix (ix_listK K) (pv 0) pe_int (fun _ _=>rfl)) (pe_ix (ix_listK K) (pv 0) pe_int (fun _ _=>rfl))) pe_int) pe_int) (pv 1))))),?_⟩
    refine ⟨_,rfl,p,_,_,_,rfl,rfl,.of hp,rfl,_,_,rfl,rfl,_,rfl,?_⟩
    refine ite2 (fun hc=>?_) (fun hc=>?_)
    · refine ⟨_,rfl,p,_,_,_,rfl,rfl,.of hp,rfl,_,rfl,_,_,rfl,rfl,h0,?_⟩
      refine ⟨_,rfl,p,_,_,_,rfl,rfl,.of hp,rfl,_,rfl,_,_,rfl,rfl,⟨h0,h1⟩,_,rfl,p,_,_,_,rfl,rfl,hp,rfl,_,rfl,?_⟩
      exact q _ _ (Int.emod_nonneg _ (by omega)) (Int.emod_lt_of_pos _ h0) But.upd ⟨_,_,upd_same⟩
    · refine ⟨_,rfl,p,_,_,_,rfl,rfl,.of hp,rfl,_,_,rfl,rfl,.inr ⟨by decide +kernel,by decide +kernel⟩,_,_,rfl,rfl,_,_,rfl,rfl,(by show (0:Int) < _; decide +kernel),_,rfl,p,_,_,_,rfl,rfl,hp,rfl,?_⟩
      have hz0:0≤(y * 48271 + 12289) % 2147483629:=Int.emod_nonneg _ (by omega)
      have hz1:(y * 48271 + 12289) % 2147483629 < 2147483629:=Int.emod_lt_of_pos _ (by omega)
      refine ⟨_,rfl,p,_,_,_,rfl,rfl,.of upd_same,rfl,_,rfl,p,_,_,_,rfl,rfl,.of upd_same,rfl,_,_,rfl,rfl,.inl ⟨by omega,by omega⟩,_,_,rfl,rfl,(by show (0:Int) < _; decide +kernel),_,_,rfl,rfl,⟨by decide +kernel,by decide +kernel⟩,_,rfl,_,_,rfl,rfl,h0,?_⟩
      exact q _ _ (Int.emod_nonneg _ (by omega)) (Int.emod_lt_of_pos _ h0) But.upd ⟨_,_,upd_same⟩
inductive sp_wide (vs:List V) (H:Hp) (Q:VK) (E:XK):Prop
  | mk (p:Addr) (h0_:vs=[.ref p]) (h1_:PotAt H p) (h2_:∀ d H',-W30 < d→d < W30→But p H H'→PotAt H' p→Q (.int d) H'):sp_wide vs H Q E
theorem sc_wide:FnScope ["_law_pot_here","_law_way","_law_near","_law_far","_law_k"] ["_law_pot_here"] (defScope s_law_wide):=⟨rfl,rfl,rfl,by decide +kernel,rfl,by decide +kernel,by decide +kernel⟩
theorem wide (T:Txt K mg C):Can P w K mg base 2 "_law_wide" ["_law_pot_here"] sp_wide:=by
  refine fn_can T.f_law_wide sc_wide (fun vs H Q E h=>?_) (fun f cdv A outer s H vs Q E hr h=>?_)
  · obtain ⟨p,rfl,_⟩:=h
    rfl
  · obtain ⟨p,rfl,hp,q⟩:=h
    refine ⟨_,pss_cons (ps_set (i:=1) sc_wide.nd rfl (Or.inl rfl) (pe_can (digit T) hr (pa2 (pv 0) pe_int)))
      (pss_cons (ps_set (i:=2) sc_wide.nd rfl (Or.inl rfl) (pe_op op_sub (pe_can (digit T) hr (pa2 (pv 0) pe_int)) pe_int))
      (pss_cons (ps_set (i:=3) sc_wide.nd rfl (Or.inl rfl) pe_int)
      (pss_cons (ps_for PassesOwn.never rfl (pi_range1 rfl T.b_range (pa1 pe_int)) (pg_name (i:=4) sc_wide.nd rfl (Or.inl rfl))
        (pss_one (ps_set (i:=3) sc_wide.nd rfl (Or.inl rfl) (pe_op op_add (pe_op op_mul (pv 3) (pe_op op_pow pe_int pe_int)) (pe_can (digit T) hr (pa2 (pv 0) (pe_op op_pow pe_int pe_int)))))))
      (pss_cons (ps_set (i:=3) sc_wide.nd rfl (Or.inl rfl) (pe_op op_add (pe_op op_sub (pe_op op_mod (pv 3) (pe_op op_sub (pe_op op_mul pe_int (pe_op op_pow pe_int pe_int)) pe_int)) (pe_op op_pow pe_int pe_int)) pe_int))
      (pss_one (ps_ret (pe_ix (ix_listK K) (pe_lst (pa5 (pv 2) (pv 2) (pv 2) (pv 3) (pe_ix (ix_listK K) (pe_lst (pa2 (pe_op op_sub (pe_op op_pow pe_int pe_int) pe_int) (pe_op op_sub pe_int (pe_op op_pow pe_int pe_int)))) (pe_op op_mod (pv 2) pe_int) (fun _ _=>rfl)))) (pv 1) (fun _ _=>rfl)))))))),?_⟩
    refine ⟨_,rfl,p,_,rfl,hp,by decide +kernel,by decide +kernel,fun d1 H1 a1 b1 c1 hp1=>?_⟩
    refine ⟨_,rfl,p,_,rfl,hp1,by decide +kernel,by decide +kernel,fun d2 H2 a2 b2 c2 hp2=>⟨_,_,rfl,rfl,?_⟩⟩
    refine ⟨4,rfl,by decide +kernel,by decide +kernel,for_range (n:=4) (fun i σ H3=>∃ far v,σ=[some (.ref p),some (.int d1),some (.int (d2 - 20)),some (.int far),v]∧But p H H3∧PotAt H3 p) ⟨0,none,rfl,c1.trans c2,hp2⟩ ?_ ?_⟩
    · rintro i σ H3 hi ⟨far,v,rfl,c3,hp3⟩
      refine ⟨_,rfl,_,_,rfl,rfl,⟨by decide +kernel,by decide +kernel,by decide +kernel⟩,_,_,rfl,rfl,.inr ⟨by decide +kernel,by decide +kernel⟩,_,rfl,_,_,rfl,rfl,⟨by decide +kernel,by decide +kernel,by decide +kernel⟩,p,_,rfl,hp3,by decide +kernel,by decide +kernel,fun d4 H4 a4 b4 c4 hp4=>⟨_,_,rfl,rfl,?_⟩⟩
      exact ⟨_,_,rfl,c3.trans c4,hp4⟩
    · rintro σ H3 ⟨far,v,rfl,c3,hp3⟩
      refine ⟨_,rfl,_,_,rfl,rfl,⟨by decide +kernel,by decide +kernel,by decide +kernel⟩,_,_,rfl,rfl,.inl ⟨by decide +kernel,by decide +kernel⟩,_,_,rfl,rfl,_,_,rfl,rfl,(by show (0:Int) < _; decide +kernel),_,_,rfl,rfl,⟨by decide +kernel,by decide +kernel,by decide +kernel⟩,_,_,rfl,rfl,_,_,rfl,rfl,?_⟩
      have hf0:0≤far % (2 * 10 ^ (30:Int).toNat - 1):=Int.emod_nonneg _ (by decide +kernel)
      have hf1:far % (2 * 10 ^ (30:Int).toNat - 1) < 2 * 10 ^ (30:Int).toNat - 1:=Int.emod_lt_of_pos _ (by decide +kernel)
      have e30:(10:Int) ^ (30:Int).toNat=W30:=by decide +kernel
      refine ⟨_,rfl,_,rfl,_,rfl,_,rfl,_,_,rfl,rfl,⟨by decide +kernel,by decide +kernel,by decide +kernel⟩,_,_,rfl,rfl,_,_,rfl,rfl,⟨by decide +kernel,by decide +kernel,by decide +kernel⟩,_,_,rfl,rfl,two_line,fun l1 hl1=>?_⟩
      refine ⟨_,rfl,_,_,rfl,rfl,(by show (0:Int) < _; decide +kernel),l1,_,_,_,rfl,rfl,.of upd_same,atI_ints (S:=[10 ^ (30:Int).toNat - 1,1 - 10 ^ (30:Int).toNat]) (Int.emod_nonneg _ (by decide +kernel)) (Int.emod_lt_of_pos _ (by decide +kernel)),?_⟩
      refine ⟨small_line (by show 5≤1000; decide +kernel),fun l2 hl2=>?_⟩
      refine ⟨_,rfl,l2,_,_,_,rfl,rfl,.of upd_same,atI_ints (S:=[d2 - 20,d2 - 20,d2 - 20,far % (2 * 10 ^ (30:Int).toNat - 1) - 10 ^ (30:Int).toNat + 1,[10 ^ (30:Int).toNat - 1,1 - 10 ^ (30:Int).toNat].getD ((d2 - 20) % 2).toNat 0]) a1 b1,?_⟩
      have hb5:∀ v ∈ [d2 - 20,d2 - 20,d2 - 20,far % (2 * 10 ^ (30:Int).toNat - 1) - 10 ^ (30:Int).toNat + 1,[10 ^ (30:Int).toNat - 1,1 - 10 ^ (30:Int).toNat].getD ((d2 - 20) % 2).toNat 0],-W30 < v∧v < W30:=by
        have hl : -W30 < [10 ^ (30:Int).toNat - 1,1 - 10 ^ (30:Int).toNat].getD ((d2 - 20) % 2).toNat 0∧[10 ^ (30:Int).toNat - 1,1 - 10 ^ (30:Int).toNat].getD ((d2 - 20) % 2).toNat 0 < W30:=by
          refine getD_all (Pp:=fun v=>-W30 < v∧v < W30) ?_ (by show ((d2 - 20) % 2).toNat < 2; omega)
          intro v hv
          rw [e30] at hv
          rcases List.mem_cons.mp hv with e | hv
          · rw [e]; exact ⟨by decide +kernel,by decide +kernel⟩
          · rcases List.mem_cons.mp hv with e | hv
            · rw [e]; exact ⟨by decide +kernel,by decide +kernel⟩
            · cases hv
        have hW:W30=1000000000000000000000000000000:=rfl
        have hd : -W30 < d2 - 20∧d2 - 20 < W30:=⟨by omega,by omega⟩
        rw [e30] at hf0 hf1
        intro v hv
        simp only [List.mem_cons,List.not_mem_nil,or_false] at hv
        rcases hv with e | e | e | e | e
        · rw [e]; exact hd
        · rw [e]; exact hd
        · rw [e]; exact hd
        · rw [e,e30]; omega
        · rw [e]; exact hl
      have hv:=getD_all (Pp:=fun v=>-W30 < v∧v < W30) hb5 (i:=d1.toNat) (by show d1.toNat < 5; omega)
      exact q _ _ hv.1 hv.2 (c3.trans ((Same.upd hl1).trans (Same.upd hl2)).but) (hp3.same ((Same.upd hl1).trans (Same.upd hl2)))
end
end Pr
namespace Pr
open PySem L2 PyProof.Rows
section
variable {P:Program} {w:World} {K:PySem.W.Frag} {mg:Str→Option Value} {base:Heap} {C:Addr}
inductive sp_part (vs:List V) (H:Hp) (Q:VK) (E:XK):Prop
  | mk (p:Addr) (f:Bool) (h0_:vs=[.ref p,.bl f]) (h1_:PotAt H p) (h2_:∀ d H',partB d=true→(f=true→0 < d)→But p H H'→PotAt H' p→Q (.int d) H'):sp_part vs H Q E
theorem sc_part:FnScope ["_law_pot_here","_law_first","_law_size"] ["_law_pot_here","_law_first"] (defScope s_law_part):=⟨rfl,rfl,rfl,by decide +kernel,rfl,by decide +kernel,by decide +kernel⟩
theorem partB_of {d:Int} (h1 : -1000000000≤d) (h2:d≤1000000000) (h3:d≠0):partB d=true:=by
  unfold partB
  rw [decide_eq_true h1,decide_eq_true h2,decide_eq_false h3]
  rfl
theorem part (T:Txt K mg C):Can P w K mg base 2 "_law_part" ["_law_pot_here","_law_first"] sp_part:=by
  refine fn_can T.f_law_part sc_part (fun vs H Q E h=>?_) (fun f cdv A outer s H vs Q E hr h=>?_)
  · obtain ⟨p,fb,rfl,_⟩:=h
    rfl
  · obtain ⟨p,fb,rfl,hp,q⟩:=h
    refine ⟨_,pss_cons (ps_set (i:=2) sc_part.nd rfl (Or.inl rfl) (pe_op op_add pe_int (pe_can (digit T) hr (pa2 (pv 0) (pe_ix (ix_listK K) (pe_lst (pa3 pe_int pe_int (pe_op op_pow pe_int pe_int))) (pe_can (digit T) hr (pa2 (pv 0) pe_int)) (fun _ _=>rfl))))))
      (pss_cons (ps_if (pw_and (pt_cmpR op_eq (pe_can (digit T) hr (pa2 (pv 0) pe_int)) pe_int (nomark _)) (pw_and1 (pt_not (pt_val (pv 1))))).pt (pss_one (ps_ret (pe_op op_sub pe_int (pv 2)))) pss_nil)
      (pss_one (ps_ret (pv 2)))),?_⟩
    refine ⟨_,rfl,_,_,rfl,rfl,⟨by decide +kernel,by decide +kernel,by decide +kernel⟩,three_line,fun l1 hl1=>?_⟩
    have hp1:=hp.same (Same.upd (o:=.lst [.int 4,.int 60,.int (10 ^ (9:Int).toNat)]) hl1)
    have nl:=hp.ne hl1
    refine ⟨_,rfl,p,_,rfl,hp1,by decide +kernel,by decide +kernel,fun d1 H1 a1 b1 c1 hp1=>?_⟩
    have hl11:H1 l1=some (.lst ([(4:Int),60,10 ^ (9:Int).toNat].map V.int)):=c1 _ _ upd_same nl
    refine ⟨l1,_,_,_,rfl,rfl,.of hl11,atI_ints (S:=[(4:Int),60,10 ^ (9:Int).toNat]) a1 b1,?_⟩
    have hm:1≤[(4:Int),60,10 ^ (9:Int).toNat].getD d1.toNat 0∧[(4:Int),60,10 ^ (9:Int).toNat].getD d1.toNat 0≤1000000000:=by
      refine getD_all (Pp:=fun v=>1≤v∧v≤1000000000) ?_ (by show d1.toNat < 3; omega)
      decide +kernel
    generalize [(4:Int),60,10 ^ (9:Int).toNat].getD d1.toNat 0=mm at *
    refine ⟨p,_,rfl,hp1,by omega,by omega,fun d2 H2 a2 b2 c2 hp2=>⟨_,_,rfl,rfl,?_⟩⟩
    have c12:But p H H2:=((Same.upd hl1).but.trans c1).trans c2
    refine ⟨_,rfl,p,_,rfl,hp2,by decide +kernel,by decide +kernel,fun d3 H3 a3 b3 c3 hp3=>⟨rfl,_,rfl,?_⟩⟩
    have c13:=c12.trans c3
    refine iteB (fun hc=>?_) (fun hc=>?_)
    · refine ⟨_,rfl,_,rfl,?_⟩
      cases fb with
      | false =>
        refine iteT ⟨_,rfl,_,_,rfl,rfl,?_⟩
        exact q _ _ (partB_of (by omega) (by omega) (by omega)) (fun z=>by cases z) c13 hp3
      | true=>exact iteF ⟨_,rfl,q _ _ (partB_of (by omega) (by omega) (by omega)) (fun _=>by omega) c13 hp3⟩
    · exact iteF ⟨_,rfl,q _ _ (partB_of (by omega) (by omega) (by omega)) (fun _=>by omega) c13 hp3⟩
theorem sizesB_of {S:List Int} (h1:1≤S.length) (h2:S.length≤12) (h3:∀ v ∈ S,1≤v∧v≤1000):sizesB S=true:=by
  unfold sizesB lenB
  rw [decide_eq_true (by omega),decide_eq_true (by omega),Bool.and_true,Bool.true_and,List.all_eq_true]
  intro v hv
  unfold sizeB
  rw [decide_eq_true (h3 v hv).1,decide_eq_true (h3 v hv).2]
  rfl
inductive sp_sizes (vs:List V) (H:Hp) (Q:VK) (E:XK):Prop
  | mk (p:Addr) (h0_:vs=[.ref p]) (h1_:PotAt H p) (h2_:∀ l S H',sizesB S=true→But p H H'→PotAt H' p→H l=none→H' l=some (.lst (S.map V.int))→Q (.ref l) H'):sp_sizes vs H Q E
theorem sc_sizes:FnScope ["_law_pot_here"] ["_law_pot_here"] (defScope s_law_sizes):=⟨rfl,rfl,rfl,by decide +kernel,rfl,by decide +kernel,by decide +kernel⟩
theorem But.free {p l:Addr} {H H':Hp} (b:But p H H') (h:H' l=none) (hp:PotAt H' p):H l=none:=by
  cases e:H l with
  | none=>rfl
  | some o =>
    have:=b l o e (hp.ne h)
    rw [h] at this
    cases this
theorem sizes (T:Txt K mg C):Can P w K mg base 2 "_law_sizes" ["_law_pot_here"] sp_sizes:=by
  refine fn_can T.f_law_sizes sc_sizes (fun vs H Q E h=>?_) (fun f cdv A outer s H vs Q E hr h=>?_)
  · obtain ⟨p,rfl,_⟩:=h
    rfl
  · obtain ⟨p,rfl,hp,q⟩:=h
    refine ⟨_,pss_one (ps_ret (pe_lc rfl (lcS sc_sizes) (pi_range1 rfl T.b_range (pa1 (pe_op op_add pe_int (pe_can (digit T) hr (pa2 (pv 0) pe_int))))) (fun _ _ _ _=>pts_nil)
      (fun _ _ _ _=>pe_op op_add pe_int (pe_can (digit T) hr (pa2 (pv 1) (pe_ix (ix_listK K) (pe_lst (pa3 pe_int pe_int pe_int)) (pe_can (digit T) hr (pa2 (pv 1) pe_int)) (fun _ _=>rfl))))))),?_⟩
    refine ⟨_,rfl,p,_,rfl,hp,by decide +kernel,by decide +kernel,fun d1 H1 a1 b1 c1 hp1=>⟨_,_,rfl,rfl,_,rfl,by omega,by omega,fun D hD=>?_⟩⟩
    have nD:=hp1.ne hD
    refine lc_range (n:=(1 + d1).toNat) (fun i ys H2=>∃ S:List Int,ys=S.map V.int∧S.length=i∧(∀ v ∈ S,1≤v∧v≤1000)∧But p H1 H2∧PotAt H2 p∧H2 D=some (.lst ys)) ⟨[],rfl,rfl,(fun v hv=>by cases hv),(Same.upd hD).but,hp1.same (Same.upd hD),upd_same⟩ (fun i ys H2 ⟨_,_,_,_,_,_,d⟩=>d) (fun ys H2 ⟨S,e1,e2,e3,c2,hp2,d⟩=>?_) (fun i ys H2 hi ⟨S,e1,e2,e3,c2,hp2,d⟩=>?_)
    · subst e1
      exact q D S H2 (sizesB_of (by omega) (by omega) e3) (c1.trans c2) hp2 (But.free c1 hD hp1) d
    · refine yesI ⟨_,rfl,three_line,fun l1 hl1=>?_⟩
      have hp3:=hp2.same (Same.upd (o:=.lst [.int 3,.int 3,.int 1000]) hl1)
      have nl:=hp2.ne hl1
      have nDl:D≠l1:=ne_of_none d hl1
      refine ⟨_,rfl,p,_,rfl,hp3,by decide +kernel,by decide +kernel,fun d2 H3 a2 b2 c3 hp3=>?_⟩
      have hl13:H3 l1=some (.lst ([3,3,1000].map V.int)):=c3 _ _ upd_same nl
      refine ⟨l1,_,_,_,rfl,rfl,.of hl13,atI_ints (S:=[3,3,1000]) a2 b2,?_⟩
      have hm:1≤[3,3,(1000:Int)].getD d2.toNat 0∧[3,3,(1000:Int)].getD d2.toNat 0≤1000:=by
        refine getD_all (Pp:=fun v=>1≤v∧v≤1000) ?_ (by show d2.toNat < 3; omega)
        decide +kernel
      generalize [3,3,(1000:Int)].getD d2.toNat 0=mm at *
      refine ⟨p,_,rfl,hp3,by omega,by omega,fun d3 H4 a3 b3 c4 hp4=>⟨_,_,rfl,rfl,?_⟩⟩
      have c24:But p H2 H4:=((Same.upd hl1).but.trans c3).trans c4
      have d4:H4 D=some (.lst ys):=c24 _ _ d nD
      have hle:ys.length≤i:=by rw [e1,List.length_map,e2]; exact Nat.le_refl _
      refine LcNx.mk hi (by omega) hle d4 ⟨S++[1 + d3],?_,?_,?_,?_,?_,upd_same⟩
      · rw [e1,List.map_append]; rfl
      · rw [List.length_append,e2]; rfl
      · intro v hv
        rcases List.mem_append.mp hv with hv | hv
        · exact e3 v hv
        · have:v=1 + d3:=by simpa using hv
          omega
      · exact fun b o z n=>by rw [upd_ne (ne_of_none z hD)]; exact c24 b o (c2 b o z n) n
      · obtain ⟨x,y,z⟩:=hp4
        exact ⟨x,y,by rw [upd_ne (Ne.symm nD)]; exact z⟩
inductive ToldAt (H:Hp) (t:Addr) (b:Int) (ps:List Int) (rows:List Lad.Step):Prop
  | mk (pa:Addr) (ra:Addr) (us:List V) (h0_:H t=some (.tup [.int b,.ref pa,.ref ra])) (h1_:H pa=some (.lst (ps.map V.int))) (h2_:H ra=some (.lst us)) (h3_:Paired (RowL H) us rows):ToldAt H t b ps rows
theorem ToldAt.same {H H':Hp} {t:Addr} {b:Int} {ps:List Int} {rows:List Lad.Step} (h:ToldAt H t b ps rows) (e:Same H H'):ToldAt H' t b ps rows:=by
  obtain ⟨pa,ra,us,h1,h2,h3,h4⟩:=h
  exact ⟨pa,ra,us,e _ _ h1,e _ _ h2,e _ _ h3,Paired.mono (fun _ _ x=>x.same e) h4⟩
inductive RowP (p q:Addr) (H:Hp) (v:V) (s:Lad.Step):Prop
  | mk (r:Addr) (l:Addr) (h0_:v=.ref r) (h1_:H r=some (.tup [.int s.1,.ref l])) (h2_:H l=some (.lst (s.2.map V.int))) (h3_:s.2.length≤1000) (h4_:l≠p) (h5_:l≠q):RowP p q H v s
theorem RowP.but {p q:Addr} {H H':Hp} (e:But p H H') (hp:PotAt H p) {v:V} {s:Lad.Step} (h:RowP p q H v s):RowP p q H' v s:=by
  obtain ⟨r,l,e1,h1,h2,h3,h4,h5⟩:=h
  obtain ⟨x,y,hp⟩:=hp
  exact ⟨r,l,e1,e _ _ h1 (ne_of h1 hp (by intro z; cases z)),e _ _ h2 h4,h3,h4,h5⟩
theorem RowP.same {p q:Addr} {H H':Hp} (e:Same H H') {v:V} {s:Lad.Step} (h:RowP p q H v s):RowP p q H' v s:=by
  obtain ⟨r,l,e1,h1,h2,h3,h4,h5⟩:=h
  exact ⟨r,l,e1,e _ _ h1,e _ _ h2,h3,h4,h5⟩
theorem RowP.row {p q:Addr} {H:Hp} {v:V} {s:Lad.Step} (h:RowP p q H v s):RowL H v s:=by
  obtain ⟨r,l,e1,h1,h2,h3,h4⟩:=h
  exact ⟨r,l,e1,h1,h2,h3⟩
theorem partsB_of {ps:List Int} (h1:1≤ps.length) (h2:ps.length≤12) (h3:∀ v ∈ ps,partB v=true) (h4:0 < ps.headD 0):partsB ps=true:=by
  unfold partsB lenB headB
  rw [decide_eq_true (by omega),decide_eq_true (by omega),decide_eq_true h4,List.all_eq_true.mpr h3]
  rfl
theorem rowsB_of {rows:List Lad.Step} (h2:rows.length≤4) (h3:∀ v ∈ rows,rowB v=true):rowsB rows=true:=by
  unfold rowsB lenB
  rw [decide_eq_true (by omega),decide_eq_true (by omega),List.all_eq_true.mpr h3]
  rfl
inductive sp_drawn (vs:List V) (H:Hp) (Q:VK) (E:XK):Prop
  | mk (p:Addr) (h0_:vs=[.ref p]) (h1_:PotAt H p) (h2_:∀ t b ps rows H',LadOk b ps rows→But p H H'→ToldAt H' t b ps rows→PotAt H' p→(∀ H'',But p H' H''→ToldAt H'' t b ps rows)→Q (.ref t) H'):sp_drawn vs H Q E
theorem sc_drawn:FnScope ["_law_pot_here","_law_begin","_law_parts","_law_rows"] ["_law_pot_here"] (defScope s_law_drawn):=⟨rfl,rfl,rfl,by decide +kernel,rfl,by decide +kernel,by decide +kernel⟩
theorem drawn (T:Txt K mg C):Can P w K mg base 3 "_law_drawn" ["_law_pot_here"] sp_drawn:=by
  refine fn_can T.f_law_drawn sc_drawn (fun vs H Q E h=>?_) (fun f cdv A outer s H vs Q E hr h=>?_)
  · obtain ⟨p,rfl,_⟩:=h
    rfl
  · obtain ⟨p,rfl,hp,q⟩:=h
    refine ⟨_,pss_cons (ps_set (i:=1) sc_drawn.nd rfl (Or.inl rfl) (pe_can (wide T) hr (pa1 (pv 0))))
      (pss_cons (ps_setLC (i:=2) rfl rfl rfl (lcS sc_drawn) (pi_range1 rfl T.b_range (pa1 (pe_op op_add pe_int (pe_can (digit T) hr (pa2 (pv 0) pe_int))))) (fun _ _ _ _=>pts_nil) (fun _ _ _ _=>pe_can (part T) hr (pa2 (pv 1) (pe_cmpR op_eq (pv 0) pe_int (nomark _)))))
      (pss_cons (ps_setLC (i:=3) rfl rfl rfl (lcS sc_drawn) (pi_range1 rfl T.b_range (pa1 (pe_can (digit T) hr (pa2 (pv 0) pe_int)))) (fun _ _ _ _=>pts_nil) (fun _ _ _ _=>pe_tup (pa2 (pe_can (wide T) hr (pa1 (pv 1))) (pe_can (sizes T) hr (pa1 (pv 1))))))
      (pss_one (ps_ret (pe_tup (pa3 (pv 1) (pv 2) (pv 3))))))),?_⟩
    refine ⟨_,rfl,p,rfl,hp,fun b H1 b0 b1 c1 hp1=>?_⟩
    refine ⟨_,rfl,p,_,rfl,hp1,by decide +kernel,by decide +kernel,fun d1 H2 a1 e1 c2 hp2=>⟨_,_,rfl,rfl,_,rfl,by omega,by omega,fun D hD=>?_⟩⟩
    have nD:=hp2.ne hD
    refine lc_range (n:=(1 + d1).toNat) (fun i ys H3=>∃ ps:List Int,ys=ps.map V.int∧ps.length=i∧(∀ v ∈ ps,partB v=true)∧(1≤i→0 < ps.headD 0)∧But p H2 H3∧PotAt H3 p∧H3 D=some (.lst ys)) ⟨[],rfl,rfl,(fun v hv=>by cases hv),(fun z=>by omega),(Same.upd hD).but,hp2.same (Same.upd hD),upd_same⟩ (fun i ys H3 ⟨_,_,_,_,_,_,_,d⟩=>d) (fun ys H3 ⟨ps,f1,f2,f3,f4,c3,hp3,d⟩=>?_) (fun i ys H3 hi ⟨ps,f1,f2,f3,f4,c3,hp3,d⟩=>?_)
    case refine_2 =>
      refine yesI ⟨_,rfl,_,rfl,rfl,p,_,rfl,hp3,fun n H4 g1 g2 c4 hp4=>?_⟩
      have d4:H4 D=some (.lst ys):=c4 _ _ d nD
      have hle:ys.length≤i:=by rw [f1,List.length_map,f2]; exact Nat.le_refl _
      refine LcNx.mk hi (by omega) hle d4 ⟨ps++[n],?_,?_,?_,?_,?_,?_,upd_same⟩
      · rw [f1,List.map_append]; rfl
      · rw [List.length_append,f2]; rfl
      · intro v hv
        rcases List.mem_append.mp hv with hv | hv
        · exact f3 v hv
        · have:v=n:=by simpa using hv
          rw [this]; exact g1
      · intro _
        cases ps with
        | nil =>
          have hi0:i=0:=by simpa using f2.symm
          subst hi0
          exact g2 (by decide +kernel)
        | cons v r =>
          have:1≤i:=by rw [← f2]; simp
          exact f4 this
      · exact fun b o z m=>by rw [upd_ne (ne_of_none z hD)]; exact c4 b o (c3 b o z m) m
      · obtain ⟨x,y,z⟩:=hp4
        exact ⟨x,y,by rw [upd_ne (Ne.symm nD)]; exact z⟩
    subst f1
    have pok:partsB ps=true:=partsB_of (by omega) (by omega) f3 (f4 (by omega))
    refine ⟨_,rfl,p,_,rfl,hp3,by decide +kernel,by decide +kernel,fun d2 H4 a2 e2 c4 hp4=>⟨_,rfl,by omega,by omega,fun D2 hD2=>?_⟩⟩
    have nD2:=hp4.ne hD2
    have dD4:=c4 _ _ d nD
    refine lc_range (n:=d2.toNat) (fun i ys H5=>∃ rows:List Lad.Step,Paired (RowP p D2 H5) ys rows∧rows.length=i∧(∀ v ∈ rows,rowB v=true)∧But p H4 H5∧PotAt H5 p∧H5 D2=some (.lst ys)) ⟨[],.nil,rfl,(fun v hv=>by cases hv),(Same.upd hD2).but,hp4.same (Same.upd hD2),upd_same⟩ (fun i ys H5 ⟨_,_,_,_,_,_,d⟩=>d) (fun ys H5 ⟨rows,f1,f2',f3',c5,hp5,d5⟩=>?_) (fun i ys H5 hi ⟨rows,f1,f2',f3',c5,hp5,d5⟩=>?_)
    case refine_2 =>
      refine yesI ⟨_,rfl,p,rfl,hp5,fun rb H6 g1 g2 c6 hp6=>⟨_,rfl,p,rfl,hp6,fun l S H7 g3 c7 hp7 hl7 hl7'=>⟨two_line,fun m hm=>?_⟩⟩⟩
      have c57:=c6.trans c7
      have d7:H7 D2=some (.lst ys):=c57 _ _ d5 nD2
      have nl:l≠p:=hp6.ne hl7
      have nDm:D2≠m:=ne_of_none d7 hm
      have nDl:D2≠l:=by
        have:H6 D2=some (.lst ys):=c6 _ _ d5 nD2
        exact ne_of_none this hl7
      have hyl:ys.length=rows.length:=Paired.length f1
      refine LcNx.mk hi (by omega) (by omega) (Same.upd hm _ _ d7) ⟨rows++[(rb,S)],?_,?_,?_,?_,?_,upd_same⟩
      · have up:∀ {v:V} {s':Lad.Step},RowP p D2 H5 v s'→RowP p D2 (upd (upd H7 m (.tup [.int rb,.ref l])) D2 (.lst (ys++[.ref m]))) v s':=fun {v s'} hx=>by
          obtain ⟨r',l',e',q1,q2,q3,q4,q5⟩:=RowP.but c57 hp5 hx
          exact ⟨r',l',e',by rw [upd_ne (ne_of q1 d7 (by intro z; cases z))]; exact Same.upd hm _ _ q1,by rw [upd_ne q5]; exact Same.upd hm _ _ q2,q3,q4,q5⟩
        refine Paired.snoc (Paired.mono (fun _ _ x=>up x) f1) ⟨m,l,rfl,?_,?_,?_,nl,Ne.symm nDl⟩
        · rw [upd_ne (Ne.symm nDm),upd_same]
        · rw [upd_ne (Ne.symm nDl)]; exact Same.upd hm _ _ hl7'
        · exact Nat.le_trans (sizesB_ok g3).2.1 (by decide)
      · rw [List.length_append,f2']; rfl
      · intro v hv
        rcases List.mem_append.mp hv with hv | hv
        · exact f3' v hv
        · have:v=(rb,S):=by simpa using hv
          rw [this]
          unfold rowB wideB
          rw [decide_eq_true g1,decide_eq_true g2,g3]
          rfl
      · exact fun b o z n=>by rw [upd_ne (ne_of_none z hD2)]; exact Same.upd hm _ _ (c57 b o (c5 b o z n) n)
      · obtain ⟨x,y,z⟩:=hp7
        exact ⟨x,y,by rw [upd_ne (Ne.symm nD2)]; exact Same.upd hm _ _ z⟩
    refine ⟨_,rfl,_,rfl,_,rfl,three_line,fun t ht=>?_⟩
    have hok:LadOk b ps rows:=⟨by unfold wideB; rw [decide_eq_true b0,decide_eq_true b1]; rfl,pok,rowsB_of (by omega) f3'⟩
    refine q t b ps rows _ hok ((((c1.trans c2).trans c3).trans c4).trans (c5.trans (Same.upd ht).but)) ⟨D,D2,ys,upd_same,Same.upd ht _ _ (c5 _ _ dD4 nD),Same.upd ht _ _ d5,Paired.mono (fun _ _ x=>x.row.same (Same.upd ht)) f1⟩ (hp5.same (Same.upd ht)) (fun H'' cc=>⟨D,D2,ys,cc _ _ upd_same (hp5.ne ht),cc _ _ (Same.upd ht _ _ (c5 _ _ dD4 nD)) nD,cc _ _ (Same.upd ht _ _ d5) nD2,Paired.mono (fun _ _ x=>(RowP.but cc (hp5.same (Same.upd ht)) (RowP.same (Same.upd ht) x)).row) f1⟩)
end
end Pr
namespace Pr
open PySem L2 PyProof.Rows
theorem total_snoc (ps:List Int) (p:Int):Lad.total (ps++[p])=Lad.total ps + Lad.absI p:=by
  unfold Lad.total
  rw [List.map_append,List.sum_append_int]
  simp
theorem stF_snoc:∀ (ps:List Int) (c p:Int),Lad.stF c (ps++[p])=Lad.stF c ps++(if 0 < p then [c + Lad.total ps] else [])
  | [],c,p=>by
    show (if 0 < p then c::Lad.stF (c + Lad.absI p) [] else Lad.stF (c + Lad.absI p) [])=_
    have e:Lad.total []=0:=rfl
    rw [e,Int.add_zero]
    split <;> rfl
  | q::r,c,p=>by
    have ih:=stF_snoc r (c + Lad.absI q) p
    have e:Lad.total (q::r)=Lad.absI q + Lad.total r:=by unfold Lad.total; rw [List.map_cons,List.sum_cons]
    show (if 0 < q then c::Lad.stF (c + Lad.absI q) (r++[p]) else Lad.stF (c + Lad.absI q) (r++[p]))=(if 0 < q then c::Lad.stF (c + Lad.absI q) r else Lad.stF (c + Lad.absI q) r)++_
    rw [ih,e,show c + (Lad.absI q + Lad.total r)=c + Lad.absI q + Lad.total r by omega]
    split <;> rfl
theorem stF_len:∀ (ps:List Int) (c:Int),(Lad.stF c ps).length≤ps.length
  | [],_=>Nat.le_refl _
  | q::r,c=>by
    have ih:=stF_len r (c + Lad.absI q)
    show (if 0 < q then c::Lad.stF (c + Lad.absI q) r else Lad.stF (c + Lad.absI q) r).length≤_
    rw [List.length_cons]
    split
    · rw [List.length_cons]; omega
    · omega
theorem take_snoc {α:Type} {S:List α} {i:Nat} {n:α} (e:S[i]?=some n):S.take (i + 1)=S.take i++[n]:=by rw [List.take_add_one,e]; rfl
theorem sameBut {H0 H H':Hp} {p:Addr} (s:Same H0 H) (n:H0 p=none) (b:But p H H'):Same H0 H':=fun c o h=>b c o (s c o h) (ne_of_none h n)
section
variable {P:Program} {w:World} {K:PySem.W.Frag} {mg:Str→Option Value} {base:Heap} {C:Addr}
inductive sp_turn (vs:List V) (H:Hp) (Q:VK) (E:XK):Prop
  | mk (t:Addr) (b:Int) (ps:List Int) (rows:List Lad.Step) (h0_:vs=[.ref t]) (h1_:ToldAt H t b ps rows) (h2_:LadOk b ps rows) (h3_:∀ H',Same H H'→Q (.int (Lad.total ps)) H'):sp_turn vs H Q E
theorem sc_turn:FnScope ["_law_told"] ["_law_told"] (defScope s_law_turn):=⟨rfl,rfl,rfl,by decide +kernel,rfl,by decide +kernel,by decide +kernel⟩
theorem turn (T:Txt K mg C):Can P w K mg base 1 "_law_turn" ["_law_told"] sp_turn:=by
  refine fn_can T.f_law_turn sc_turn (fun vs H Q E h=>?_) (fun f cdv A outer s H vs Q E hr h=>?_)
  · obtain ⟨t,b,ps,rows,rfl,_⟩:=h
    rfl
  · obtain ⟨t,b,ps,rows,rfl,⟨pa,ra,us,h1,h2,h3,h4⟩,ok,k⟩:=h
    obtain ⟨_,hlen,_⟩:=partsB_ok ok.p
    refine ⟨_,pss_one (ps_ret (pe_b (call_sum_seqK K rfl) T.b_sum boot_sum (pa1 (pe_lc rfl (lcS sc_turn) (pi_listK K (pe_ix (ix_tupK K) (pv 0) pe_int (fun _ _=>rfl))) (fun _ _ _ _=>pts_nil) (fun _ _ _ _=>pe_b call_abs T.b_abs boot_abs (pa1 (pv 0))))))),?_⟩
    refine ⟨_,rfl,t,_,_,_,rfl,rfl,.of h1,rfl,pa,rfl,⟨_,.of h2⟩,fun D hD=>?_⟩
    refine lc_list (xs:=ps.map V.int) (fun i ys H2=>ys=((ps.take i).map Lad.absI).map V.int∧Same H H2∧H2 D=some (.lst ys)) ⟨rfl,Same.upd hD,upd_same⟩ (fun i ys H2 ⟨_,s2,d⟩=>⟨d,.of (s2 _ _ h2)⟩) (fun ys H2 ⟨e,s2,d⟩=>?_) (fun i x ys H2 hi hx ⟨e,s2,d⟩=>?_)
    · rw [List.length_map,List.take_length] at e
      subst e
      exact ⟨D,ps.map Lad.absI,rfl,.inl (.of d),k _ s2⟩
    · obtain ⟨n,hn,rfl⟩:=int_of_map hx
      rw [List.length_map] at hi
      refine yesI ⟨_,rfl,n,rfl,LcNx.mk (by rw [List.length_map]; exact hi) (by rw [List.length_map]; omega) (by rw [e,List.length_map,List.length_map,List.length_take]; omega) d ⟨?_,?_,upd_same⟩⟩
      · rw [e,← take_map_snoc Lad.absI hn,List.map_append]
        rfl
      · exact fun b o z=>by rw [upd_ne (ne_of_none z hD)]; exact s2 b o z
inductive sp_starts (vs:List V) (H:Hp) (Q:VK) (E:XK):Prop
  | mk (t:Addr) (b:Int) (ps:List Int) (rows:List Lad.Step) (h0_:vs=[.ref t]) (h1_:ToldAt H t b ps rows) (h2_:LadOk b ps rows) (h3_:∀ l H',Same H H'→H l=none→H' l=some (.lst ((Lad.stF 0 ps).map V.int))→Q (.ref l) H'):sp_starts vs H Q E
theorem sc_starts:FnScope ["_law_told","_law_found","_law_at","_law_part_here"] ["_law_told"] (defScope s_law_starts):=⟨rfl,rfl,rfl,by decide +kernel,rfl,by decide +kernel,by decide +kernel⟩
theorem starts (T:Txt K mg C):Can P w K mg base 1 "_law_starts" ["_law_told"] sp_starts:=by
  refine fn_can T.f_law_starts sc_starts (fun vs H Q E h=>?_) (fun f cdv A outer s H vs Q E hr h=>?_)
  · obtain ⟨t,b,ps,rows,rfl,_⟩:=h
    rfl
  · obtain ⟨t,b,ps,rows,rfl,⟨pa,ra,us,h1,h2,h3,h4⟩,ok,k⟩:=h
    obtain ⟨_,hlen,_⟩:=partsB_ok ok.p
    refine ⟨_,pss_cons (ps_set (i:=1) sc_starts.nd rfl (Or.inl rfl) (pe_lst pa_nil))
      (pss_cons (ps_set (i:=2) sc_starts.nd rfl (Or.inl rfl) pe_int)
      (pss_cons (ps_for PassesOwn.never rfl (pi_listK K (pe_ix (ix_tupK K) (pv 0) pe_int (fun _ _=>rfl))) (pg_name (i:=3) sc_starts.nd rfl (Or.inl rfl))
        (pss_cons (ps_if (pt_cmpR op_gt (pv 3) pe_int (nomark _)) (pss_one (ps_expr (pe_bmK K PySem.F.plainAttrs_list PySem.F.slot_list_append PySem.F.type_list_append mt_append (pv 1) (pa1 (pv 2))))) pss_nil)
        (pss_one (ps_set (i:=2) sc_starts.nd rfl (Or.inl rfl) (pe_op op_add (pv 2) (pe_b call_abs T.b_abs boot_abs (pa1 (pv 3))))))))
      (pss_one (ps_ret (pv 1))))),?_⟩
    refine ⟨Nat.zero_le _,fun l hl=>?_⟩
    have s1:∀ o,Same H (upd H l o):=fun o=>Same.upd hl
    refine ⟨_,rfl,t,_,_,_,rfl,rfl,.of (s1 _ _ _ h1),rfl,pa,rfl,⟨_,.of (s1 _ _ _ h2)⟩,for_list (K:=K) (a:=pa) (xs:=ps.map V.int) (fun i σ H2=>∃ v,σ=[some (.ref t),some (.ref l),some (.int (Lad.total (ps.take i))),v]∧Same H H2∧H2 l=some (.lst ((Lad.stF 0 (ps.take i)).map V.int)))
      ⟨none,rfl,s1 _,upd_same⟩ (fun i σ H2 _ ⟨_,_,s2,_⟩=>.of (s2 _ _ h2)) ?_ ?_⟩
    · rintro i x σ H2 hx ⟨v,rfl,s2,d⟩
      obtain ⟨n,hn,rfl⟩:=int_of_map hx
      have hi:i < ps.length:=(List.getElem?_eq_some_iff.mp hn).1
      have e1:=take_snoc hn
      have hfl:=stF_len (ps.take i) 0
      rw [List.length_take] at hfl
      refine ⟨_,rfl,_,_,rfl,rfl,_,rfl,?_⟩
      refine iteB (fun hc=>?_) (fun hc=>?_)
      · have hc:0 < n:=of_decide_eq_true hc
        refine ⟨_,rfl,.inl ⟨rfl,_,.of d⟩,_,rfl,l,_,_,rfl,rfl,d,small1000 (by rw [List.length_map]; omega),?_⟩
        refine ⟨_,rfl,_,rfl,n,rfl,_,_,rfl,rfl,some (.int n),?_,?_,?_⟩
        · rw [e1,total_snoc]; rfl
        · exact fun b o z=>by rw [upd_ne (ne_of_none z hl)]; exact s2 b o z
        · rw [upd_same,e1,stF_snoc,if_pos hc,List.map_append,Int.zero_add]
          rfl
      · have hc:¬ 0 < n:=of_decide_eq_false hc
        refine ⟨_,rfl,_,rfl,n,rfl,_,_,rfl,rfl,some (.int n),?_,s2,?_⟩
        · rw [e1,total_snoc]; rfl
        · rw [d,e1,stF_snoc,if_neg hc,List.append_nil]
    · rintro σ H2 ⟨v,rfl,s2,d⟩
      rw [List.length_map,List.take_length] at d
      exact ⟨_,rfl,k l H2 s2 hl d⟩
theorem total_pos {b:Int} {ps:List Int} {rows:List Lad.Step} (ok:LadOk b ps rows):1≤Lad.total ps∧Lad.total ps≤12000000000:=by
  obtain ⟨pok,hlen,hb⟩:=partsB_ok ok.p
  have h1:=(Lad.bars_good pok).sum
  rw [Lad.bars_sum pok] at h1
  have h2:=total_le hb
  omega
inductive sp_lowest (vs:List V) (H:Hp) (Q:VK) (E:XK):Prop
  | mk (t:Addr) (m:Int) (b:Int) (ps:List Int) (rows:List Lad.Step) (h0_:vs=[.ref t,.int m]) (h1_:ToldAt H t b ps rows) (h2_:LadOk b ps rows) (h3_:∀ H',Same H H'→Q (.int (Lad.num b (Lad.bars ps) m)) H'):sp_lowest vs H Q E
theorem sc_lowest:FnScope ["_law_told","_law_moment_here","_law_turns","_law_far","_law_starts_here"] ["_law_told","_law_moment_here"] (defScope s_law_lowest):=⟨rfl,rfl,rfl,by decide +kernel,rfl,by decide +kernel,by decide +kernel⟩
theorem lowest (T:Txt K mg C):Can P w K mg base 2 "_law_lowest" ["_law_told","_law_moment_here"] sp_lowest:=by
  refine fn_can T.f_law_lowest sc_lowest (fun vs H Q E h=>?_) (fun f cdv A outer s H vs Q E hr h=>?_)
  · obtain ⟨t,m,b,ps,rows,rfl,_⟩:=h
    rfl
  · obtain ⟨t,m,b,ps,rows,rfl,hT,ok,k⟩:=h
    obtain ⟨pa,ra,us,h1,h2,h3,h4⟩:=id hT
    obtain ⟨pok,hlen,_⟩:=partsB_ok ok.p
    have ht:=total_pos ok
    refine ⟨_,pss_cons (ps_asg (pe_b call_divmodB T.b_divmod boot_divmod (pa2 (pe_op op_sub (pv 1) (pe_ix (ix_tupK K) (pv 0) pe_int (fun _ _=>rfl))) (pe_can (turn T) hr (pa1 (pv 0))))) (pg_tupK K rfl (pgs_cons (pg_name (i:=2) sc_lowest.nd rfl (Or.inl rfl)) (pgs_cons (pg_name (i:=3) sc_lowest.nd rfl (Or.inr rfl)) pgs_nil))))
      (pss_cons (ps_set (i:=4) sc_lowest.nd rfl (Or.inl rfl) (pe_can (starts T) hr (pa1 (pv 0))))
      (pss_one (ps_ret (pe_op op_sub (pe_op op_add (pe_op op_mul (pv 2) (pe_b (call_lenK K) T.b_len boot_len (pa1 (pv 4)))) (pe_b (call_lenK K) T.b_len boot_len (pa1 (pe_lc rfl (lcS sc_lowest) (pi_listK K (pv 4)) (fun _ _ _ _=>pts_one (pt_cmpR op_le (pv 0) (pv 4) (nomark _))) (fun _ _ _ _=>pv 0))))) pe_int)))),?_⟩
    refine ⟨_,rfl,_,rfl,t,_,_,_,rfl,rfl,.of h1,rfl,_,_,rfl,rfl,_,rfl,t,b,ps,rows,rfl,hT,ok,fun H1 s1=>⟨_,_,rfl,⟨by omega,by omega⟩,fun p1 hp1=>?_⟩⟩
    have s2:∀ o,Same H (upd H1 p1 o):=fun o=>s1.trans (Same.upd hp1)
    refine ⟨p1,_,rfl,.of upd_same,rfl,_,_,rfl,_,_,rfl,rfl,?_⟩
    refine ⟨_,rfl,t,b,ps,rows,rfl,hT.same (s2 _),ok,fun l H3 s3 hl3 d3=>?_⟩
    have hsl:=stF_len ps 0
    have hl':((((Lad.stF 0 ps).map V.int).length:Nat):Int)=((Lad.stF 0 ps).length:Int):=by rw [List.length_map]
    refine ⟨_,rfl,_,rfl,l,_,rfl,.inl (.of d3),_,_,rfl,rfl,.inr ⟨by omega,by omega⟩,_,rfl,l,rfl,⟨_,.of d3⟩,fun D hD=>?_⟩
    refine lc_list (xs:=(Lad.stF 0 ps).map V.int) (fun i ys H4=>ys=(((Lad.stF 0 ps).take i).filter fun z=>decide (z≤(m - b) % Lad.total ps)).map V.int∧Same H3 H4∧H4 D=some (.lst ys)) ⟨rfl,Same.upd hD,upd_same⟩ (fun i ys H4 ⟨_,s4,d⟩=>⟨d,.of (s4 _ _ d3)⟩) (fun ys H4 ⟨e,s4,d⟩=>?_) (fun i x ys H4 hi hx ⟨e,s4,d⟩=>?_)
    · rw [List.length_map,List.take_length] at e
      subst e
      refine ⟨D,_,rfl,.inl (.of d),_,_,rfl,rfl,_,_,rfl,rfl,?_⟩
      have key:=Lad.lowest_eq pok b m
      show Q (.int ((m - b) / Lad.total ps * ((((Lad.stF 0 ps).map V.int).length:Nat):Int) + ((((Lad.stF 0 ps).filter fun z=>decide (z≤(m - b) % Lad.total ps)).map V.int).length:Int) - 1)) H4
      rw [List.length_map,List.length_map,key]
      exact k _ (((s2 _).trans s3).trans s4)
    · obtain ⟨n,hn,rfl⟩:=int_of_map hx
      rw [List.length_map] at hi
      refine ⟨_,rfl,_,rfl,_,_,rfl,rfl,_,rfl,?_⟩
      have e2:=filter_snoc (fun z=>decide (z≤(m - b) % Lad.total ps)) hn
      refine iteB (fun hc=>?_) (fun hc=>?_)
      · refine ⟨_,rfl,LcNx.mk (by rw [List.length_map]; exact hi) (by rw [List.length_map]; omega) (by rw [e,List.length_map]; exact Nat.le_trans (List.length_filter_le _ _) (by rw [List.length_take]; omega)) d ⟨?_,?_,upd_same⟩⟩
        · rw [e2,if_pos hc,e,List.map_append]
          rfl
        · exact fun b o z=>by rw [upd_ne (ne_of_none z hD)]; exact s4 b o z
      · refine LcNo.mk (by rw [List.length_map]; exact hi) ⟨?_,s4,d⟩
        rw [e2,if_neg (by rw [hc]; exact Bool.false_ne_true),e,List.append_nil]
inductive sp_raised (vs:List V) (H:Hp) (Q:VK) (E:XK):Prop
  | mk (v:V) (st:Lad.Step) (n:Int) (h0_:vs=[v,.int n]) (h1_:RowL H v st) (h2_:SzOk st.2) (h3_:∀ H',Same H H'→Q (.int (Lad.num st.1 st.2 n)) H'):sp_raised vs H Q E
theorem sc_raised:FnScope ["_law_row","_law_number","_law_turns","_law_far","_law_place"] ["_law_row","_law_number"] (defScope s_law_raised):=⟨rfl,rfl,rfl,by decide +kernel,rfl,by decide +kernel,by decide +kernel⟩
theorem raised (T:Txt K mg C):Can P w K mg base 1 "_law_raised" ["_law_row","_law_number"] sp_raised:=by
  refine fn_can T.f_law_raised sc_raised (fun vs H Q E h=>?_) (fun f cdv A outer s H vs Q E hr h=>?_)
  · obtain ⟨v,st,n,rfl,_⟩:=h
    rfl
  · obtain ⟨v,⟨b,S⟩,p,rfl,⟨r,l,rfl,hr1,hl1,_⟩,⟨g,hn,hs⟩,q⟩:=h
    dsimp only at *
    refine ⟨_,pss_cons (ps_asg (pe_b call_divmodB T.b_divmod boot_divmod (pa2 (pe_op op_sub (pv 1) (pe_ix (ix_tupK K) (pv 0) pe_int (fun _ _=>rfl))) (pe_b (call_sum_seqK K rfl) T.b_sum boot_sum (pa1 (pe_ix (ix_tupK K) (pv 0) pe_int (fun _ _=>rfl)))))) (pg_tupK K rfl (pgs_cons (pg_name (i:=2) sc_raised.nd rfl (Or.inl rfl)) (pgs_cons (pg_name (i:=3) sc_raised.nd rfl (Or.inl rfl)) pgs_nil))))
      (pss_cons (ps_set (i:=4) sc_raised.nd rfl (Or.inl rfl) pe_int)
      (pss_cons (ps_while PassesOwn.never (pt_cmpR op_ge (pv 3) (pe_ix (ix_listK K) (pe_ix (ix_tupK K) (pv 0) pe_int (fun _ _=>rfl)) (pv 4) (fun _ _=>rfl)) (nomark _))
        (pss_cons (ps_set (i:=3) sc_raised.nd rfl (Or.inl rfl) (pe_op op_sub (pv 3) (pe_ix (ix_listK K) (pe_ix (ix_tupK K) (pv 0) pe_int (fun _ _=>rfl)) (pv 4) (fun _ _=>rfl))))
          (pss_one (ps_set (i:=4) sc_raised.nd rfl (Or.inl rfl) (pe_op op_add (pv 4) pe_int)))))
      (pss_one (ps_ret (pe_op op_add (pe_op op_mul (pv 2) (pe_b (call_lenK K) T.b_len boot_len (pa1 (pe_ix (ix_tupK K) (pv 0) pe_int (fun _ _=>rfl))))) (pv 4)))))),?_⟩
    have h1:=g.len
    have h2:=g.sum
    have hl:(((S.map V.int).length:Nat):Int)=(S.length:Int):=by rw [List.length_map]
    refine ⟨_,rfl,_,rfl,r,_,_,_,rfl,rfl,.of hr1,rfl,_,_,rfl,rfl,_,rfl,r,_,_,_,rfl,rfl,.of hr1,rfl,l,S,rfl,.inl (.of hl1),_,_,rfl,⟨by omega,by omega⟩,fun p1 hp1=>?_⟩
    have s1:∀ o,Same H (upd H p1 o):=fun o=>Same.upd hp1
    refine ⟨p1,_,rfl,.of upd_same,rfl,_,_,rfl,_,_,rfl,rfl,?_⟩
    have hr0:0≤(p - b) % S.sum:=Int.emod_nonneg _ (by omega)
    have hr2:(p - b) % S.sum < S.sum:=Int.emod_lt_of_pos _ (by omega)
    refine ⟨fun m σ H2=>∃ (n:Nat) (x:Int),m=S.length - n∧n < S.length∧0≤x∧x < (S.drop n).sum∧Lad.walk S ((p - b) % S.sum)=n + Lad.walk (S.drop n) x∧Same H H2 ∧
      σ=[some (.ref r),some (.int p),some (.int ((p - b) / S.sum)),some (.int x),some (.int n)],⟨_,0,(p - b) % S.sum,rfl,by omega,hr0,by simpa using hr2,by simp,s1 _,rfl⟩,?_⟩
    rintro m σ H2 ⟨n,x,rfl,hnl,hx0,hx1,hw,s2,rfl⟩
    have hrr:=s2 _ _ hr1
    have hll:=s2 _ _ hl1
    refine ⟨_,rfl,_,rfl,r,_,_,_,rfl,rfl,.of hrr,rfl,_,rfl,l,_,_,_,rfl,rfl,.of hll,atI_ints (i:=(n:Int)) (by omega) (by omega),_,_,rfl,rfl,_,rfl,?_⟩
    rw [Int.toNat_natCast]
    have hd:=sum_drop S n hnl
    have hpos:=Lad.getD_pos g.2 hnl
    refine ite2 (fun hc=>?_) (fun hc=>?_)
    · have hc:S.getD n 0≤x:=of_decide_eq_true hc
      have hn1:n + 1 < S.length:=by
        rcases Nat.lt_or_ge (n + 1) S.length with z | z
        · exact z
        · rw [List.drop_eq_nil_of_le z,List.sum_nil] at hd
          omega
      refine ⟨fun σ' H'=>∃ (n':Nat) (x':Int),S.length - n' < S.length - n∧n' < S.length∧0≤x'∧x' < (S.drop n').sum∧Lad.walk S ((p - b) % S.sum)=n' + Lad.walk (S.drop n') x'∧Same H H' ∧
        σ'=[some (.ref r),some (.int p),some (.int ((p - b) / S.sum)),some (.int x'),some (.int n')],fun σ' H' ⟨n',x',l',r'⟩=>⟨_,l',n',x',rfl,r'⟩,?_⟩
      refine ⟨_,rfl,_,rfl,r,_,_,_,rfl,rfl,.of hrr,rfl,_,rfl,l,_,_,_,rfl,rfl,.of hll,atI_ints (i:=(n:Int)) (by omega) (by omega),_,_,rfl,rfl,?_⟩
      refine ⟨_,rfl,_,_,rfl,rfl,?_⟩
      refine ⟨n + 1,x - S.getD n 0,by omega,hn1,by omega,by omega,?_,s2,?_⟩
      · rw [hw,walk_step S n x hnl hc]
        omega
      · rw [Int.toNat_natCast]; rfl
    · have hc:¬ S.getD n 0≤x:=fun z=>hc (decide_eq_true z)
      refine ⟨_,rfl,_,rfl,r,_,_,_,rfl,rfl,.of hrr,rfl,l,_,rfl,.inl (.of hll),_,_,rfl,rfl,.inr ⟨by omega,by omega⟩,_,rfl,_,_,rfl,rfl,?_⟩
      have e:(p - b) / S.sum * (((S.map V.int).length:Nat):Int) + (n:Int)=Lad.num b S p:=by
        unfold Lad.num
        rw [hw,walk_stop S hnl (by omega),hl]
        omega
      show Q (.int ((p - b) / S.sum * (((S.map V.int).length:Nat):Int) + (n:Int))) H2
      rw [e]
      exact q _ s2
end
end Pr
namespace Pr
open PySem L2 PyProof.Rows
section
variable {P:Program} {w:World} {K:PySem.W.Frag} {mg:Str→Option Value} {base:Heap} {C:Addr}
inductive sp_lowered (vs:List V) (H:Hp) (Q:VK) (E:XK):Prop
  | mk (v:V) (st:Lad.Step) (n:Int) (h0_:vs=[v,.int n]) (h1_:RowL H v st) (h2_:SzOk st.2) (h3_:∀ t H',Same H H'→H' t=some (.tup [.int (Lad.fst st.1 st.2 n),.int (Lad.sz st.2 n)])→Q (.ref t) H'):sp_lowered vs H Q E
theorem sc_lowered:FnScope ["_law_row","_law_number","_law_turns","_law_place"] ["_law_row","_law_number"] (defScope s_law_lowered):=⟨rfl,rfl,rfl,by decide +kernel,rfl,by decide +kernel,by decide +kernel⟩
theorem lowered (T:Txt K mg C):Can P w K mg base 1 "_law_lowered" ["_law_row","_law_number"] sp_lowered:=by
  refine fn_can T.f_law_lowered sc_lowered (fun vs H Q E h=>?_) (fun f cdv A outer s H vs Q E hr h=>?_)
  · obtain ⟨v,st,n,rfl,_⟩:=h
    rfl
  · obtain ⟨v,⟨b,S⟩,k,rfl,⟨r,l,rfl,hr1,hl1,_⟩,⟨g,hn,hs⟩,q⟩:=h
    dsimp only at *
    refine ⟨_,pss_cons (ps_asg (pe_b call_divmodB T.b_divmod boot_divmod (pa2 (pv 1) (pe_b call_len_seq T.b_len boot_len (pa1 (pe_ix ix_tup (pv 0) pe_int (fun _ _=>rfl)))))) (pg_tup rfl (pgs_cons (pg_name (i:=2) sc_lowered.nd rfl (Or.inl rfl)) (pgs_cons (pg_name (i:=3) sc_lowered.nd rfl (Or.inl rfl)) pgs_nil))))
      (pss_one (ps_ret (pe_tup (pa2 (pe_op op_add (pe_op op_add (pe_ix ix_tup (pv 0) pe_int (fun _ _=>rfl)) (pe_op op_mul (pv 2) (pe_b (call_sum_seq rfl) T.b_sum boot_sum (pa1 (pe_ix ix_tup (pv 0) pe_int (fun _ _=>rfl))))))
          (pe_b (call_sum_seq rfl) T.b_sum boot_sum (pa1 (pe_slice sl_list (pe_ix ix_tup (pv 0) pe_int (fun _ _=>rfl)) po_none (po_some (pv 3))))))
        (pe_ix ix_list (pe_ix ix_tup (pv 0) pe_int (fun _ _=>rfl)) (pv 3) (fun _ _=>rfl)))))),?_⟩
    have h1:=g.len
    have h2:=g.sum
    have hl:(((S.map V.int).length:Nat):Int)=(S.length:Int):=by rw [List.length_map]
    refine ⟨_,rfl,_,rfl,r,_,_,_,rfl,rfl,.of hr1,rfl,l,_,rfl,.inl (.of hl1),k,_,rfl,⟨by omega,by omega⟩,fun p hp=>?_⟩
    have s1:∀ o,Same H (upd H p o):=fun o=>Same.upd hp
    refine ⟨p,_,rfl,.of upd_same,rfl,_,_,rfl,_,_,rfl,rfl,?_⟩
    have hk0:0≤k % (((S.map V.int).length:Nat):Int):=Int.emod_nonneg _ (by omega)
    have hk1:k % (((S.map V.int).length:Nat):Int) < (((S.map V.int).length:Nat):Int):=Int.emod_lt_of_pos _ (by omega)
    refine ⟨_,rfl,r,_,_,_,rfl,rfl,.of (s1 _ _ _ hr1),rfl,_,rfl,_,rfl,r,_,_,_,rfl,rfl,.of (s1 _ _ _ hr1),rfl,l,S,rfl,.inl (.of (s1 _ _ _ hl1)),_,_,rfl,rfl,.inr ⟨by omega,by omega⟩,_,_,rfl,rfl,?_⟩
    refine ⟨_,rfl,r,_,_,_,rfl,rfl,.of (s1 _ _ _ hr1),rfl,_,rfl,_,rfl,l,_,rfl,.of (s1 _ _ _ hl1),fun p2 hp2=>?_⟩
    have s2:∀ o,Same (upd H p _) (upd (upd H p _) p2 o):=fun o=>Same.upd hp2
    refine ⟨p2,S.take (k % (S.length:Int)).toNat,rfl,.inl (.of ?_),_,_,rfl,rfl,?_⟩
    · rw [upd_same,cut_take _ hk0,hl,List.map_take]
    · have hr2:=s2 (.lst (cutV (S.map V.int) none (some (k % (((S.map V.int).length:Nat):Int))))) _ _ (s1 _ _ _ hr1)
      have hl2:=s2 (.lst (cutV (S.map V.int) none (some (k % (((S.map V.int).length:Nat):Int))))) _ _ (s1 _ _ _ hl1)
      refine ⟨_,rfl,r,_,_,_,rfl,rfl,.of hr2,rfl,_,rfl,l,_,_,_,rfl,rfl,.of hl2,atI_ints hk0 (by omega),two_line,fun t ht=>?_⟩
      refine q t _ (((s1 _).trans (s2 _)).trans (Same.upd ht)) ?_
      rw [upd_same]
      show some (HO.tup [V.int (b + k / (((S.map V.int).length:Nat):Int) * S.sum + (S.take (k % (S.length:Int)).toNat).sum),V.int (S.getD (k % (((S.map V.int).length:Nat):Int)).toNat 0)])=_
      have e:b + k / (((S.map V.int).length:Nat):Int) * S.sum + (S.take (k % (S.length:Int)).toNat).sum=Lad.fst b S k:=by rw [hl]; rfl
      have e2:S.getD (k % (((S.map V.int).length:Nat):Int)).toNat 0=Lad.sz S k:=by rw [hl]; rfl
      rw [e,e2]
inductive sp_begins (vs:List V) (H:Hp) (Q:VK) (E:XK):Prop
  | mk (t:Addr) (r:Nat) (n:Int) (b:Int) (ps:List Int) (rows:List Lad.Step) (h0_:vs=[.ref t,.int (r:Int),.int n]) (h1_:ToldAt H t b ps rows) (h2_:LadOk b ps rows) (h3_:∀ H',Same H H'→Q (.int (Lad.down (((b,Lad.bars ps)::rows).take (r + 1)) n)) H'):sp_begins vs H Q E
theorem sc_begins:FnScope ["_law_told","_law_roll","_law_number","_law_row","_law_starts_here","_law_turns","_law_place"] ["_law_told","_law_roll","_law_number"] (defScope s_law_begins):=⟨rfl,rfl,rfl,by decide +kernel,rfl,by decide +kernel,by decide +kernel⟩
theorem begins (T:Txt K mg C):Can P w K mg base 2 "_law_begins" ["_law_told","_law_roll","_law_number"] sp_begins:=by
  refine fn_can T.f_law_begins sc_begins (fun vs H Q E h=>?_) (fun f cdv A outer s H vs Q E hr h=>?_)
  · obtain ⟨t,r,n,b,ps,rows,rfl,_⟩:=h
    rfl
  · obtain ⟨t,r,n,b,ps,rows,rfl,hT,ok,k⟩:=h
    obtain ⟨pa,ra,us,h1,h2,h3,h4⟩:=id hT
    obtain ⟨pok,hlen,_⟩:=partsB_ok ok.p
    have ht:=total_pos ok
    refine ⟨_,pss_cons (ps_for PassesOwn.never rfl (pi_list (pe_rev (pe_slice sl_list (pe_ix ix_tup (pv 0) pe_int (fun _ _=>rfl)) po_none (po_some (pv 1))) (pe_un un_neg pe_int))) (pg_name (i:=3) sc_begins.nd rfl (Or.inl rfl))
        (pss_one (ps_set (i:=2) sc_begins.nd rfl (Or.inl rfl) (pe_ix ix_tup (pe_can (lowered T) hr (pa2 (pv 3) (pv 2))) pe_int (fun _ _=>rfl)))))
      (pss_cons (ps_set (i:=4) sc_begins.nd rfl (Or.inl rfl) (pe_can (starts T) hr (pa1 (pv 0))))
      (pss_cons (ps_asg (pe_b call_divmodB T.b_divmod boot_divmod (pa2 (pv 2) (pe_b call_len_seq T.b_len boot_len (pa1 (pv 4))))) (pg_tup rfl (pgs_cons (pg_name (i:=5) sc_begins.nd rfl (Or.inl rfl)) (pgs_cons (pg_name (i:=6) sc_begins.nd rfl (Or.inl rfl)) pgs_nil))))
      (pss_one (ps_ret (pe_op op_add (pe_op op_add (pe_ix ix_tup (pv 0) pe_int (fun _ _=>rfl)) (pe_op op_mul (pv 5) (pe_can (turn T) hr (pa1 (pv 0))))) (pe_ix ix_list (pv 4) (pv 6) (fun _ _=>rfl))))))),?_⟩
    refine ⟨_,rfl,t,_,_,_,rfl,rfl,.of h1,rfl,_,rfl,_,rfl,ra,_,rfl,.of h3,fun p1 hp1=>?_⟩
    rw [cut_take _ (by omega),Int.toNat_natCast]
    refine ⟨_,rfl,p1,_,rfl,rfl,.of upd_same,fun p2 hp2=>?_⟩
    have s2:Same H (upd (upd H p1 (.lst (us.take r))) p2 (.lst (us.take r).reverse)):=(Same.upd hp1).trans (Same.upd hp2)
    have hlt:(us.take r).length=(rows.take r).length:=Paired.length (Paired.take _ h4)
    refine ⟨p2,rfl,⟨_,.of upd_same⟩,for_list (K:=K) (a:=p2) (xs:=(us.take r).reverse) (fun i σ H2=>i≤(us.take r).length∧∃ v,σ=[some (.ref t),some (.int (r:Int)),some (.int (Lad.down ((rows.take r).drop ((us.take r).length - i)) n)),v,none,none,none]∧Same (upd (upd H p1 (.lst (us.take r))) p2 (.lst (us.take r).reverse)) H2)
      ⟨Nat.zero_le _,none,by rw [Nat.sub_zero,hlt,List.drop_length]; rfl,Same.refl _⟩ (fun i σ H2 _ ⟨_,_,_,s3⟩=>.of (s3 _ _ upd_same)) ?_ ?_⟩
    · rintro i x σ H2 hx ⟨_,v,rfl,s3⟩
      have hi:i < (us.take r).length:=by
        have:=(List.getElem?_eq_some_iff.mp hx).1
        rwa [List.length_reverse] at this
      rw [List.getElem?_reverse hi] at hx
      obtain ⟨st,hst,hrow⟩:=Paired.get (Paired.take r h4) hx
      have hmem:st ∈ (b,Lad.bars ps)::rows:=List.mem_cons_of_mem _ (List.mem_of_mem_take (List.mem_of_getElem? hst))
      refine ⟨_,rfl,_,rfl,x,st,_,rfl,(hrow.same s2).same s3,(ok.steps st hmem).1,fun t2 H3 s4 ht2=>?_⟩
      refine ⟨t2,_,_,_,rfl,rfl,.of ht2,rfl,?_⟩
      refine ⟨hi,some x,?_,s3.trans s4⟩
      have e:=down_drop (rows.take r) n hst
      have e2:(us.take r).length - 1 - i + 1=(us.take r).length - i:=by omega
      have e3:(us.take r).length - 1 - i=(us.take r).length - (i + 1):=by omega
      rw [e2,e3] at e
      rw [e]
      rfl
    · rintro σ H2 ⟨_,v,rfl,s3⟩
      rw [List.length_reverse,Nat.sub_self,List.drop_zero]
      have sH2:=s2.trans s3
      refine ⟨_,rfl,t,b,ps,rows,rfl,hT.same sH2,ok,fun l H3 s4 hl3 d3=>?_⟩
      have sH3:=sH2.trans s4
      have hsl:=stF_len ps 0
      have hsp:1≤(Lad.stF 0 ps).length:=by
        rw [Lad.starts_bars pok,Lad.psums_len]
        exact (Lad.bars_good pok).len
      have hl':((((Lad.stF 0 ps).map V.int).length:Nat):Int)=((Lad.stF 0 ps).length:Int):=by rw [List.length_map]
      refine ⟨_,rfl,_,rfl,l,_,rfl,.inl (.of d3),_,_,rfl,⟨by omega,by omega⟩,fun p3 hp3=>?_⟩
      have s5:∀ o,Same H3 (upd H3 p3 o):=fun o=>Same.upd hp3
      refine ⟨p3,_,rfl,.of upd_same,rfl,_,_,rfl,_,_,rfl,rfl,?_⟩
      refine ⟨_,rfl,t,_,_,_,rfl,rfl,.of (s5 _ _ _ (sH3 _ _ h1)),rfl,_,rfl,_,rfl,t,b,ps,rows,rfl,hT.same (sH3.trans (s5 _)),ok,fun H4 s6=>⟨_,_,rfl,rfl,.inr ⟨by omega,by omega⟩,_,_,rfl,rfl,?_⟩⟩
      have d4:=s6 _ _ (s5 _ _ _ d3)
      refine ⟨_,rfl,_,rfl,l,_,_,_,rfl,rfl,.of d4,atI_ints (Int.emod_nonneg _ (by omega)) (Int.lt_of_lt_of_le (Int.emod_lt_of_pos _ (by omega)) (by omega)),_,_,rfl,rfl,?_⟩
      have e:=Lad.begins_eq pok b (Lad.down (rows.take r) n)
      rw [hl']
      show Q (.int (b + Lad.down (rows.take r) n / ((Lad.stF 0 ps).length:Int) * Lad.total ps + (Lad.stF 0 ps).getD (Lad.down (rows.take r) n % ((Lad.stF 0 ps).length:Int)).toNat 0)) H4
      rw [e]
      exact k _ ((sH3.trans (s5 _)).trans s6)
inductive sp_moment (vs:List V) (H:Hp) (Q:VK) (E:XK):Prop
  | mk (p:Addr) (t:Addr) (b:Int) (ps:List Int) (rows:List Lad.Step) (h0_:vs=[.ref p,.ref t]) (h1_:PotAt H p) (h2_:ToldAt H t b ps rows) (h3_:p≠t) (h4_:(∀ H',But p H H'→ToldAt H' t b ps rows)) (h5_:LadOk b ps rows) (h6_:∀ m H',-W30 < m→m < W30→But p H H'→PotAt H' p→Q (.int m) H'):sp_moment vs H Q E
theorem sc_moment:FnScope ["_law_pot_here","_law_told","_law_way","_law_far","_law_near","_law_roll","_law_end"] ["_law_pot_here","_law_told"] (defScope s_law_moment):=⟨rfl,rfl,rfl,by decide +kernel,rfl,by decide +kernel,by decide +kernel⟩
theorem pa4 {X:Cx} {a b c d:Expr} {ta tb tc td:TE} (ha:PE X a ta) (hb:PE X b tb) (hc:PE X c tc) (hd:PE X d td)
    (h2:starEach [a,b,c,d] X.env=(false,eval a X.env)::starEach [b,c,d] X.env:=by rfl) (h3:starEach [b,c,d] X.env=(false,eval b X.env)::starEach [c,d] X.env:=by rfl) (h4:starEach [c,d] X.env=(false,eval c X.env)::starEach [d] X.env:=by rfl) (h5:starEach [d] X.env=(false,eval d X.env)::starEach [] X.env:=by rfl) :
    PA X [a,b,c,d] (tCons ta (tCons tb (tCons tc (tCons td tNil)))):=pa_cons ha (pa_cons hb (pa_cons hc (pa_cons hd pa_nil h5) h4) h3) h2
theorem moment (T:Txt K mg C):Can P w K mg base 3 "_law_moment" ["_law_pot_here","_law_told"] sp_moment:=by
  refine fn_can T.f_law_moment sc_moment (fun vs H Q E h=>?_) (fun f cdv A outer s H vs Q E hr h=>?_)
  · obtain ⟨p,t,b,ps,rows,rfl,_⟩:=h
    rfl
  · obtain ⟨p,t,b,ps,rows,rfl,hp,hT,npt,hTb,ok,q⟩:=h
    have ht:=total_pos ok
    have hrl:=(rowsB_ok ok.r).1
    refine ⟨_,pss_cons (ps_set (i:=2) sc_moment.nd rfl (Or.inl rfl) (pe_can (digit T) hr (pa2 (pv 0) pe_int)))
      (pss_cons (ps_set (i:=3) sc_moment.nd rfl (Or.inl rfl) (pe_can (wide T) hr (pa1 (pv 0))))
      (pss_cons (ps_set (i:=4) sc_moment.nd rfl (Or.inl rfl) (pe_op op_sub (pe_op op_add (pe_ix (ix_tupK K) (pv 1) pe_int (fun _ _=>rfl)) (pe_can (digit T) hr (pa2 (pv 0) (pe_op op_add (pe_op op_mul pe_int (pe_can (turn T) hr (pa1 (pv 1)))) pe_int)))) (pe_op op_mul pe_int (pe_can (turn T) hr (pa1 (pv 1))))))
      (pss_cons (ps_set (i:=5) sc_moment.nd rfl (Or.inl rfl) (pe_can (digit T) hr (pa2 (pv 0) (pe_op op_add (pe_b (call_lenK K) T.b_len boot_len (pa1 (pe_ix (ix_tupK K) (pv 1) pe_int (fun _ _=>rfl)))) pe_int))))
      (pss_cons (ps_set (i:=6) sc_moment.nd rfl (Or.inl rfl) (pe_op op_sub (pe_can (begins T) hr (pa3 (pv 1) (pv 5) (pe_op op_sub (pe_can (digit T) hr (pa2 (pv 0) pe_int)) pe_int))) (pe_can (digit T) hr (pa2 (pv 0) pe_int))))
      (pss_one (ps_ret (pe_b (call_max2 rfl) T.b_max boot_max (pa2 (pe_op op_sub pe_int (pe_op op_pow pe_int pe_int)) (pe_b (call_min2 rfl) T.b_min boot_min (pa2 (pe_op op_sub (pe_op op_pow pe_int pe_int) pe_int)
        (pe_ix (ix_listK K) (pe_lst (pa4 (pv 4) (pv 4) (pv 3) (pv 6))) (pv 2) (fun _ _=>rfl)))))))))))),?_⟩
    refine ⟨_,rfl,p,_,rfl,hp,by decide +kernel,by decide +kernel,fun d1 H1 a1 b1 c1 hp1=>?_⟩
    refine ⟨_,rfl,p,rfl,hp1,fun d2 H2 a2 b2 c2 hp2=>?_⟩
    have c12:=c1.trans c2
    obtain ⟨pa,ra,us,h1,h2,h3,h4⟩:=id (hTb H2 c12)
    refine ⟨_,rfl,t,_,_,_,rfl,rfl,.of h1,rfl,_,rfl,_,rfl,t,b,ps,rows,rfl,hTb H2 c12,ok,fun H3 s3=>⟨_,_,rfl,rfl,.inl ⟨by decide +kernel,by decide +kernel⟩,_,_,rfl,rfl,?_⟩⟩
    have hp3:=hp2.same s3
    refine ⟨p,_,rfl,hp3,by omega,by omega,fun d3 H4 a3 b3 c4 hp4=>⟨_,_,rfl,rfl,?_⟩⟩
    have c14:But p H H4:=(But.same c12 s3).trans c4
    refine ⟨_,rfl,t,b,ps,rows,rfl,hTb H4 c14,ok,fun H5 s5=>⟨_,_,rfl,rfl,.inl ⟨by decide +kernel,by decide +kernel⟩,_,_,rfl,rfl,?_⟩⟩
    have c15:=But.same c14 s5
    obtain ⟨pa,ra,us,h1,h2,h3,h4⟩:=id (hTb H5 c15)
    have hul:us.length=rows.length:=Paired.length h4
    refine ⟨_,rfl,_,rfl,t,_,_,_,rfl,rfl,.of h1,rfl,ra,_,rfl,.inl (.of h3),_,_,rfl,rfl,p,_,rfl,hp4.same s5,by omega,by omega,fun d4 H6 a4 b4 c6 hp6=>?_⟩
    have c16:=c15.trans c6
    refine ⟨_,rfl,_,rfl,_,rfl,p,_,rfl,hp6,by decide +kernel,by decide +kernel,fun d5 H7 a5 b5 c7 hp7=>⟨_,_,rfl,rfl,?_⟩⟩
    have c17:=c16.trans c7
    obtain ⟨r4,rfl⟩:∃ r4:Nat,d4=r4:=⟨d4.toNat,by omega⟩
    refine ⟨t,r4,_,b,ps,rows,rfl,hTb H7 c17,ok,fun H8 s8=>?_⟩
    generalize Lad.down (((b,Lad.bars ps)::rows).take (r4 + 1)) (d5 - 10)=z
    have c18:=But.same c17 s8
    refine ⟨_,rfl,p,_,rfl,hp7.same s8,by decide +kernel,by decide +kernel,fun d6 H9 a6 b6 c9 hp9=>⟨_,_,rfl,rfl,?_⟩⟩
    have c19:=c18.trans c9
    refine ⟨_,_,rfl,rfl,⟨by decide +kernel,by decide +kernel,by decide +kernel⟩,_,_,rfl,rfl,_,_,rfl,rfl,⟨by decide +kernel,by decide +kernel,by decide +kernel⟩,_,_,rfl,rfl,?_⟩
    refine ⟨_,rfl,_,rfl,_,rfl,_,rfl,small_line (by show 4≤1000; decide +kernel),fun l hl=>?_⟩
    refine ⟨_,rfl,l,_,_,_,rfl,rfl,.of upd_same,atI_ints (S:=[b + d3 - 2 * Lad.total ps,b + d3 - 2 * Lad.total ps,d2,z - d6]) a1 b1,?_⟩
    generalize [b + d3 - 2 * Lad.total ps,b + d3 - 2 * Lad.total ps,d2,z - d6].getD d1.toNat 0=y
    refine ⟨_,_,rfl,_,_,rfl,?_⟩
    have e30:(10:Int) ^ (30:Int).toNat=W30:=by decide +kernel
    rw [e30]
    have hW:W30=1000000000000000000000000000000:=rfl
    refine q _ _ ?_ ?_ (But.same c19 (Same.upd hl)) (hp9.same (Same.upd hl))
    · split <;> split <;> omega
    · split <;> split <;> omega
end
end Pr
namespace Lad
def dn (st:List Step) (r:Nat) (n:Int):Int:=down (st.take (r + 1)) n
def ur (st:List Step) (r:Nat) (m:Int):Int:=up (st.take (r + 1)) m
theorem goods_take {st:List Step} (g:Goods st) (r:Nat):Goods (st.take r):=fun s hs=>g s (List.mem_of_mem_take hs)
section
variable {st:List Step} (g:Goods st)
include g
theorem dn_mono (r:Nat) {j k:Int} (h:j≤k):dn st r j + (k - j)≤dn st r k:=down_mono _ (goods_take g _) h
theorem ur_spec (r:Nat) (m:Int):dn st r (ur st r m)≤m∧m < dn st r (ur st r m + 1):=up_spec _ (goods_take g _) m
theorem le_ur (r:Nat) (m n:Int):n≤ur st r m↔dn st r n≤m:=by
  obtain ⟨a,b⟩:=ur_spec g r m
  constructor
  · intro h
    have:=dn_mono g r h
    omega
  · intro h
    refine Classical.byContradiction fun z=>?_
    have:=dn_mono g r (show ur st r m + 1≤n by omega)
    omega
theorem dn_succ {r:Nat} {s:Step} (e:st[r + 1]?=some s) (n:Int):dn st (r + 1) n=dn st r (fst s.1 s.2 n):=by
  unfold dn
  rw [List.take_add_one (i:=r + 1),e]
  exact down_snoc _ _ _
theorem ur_succ {r:Nat} {s:Step} (e:st[r + 1]?=some s) (m:Int):ur st (r + 1) m=num s.1 s.2 (ur st r m):=by
  unfold ur up
  rw [List.take_add_one (i:=r + 1),e,List.foldl_append]
  rfl
end
def low (st:List Step) (one:Int) (r:Nat):Int:=if dn st r (ur st r one) < one then ur st r one + 1 else ur st r one
def ceil (s:Step) (n:Int):Int:=if fst s.1 s.2 (num s.1 s.2 n) < n then num s.1 s.2 n + 1 else num s.1 s.2 n
theorem le_num {S:List Int} (g:Good S) (b p n:Int):n≤num b S p↔fst b S n≤p:=by
  obtain ⟨x,y⟩:=num_spec g b p
  constructor
  · intro h
    have:=fst_mono g b h
    omega
  · intro h
    refine Classical.byContradiction fun z=>?_
    have:=fst_mono g b (show num b S p + 1≤n by omega)
    omega
theorem ceil_le {s:Step} (g:Good s.2) (p n:Int):ceil s p≤n↔p≤fst s.1 s.2 n:=by
  obtain ⟨x,y⟩:=num_spec g s.1 p
  have h1:=le_num g s.1 (fst s.1 s.2 n)
  unfold ceil
  split
  · rename_i h
    constructor
    · intro z
      have:=fst_mono g s.1 z
      omega
    · intro z
      refine Classical.byContradiction fun w=>?_
      have:=fst_mono g s.1 (show n≤num s.1 s.2 p by omega)
      omega
  · rename_i h
    constructor
    · intro z
      have:=fst_mono g s.1 z
      omega
    · intro z
      refine Classical.byContradiction fun w=>?_
      have:=fst_mono g s.1 (show n≤num s.1 s.2 p by omega)
      omega
section
variable {st:List Step} (g:Goods st)
include g
theorem low_le (one:Int) (r:Nat) (n:Int):low st one r≤n↔one≤dn st r n:=by
  obtain ⟨x,y⟩:=ur_spec g r one
  unfold low
  split
  · rename_i h
    constructor
    · intro z
      have:=dn_mono g r z
      omega
    · intro z
      refine Classical.byContradiction fun w=>?_
      have:=dn_mono g r (show n≤ur st r one by omega)
      omega
  · rename_i h
    constructor
    · intro z
      have:=dn_mono g r z
      omega
    · intro z
      refine Classical.byContradiction fun w=>?_
      have:=dn_mono g r (show n≤ur st r one by omega)
      omega
theorem low_dn (one:Int) (r:Nat):one≤dn st r (low st one r):=(low_le g one r _).mp (Int.le_refl _)
theorem low_near (one:Int) (r:Nat):ur st r one≤low st one r∧low st one r≤ur st r one + 1:=by
  unfold low
  split <;> omega
theorem low_succ {r:Nat} {s:Step} (e:st[r + 1]?=some s) (one:Int):low st one (r + 1)=ceil s (low st one r):=by
  have gs:Good s.2:=g s (List.mem_of_getElem? e)
  have key:∀ n,low st one (r + 1)≤n↔ceil s (low st one r)≤n:=fun n=>by rw [low_le g,ceil_le gs,low_le g,dn_succ g e]
  have h1:=(key (low st one (r + 1))).mp (Int.le_refl _)
  have h2:=(key (ceil s (low st one r))).mpr (Int.le_refl _)
  omega
end
def runs (st:List Step) (one other:Int):Nat→Nat→List (Nat × Int × Int)
  | 0,r=>[(r,low st one r,ur st r other)]
  | k + 1,r=>if low st one (r + 1) < ur st (r + 1) other then
      (r,low st one r,fst (st.getD (r + 1) (0,[])).1 (st.getD (r + 1) (0,[])).2 (low st one (r + 1)))::(runs st one other k (r + 1)++[(r,fst (st.getD (r + 1) (0,[])).1 (st.getD (r + 1) (0,[])).2 (ur st (r + 1) other),ur st r other)])
    else [(r,low st one r,ur st r other)]
def many (l:List (Nat × Int × Int)):Int:=(l.map fun x=>x.2.2 - x.2.1).sum
theorem getD_of {st:List Step} {i:Nat} (h:i < st.length):st[i]?=some (st.getD i (0,[])):=by
  rw [List.getD_eq_getElem?_getD,List.getElem?_eq_getElem h]
  rfl
inductive Piece where
  | rest (a b:Int)
  | bar (r:Nat) (n:Int)
deriving DecidableEq
def ends (st:List Step):Piece→Int × Int
  | .rest a b=>(a,b)
  | .bar r n=>(dn st r n,dn st r (n + 1))
inductive Chain (st:List Step):Int→Int→List Piece→Prop
  | nil (x:Int):Chain st x x []
  | cons {x y:Int} {p:Piece} {ps:List Piece} (h:(ends st p).1=x) (t:Chain st (ends st p).2 y ps):Chain st x y (p::ps)
theorem Chain.app {st:List Step} {x y z:Int} {ps qs:List Piece} (h:Chain st x y ps) (t:Chain st y z qs):Chain st x z (ps++qs):=by
  induction h with
  | nil x=>exact t
  | cons h _ ih=>exact .cons h (ih t)
def barsOf (r:Nat) (f:Int):Nat→List Piece
  | 0=>[]
  | n + 1=>.bar r f::barsOf r (f + 1) n
theorem barsOf_len (r:Nat):∀ (n:Nat) (f:Int),(barsOf r f n).length=n
  | 0,_=>rfl
  | n + 1,f=>by unfold barsOf; rw [List.length_cons,barsOf_len r n]
theorem barsOf_snoc (r:Nat):∀ (n:Nat) (f:Int),barsOf r f (n + 1)=barsOf r f n++[.bar r (f + n)]
  | 0,f=>by show [Piece.bar r f]=[Piece.bar r (f + ((0:Nat):Int))]; simp
  | n + 1,f=>by
    show Piece.bar r f::barsOf r (f + 1) (n + 1)=Piece.bar r f::(barsOf r (f + 1) n++[.bar r (f + ((n + 1:Nat):Int))])
    rw [barsOf_snoc r n (f + 1)]
    congr 4
    omega
theorem mem_barsOf {r:Nat} {p:Piece}:∀ {n:Nat} {f:Int},p ∈ barsOf r f n→∃ k:Int,p=.bar r k∧f≤k∧k < f + n
  | 0,f,h=>by cases h
  | n + 1,f,h=>by
    rcases List.mem_cons.mp h with h | h
    · exact ⟨f,h,Int.le_refl _,by omega⟩
    · obtain ⟨k,e,h1,h2⟩:=mem_barsOf h
      exact ⟨k,e,by omega,by omega⟩
theorem chain_bars {st:List Step} (r:Nat):∀ (n:Nat) (f:Int),Chain st (dn st r f) (dn st r (f + n)) (barsOf r f n)
  | 0,f=>by rw [show f + ((0:Nat):Int)=f by omega]; exact .nil _
  | n + 1,f=>by
    refine .cons rfl ?_
    have:=chain_bars (st:=st) r n (f + 1)
    rw [show f + 1 + (n:Int)=f + ((n + 1:Nat):Int) by omega] at this
    exact this
def runBars (l:List (Nat × Int × Int)):List Piece:=l.flatMap fun x=>barsOf x.1 x.2.1 (x.2.2 - x.2.1).toNat
structure BarR (st:List Step) (one other:Int) (r:Nat) (n:Int):Prop where
  rl:r < st.length
  lo:one≤dn st r n
  hi:dn st r (n + 1)≤other
  up:∀ s,st[r + 1]?=some s→dn st (r + 1) (num s.1 s.2 n) < one∨other < dn st (r + 1) (num s.1 s.2 n + 1)
structure RunOk (st:List Step) (one other:Int) (x:Nat × Int × Int):Prop where
  le:x.2.1≤x.2.2
  lo:low st one x.1≤x.2.1
  hi:x.2.2≤ur st x.1 other
theorem runs_ok {st:List Step} (g:Goods st) {one other:Int}:∀ (k r:Nat),r + k + 1=st.length→low st one r≤ur st r other→(∀ x ∈ runs st one other k r,RunOk st one other x∧r≤x.1∧x.1 < st.length∧∀ n,x.2.1≤n→n < x.2.2→BarR st one other x.1 n)∧Chain st (dn st r (low st one r)) (dn st r (ur st r other)) (runBars (runs st one other k r))
  | 0,r,hl,h=>by
    unfold runs
    refine ⟨fun x hx=>?_,?_⟩
    · rw [List.mem_singleton.mp hx]
      refine ⟨⟨h,Int.le_refl _,Int.le_refl _⟩,Nat.le_refl _,by show r < _; omega,fun n h1 h2=>⟨by show r < _; omega,(low_le g one r n).mp h1,(le_ur g r other (n + 1)).mp (by show n + 1≤ur st r other; have:n < ur st r other:=h2; omega),fun s e=>?_⟩⟩
      have e':st[r + 1]?=some s:=e
      rw [List.getElem?_eq_none (by omega)] at e'
      cases e'
    · unfold runBars
      rw [List.flatMap_cons,List.flatMap_nil,List.append_nil]
      have:=chain_bars (st:=st) r (ur st r other - low st one r).toNat (low st one r)
      rw [show low st one r + ((ur st r other - low st one r).toNat:Int)=ur st r other by omega] at this
      exact this
  | k + 1,r,hl,h=>by
    have e:=getD_of (show r + 1 < st.length by omega)
    have gs:Good (st.getD (r + 1) (0,[])).2:=g _ (List.mem_of_getElem? e)
    have a1:low st one r≤fst (st.getD (r + 1) (0,[])).1 (st.getD (r + 1) (0,[])).2 (low st one (r + 1)):=(ceil_le gs _ _).mp (by rw [← low_succ g e]; exact Int.le_refl _)
    have a2:fst (st.getD (r + 1) (0,[])).1 (st.getD (r + 1) (0,[])).2 (ur st (r + 1) other)≤ur st r other:=(le_num gs _ _ _).mp (by rw [← ur_succ g e]; exact Int.le_refl _)
    unfold runs
    split
    · rename_i z
      have a3:=fst_mono gs (st.getD (r + 1) (0,[])).1 (Int.le_of_lt z)
      obtain ⟨ih1,ih2⟩:=runs_ok g k (r + 1) (by omega) (Int.le_of_lt z)
      refine ⟨fun x hx=>?_,?_⟩
      · rcases List.mem_cons.mp hx with rfl | hx
        · refine ⟨⟨a1,Int.le_refl _,by show fst (st.getD (r + 1) (0,[])).1 (st.getD (r + 1) (0,[])).2 (low st one (r + 1))≤ur st r other; omega⟩,Nat.le_refl _,by show r < _; omega,fun n h1 h2=>⟨by show r < _; omega,(low_le g one r n).mp h1,(le_ur g r other (n + 1)).mp ?_,fun s es=>?_⟩⟩
          · have:n < fst (st.getD (r + 1) (0,[])).1 (st.getD (r + 1) (0,[])).2 (low st one (r + 1)):=h2
            show n + 1≤ur st r other
            omega
          · have es':st[r + 1]?=some s:=es
            rw [e] at es'
            cases es'
            refine .inl ?_
            show dn st (r + 1) _ < one
            have h2':n < fst (st.getD (r + 1) (0,[])).1 (st.getD (r + 1) (0,[])).2 (low st one (r + 1)):=h2
            have:=(le_num gs (st.getD (r + 1) (0,[])).1 n (low st one (r + 1)))
            have:=(low_le g one (r + 1) (num (st.getD (r + 1) (0,[])).1 (st.getD (r + 1) (0,[])).2 n))
            omega
        · rcases List.mem_append.mp hx with hx | hx
          · obtain ⟨b1,b2,b3,b4⟩:=ih1 x hx
            exact ⟨b1,by omega,b3,b4⟩
          · rw [List.mem_singleton.mp hx]
            refine ⟨⟨a2,by show low st one r≤fst (st.getD (r + 1) (0,[])).1 (st.getD (r + 1) (0,[])).2 (ur st (r + 1) other); omega,Int.le_refl _⟩,Nat.le_refl _,by show r < _; omega,fun n h1 h2=>⟨by show r < _; omega,(low_le g one r n).mp ?_,(le_ur g r other (n + 1)).mp ?_,fun s es=>?_⟩⟩
            · have:fst (st.getD (r + 1) (0,[])).1 (st.getD (r + 1) (0,[])).2 (ur st (r + 1) other)≤n:=h1
              show low st one r≤n
              omega
            · have:n < ur st r other:=h2
              show n + 1≤ur st r other
              omega
            · have es':st[r + 1]?=some s:=es
              rw [e] at es'
              cases es'
              refine .inr ?_
              show other < dn st (r + 1) _
              have h1':fst (st.getD (r + 1) (0,[])).1 (st.getD (r + 1) (0,[])).2 (ur st (r + 1) other)≤n:=h1
              have:=(le_num gs (st.getD (r + 1) (0,[])).1 n (ur st (r + 1) other)).mpr h1'
              have:=(le_ur g (r + 1) other (num (st.getD (r + 1) (0,[])).1 (st.getD (r + 1) (0,[])).2 n + 1))
              omega
      · unfold runBars at ih2 ⊢
        rw [List.flatMap_cons,List.flatMap_append,List.flatMap_cons,List.flatMap_nil,List.append_nil]
        rw [dn_succ g e,dn_succ g e] at ih2
        have c1:=chain_bars (st:=st) r (fst (st.getD (r + 1) (0,[])).1 (st.getD (r + 1) (0,[])).2 (low st one (r + 1)) - low st one r).toNat (low st one r)
        rw [show low st one r + ((fst (st.getD (r + 1) (0,[])).1 (st.getD (r + 1) (0,[])).2 (low st one (r + 1)) - low st one r).toNat:Int)=fst (st.getD (r + 1) (0,[])).1 (st.getD (r + 1) (0,[])).2 (low st one (r + 1)) by omega] at c1
        have c2:=chain_bars (st:=st) r (ur st r other - fst (st.getD (r + 1) (0,[])).1 (st.getD (r + 1) (0,[])).2 (ur st (r + 1) other)).toNat (fst (st.getD (r + 1) (0,[])).1 (st.getD (r + 1) (0,[])).2 (ur st (r + 1) other))
        rw [show fst (st.getD (r + 1) (0,[])).1 (st.getD (r + 1) (0,[])).2 (ur st (r + 1) other) + ((ur st r other - fst (st.getD (r + 1) (0,[])).1 (st.getD (r + 1) (0,[])).2 (ur st (r + 1) other)).toNat:Int)=ur st r other by omega] at c2
        exact c1.app (ih2.app c2)
    · rename_i z
      refine ⟨fun x hx=>?_,?_⟩
      · rw [List.mem_singleton.mp hx]
        refine ⟨⟨h,Int.le_refl _,Int.le_refl _⟩,Nat.le_refl _,by show r < _; omega,fun n h1 h2=>⟨by show r < _; omega,(low_le g one r n).mp h1,(le_ur g r other (n + 1)).mp (by show n + 1≤ur st r other; have:n < ur st r other:=h2; omega),fun s es=>?_⟩⟩
        have es':st[r + 1]?=some s:=es
        rw [e] at es'
        cases es'
        show dn st (r + 1) _ < one∨other < dn st (r + 1) _
        generalize num (st.getD (r + 1) (0,[])).1 (st.getD (r + 1) (0,[])).2 n=gg
        have:=(low_le g one (r + 1) gg)
        have:=(le_ur g (r + 1) other (gg + 1))
        omega
      · unfold runBars
        rw [List.flatMap_cons,List.flatMap_nil,List.append_nil]
        have:=chain_bars (st:=st) r (ur st r other - low st one r).toNat (low st one r)
        rw [show low st one r + ((ur st r other - low st one r).toNat:Int)=ur st r other by omega] at this
        exact this
theorem runBars_len {st:List Step} {one other:Int}:∀ (l:List (Nat × Int × Int)),(∀ x ∈ l,x.2.1≤x.2.2)→((runBars l).length:Int)=many l
  | [],_=>rfl
  | x::t,h=>by
    have h1:=h x List.mem_cons_self
    have ih:=runBars_len (st:=st) (one:=one) (other:=other) t fun y hy=>h y (List.mem_cons_of_mem _ hy)
    unfold runBars many at ih ⊢
    rw [List.flatMap_cons,List.length_append,barsOf_len,List.map_cons,List.sum_cons]
    omega
end Lad
namespace L2
open PySem PySem.Spec PyProof.Rows
theorem turn_long {P:Program} {w:World} {K:PySem.W.Frag} {tg:Expr} (it:Addr) (lo:Int) (n:Nat):Turn P w K tg (Itr lo n) [it] it (fun i h=>IsLongIter h it (lo + (i:Nat) * 1) ((n:Int) - (i:Nat)) 1) where
  mem:=by simp
  obj:=fun i h st b hb=>by
    have e:b=it:=by simpa using hb
    subst e
    exact ⟨_,st,fun v z=>by
      have z':Data.fields _=Data.cell v:=z
      cases z'⟩
  keep:=fun i h h' st k=>k it (by simp) _ st
  item:=by
    intro X hP hw hK hc i pins s σ H E I hf st hg
    subst hP hw hK
    obtain ⟨f0,f1,f2,f3,f4,f5⟩:=hf it (by simp)
    have W:=Walks.longrange (prog:=X.prog) (w:=X.w) (I.ok.hd hc) it lo 1 n
    refine W.item i s _ _ hg st fun v h' tk hv st' kk=>?_
    obtain ⟨t,rfl⟩:=hv
    have I1:Inv X pins σ H { s with heap:=h',toks:=tk }:=I.turned (fun b o hb e=>kk b o (by simpa using hb) e) f0 f1 f3 f4 f5
    refine ⟨_,rfl,go_of (s:={ s with heap:=h',toks:=tk }) (n:="longrange_iterator") st' rfl rfl (by decide) ⟨.int (lo + i),H,I1,⟨t,?_⟩,⟨rfl,rfl⟩,st',fun b hb=>(hf b hb).1⟩⟩
    rw [Int.mul_one]
  done:=by
    intro X hP hw hK hc i pins s σ H E I hf st hg
    subst hP hw hK
    obtain ⟨f0,f1,f2,f3,f4,f5⟩:=hf it (by simp)
    exact wpAny_pyNext_long_end (I.ok.hd hc) st (by have:n≤i:=hg; omega) fun h' eb=>⟨rfl,I.turned (t':=s.toks) (fun b o hb e=>eb b o hb e) f0 f1 f3 f4 f5⟩
  self:=fun _ _ _ _ _ st h=>wpAny_pyIter_longiter st h
section
variable {X:Cx} {tg:Expr}
theorem range_itL {pins:List (Addr × Obj)} {σ:St} {H:Hp} {s:Shared} {R:It→Hp→Prop} {E:Value→Shared→Prop} {lo hi:Int} {t u v:Tok} {tk:Nat} (I:Inv X pins σ H s)
    (q:R (Itr lo (hi - lo).toNat) H):wpAny (model X.prog X.w) X.A (pyIter (.ref s.heap.objs.size)) (PIE X pins σ tg R) E { s with heap:=s.heap.push { cls:=.type "range",data:=.fields #[.int lo t,.int hi u,.int 1 v] },toks:=tk }:=by
  have I1:Inv X pins σ H { s with heap:=s.heap.push { cls:=.type "range",data:=.fields #[.int lo t,.int hi u,.int 1 v] },toks:=tk }:=I.kept fun b o e=>Heap.get?_push_of_some _ e
  have e1:lo + ((0:Nat):Int) * 1=lo:=by simp
  have e2:(((hi - lo).toNat:Nat):Int) - ((0:Nat):Int)=Builtin.Range.rangeSize lo hi 1:=by rw [rangeSize_one]; split <;> omega
  cases hsm:Builtin.Range.small lo hi 1 with
  | true =>
    refine wpAny_pyIter_range (IsRange.new ..) hsm ?_
    refine ⟨(s.heap.push { cls:=.type "range",data:=.fields #[.int lo t,.int hi u,.int 1 v] }).objs.size,[(s.heap.push { cls:=.type "range",data:=.fields #[.int lo t,.int hi u,.int 1 v] }).objs.size],_,_,H,rfl,
      I1.kept (t':=tk) fun b o e=>Heap.get?_push_of_some _ e,turn_range _ lo (hi - lo).toNat,?_,fun b hb=>?_,q⟩
    · show IsRangeIter _ _ (lo + ((0:Nat):Int) * 1) ((((hi - lo).toNat:Nat):Int) - ((0:Nat):Int)) 1
      rw [e1,e2]
      exact Heap.get?_push_size _ rfl
    · have e:b=(s.heap.push { cls:=.type "range",data:=.fields #[.int lo t,.int hi u,.int 1 v] }).objs.size:=by simpa using hb
      subst e
      exact I1.fpOk (Nat.le_refl _) (I1.hok.fresh (Nat.le_refl _))
  | false =>
    refine wpAny_pyIter_longrange (IsRange.new ..) hsm ?_
    refine ⟨(s.heap.push { cls:=.type "range",data:=.fields #[.int lo t,.int hi u,.int 1 v] }).objs.size,[(s.heap.push { cls:=.type "range",data:=.fields #[.int lo t,.int hi u,.int 1 v] }).objs.size],_,_,H,rfl,
      I1.kept (t':=tk) fun b o e=>Heap.get?_push_of_some _ e,turn_long _ lo (hi - lo).toNat,?_,fun b hb=>?_,q⟩
    · show IsLongIter _ _ (lo + ((0:Nat):Int) * 1) ((((hi - lo).toNat:Nat):Int) - ((0:Nat):Int)) 1
      rw [e1,e2]
      exact Heap.get?_push_size _ rfl
    · have e:b=(s.heap.push { cls:=.type "range",data:=.fields #[.int lo t,.int hi u,.int 1 v] }).objs.size:=by simpa using hb
      subst e
      exact I1.fpOk (Nat.le_refl _) (I1.hok.fresh (Nat.le_refl _))
inductive iRngLX (R:It→Hp→Prop) (vs:List V) (H1:Hp):Prop
  | mk (i j:Int) (e:vs=[.int i,.int j]) (q:R (Itr i (j - i).toNat) H1):iRngLX R vs H1
def iRngL (ta:TA):TI:=fun σ H R=>ta σ H fun vs H1=>iRngLX R vs H1
theorem pi_rangeL {a b:Expr} {ta:TA} {p pos:Pos} (hg:Gl X "range") (hm:X.mg "range"=none) (ha:PA X [a,b] ta) (hs:starEach [a,b] X.env=[(false,eval a X.env),(false,eval b X.env)]:=by rfl) (hs2:starEach [b] X.env=[(false,eval b X.env)]:=by rfl) :
    PI X tg (.Call (.Name "range" p) [a,b] [] pos) (iRngL ta):=by
  intro pins s σ H R I h
  refine Call_ (ld_blt I hg hm boot_range (PyProof.Rows.callWith_type1 (thn (ha pos pins s σ H _ I h) fun us s1 ⟨vs,H1,I1,r1,q1⟩=>?_) (by rw [hs,hs2]) (by rw [hs2]; rfl)))
  obtain ⟨i,j,e,q⟩:=q1
  subst e
  cases r1 with
  | cons r rr =>
    cases rr with
    | cons r' rr =>
      cases rr
      obtain ⟨t,rfl⟩:=r
      obtain ⟨t',rfl⟩:=r'
      exact call_range_2 (range_itL I1 q)
end
end L2
namespace L2
open PySem PySem.Spec PyProof.Rows
section
variable {X:Cx} {pos:Pos}
inductive tPar3X (i j k:Nat) (D:Ends) (σ:St) (vs:List V) (H1:Hp):Prop
  | mk (v w u:V) (e:vs=[v,w,u]) (q:D.nx (((σ.set i (some v)).set j (some w)).set k (some u)) H1):tPar3X i j k D σ vs H1
def tPar3 (i j k:Nat) (ta:TA):TS:=fun D σ H=>ta σ H fun vs H1=>tPar3X i j k D σ vs H1
theorem ps_par3 {i j k:Nat} {x y z:Str} {a b c:Expr} {ta:TA} {px py pz pt:Pos} {kt k2 pt2} (hc:X.calm=true) (hN:X.N.Nodup) (hi:X.N[i]?=some x) (hj:X.N[j]?=some y) (hk:X.N[k]?=some z) (hij:i≠j) (hik:i≠k) (hjk:j≠k)
    (hx:X.env.scope.names.lookup x=some .local) (hy:X.env.scope.names.lookup y=some .local) (hz:X.env.scope.names.lookup z=some .local) (ha:PA X [a,b,c] ta)
    (hw:swappedStores [.Tuple [.Name x px,.Name y py,.Name z pz] kt pt] (.Tuple [a,b,c] k2 pt2) X.env=pure (some [x,y,z]))
    (hs:swapsWithSole [.Tuple [.Name x px,.Name y py,.Name z pz] kt pt] (.Tuple [a,b,c] k2 pt2) pos.line X.env=pure false:=by rfl) :
    PS X (.Assign [.Tuple [.Name x px,.Name y py,.Name z pz] kt pt] (.Tuple [a,b,c] k2 pt2) pos) (tPar3 i j k ta):=by
  refine ⟨?_⟩
  intro pins s σ H D I h
  rw [exec_Assign_arm]
  refine wpAny_bind (wpAny_standAt ?_)
  rw [hs]
  refine wpAny_bind (wpAny_pure ?_)
  rw [if_neg (by decide)]
  refine wpAny_bind (Tuple_ (thn (ha _ pins s σ H _ I h) fun us s1 ⟨vs,H1,I1,r1,q1⟩=>?_))
  obtain ⟨v,w,u,e1,q1⟩:=q1
  subst e1
  obtain ⟨u1,u2,u3,rfl,rv,rw',ru⟩:∃ u1 u2 u3,us=[u1,u2,u3]∧RelV v u1∧RelV w u2∧RelV u u3:=by
    cases r1 with
    | cons p q =>
      cases q with
      | cons p' q' =>
        cases q' with
        | cons p'' q'' =>
          cases q''
          exact ⟨_,_,_,rfl,p,p',p''⟩
  refine wpAny_newObj_type ?_ (by show 3≤sizeLine; decide)
  have I2:Inv X pins σ H1 { s1 with heap:=s1.heap.push { cls:=.type "tuple",data:=.seq [u1,u2,u3].toArray } }:=I1.kept (t':=s1.toks) fun b o e=>Heap.get?_push_of_some _ e
  rw [hw]
  refine wpAny_bind (wpAny_pure ?_)
  show wpAny (model X.prog X.w) X.A (do rule "assign.swapped-stores"; let items ← unpackItems (.ref s1.heap.objs.size) 3 none; assignInOrder [fun v=>bindName X.env z v,fun v=>bindName X.env y v,fun v=>bindName X.env x v] items.reverse; pure Flow.next) _ _ _
  refine wpAny_bind (wpAny_rule (wpAny_bind (unpackItems_tuple (items:=#[u1,u2,u3]) (I.ok.hd hc) (IsTup.new s1.heap _) fun h' hx'=>?_)))
  have I3:=I2.kept (h':=h') (t':=s1.toks) fun b o e=>hx' b o (Nat.ne_of_lt (Heap.lt_size e)) e
  show wpAny _ _ (assignInOrder [fun v=>bindName X.env z v,fun v=>bindName X.env y v,fun v=>bindName X.env x v] [u3,u2,u1] >>= fun _=>pure Flow.next) _ _ _
  refine wpAny_bind (assignInOrder_cons (wpAny_bindName (store_ok I3 hN hk (.inl hz) ru (fun s2 I4=>?_) (.inr hz))))
  refine assignInOrder_cons (wpAny_bindName (store_ok I4 hN hj (.inl hy) rw' (fun s3 I5=>?_) (.inr hy)))
  refine assignInOrder_cons (wpAny_bindName (store_ok I5 hN hi (.inl hx) rv (fun s4 I6=>assignInOrder_nil (wpAny_pure ?_)) (.inr hx)))
  have e:((σ.set k (some u)).set j (some w)).set i (some v)=((σ.set i (some v)).set j (some w)).set k (some u):=by
    rw [List.set_comm _ _ (Ne.symm hij),List.set_comm (some u) (some v) (Ne.symm hik),List.set_comm (some u) (some w) (Ne.symm hjk)]
  rw [e] at I6
  exact ⟨_,H1,I6,q1⟩
end
end L2
namespace L2
open PySem PySem.Spec PyProof.Rows
section
variable {prog:Program} {w:World} {A:Around} {R:Result→Shared→Prop} {s:Shared} {elt t0 i0 t1 i1:Expr} {ifs:List Expr} {scope:Scope} {pos:Pos} {it acc:Value} {env:Env}
theorem compTurn_two0 (elt t0 i0 t1 i1:Expr) (ifs:List Expr) (scope:Scope) (pos:Pos) (it acc:Value) (env:Env) :
    compTurn (.ListComp elt [⟨t0,i0,[],0⟩,⟨t1,i1,ifs,0⟩] scope pos) 0 it acc env=(do
      standAt i0.pos
      match ← pyNext it with
      | none=>pure (.done .next)
      | some v =>
        letOwnedTupleGo t0 it v
        assign t0 env v
        let x ← eval i1 env
        standAt i1.pos
        let x ← foldedSetIterable i1 env x
        let _ ← runOwn (.compStart (.ListComp elt [⟨t0,i0,[],0⟩,⟨t1,i1,ifs,0⟩] scope pos) 1 (← holding [x] (pyIter x)) acc env) env
        again (.compLoop (.ListComp elt [⟨t0,i0,[],0⟩,⟨t1,i1,ifs,0⟩] scope pos) 0 it acc env)):=by
  unfold compTurn
  simp only [List.getElem?_cons_zero,List.getElem?_cons_succ,bind_assoc,pure_bind,Nat.zero_add,List.forIn_nil]
  rfl
theorem compTurn_two1 (elt t0 i0 t1 i1:Expr) (ifs:List Expr) (scope:Scope) (pos:Pos) (it acc:Value) (env:Env) :
    compTurn (.ListComp elt [⟨t0,i0,[],0⟩,⟨t1,i1,ifs,0⟩] scope pos) 1 it acc env=(do
      standAt i1.pos
      match ← pyNext it with
      | none=>pure (.done .next)
      | some v =>
        letOwnedTupleGo t1 it v
        assign t1 env v
        let mut ok:=true
        for c in ifs do
          if ok then ok ← isTrue c env (eval c env)
        if ok then
          (do let _ ← call (.builtin "list.append") [acc,← eval elt env])
        again (.compLoop (.ListComp elt [⟨t0,i0,[],0⟩,⟨t1,i1,ifs,0⟩] scope pos) 1 it acc env)):=by rfl
theorem compStart_two {E:Value→Shared→Prop}
    (h0:codeAny (model prog w) A (.compLoop (.ListComp elt [⟨t0,i0,[],0⟩,⟨t1,i1,ifs,0⟩] scope pos) 1 it acc env) R s)
    (h:wpAny (model prog w) A (pyIter it) (fun it' s'=>codeAny (model prog w) A (.compLoop (.ListComp elt [⟨t0,i0,[],0⟩,⟨t1,i1,ifs,0⟩] scope pos) 1 it' acc env) R s')
      (notedBy (model prog w) A env fun x s'=>R (.error x) s') s) :
    codeAny (model prog w) A (.compStart (.ListComp elt [⟨t0,i0,[],0⟩,⟨t1,i1,ifs,0⟩] scope pos) 1 it acc env) R s:=by
  refine codeAny_of_tree ?_
  show wpAny _ _ ((compStart (.ListComp elt [⟨t0,i0,[],0⟩,⟨t1,i1,ifs,0⟩] scope pos) 1 it acc env).onRaise (fun x=>do noteFrame x env; standAt theWindowsPlace)) _ _ s
  refine wpAny_notedAt ?_
  unfold compStart
  show wpAny _ _ (ask >>= _) _ _ s
  refine wpAny_bind (wpAny_askSetting (wpAny_ite ?_))
  split
  · first
      | exact wpAny_bind (wpAny_pure (wpAny_pure (And.intro rfl h0)))
      | exact wpAny_pure (And.intro rfl h0)
  · first
      | exact wpAny_bind (wpAny_rule (wpAny_bind (wpAny_standAt (wpAny_bind (wpAny_mono h (fun it' s' h'=>wpAny_pure (And.intro rfl h')) fun _ _ x=>x)))))
      | (refine wpAny_bind (wpAny_rule ?_); show wpAny _ _ (standAt i1.pos >>= _) _ _ s; exact wpAny_bind (wpAny_standAt (wpAny_bind (wpAny_mono h (fun it' s' h'=>wpAny_pure (And.intro rfl h')) fun _ _ x=>x))))
theorem compLoop_two0 (I:Nat→Shared→Prop)
    (turn:∀ n s,I n s→wpAny (model prog w) A (pyNext it) (fun r s1=>match r with
      | none=>R (.ok .next) s1
      | some v=>wpAny (model prog w) A (letOwnedTupleGo t0 it v) (fun _ s1=>wpAny (model prog w) A (assign t0 env v) (fun _ s2 =>
          wpAny (model prog w) A (eval i1 env) (fun x s3=>wpAny (model prog w) A (pyIter x) (fun it2 s4 =>
            codeAny (model prog w) A (.compStart (.ListComp elt [⟨t0,i0,[],0⟩,⟨t1,i1,ifs,0⟩] scope pos) 1 it2 acc env) (fun r s5=>match r with | .ok _=>∃ m,m < n∧I m s5 | .error _=>False) s4) (fun _ _=>False) s3) (fun _ _=>False) s2) (fun _ _=>False) s1) (fun _ _=>False) s1) (fun _ _=>False) s)
    (n:Nat) (h:I n s) (hs:∀ v,foldedSetIterable i1 env v=pure v) :
    codeAny (model prog w) A (.compLoop (.ListComp elt [⟨t0,i0,[],0⟩,⟨t1,i1,ifs,0⟩] scope pos) 0 it acc env) R s:=by
  refine codeAny_loop rfl I (fun n s hI=>?_) n h
  show wpAny _ A ((compTurn (.ListComp elt [⟨t0,i0,[],0⟩,⟨t1,i1,ifs,0⟩] scope pos) 0 it acc env).onRaise (fun x=>do noteFrame x env; theTreesLotGoes x)) _ _ s
  refine wpAny_noted ?_
  rw [compTurn_two0]
  refine wpAny_bind (wpAny_standAt (wpAny_bind (wpAny_mono (turn n s hI) (fun r s1 h1=>?_) fun _ _ h'=>h'.elim)))
  cases r with
  | none=>exact wpAny_pure h1
  | some v =>
    refine wpAny_bind (wpAny_mono h1 (fun _ s1 h1=>?_) fun _ _ h'=>h'.elim)
    refine wpAny_bind (wpAny_mono h1 (fun _ s2 h2=>wpAny_bind (wpAny_mono h2 (fun x s3 h3=>?_) fun _ _ h'=>h'.elim)) fun _ _ h'=>h'.elim)
    refine wpAny_bind (wpAny_standAt ?_)
    rw [hs]
    refine wpAny_bind (wpAny_pure (wpAny_bind (wpAny_holding (wpAny_mono h3 (fun it2 s4 h4=>?_) fun _ _ h'=>h'.elim))))
    refine wpAny_bind (wpAny_runOwn ?_)
    rw [Around.mark_none]
    refine codeAny_mono h4 fun r s5 h5=>?_
    cases r with
    | ok f=>exact wpAny_pure ⟨rfl,h5⟩
    | error e=>exact h5.elim
theorem compLoop_two1 (I:Nat→Shared→Prop)
    (turn:∀ n s,I n s→wpAny (model prog w) A (pyNext it) (fun r s1=>match r with
      | none=>R (.ok .next) s1
      | some v=>wpAny (model prog w) A (letOwnedTupleGo t1 it v) (fun _ s1=>wpAny (model prog w) A (assign t1 env v) (fun _ s2 =>
          wpAny (model prog w) A (forIn ifs true fun c r=>if r=true then do let ok ← isTrue c env (eval c env); pure (ForInStep.yield ok) else pure (ForInStep.yield r)) (fun ok s3 =>
            if ok=true then wpAny (model prog w) A (eval elt env) (fun x s4 =>
              wpAny (model prog w) A (call (.builtin "list.append") [acc,x]) (fun _ s5=>∃ m,m < n∧I m s5) (fun _ _=>False) s4) (fun _ _=>False) s3
            else ∃ m,m < n∧I m s3) (fun _ _=>False) s2) (fun _ _=>False) s1) (fun _ _=>False) s1) (fun _ _=>False) s)
    (n:Nat) (h:I n s) :
    codeAny (model prog w) A (.compLoop (.ListComp elt [⟨t0,i0,[],0⟩,⟨t1,i1,ifs,0⟩] scope pos) 1 it acc env) R s:=by
  refine codeAny_loop rfl I (fun n s hI=>?_) n h
  show wpAny _ A ((compTurn (.ListComp elt [⟨t0,i0,[],0⟩,⟨t1,i1,ifs,0⟩] scope pos) 1 it acc env).onRaise (fun x=>do noteFrame x env; theTreesLotGoes x)) _ _ s
  refine wpAny_noted ?_
  rw [compTurn_two1]
  refine wpAny_bind (wpAny_standAt (wpAny_bind (wpAny_mono (turn n s hI) (fun r s1 h1=>?_) fun _ _ h'=>h'.elim)))
  cases r with
  | none=>exact wpAny_pure h1
  | some v =>
    refine wpAny_bind (wpAny_mono h1 (fun _ s1 h1=>?_) fun _ _ h'=>h'.elim)
    refine wpAny_bind (wpAny_mono h1 (fun _ s2 h2=>wpAny_bind (wpAny_mono h2 (fun ok s3 h3=>?_) fun _ _ h'=>h'.elim)) fun _ _ h'=>h'.elim)
    cases ok with
    | false=>exact wpAny_pure ⟨rfl,h3⟩
    | true =>
      exact wpAny_bind (wpAny_bind (wpAny_mono h3 (fun x s4 h4=>wpAny_bind (wpAny_mono h4 (fun _ s5 h5=>wpAny_pure (wpAny_pure ⟨rfl,h5⟩)) fun _ _ h'=>h'.elim)) fun _ _ h'=>h'.elim))
end
def lcIn (n:Nat) (g:TG) (tc:TT) (te:TE) (σ:St) (J:It) (D:Addr) (ys:List V) (H:Hp) (Fin:List V→Hp→Prop):Prop :=
  ∃ W:Nat→Nat→List V→Hp→Prop,(∃ m,W 0 m ys H)∧∀ i m ys H,W i m ys H→H D=some (.lst ys) ∧
    ((J.stop i H∧Fin ys H)∨(J.go i H∧∀ x H' (u:St),u.length=n→J.yld i H x H'→g x (u++σ) H' fun σ2 H2=>(∃ u2:St,u2.length=n∧σ2=u2++σ)∧tc σ2 H2 fun b H3=>if b=true then te σ2 H3 fun y H4=>H4 D=some (.lst ys)∧ys.length < sizeLine∧∃ m',m' < m∧W (i + 1) m' (ys++[y]) (upd H4 D (.lst (ys++[y])))
      else ∃ m',m' < m∧W (i + 1) m' ys H3))
def lcGo2 (n1 n2:Nat) (g:TG) (wi2:TI) (g2:TG) (tc:TT) (te:TE) (σ:St) (J:It) (D:Addr) (Fin:Hp→Prop) (H:Hp):Prop :=
  ∃ W:Nat→Nat→List V→Hp→Prop,(∃ m,W 0 m [] (upd H D (.lst [])))∧∀ i m ys H,W i m ys H→H D=some (.lst ys) ∧
    ((J.stop i H∧Fin H)∨(J.go i H∧∀ x H' (v u:St),v.length=n2→u.length=n1→J.yld i H x H'→g x (v++(u++σ)) H' fun σ2 H2=>∃ u2:St,u2.length=n1∧σ2=v++(u2++σ)∧wi2 σ2 H2 fun J2 H3 =>
      lcIn n2 g2 tc te (u2++σ) J2 D ys H3 fun zs H4=>∃ m',m' < m∧W (i + 1) m' zs H4))
def tLN2 (n1 n2:Nat) (wi:TI) (g:TG) (wi2:TI) (g2:TG) (tc:TT) (te:TE):TE:=fun σ H Q=>wi σ H fun J H1=>∀ D,H1 D=none→lcGo2 n1 n2 g wi2 g2 tc te σ J D (fun H2=>Q (.ref D) H2) H1
section
variable {X:Cx} {xs1 xs2 Ns:List Str} {sc:Scope} {elt iter tg i1 tg1:Expr} {ifs:List Expr} {pos:Pos} {wi wi2:TI} {g g2:TG} {tc:TT} {te:TE}
theorem ln2_block {pins:List (Addr × Obj)} {σ:St} {H:Hp} {s:Shared} {it:Addr} {fp:List Addr} {tn:Nat→Heap→Prop} {J:It} {Fin:Addr→Hp→Prop} {RR:Value→Addr→Result→Shared→Prop} {E:Value→Shared→Prop}
    (hc:X.calm=true) (S:LnScope X (xs2++xs1) Ns sc) (I:Inv X pins σ H s) (T:Turn X.prog X.w X.K tg J fp it tn) (st:tn 0 s.heap) (hf:∀ b ∈ fp,FpOk X pins H b) (hg:∀ C s0 H0,PG (cxLN X (xs2++xs1) Ns sc C fp s0 H0) tg g)
    (hi2:∀ C s0 H0,PI (cxLN X (xs2++xs1) Ns sc C fp s0 H0) tg1 i1 wi2) (hg2:∀ C s0 H0,PG (cxLN X (xs2++xs1) Ns sc C fp s0 H0) tg1 g2)
    (ht:∀ C s0 H0,PTs (cxLN X (xs2++xs1) Ns sc C fp s0 H0) ifs tc) (he:∀ C s0 H0,PE (cxLN X (xs2++xs1) Ns sc C fp s0 H0) elt te) (q:∀ D,H D=none→lcGo2 xs1.length xs2.length g wi2 g2 tc te σ J D (Fin D) H)
    (hR:∀ D C H2 s2 m,s.heap.objs.size≤C→Inv X pins σ H2 s2→H2 C=none→s2.heap.Ns C m→Fin D H2→RR (.ref D) C (.ok .next) s2)
    (hs2:∀ C v,foldedSetIterable i1 (compEnvC sc (clOf sc X.env.cells) C X.env) v=pure v) :
    wpAny (model X.prog X.w) X.A (newList []) (fun acc s3=>wpAny (model X.prog X.w) X.A (newFunctionEnv sc X.env.globals (clOf sc X.env.cells) [] X.env.qual none .none (some X.env)) (fun cenv s4 =>
      codeAny (model X.prog X.w) X.A (.compStart (.ListComp elt [⟨tg,iter,[],0⟩,⟨tg1,i1,ifs,0⟩] sc pos) 0 (.ref it) acc { cenv with scope:=relabel sc X.env }) (RR acc cenv.locals) s4) E s3) E s:=by
  have hlt:∀ b ∈ fp,b < s.heap.objs.size:=fun b hb=>by
    obtain ⟨o,e,_⟩:=T.obj 0 _ st b hb
    exact Heap.lt_size e
  refine wpAny_newObj_type (wpAny_newFunctionEnv S.nocell (by intro y hy; simp at hy) (fun h1 hns1 hsb1=>?_) S.kind)
  dsimp only at hns1 hsb1 ⊢
  generalize hH2:s.heap.push { cls:=.type "list",dict:=none,data:=.seq ([]:List Value).toArray }=G at hns1 hsb1 ⊢
  have hC:G.objs.size=s.heap.objs.size + 1:=by rw [← hH2,Heap.size_push]
  have hCle:s.heap.objs.size≤G.objs.size:=by rw [hC]; exact Nat.le_succ _
  have hDC:G.objs.size≠s.heap.objs.size:=by rw [hC]; exact Nat.succ_ne_self _
  have old:∀ b o,s.heap.get? b=some o→h1.get? b=some o:=fun b o e=>hsb1.extBut b o (Nat.ne_of_lt (Nat.lt_of_lt_of_le (Heap.lt_size e) hCle)) (Heap.get?_push_of_some _ (hH2 ▸ Heap.get?_push_of_some _ e))
  have hacc:h1.get? s.heap.objs.size=some { cls:=.type "list",data:=.seq ([]:List Value).toArray 0 }:=hsb1.extBut _ _ (Ne.symm hDC) (Heap.get?_push_of_some _ (hH2 ▸ Heap.get?_push_size _ rfl))
  have hDn:H s.heap.objs.size=none:=I.hok.fresh (Nat.le_refl _)
  obtain ⟨W,⟨m0,w0⟩,turn⟩:=q s.heap.objs.size hDn
  have st1:tn 0 h1:=T.keep _ _ _ st fun b _ o e=>old b o e
  have I1:=fun tk=>I.startLN (tk:=tk) (w:=(xs2++xs1).map fun _=>none) S hf hlt rfl rfl hCle hDC old hns1 hacc
  have fr1:∀ b ∈ fp,upd H s.heap.objs.size (.lst []) b=none:=fun b hb=>by rw [upd_ne (Nat.ne_of_lt (hlt b hb))]; exact (hf b hb).1
  have loop:∀ s3:Shared,s3={ s with heap:=h1,toks:=s.toks + ([]:List (Str × Value)).length } →
      codeAny (model X.prog X.w) X.A (.compLoop (.ListComp elt [⟨tg,iter,[],0⟩,⟨tg1,i1,ifs,0⟩] sc pos) 0 (.ref it) (.ref s.heap.objs.size) (compEnvC sc (clOf sc X.env.cells) G.objs.size X.env))
        (RR (.ref s.heap.objs.size) G.objs.size) s3:=by
    rintro s3 rfl
    have fpk:∀ {H':Hp},(∀ b ∈ fp,H' b=none)→∀ b ∈ fp,FpOk (cxLN X (xs2++xs1) Ns sc G.objs.size fp s H) [] H' b:=fun hn b hb =>
      ⟨hn b hb,Nat.ne_of_lt (Nat.lt_of_lt_of_le (hlt b hb) hCle),(I.okLN (C:=G.objs.size) S hCle hf hlt).exfs b hb,.inl hb,fun y c e=>(hf b hb).2.2.2.2.1 y c (clOf_sub sc X.env.cells e),fun p hp=>absurd (show p ∈ ([]:List (Addr × Obj)) from hp) (by simp)⟩
    refine compLoop_two0 (fun n s'=>∃ i v u ys H',v.length=xs2.length∧u.length=xs1.length∧Inv (cxLN X (xs2++xs1) Ns sc G.objs.size fp s H) [] (v++(u++σ)) H' s'∧tn i s'.heap∧(∀ b ∈ fp,H' b=none)∧W i n ys H') ?_ m0 ⟨0,xs2.map fun _=>none,xs1.map fun _=>none,[],_,List.length_map _,List.length_map _,by rw [← List.append_assoc,← List.map_append]; exact I1 _,st1,fr1,w0⟩ (hs2 _)
    rintro n s3 ⟨i,v0,u0,ys,H3,hv0,hu0,I3,st3,fr3,w3⟩
    obtain ⟨hD3,turn3⟩:=turn i n ys H3 w3
    rcases turn3 with ⟨stop,fin⟩ | ⟨go,step⟩
    · refine thn (T.done (cxLN X (xs2++xs1) Ns sc G.objs.size fp s H) rfl rfl rfl hc i [] s3 _ H3 _ I3 (fpk fr3) st3 stop) fun r s4 ⟨hr,I4⟩=>?_
      subst hr
      obtain ⟨m4,hn4,_⟩:=I4.loc
      exact hR _ _ H3 s4 m4 hCle (I.endLN I4 hf) I4.free hn4 fin
    · refine thn (T.item (cxLN X (xs2++xs1) Ns sc G.objs.size fp s H) rfl rfl rfl hc i [] s3 _ H3 _ I3 (fpk fr3) st3 go) fun r s4 ⟨uu,hr,h4⟩=>?_
      subst hr
      refine thn h4 fun _ s5 ⟨y,H5,I5,r5,y5,st5,fr5⟩=>?_
      have I5':=I5.pinned (fpk fr5) (T.obj _ _ st5)
      refine thn (hg G.objs.size s H _ s5 _ H5 y uu _ I5' r5 (step y H5 v0 u0 hv0 hu0 y5)) fun _ s6 ⟨σ6,H6,I6,⟨u6,hu6,e6,q6⟩⟩=>?_
      subst e6
      refine thn (hi2 G.objs.size s H _ s6 _ H6 _ I6 q6) fun v7 s7 h7=>thn h7 fun itv s8 h8=>?_
      obtain ⟨it2,fp2,tn2,J2,H8,e8,I8,T2,st8,f8,q8⟩:=h8
      subst e8
      obtain ⟨W2,⟨m20,w20⟩,turn2⟩:=q8
      have again:∀ {H8:Hp} {s8:Shared} {zs:List V} {w6:St},w6.length=xs2.length→Inv (cxLN X (xs2++xs1) Ns sc G.objs.size fp s H) ([]++pinsAt fp s5.heap) (w6++(u6++σ)) H8 s8→(∃ m',m' < n∧W (i + 1) m' zs H8)→∃ m,m < n∧∃ i v u ys H',v.length=xs2.length∧u.length=xs1.length∧Inv (cxLN X (xs2++xs1) Ns sc G.objs.size fp s H) [] (v++(u++σ)) H' s8∧tn i s8.heap∧(∀ b ∈ fp,H' b=none)∧W i m ys H':=fun {H8 s8 zs w6} hw6 I8 ⟨m',hm,w8⟩=>by
        refine ⟨m',hm,i + 1,w6,u6,zs,H8,hw6,hu6,I8.unpinned,T.keep _ _ _ st5 fun b hb o e=>(I8.pin (b,o) (List.mem_append_right _ (List.mem_append_right _ (mem_pinsAt hb e)))).1,fun b hb=>?_,w8⟩
        obtain ⟨o,e,d⟩:=T.obj _ _ st5 b hb
        exact (I8.pin (b,o) (List.mem_append_right _ (List.mem_append_right _ (mem_pinsAt hb e)))).2.1
      have loop2:∀ s9:Shared,s9=s8→codeAny (model X.prog X.w) X.A (.compLoop (.ListComp elt [⟨tg,iter,[],0⟩,⟨tg1,i1,ifs,0⟩] sc pos) 1 (.ref it2) (.ref s.heap.objs.size) (compEnvC sc (clOf sc X.env.cells) G.objs.size X.env))
          (fun r s5=>match r with | .ok _=>∃ m,m < n∧∃ i v u ys H',v.length=xs2.length∧u.length=xs1.length∧Inv (cxLN X (xs2++xs1) Ns sc G.objs.size fp s H) [] (v++(u++σ)) H' s5∧tn i s5.heap∧(∀ b ∈ fp,H' b=none)∧W i m ys H' | .error _=>False) s9:=by
        rintro s9 rfl
        have fpk2:∀ {H':Hp},(∀ b ∈ fp2,H' b=none)→∀ b ∈ fp2,FpOk (cxLN X (xs2++xs1) Ns sc G.objs.size fp s H) ([]++pinsAt fp s5.heap) H' b:=fun hn b hb=>⟨hn b hb,(f8 b hb).2⟩
        refine compLoop_two1 (fun m s'=>∃ j v zs H',v.length=xs2.length∧Inv (cxLN X (xs2++xs1) Ns sc G.objs.size fp s H) ([]++pinsAt fp s5.heap) (v++(u6++σ)) H' s'∧tn2 j s'.heap∧(∀ b ∈ fp2,H' b=none)∧W2 j m zs H') ?_ m20 ⟨0,v0,ys,H8,hv0,I8,st8,fun b hb=>(f8 b hb).1,w20⟩
        rintro mm sA ⟨j,vA,zs,HA,hvA,IA,stA,frA,wA⟩
        obtain ⟨hDA,turnA⟩:=turn2 j mm zs HA wA
        rcases turnA with ⟨stop2,fin2⟩ | ⟨go2,step2⟩
        · refine thn (T2.done (cxLN X (xs2++xs1) Ns sc G.objs.size fp s H) rfl rfl rfl hc j _ sA _ HA _ IA (fpk2 frA) stA stop2) fun r sB ⟨hr,IB⟩=>?_
          subst hr
          exact again hvA IB fin2
        · refine thn (T2.item (cxLN X (xs2++xs1) Ns sc G.objs.size fp s H) rfl rfl rfl hc j _ sA _ HA _ IA (fpk2 frA) stA go2) fun r sB ⟨u2,hr,hB⟩=>?_
          subst hr
          refine thn hB fun _ sC ⟨yC,HC,IC,rC,yC',stC,frC⟩=>?_
          have IC':=IC.pinned (fpk2 frC) (T2.obj _ _ stC)
          refine thn (hg2 G.objs.size s H _ sC _ HC yC u2 _ IC' rC (step2 yC HC vA hvA yC')) fun _ sD ⟨σD,HD,ID,⟨wD,hwD,eD⟩,qD⟩=>?_
          subst eD
          refine thn (ht G.objs.size s H _ sD _ HD _ ID qD) fun ok sE ⟨HE,IE,qE⟩=>?_
          have again2:∀ {H8:Hp} {s8:Shared} {zs:List V},Inv (cxLN X (xs2++xs1) Ns sc G.objs.size fp s H) (([]++pinsAt fp s5.heap)++pinsAt fp2 sC.heap) (wD++(u6++σ)) H8 s8→(∃ m',m' < mm∧W2 (j + 1) m' zs H8)→∃ m,m < mm∧∃ j v zs H',v.length=xs2.length∧Inv (cxLN X (xs2++xs1) Ns sc G.objs.size fp s H) ([]++pinsAt fp s5.heap) (v++(u6++σ)) H' s8∧tn2 j s8.heap∧(∀ b ∈ fp2,H' b=none)∧W2 j m zs H':=fun {H8 s8 zs} I8 ⟨m',hm,w8⟩=>by
            refine ⟨m',hm,j + 1,wD,zs,H8,hwD,I8.unpinned,T2.keep _ _ _ stC fun b hb o e=>(I8.pin (b,o) (List.mem_append_right _ (List.mem_append_right _ (mem_pinsAt hb e)))).1,fun b hb=>?_,w8⟩
            obtain ⟨o,e,d⟩:=T2.obj _ _ stC b hb
            exact (I8.pin (b,o) (List.mem_append_right _ (List.mem_append_right _ (mem_pinsAt hb e)))).2.1
          cases ok with
          | false =>
            rw [if_neg Bool.false_ne_true] at qE ⊢
            exact again2 IE qE
          | true =>
            rw [if_pos rfl] at qE ⊢
            refine thn (he G.objs.size s H _ sE _ HE _ IE qE) fun z sF ⟨zv,HF,IF,rF,hDF,hzF,wF⟩=>?_
            refine thn (mt_append _ sF _ HF (.ref s.heap.objs.size) [zv] (.ref s.heap.objs.size) [z] (fun _ H9=>∃ m',m' < mm∧W2 (j + 1) m' (zs++[zv]) H9) IF rfl (.cons rF .nil) ⟨_,zs,zv,rfl,rfl,hDF,hzF,wF⟩) fun _ sG ⟨_,HG,IG,_,wG⟩=>?_
            exact again2 IG wG
      exact compStart_two (E:=fun _ _=>False) (loop2 _ rfl) (T2.self X.A 0 _ _ _ st8 (loop2 _ rfl))
  exact codeAny_compStart_list (loop _ rfl) (T.self X.A 0 _ _ _ st1 (loop _ rfl))
theorem pg_at {xs Ns:List Str} {x:Str} {i:Nat} {p1:Pos} (S:LnScope X xs Ns sc) (hx:x ∈ xs) (hi:(xs++Ns)[i]?=some x):∀ C fp s0 H0,PG (cxLN X xs Ns sc C fp s0 H0) (.Name x p1) (gName i):=fun C fp s0 H0=>by
  have lx:(relabel sc X.env).names.lookup x=some .local:=lookup_relabel_local (S.loc x hx)
  exact pg_name (X:=cxLN X xs Ns sc C fp s0 H0) (i:=i) S.all hi (.inl lx) (.inr lx)
end
abbrev In2 (n i:Nat) (D:Addr) (ys:List V) (Pv:Nat→List V→Hp→Prop) (y:V) (H:Hp):Prop:=H D=some (.lst ys)∧ys.length < sizeLine∧∃ m',m' < n - i∧m'=n - (i + 1)∧i + 1≤n∧Pv (i + 1) (ys++[y]) (upd H D (.lst (ys++[y])))
theorem in2 {n i:Nat} {D:Addr} {ys:List V} {Pv:Nat→List V→Hp→Prop} {y:V} {H:Hp} (hi:i < n) (hD:H D=some (.lst ys)) (hl:ys.length < sizeLine) (p:Pv (i + 1) (ys++[y]) (upd H D (.lst (ys++[y])))):In2 n i D ys Pv y H:=⟨hD,hl,n - (i + 1),by omega,rfl,hi,p⟩
theorem lcIn_range {lo:Int} {n k:Nat} {tc:TT} {te:TE} {g:TG} {σ:St} {D:Addr} {ys:List V} {H:Hp} {Fin:List V→Hp→Prop} (Pv:Nat→List V→Hp→Prop) (h0:Pv 0 ys H)
    (hD:∀ i zs H,Pv i zs H→H D=some (.lst zs)) (hend:∀ zs H,Pv n zs H→Fin zs H)
    (hgo:∀ i zs H (u:St),u.length=k→i < n→Pv i zs H→g (.int (lo + i)) (u++σ) H fun σ2 H2=>(∃ u2:St,u2.length=k∧σ2=u2++σ)∧tc σ2 H2 fun b H3=>if b=true then te σ2 H3 (In2 n i D zs Pv) else ∃ m',m' < n - i∧m'=n - (i + 1)∧i + 1≤n∧Pv (i + 1) zs H3):lcIn k g tc te σ (Itr lo n) D ys H Fin:=by
  refine ⟨fun i m zs H=>m=n - i∧i≤n∧Pv i zs H,⟨n,rfl,Nat.zero_le _,h0⟩,?_⟩
  rintro i m zs H ⟨rfl,hi,p⟩
  refine ⟨hD i zs H p,?_⟩
  by_cases hlt:i < n
  · refine .inr ⟨hlt,fun x H' u hu y=>?_⟩
    obtain ⟨e,y⟩:=y
    subst e y
    exact hgo i zs _ u hu hlt p
  · obtain rfl:i=n:=by omega
    exact .inl ⟨Nat.le_refl _,hend zs H p⟩
theorem lc2_list {K:PySem.W.Frag} {a:Addr} {xs:List V} {n1 n2:Nat} {g:TG} {wi2:TI} {g2:TG} {tc:TT} {te:TE} {σ:St} {D:Addr} {Fin:Hp→Prop} {H:Hp} (Pv:Nat→List V→Hp→Prop) (h0:Pv 0 [] (upd H D (.lst [])))
    (hD:∀ i ys H,Pv i ys H→H D=some (.lst ys)∧SqL K H a xs) (hend:∀ ys H,Pv xs.length ys H→Fin H)
    (hgo:∀ i x ys H (v u:St),v.length=n2→u.length=n1→i < xs.length→xs[i]?=some x→Pv i ys H→∀ m,m=xs.length - i→g x (v++(u++σ)) H fun σ2 H2=>∃ u2:St,u2.length=n1∧σ2=v++(u2++σ)∧wi2 σ2 H2 fun J2 H3 =>
      lcIn n2 g2 tc te (u2++σ) J2 D ys H3 fun zs H4=>∃ m',m' < m∧m'=xs.length - (i + 1)∧i + 1≤xs.length∧Pv (i + 1) zs H4):lcGo2 n1 n2 g wi2 g2 tc te σ (Itl K a) D Fin H:=by
  refine ⟨fun i m ys H=>m=xs.length - i∧i≤xs.length∧Pv i ys H,⟨xs.length,rfl,Nat.zero_le _,h0⟩,?_⟩
  rintro i m ys H ⟨rfl,hi,p⟩
  refine ⟨(hD i ys H p).1,?_⟩
  by_cases hlt:i < xs.length
  · refine .inr ⟨⟨xs,xs[i],(hD _ _ _ p).2,List.getElem?_eq_getElem hlt⟩,fun x H' v u hv hu y=>?_⟩
    obtain ⟨e,y⟩:=y
    subst e
    exact hgo i x ys _ v u hv hu hlt (y xs (hD _ _ _ p).2) p _ rfl
  · obtain rfl:i=xs.length:=by omega
    exact .inl ⟨⟨xs,(hD _ _ _ p).2,Nat.le_refl _⟩,hend ys H p⟩
theorem pg_three (K:PySem.W.Frag) {X:Cx} {xs Ns:List Str} {sc:Scope} {x y z:Str} {i j k:Nat} {p1 p2 p3 p4:Pos} {kk:Nat} (hc:X.calm=true) (S:LnScope X xs Ns sc) (hx:x ∈ xs) (hy:y ∈ xs) (hz:z ∈ xs) (hi:(xs++Ns)[i]?=some x) (hj:(xs++Ns)[j]?=some y) (hk:(xs++Ns)[k]?=some z) (e:X.K=K:=by rfl) :
    ∀ C fp s0 H0,PG (cxLN X xs Ns sc C fp s0 H0) (.Tuple [.Name x p1,.Name y p2,.Name z p3] kk p4) (gTup K 3 (gCons (gName i) (gCons (gName j) (gCons (gName k) gNil)))):=fun C fp s0 H0=>by
  subst e
  exact pg_tup (X:=cxLN X xs Ns sc C fp s0 H0) hc (pgs_cons (pg_at S hx hi C fp s0 H0) (pgs_cons (pg_at S hy hj C fp s0 H0) (pgs_cons (pg_at S hz hk C fp s0 H0) pgs_nil)))
end L2
namespace L2
open PySem PySem.Spec PyProof.Rows
section
variable {P:Program} {w:World} {K:PySem.W.Frag} {mg:Str→Option Value} {base:Heap}
end
section
variable {X:Cx} {k k':Nat} {x m:Str} {ps:List Str} {sp:Sp} {p pos apos:Pos} {e o:Expr} {es:List Expr} {ta:TE} {t:TA} {C:Addr} {E:XK}
end
end L2
namespace Pr
open PySem L2 PyProof.Rows
abbrev allSt (b:Int) (ps:List Int) (rows:List Lad.Step):List Lad.Step:=(b,Lad.bars ps)::rows
theorem LadOk.goods {b:Int} {ps:List Int} {rows:List Lad.Step} (h:LadOk b ps rows):Lad.Goods (allSt b ps rows):=fun s hs=>(h.steps s hs).1.g
theorem dn_allSt (b:Int) (ps:List Int) (rows:List Lad.Step) (r:Nat) (n:Int):Lad.down (stepsTo b ps rows (r:Int)) n=Lad.dn (allSt b ps rows) r n:=by
  unfold stepsTo Lad.dn
  rw [show ((r:Int) + 1).toNat=r + 1 by omega]
theorem ur_allSt (b:Int) (ps:List Int) (rows:List Lad.Step) (r:Nat) (m:Int):Lad.up (stepsTo b ps rows (r:Int)) m=Lad.ur (allSt b ps rows) r m:=by
  unfold stepsTo Lad.ur
  rw [show ((r:Int) + 1).toNat=r + 1 by omega]
theorem ur_far {b:Int} {ps:List Int} {rows:List Lad.Step} (h:LadOk b ps rows) (r:Nat) {m:Int} (m0 : -W30 < m) (m1:m < W30) : -(6 * W30) < Lad.ur (allSt b ps rows) r m∧Lad.ur (allSt b ps rows) r m < 6 * W30:=by
  have hb:=Lad.up_bound (B:=W30) (by decide) ((allSt b ps rows).take (r + 1)) (Lad.goods_take h.goods _) (fun s hs=>by have:=(h.steps s (List.mem_of_mem_take hs)).2; omega) m
  have hl:((allSt b ps rows).take (r + 1)).length≤5:=by
    have:=(rowsB_ok h.r).1
    rw [List.length_take,List.length_cons]
    omega
  have hW:W30=1000000000000000000000000000000:=rfl
  have h5:W30 * (((allSt b ps rows).take (r + 1)).length:Int)≤W30 * 5:=Int.mul_le_mul_of_nonneg_left (by omega) (by decide)
  have:Lad.ur (allSt b ps rows) r m=Lad.up ((allSt b ps rows).take (r + 1)) m:=rfl
  split at hb <;> omega
theorem low_far {b:Int} {ps:List Int} {rows:List Lad.Step} (h:LadOk b ps rows) (r:Nat) {m:Int} (m0 : -W30 < m) (m1:m < W30) : -(6 * W30) < Lad.low (allSt b ps rows) m r∧Lad.low (allSt b ps rows) m r≤6 * W30:=by
  have:=ur_far h r m0 m1
  have:=Lad.low_near h.goods m r
  omega
theorem same_none {H H':Hp} {D:Addr} (s:Same H H') (h:H' D=none):H D=none:=by
  cases e:H D with
  | none=>rfl
  | some o=>rw [s _ _ e] at h; cases h
theorem line1 {n:Nat} (h:n≤1000):n≤sizeLine:=by rw [sizeLine_eq]; omega
theorem iteC {c:Bool} {A B:Prop} (hc:c=true) (h:A):if c=true then A else B:=by rw [hc]; exact iteT h
theorem iteN {c:Bool} {A B:Prop} (hc:c=false) (h:B):if c=true then A else B:=by rw [hc]; exact iteF h
section
variable {P:Program} {w:World} {K:PySem.W.Frag} {mg:Str→Option Value} {base:Heap} {C:Addr}
inductive sp_need_time (vs:List V) (H:Hp) (Q:VK) (E:XK):Prop
  | mk (i j:Int) (e:vs=[.int i,.int j]) (h0 : -W30 < i) (h1:i < j) (h2:j < W30) (q:Q .non H):sp_need_time vs H Q E
theorem sc_need_time:FnScope ["one","other"] ["one","other"] (defScope s_need_time):=⟨rfl,rfl,rfl,by decide +kernel,rfl,by decide +kernel,by decide +kernel⟩
theorem need_time (T:Txt K mg C):Can P w K mg base 4 "need_time" ["one","other"] sp_need_time:=by
  refine fn_can T.f_need_time sc_need_time (fun vs H Q E h=>?_) (fun f cdv A outer s H vs Q E hr h=>?_)
  · obtain ⟨i,j,rfl,_⟩:=h
    rfl
  · obtain ⟨i,j,rfl,h0,h1,h2,q⟩:=h
    refine ⟨_,(pss_cons (ps_expr (pe_can (need_moment T) hr (pa1 (pv 0))))
      (pss_cons (ps_expr (pe_can (need_moment T) hr (pa1 (pv 1))))
      (pss_one (ps_if (pt_cmpR op_le (pv 1) (pv 0) (nomark _)) pss_never pss_nil)))),?_⟩
    exact ⟨_,rfl,i,rfl,h0,by omega,_,rfl,j,rfl,by omega,h2,_,rfl,_,rfl,_,_,rfl,rfl,_,rfl,iteN (decide_eq_false (by omega)) q⟩
inductive sp_first_begun (C:Addr) (vs:List V) (H:Hp) (Q:VK) (E:XK):Prop
  | mk (p:Addr) (m b:Int) (ps:List Int) (rows:List Lad.Step) (e:vs=[.ref p,.int m]) (h:LadAt C H p b ps rows) (ok:LadOk b ps rows) (m0 : -W30 < m) (m1:m < W30) (q:∀ H',Same H H'→Q (.int (Lad.low (allSt b ps rows) m 0)) H'):sp_first_begun C vs H Q E
theorem sc_first_begun:FnScope ["ladder","moment","number"] ["ladder","moment"] (defScope s_first_begun):=⟨rfl,rfl,rfl,by decide +kernel,rfl,by decide +kernel,by decide +kernel⟩
theorem lad_ins {C:Addr} {H:Hp} {p:Addr} {b:Int} {ps:List Int} {rows:List Lad.Step} (h:LadAt C H p b ps rows):∃ dx a o c,H p=some (.ins C dx (flds a o c)):=by
  obtain ⟨dx,a,o,c,us,h,_⟩:=h
  exact ⟨dx,a,o,c,h⟩
theorem first_begun (T:Txt K mg C):Can P w K mg base 6 "first_begun" ["ladder","moment"] (sp_first_begun C):=by
  refine fn_can T.f_first_begun sc_first_begun (fun vs H Q E h=>?_) (fun f cdv A outer s H vs Q E hr h=>?_)
  · obtain ⟨p,m,b,ps,rows,rfl,_⟩:=h
    rfl
  · obtain ⟨p,m,b,ps,rows,rfl,hL,ok,m0,m1,q⟩:=h
    refine ⟨_,(pss_cons (ps_set (i:=2) sc_first_begun.nd rfl (Or.inl rfl) (pe_canM (pv 0) T.cl (bar_at T) hr (pa2 pe_int (pv 1))))
      (pss_cons (ps_if (pt_cmpR op_lt (pe_ix (ix_tupK K) (pe_canM (pv 0) T.cl (stretch T) hr (pa2 pe_int (pv 2))) pe_int (fun _ _=>rfl)) (pv 1) (nomark _))
        (pss_one (ps_ret (pe_op op_add (pv 2) pe_int)))
        pss_nil)
      (pss_one (ps_ret (pv 2))))),?_⟩
    obtain ⟨dx,a,o,c,hi⟩:=lad_ins hL
    have hW:W30=1000000000000000000000000000000:=rfl
    have hW4:W40=10000000000000000000000000000000000000000:=rfl
    have uf:=ur_far ok 0 m0 m1
    refine ⟨_,rfl,p,dx,_,rfl,hi,flds_no _ _ _ (by decide) (by decide) (by decide),_,rfl,p,0,m,b,ps,rows,rfl,hL,ok,by omega,by omega,m0,m1,fun H1 s1=>?_⟩
    rw [show (0:Int)=((0:Nat):Int) from rfl,ur_allSt]
    refine ⟨_,rfl,p,dx,_,rfl,s1 _ _ hi,flds_no _ _ _ (by decide) (by decide) (by decide),_,rfl,p,0,_,b,ps,rows,rfl,hL.same s1,ok,by omega,by omega,by omega,by omega,fun t H2 s2 ht=>?_⟩
    rw [show (0:Int)=((0:Nat):Int) from rfl,dn_allSt,dn_allSt] at ht
    refine ⟨t,_,_,_,rfl,rfl,.of ht,atI_nat (j:=0) rfl,_,rfl,_,_,rfl,rfl,_,rfl,?_⟩
    have hq:=q H2 (s1.trans s2)
    unfold Lad.low at hq
    refine iteB (fun hc=>?_) (fun hc=>?_)
    · rw [if_pos (of_decide_eq_true hc)] at hq
      exact ⟨_,rfl,_,_,rfl,rfl,hq⟩
    · rw [if_neg (of_decide_eq_false hc)] at hq
      exact ⟨_,rfl,hq⟩
def pieceV:Lad.Piece→List V
  | .rest a b=>[.str "rest",.int a,.int b]
  | .bar r n=>[.str "bar",.int (r:Int),.int n]
def PieceT (H:Hp) (v:V) (p:Lad.Piece):Prop:=∃ a,v=.ref a∧H a=some (.tup (pieceV p))
theorem PieceT.same {H H':Hp} (s:Same H H') {v:V} {p:Lad.Piece} (h:PieceT H v p):PieceT H' v p:=by
  obtain ⟨a,e,h⟩:=h
  exact ⟨a,e,s _ _ h⟩
def restL (i j:Int):List Lad.Piece:=if i < j then [.rest i j] else []
inductive sp_rest_between (vs:List V) (H:Hp) (Q:VK) (E:XK):Prop
  | mk (i j:Int) (e:vs=[.int i,.int j]) (q:∀ D ys H',Same H H'→H D=none→H' D=some (.lst ys)→Paired (PieceT H') ys (restL i j)→Q (.ref D) H'):sp_rest_between vs H Q E
theorem sc_rest_between:FnScope ["one","other"] ["one","other"] (defScope s_rest_between):=⟨rfl,rfl,rfl,by decide +kernel,rfl,by decide +kernel,by decide +kernel⟩
theorem rest_between (T:Txt K mg C):Can P w K mg base 1 "rest_between" ["one","other"] sp_rest_between:=by
  refine fn_can T.f_rest_between sc_rest_between (fun vs H Q E h=>?_) (fun f cdv A outer s H vs Q E hr h=>?_)
  · obtain ⟨i,j,rfl,_⟩:=h
    rfl
  · obtain ⟨i,j,rfl,q⟩:=h
    refine ⟨_,(pss_cons (ps_if (pt_cmpR op_lt (pv 0) (pv 1) (nomark _))
        (pss_one (ps_ret (pe_lst (pa1 (pe_tup (pa3 pe_str (pv 0) (pv 1)))))))
        pss_nil)
      (pss_one (ps_ret (pe_lst pa_nil)))),?_⟩
    refine ⟨_,rfl,_,rfl,_,_,rfl,rfl,_,rfl,?_⟩
    unfold restL at q
    refine iteB (fun hc=>?_) (fun hc=>?_)
    · rw [if_pos (of_decide_eq_true hc)] at q
      refine ⟨_,rfl,_,rfl,line1 (by show 3≤1000; decide),fun t ht=>⟨line1 (by show 1≤1000; decide),fun D hD=>?_⟩⟩
      have s1:Same H (upd H t (.tup [.str "rest",.int i,.int j])):=Same.upd ht
      exact q D _ _ (s1.trans (Same.upd hD)) (same_none s1 hD) upd_same (.cons ⟨t,rfl,(Same.upd hD) _ _ upd_same⟩ .nil)
    · rw [if_neg (of_decide_eq_false hc)] at q
      exact ⟨Nat.zero_le _,fun D hD=>q D _ _ (Same.upd hD) hD upd_same .nil⟩
end
end Pr
namespace Ss
open PySem
end Ss
namespace Ss
open PySem
section
variable {prog:Program} {w:World} {K:Type} [DecidableEq K] {knd:KeyKind prog w K} {A:Around} {E:Value→Shared→Prop} {s:Shared} {a:Addr} {es:Array (Int × Value)}
end
end Ss
namespace Ss
open PySem
section
variable {prog:Program} {w:World} {A:Around} {E:Value→Shared→Prop} {s:Shared}
end
end Ss
namespace Ss
open PySem PyProof.Rows
namespace SF
end SF
end Ss
namespace Ss
open PySem PyProof.Rows
section
variable {prog:Program} {w:World} {A:Around} {E:Value→Shared→Prop} {s:Shared} {it a:Addr} {es:Array (Int × Value)} {ep:Nat} {t:SetTable}
end
end Ss
namespace Ss
open PySem PyProof.Rows
section
variable {prog:Program} {w:World} {A:Around} {E:Value→Shared→Prop} {s:Shared} {it a:Addr} {es:Array (Int × Value)} {ep:Nat} {t:SetTable}
end
end Ss
namespace Ss
open PySem PyProof.Rows
section
variable {prog:Program} {w:World} {A:Around} {E:Value→Shared→Prop} {s:Shared} {a:Addr} {es:Array (Int × Value)}
end
end Ss
namespace L2
open PySem PySem.Spec PyProof.Rows
theorem Paired.app {α β:Type} {F:α→β→Prop}:∀ {xs xs':List α} {ys ys':List β},Paired F xs ys→Paired F xs' ys'→Paired F (xs++xs') (ys++ys')
  | _,_,_,_,.nil,s=>s
  | _,_,_,_,.cons r t,s=>.cons r (Paired.app t s)
section
variable {X:Cx} {pins:List (Addr × Obj)} {σ:St} {H:Hp} {s:Shared}
end
section
variable {X:Cx} {pins:List (Addr × Obj)} {σ:St} {H:Hp} {s:Shared} {xs Ns:List Str} {sc:Scope} {C:Addr} {fp:List Addr}
end
section
variable {X:Cx} {xs Ns:List Str} {sc:Scope} {elt iter tg:Expr} {ifs:List Expr} {pos:Pos} {wi:TI} {g:TG} {tc:TT} {te:TE}
end
end L2
namespace Pr
open PySem L2 PyProof.Rows
theorem row_bound {b:Int} {ps:List Int} {rows:List Lad.Step} (ok:LadOk b ps rows) {k:Nat} {st:Lad.Step} (e:rows[k]?=some st):Lad.Good st.2∧-W30 < st.1∧st.1 < W30:=by
  have:=ok.steps st (List.mem_cons_of_mem _ (List.mem_of_getElem? e))
  exact ⟨this.1.g,this.2⟩
section
variable {P:Program} {w:World} {K:PySem.W.Frag} {mg:Str→Option Value} {base:Heap} {C:Addr}
inductive sp_greater_within (C:Addr) (vs:List V) (H:Hp) (Q:VK) (E:XK):Prop
  | mk (p:Addr) (k:Nat) (i j:Int) (b:Int) (ps:List Int) (rows:List Lad.Step) (st:Lad.Step) (e:vs=[.ref p,.int (k:Int),.int i,.int j]) (h:LadAt C H p b ps rows) (ok:LadOk b ps rows) (hk:rows[k]?=some st) (i0 : -(7 * W30) < i) (i1:i < 7 * W30) (j0 : -(7 * W30) < j) (j1:j < 7 * W30)
      (q:∀ t H',Same H H'→H' t=some (.tup [.int (Lad.ceil st i),.int (Lad.num st.1 st.2 j)])→Q (.ref t) H'):sp_greater_within C vs H Q E
theorem sc_greater_within:FnScope ["ladder","roll","begin","end","first"] ["ladder","roll","begin","end"] (defScope s_greater_within):=⟨rfl,rfl,rfl,by decide +kernel,rfl,by decide +kernel,by decide +kernel⟩
theorem greater_within (T:Txt K mg C):Can P w K mg base 6 "greater_within" ["ladder","roll","begin","end"] (sp_greater_within C):=by
  refine fn_can T.f_greater_within sc_greater_within (fun vs H Q E h=>?_) (fun f cdv A outer s H vs Q E hr h=>?_)
  · obtain ⟨p,k,i,j,b,ps,rows,st,rfl,_⟩:=h
    rfl
  · obtain ⟨p,k,i,j,b,ps,rows,st,rfl,hL,ok,hk,i0,i1,j0,j1,q⟩:=h
    refine ⟨_,(pss_cons (ps_set (i:=4) sc_greater_within.nd rfl (Or.inl rfl) (pe_canM (pv 0) T.cl (greater T) hr (pa2 (pv 1) (pv 2))))
      (pss_cut (ps_if (pt_cmpR op_lt (pe_ix (ix_tupK K) (pe_canM (pv 0) T.cl (lesser T) hr (pa2 (pe_op op_add (pv 1) pe_int) (pv 4))) pe_int (fun _ _=>rfl)) (pv 2) (nomark _))
        (pss_one (ps_aug (i:=4) sc_greater_within.nd rfl (Or.inl rfl) pe_int ip_add))
        pss_nil)
      (pss_one (ps_ret (pe_tup (pa2 (pv 4) (pe_canM (pv 0) T.cl (greater T) hr (pa2 (pv 1) (pv 3))))))))),?_⟩
    obtain ⟨dx,a,o,c,hi⟩:=lad_ins hL
    have hW:W30=1000000000000000000000000000000:=rfl
    have hW4:W40=10000000000000000000000000000000000000000:=rfl
    obtain ⟨g,b0,b1⟩:=row_bound ok hk
    have nb:=Lad.num_bound g st.1 i
    refine ⟨_,rfl,p,dx,_,rfl,hi,flds_no _ _ _ (by decide) (by decide) (by decide),_,rfl,_,rfl,p,_,k,i,b,ps,rows,st,rfl,rfl,hL,ok,hk,by omega,by omega,fun H1 s1=>?_⟩
    refine ⟨fun σ' H'=>σ'=[some (.ref p),some (.int (k:Int)),some (.int i),some (.int j),some (.int (Lad.ceil st i))]∧Same H H',?_,?_⟩
    · refine ⟨_,rfl,p,dx,_,rfl,s1 _ _ hi,flds_no _ _ _ (by decide) (by decide) (by decide),_,rfl,_,_,rfl,rfl,_,rfl,p,_,k,_,b,ps,rows,st,rfl,by omega,hL.same s1,ok,hk,by omega,by omega,fun t H2 s2 ht=>?_⟩
      refine ⟨t,_,_,_,rfl,rfl,.of ht,atI_nat (j:=0) rfl,_,rfl,_,_,rfl,rfl,_,rfl,?_⟩
      unfold Lad.ceil
      refine iteB (fun hc=>?_) (fun hc=>?_)
      · rw [if_pos (of_decide_eq_true hc)]
        exact ⟨_,rfl,_,_,rfl,rfl,rfl,s1.trans s2⟩
      · rw [if_neg (of_decide_eq_false hc)]
        exact ⟨rfl,s1.trans s2⟩
    rintro σ' H2 ⟨rfl,s2⟩
    refine ⟨_,rfl,_,rfl,p,dx,_,rfl,s2 _ _ hi,flds_no _ _ _ (by decide) (by decide) (by decide),_,rfl,_,rfl,p,_,k,j,b,ps,rows,st,rfl,rfl,hL.same s2,ok,hk,by omega,by omega,fun H3 s3=>⟨line1 (by show 2≤1000; decide),fun t ht=>?_⟩⟩
    exact q t _ (s2.trans (s3.trans (Same.upd ht))) upd_same
def RunT (H:Hp) (v:V) (x:Nat × Int × Int):Prop:=∃ a,v=.ref a∧H a=some (.tup [.int (x.1:Int),.int x.2.1,.int x.2.2])
theorem RunT.same {H H':Hp} (s:Same H H') {v:V} {x:Nat × Int × Int} (h:RunT H v x):RunT H' v x:=by
  obtain ⟨a,e,h⟩:=h
  exact ⟨a,e,s _ _ h⟩
theorem RunT.wr {H:Hp} {v:V} {x:Nat × Int × Int} {D:Addr} {ys:List V} {o:HO} (h:RunT H v x) (hD:H D=some (.lst ys)):RunT (upd H D o) v x:=by
  obtain ⟨a,e,h⟩:=h
  exact ⟨a,e,by rw [upd_ne (fun z=>by rw [z,hD] at h; cases h)]; exact h⟩
theorem paired_rev {α β:Type} {R:α→β→Prop} {xs:List α} {ys:List β} (h:Paired R xs ys):Paired R xs.reverse ys.reverse:=by
  induction h with
  | nil=>exact .nil
  | cons h t ih=>rw [List.reverse_cons,List.reverse_cons]; exact Paired.app ih (.cons h .nil)
inductive sp_greatest_runs (C:Addr) (vs:List V) (H:Hp) (Q:VK) (E:XK):Prop
  | mk (p:Addr) (one other:Int) (b:Int) (ps:List Int) (rows:List Lad.Step) (e:vs=[.ref p,.int (Lad.low (allSt b ps rows) one 0),.int (Lad.ur (allSt b ps rows) 0 other)]) (h:LadAt C H p b ps rows) (ok:LadOk b ps rows) (m0 : -W30 < one) (m1:one < W30) (o0 : -W30 < other) (o1:other < W30)
      (q:∀ D ys H',Same H H'→H' D=some (.lst ys)→Paired (RunT H') ys (Lad.runs (allSt b ps rows) one other rows.length 0)→Q (.ref D) H'):sp_greatest_runs C vs H Q E
theorem sc_greatest_runs:FnScope ["ladder","begin","end","ahead","behind","roll","first","last"] ["ladder","begin","end"] (defScope s_greatest_runs):=⟨rfl,rfl,rfl,by decide +kernel,rfl,by decide +kernel,by decide +kernel⟩
set_option maxHeartbeats 4000000 in
theorem greatest_runs (T:Txt K mg C):Can P w K mg base 7 "greatest_runs" ["ladder","begin","end"] (sp_greatest_runs C):=by
  refine fn_can T.f_greatest_runs sc_greatest_runs (fun vs H Q E h=>?_) (fun f cdv A outer s H vs Q E hr h=>?_)
  · obtain ⟨p,one,other,b,ps,rows,rfl,_⟩:=h
    rfl
  · obtain ⟨p,one,other,b,ps,rows,rfl,hL,ok,m0,m1,o0,o1,q⟩:=h
    refine ⟨_,(pss_cons (ps_par3 (i:=3) (j:=4) (k:=5) rfl sc_greatest_runs.nd rfl rfl rfl (by decide) (by decide) (by decide) rfl rfl rfl (pa3 (pe_lst pa_nil) (pe_lst pa_nil) pe_int) rfl)
      (pss_cut (ps_while PassesOwn.never (pt_cmpR op_lt (pe_op op_add (pv 5) pe_int) (pe_canM0 (pv 0) T.cl (rolls T) hr) (nomark _))
        (pss_cons (ps_asg (pe_can (greater_within T) hr (pa_cons (pv 0) (pa3 (pv 5) (pv 1) (pv 2)))) (pg_tupK K rfl (pgs_cons (pg_name (i:=6) sc_greatest_runs.nd rfl (Or.inl rfl)) (pgs_cons (pg_name (i:=7) sc_greatest_runs.nd rfl (Or.inl rfl)) pgs_nil))))
        (pss_cons (ps_if (pt_cmpR op_ge (pv 6) (pv 7) (nomark _))
          (pss_one (ps_break))
          pss_nil)
        (pss_cons (ps_expr (pe_bmK K PySem.F.plainAttrs_list PySem.F.slot_list_append PySem.F.type_list_append mt_append (pv 3) (pa1 (pe_tup (pa3 (pv 5) (pv 1) (pe_ix (ix_tupK K) (pe_canM (pv 0) T.cl (lesser T) hr (pa2 (pe_op op_add (pv 5) pe_int) (pv 6))) pe_int (fun _ _=>rfl)))))))
        (pss_cons (ps_expr (pe_bmK K PySem.F.plainAttrs_list PySem.F.slot_list_append PySem.F.type_list_append mt_append (pv 4) (pa1 (pe_tup (pa3 (pv 5) (pe_ix (ix_tupK K) (pe_canM (pv 0) T.cl (lesser T) hr (pa2 (pe_op op_add (pv 5) pe_int) (pv 7))) pe_int (fun _ _=>rfl)) (pv 2))))))
        (pss_one (ps_par3 (i:=5) (j:=1) (k:=2) rfl sc_greatest_runs.nd rfl rfl rfl (by decide) (by decide) (by decide) rfl rfl rfl (pa3 (pe_op op_add (pv 5) pe_int) (pv 6) (pv 7)) rfl)))))))
      (pss_one (ps_ret (pe_op op_cat (pe_op op_cat (pv 3) (pe_lst (pa1 (pe_tup (pa3 (pv 5) (pv 1) (pv 2)))))) (pe_revK K (pv 4) (pe_un un_neg pe_int))))))),?_⟩
    have hW:W30=1000000000000000000000000000000:=rfl
    have hW4:W40=10000000000000000000000000000000000000000:=rfl
    have hrl:=(rowsB_ok ok.r).1
    obtain ⟨dx,a,o,c,hi⟩:=lad_ins hL
    refine ⟨Nat.zero_le _,fun AH hAH=>⟨Nat.zero_le _,fun BH hBH=>?_⟩⟩
    have s1:Same H (upd H AH (.lst [])):=Same.upd hAH
    have s2:Same (upd H AH (.lst [])) (upd (upd H AH (.lst [])) BH (.lst [])):=Same.upd hBH
    have hA1:(upd (upd H AH (.lst [])) BH (.lst [])) AH=some (.lst []):=s2 _ _ upd_same
    have hB1:(upd (upd H AH (.lst [])) BH (.lst [])) BH=some (.lst []):=upd_same
    have nAB:AH≠BH:=fun z=>by rw [← z,upd_same] at hBH; cases hBH
    have hBH0:H BH=none:=same_none s1 hBH
    have s12:=s1.trans s2
    generalize (upd (upd H AH (.lst [])) BH (.lst []))=H1 at s2 s12 hA1 hB1
    refine ⟨_,_,_,rfl,?_⟩
    refine ⟨fun σ' H2=>∃ (r:Nat) (v6 v7:Option V) (as bs:List V) (AA BB:List (Nat × Int × Int)),σ'=[some (.ref p),some (.int (Lad.low (allSt b ps rows) one r)),some (.int (Lad.ur (allSt b ps rows) r other)),some (.ref AH),some (.ref BH),some (.int (r:Int)),v6,v7]∧Same H H2∧H2 AH=some (.lst as)∧H2 BH=some (.lst bs)∧Paired (RunT H2) as AA∧Paired (RunT H2) bs BB∧AA.length≤4∧BB.length≤4∧AA++[(r,Lad.low (allSt b ps rows) one r,Lad.ur (allSt b ps rows) r other)]++BB.reverse=Lad.runs (allSt b ps rows) one other rows.length 0,?_,?_⟩
    · refine ⟨fun m σ H2=>∃ (r:Nat) (v6 v7:Option V) (as bs:List V) (AA BB:List (Nat × Int × Int)),σ=[some (.ref p),some (.int (Lad.low (allSt b ps rows) one r)),some (.int (Lad.ur (allSt b ps rows) r other)),some (.ref AH),some (.ref BH),some (.int (r:Int)),v6,v7]∧r + m=rows.length∧Same H H2∧H2 AH=some (.lst as)∧H2 BH=some (.lst bs)∧Paired (RunT H2) as AA∧Paired (RunT H2) bs BB∧AA.length=r∧BB.length=r∧AA++Lad.runs (allSt b ps rows) one other m r++BB.reverse=Lad.runs (allSt b ps rows) one other rows.length 0,⟨rows.length,0,none,none,[],[],[],[],rfl,by omega,s12,hA1,hB1,.nil,.nil,rfl,rfl,by simp⟩,?_⟩
      rintro m σ H2 ⟨r,v6,v7,as,bs,AA,BB,rfl,hrm,t2,hA2,hB2,pA,pB,lA,lB,eR⟩
      refine ⟨_,rfl,_,_,rfl,rfl,_,rfl,p,dx,_,rfl,t2 _ _ hi,flds_no _ _ _ (by decide) (by decide) (by decide),p,b,ps,rows,rfl,hL.same t2,_,_,rfl,rfl,_,rfl,?_⟩
      refine iteB (fun hc=>?_) (fun hc=>?_)
      case _ =>
        have hc:((r:Int) + 1) < ((rows.length + 1:Nat):Int):=of_decide_eq_true hc
        obtain ⟨m',rfl⟩:∃ m',m=m' + 1:=⟨m - 1,by omega⟩
        have hr1:r < rows.length:=by omega
        have es:rows[r]?=some ((allSt b ps rows).getD (r + 1) (0,[])):=by
          have:=Lad.getD_of (st:=allSt b ps rows) (i:=r + 1) (by show r + 1 < rows.length + 1; omega)
          exact this
        have es':(allSt b ps rows)[r + 1]?=some ((allSt b ps rows).getD (r + 1) (0,[])):=es
        have e1:Lad.low (allSt b ps rows) one (r + 1)=_:=Lad.low_succ ok.goods es' one
        have e2:Lad.ur (allSt b ps rows) (r + 1) other=_:=Lad.ur_succ ok.goods es' other
        have lf:=low_far ok r m0 m1
        have uf:=ur_far ok r o0 o1
        have lf1:=low_far ok (r + 1) m0 m1
        have uf1:=ur_far ok (r + 1) o0 o1
        generalize hst:(allSt b ps rows).getD (r + 1) (0,[])=st at es es' e1 e2
        have al:as.length=AA.length:=Paired.length pA
        have bl:bs.length=BB.length:=Paired.length pB
        refine ⟨fun σ' H2=>∃ (v6 v7:Option V) (as bs:List V) (AA BB:List (Nat × Int × Int)),σ'=[some (.ref p),some (.int (Lad.low (allSt b ps rows) one (r + 1))),some (.int (Lad.ur (allSt b ps rows) (r + 1) other)),some (.ref AH),some (.ref BH),some (.int ((r:Int) + 1)),v6,v7]∧Same H H2∧H2 AH=some (.lst as)∧H2 BH=some (.lst bs)∧Paired (RunT H2) as AA∧Paired (RunT H2) bs BB∧AA.length=r + 1∧BB.length=r + 1∧AA++Lad.runs (allSt b ps rows) one other m' (r + 1)++BB.reverse=Lad.runs (allSt b ps rows) one other rows.length 0,fun σ' H' z=>?_,?_⟩
        · obtain ⟨v6,v7,as,bs,AA,BB,e,z⟩:=z
          exact ⟨m',by omega,r + 1,v6,v7,as,bs,AA,BB,e,by omega,z⟩
        refine ⟨_,rfl,_,rfl,_,rfl,_,rfl,p,r,_,_,b,ps,rows,st,rfl,hL.same t2,ok,es,by omega,by omega,by omega,by omega,fun t H3 s3 ht=>?_⟩
        rw [← e1,← e2] at ht
        have t3:=t2.trans s3
        refine ⟨t,_,rfl,.of ht,rfl,_,_,rfl,_,_,rfl,rfl,?_⟩
        refine ⟨_,rfl,_,rfl,_,_,rfl,rfl,_,rfl,?_⟩
        have pA3:Paired (RunT H3) as AA:=Paired.mapP pA fun _ _ z=>z.same s3
        have pB3:Paired (RunT H3) bs BB:=Paired.mapP pB fun _ _ z=>z.same s3
        have hA3:=s3 _ _ hA2
        have hB3:=s3 _ _ hB2
        refine iteB (fun hd=>?_) (fun hd=>?_)
        · have hd:Lad.ur (allSt b ps rows) (r + 1) other≤Lad.low (allSt b ps rows) one (r + 1):=of_decide_eq_true hd
          refine ⟨r,_,_,as,bs,AA,BB,rfl,t3,hA3,hB3,pA3,pB3,by omega,by omega,?_⟩
          rw [← eR]
          congr 2
          show _=if Lad.low (allSt b ps rows) one (r + 1) < Lad.ur (allSt b ps rows) (r + 1) other then _ else _
          rw [if_neg (by omega)]
        · have hd:¬ Lad.ur (allSt b ps rows) (r + 1) other≤Lad.low (allSt b ps rows) one (r + 1):=of_decide_eq_false hd
          have eS:Lad.runs (allSt b ps rows) one other (m' + 1) r=(r,Lad.low (allSt b ps rows) one r,Lad.fst st.1 st.2 (Lad.low (allSt b ps rows) one (r + 1)))::(Lad.runs (allSt b ps rows) one other m' (r + 1)++[(r,Lad.fst st.1 st.2 (Lad.ur (allSt b ps rows) (r + 1) other),Lad.ur (allSt b ps rows) r other)]):=by
            show (if Lad.low (allSt b ps rows) one (r + 1) < Lad.ur (allSt b ps rows) (r + 1) other then _ else _)=_
            rw [if_pos (by omega),hst]
          rw [eS] at eR
          generalize Lad.low (allSt b ps rows) one (r + 1)=lw at *
          generalize Lad.ur (allSt b ps rows) (r + 1) other=up at *
          refine ⟨_,rfl,.inl ⟨rfl,_,.of hA3⟩,_,rfl,_,rfl,_,rfl,p,dx,_,rfl,t3 _ _ hi,flds_no _ _ _ (by decide) (by decide) (by decide),_,rfl,_,_,rfl,rfl,_,rfl,p,_,r,lw,b,ps,rows,st,rfl,by omega,hL.same t3,ok,es,by omega,by omega,fun t4 H4 s4 ht4=>?_⟩
          refine ⟨t4,_,_,_,rfl,rfl,.of ht4,atI_nat (j:=0) rfl,line1 (by show 3≤1000; decide),fun t5 ht5=>?_⟩
          have s5:Same H4 (upd H4 t5 (.tup [.int (r:Int),.int (Lad.low (allSt b ps rows) one r),.int (Lad.fst st.1 st.2 lw)])):=Same.upd ht5
          have ht5':(upd H4 t5 (.tup [.int (r:Int),.int (Lad.low (allSt b ps rows) one r),.int (Lad.fst st.1 st.2 lw)])) t5=some (.tup [.int (r:Int),.int (Lad.low (allSt b ps rows) one r),.int (Lad.fst st.1 st.2 lw)]):=upd_same
          generalize (upd H4 t5 (.tup [.int (r:Int),.int (Lad.low (allSt b ps rows) one r),.int (Lad.fst st.1 st.2 lw)]))=H5 at s5 ht5'
          have s35:=s4.trans s5
          have hA5:=s35 _ _ hA3
          have hB5:=s35 _ _ hB3
          refine ⟨AH,_,_,rfl,rfl,hA5,by rw [sizeLine_eq,al]; omega,?_⟩
          have r5:RunT H5 (.ref t5) (r,Lad.low (allSt b ps rows) one r,Lad.fst st.1 st.2 lw):=⟨t5,rfl,ht5'⟩
          have pA6:Paired (RunT (upd H5 AH (.lst (as++[.ref t5])))) (as++[.ref t5]) (AA++[(r,Lad.low (allSt b ps rows) one r,Lad.fst st.1 st.2 lw)]):=Paired.app (Paired.mapP pA3 fun _ _ z=>(z.same s35).wr hA5) (.cons (r5.wr hA5) .nil)
          have pB6:Paired (RunT (upd H5 AH (.lst (as++[.ref t5])))) bs BB:=Paired.mapP pB3 fun _ _ z=>(z.same s35).wr hA5
          have t6:Same H (upd H5 AH (.lst (as++[.ref t5]))):=fun x u e=>by rw [upd_ne (ne_of_none e hAH)]; exact s35 _ _ (t3 _ _ e)
          have hB6:(upd H5 AH (.lst (as++[.ref t5]))) BH=some (.lst bs):=by rw [upd_ne (Ne.symm nAB)]; exact hB5
          have hA6:(upd H5 AH (.lst (as++[.ref t5]))) AH=some (.lst (as++[.ref t5])):=upd_same
          generalize (upd H5 AH (.lst (as++[.ref t5])))=H6 at pA6 pB6 t6 hB6 hA6
          refine ⟨_,rfl,.inl ⟨rfl,_,.of hB6⟩,_,rfl,_,rfl,p,dx,_,rfl,t6 _ _ hi,flds_no _ _ _ (by decide) (by decide) (by decide),_,rfl,_,_,rfl,rfl,_,rfl,p,_,r,up,b,ps,rows,st,rfl,by omega,hL.same t6,ok,es,by omega,by omega,fun t7 H7 s7 ht7=>?_⟩
          refine ⟨t7,_,_,_,rfl,rfl,.of ht7,atI_nat (j:=0) rfl,_,rfl,line1 (by show 3≤1000; decide),fun t8 ht8=>?_⟩
          have s8:Same H7 (upd H7 t8 (.tup [.int (r:Int),.int (Lad.fst st.1 st.2 up),.int (Lad.ur (allSt b ps rows) r other)])):=Same.upd ht8
          have ht8':(upd H7 t8 (.tup [.int (r:Int),.int (Lad.fst st.1 st.2 up),.int (Lad.ur (allSt b ps rows) r other)])) t8=some (.tup [.int (r:Int),.int (Lad.fst st.1 st.2 up),.int (Lad.ur (allSt b ps rows) r other)]):=upd_same
          generalize (upd H7 t8 (.tup [.int (r:Int),.int (Lad.fst st.1 st.2 up),.int (Lad.ur (allSt b ps rows) r other)]))=H8 at s8 ht8'
          have s68:=s7.trans s8
          have hA8:=s68 _ _ hA6
          have hB8:=s68 _ _ hB6
          refine ⟨BH,_,_,rfl,rfl,hB8,by rw [sizeLine_eq,bl]; omega,?_⟩
          have r8:RunT H8 (.ref t8) (r,Lad.fst st.1 st.2 up,Lad.ur (allSt b ps rows) r other):=⟨t8,rfl,ht8'⟩
          refine ⟨_,rfl,_,_,rfl,rfl,_,rfl,_,rfl,_,_,_,rfl,?_⟩
          refine ⟨_,_,as++[.ref t5],bs++[.ref t8],AA++[(r,Lad.low (allSt b ps rows) one r,Lad.fst st.1 st.2 lw)],BB++[(r,Lad.fst st.1 st.2 up,Lad.ur (allSt b ps rows) r other)],rfl,fun x u e=>?_,?_,?_,?_,?_,?_,?_,?_⟩
          · rw [upd_ne (ne_of_none e hBH0)]; exact s68 _ _ (t6 _ _ e)
          · rw [upd_ne nAB]; exact hA8
          · rw [upd_same]
          · exact Paired.mapP pA6 fun _ _ z=>(z.same s68).wr hB8
          · exact Paired.app (Paired.mapP pB6 fun _ _ z=>(z.same s68).wr hB8) (.cons (r8.wr hB8) .nil)
          · rw [List.length_append,lA]; rfl
          · rw [List.length_append,lB]; rfl
          · rw [← eR,List.reverse_append]
            simp
      case _ =>
        have hc:¬ ((r:Int) + 1) < ((rows.length + 1:Nat):Int):=of_decide_eq_false hc
        obtain rfl:m=0:=by omega
        exact ⟨r,v6,v7,as,bs,AA,BB,rfl,t2,hA2,hB2,pA,pB,by omega,by omega,eR⟩
    · rintro σ' H2 ⟨r,v6,v7,as,bs,AA,BB,rfl,t2,hA2,hB2,pA,pB,lA,lB,eR⟩
      have al:as.length=AA.length:=Paired.length pA
      have bl:bs.length=BB.length:=Paired.length pB
      refine ⟨_,rfl,_,rfl,_,rfl,_,rfl,line1 (by show 3≤1000; decide),fun t ht=>?_⟩
      have s3:Same H2 (upd H2 t (.tup [.int (r:Int),.int (Lad.low (allSt b ps rows) one r),.int (Lad.ur (allSt b ps rows) r other)])):=Same.upd ht
      have ht3:(upd H2 t (.tup [.int (r:Int),.int (Lad.low (allSt b ps rows) one r),.int (Lad.ur (allSt b ps rows) r other)])) t=some (.tup [.int (r:Int),.int (Lad.low (allSt b ps rows) one r),.int (Lad.ur (allSt b ps rows) r other)]):=upd_same
      generalize (upd H2 t (.tup [.int (r:Int),.int (Lad.low (allSt b ps rows) one r),.int (Lad.ur (allSt b ps rows) r other)]))=H3 at s3 ht3
      refine ⟨line1 (by show 1≤1000; decide),fun L hL3=>?_⟩
      have s4:Same H3 (upd H3 L (.lst [.ref t])):=Same.upd hL3
      have hL4:(upd H3 L (.lst [.ref t])) L=some (.lst [.ref t]):=upd_same
      generalize (upd H3 L (.lst [.ref t]))=H4 at s4 hL4
      have s24:=s3.trans s4
      refine ⟨AH,L,_,_,rfl,rfl,s24 _ _ hA2,hL4,by rw [sizeLine_eq,al]; show AA.length + 1≤_; omega,fun M hM=>?_⟩
      have s5:Same H4 (upd H4 M (.lst (as++[.ref t]))):=Same.upd hM
      have hM5:(upd H4 M (.lst (as++[.ref t]))) M=some (.lst (as++[.ref t])):=upd_same
      generalize (upd H4 M (.lst (as++[.ref t])))=H5 at s5 hM5
      have s25:=s24.trans s5
      refine ⟨_,rfl,1,rfl,BH,bs,rfl,rfl,.of (s25 _ _ hB2),fun N hN=>?_⟩
      have s6:Same H5 (upd H5 N (.lst bs.reverse)):=Same.upd hN
      have hN6:(upd H5 N (.lst bs.reverse)) N=some (.lst bs.reverse):=upd_same
      generalize (upd H5 N (.lst bs.reverse))=H6 at s6 hN6
      refine ⟨M,N,_,_,rfl,rfl,s6 _ _ hM5,hN6,by rw [sizeLine_eq,List.length_append,List.length_reverse,al,bl]; show AA.length + 1 + BB.length≤_; omega,fun Z hZ=>?_⟩
      have s7:Same H6 (upd H6 Z (.lst (as++[.ref t]++bs.reverse))):=Same.upd hZ
      have s37:=s4.trans (s5.trans (s6.trans s7))
      have s27:=s3.trans s37
      refine q Z _ _ (t2.trans s27) upd_same ?_
      rw [← eR]
      exact Paired.app (Paired.app (Paired.mapP pA fun _ _ z=>z.same s27) (.cons ⟨t,rfl,s37 _ _ ht3⟩ .nil)) (paired_rev (Paired.mapP pB fun _ _ z=>z.same s27))
end
end Pr
namespace L2
open PySem PySem.Spec PyProof.Rows
section
variable {X:Cx} {xs Ns:List Str} {sc:Scope} {tg iter elt:Expr} {ifs:List Expr} {pos:Pos} {wi:TI} {g:TG} {tc:TT} {te:TE}
end
end L2
namespace L2
open PySem PySem.Spec PyProof.Rows
section
variable {X:Cx} {xs1 xs2 Ns:List Str} {sc:Scope} {elt iter tg i1 tg1:Expr} {ifs:List Expr} {pos:Pos} {wi wi2:TI} {g g2:TG} {tc:TT} {te:TE}
theorem ps_setLN2 {i:Nat} {y:Str} {py spos:Pos} (hN0:X.N.Nodup) (hc:X.calm=true) (hi':X.N[i]?=some y) (hy:X.env.scope.names.lookup y=some .local) (S:LnScope X (xs2++xs1) Ns sc) (hi:PI X tg iter wi) (hg:∀ C fp s0 H0,PG (cxLN X (xs2++xs1) Ns sc C fp s0 H0) tg g) (hi2:∀ C fp s0 H0,PI (cxLN X (xs2++xs1) Ns sc C fp s0 H0) tg1 i1 wi2) (hg2:∀ C fp s0 H0,PG (cxLN X (xs2++xs1) Ns sc C fp s0 H0) tg1 g2)
    (ht:∀ C fp s0 H0,PTs (cxLN X (xs2++xs1) Ns sc C fp s0 H0) ifs tc) (he:∀ C fp s0 H0,PE (cxLN X (xs2++xs1) Ns sc C fp s0 H0) elt te)
    (hsw:swapsWith (.ListComp elt [⟨tg,iter,[],0⟩,⟨tg1,i1,ifs,0⟩] sc pos) (some (.Name y py)) spos.line X.env=pure true:=by rfl) (hs:∀ v,foldedSetIterable iter X.env v=pure v:=by intro _; rfl) (hs2:∀ C v,foldedSetIterable i1 (compEnvC sc (clOf sc X.env.cells) C X.env) v=pure v:=by intro _ _; rfl) :
    PS X (.Assign [.Name y py] (.ListComp elt [⟨tg,iter,[],0⟩,⟨tg1,i1,ifs,0⟩] sc pos) spos) (tAsg (tLN2 xs1.length xs2.length wi g wi2 g2 tc te) (gName i)):=by
  refine ⟨?_⟩
  intro pins s σ H Dn I h
  rw [exec_Assign_Name_used _ _ _ _ hsw]
  refine wpAny_bind (wpAny_standAt (wpAny_bind ?_))
  show wpAny _ X.A (do let _ ← comprehension (.ListComp elt [⟨tg,iter,[],0⟩,⟨tg1,i1,ifs,0⟩] sc pos) sc X.env _ (newList []) false (eval iter X.env) (some (assign (.Name y py) X.env))) _ _ s
  refine wpAny_bind (wpAny_mono (wpAny_comprehension_free (use:=some (assign (.Name y py) X.env)) (Q:=fun _ s'=>SP X pins Dn .next s') rfl hs (closure_eq (S.cells I.ok)) S.kind S.names
    (thn (hi pins s σ H _ I h) fun v s1 h1=>thn h1 fun itv s2 h2=>?_)) (fun _ s' hq=>wpAny_pure (wpAny_pure hq)) fun _ _ e=>e)
  obtain ⟨it,fp,tn,J,H2,e,I2,T,st2,f2,q2⟩:=h2
  subst e
  refine ln2_block (RR:=fun acc C=>compPost (model X.prog X.w) X.A X.xe (some (assign (.Name y py) X.env)) (fun _ s'=>SP X pins Dn .next s') acc C) (Fin:=fun D H3=>gName i (.ref D) σ H3 Dn.nx) hc S I2 T st2 f2 (fun C s0 H0=>hg C fp s0 H0) (fun C s0 H0=>hi2 C fp s0 H0) (fun C s0 H0=>hg2 C fp s0 H0) (fun C s0 H0=>ht C fp s0 H0) (fun C s0 H0=>he C fp s0 H0) q2 ?_ hs2
  intro D C H3 s3 m hC I3 hn hN q3
  show wpAny _ _ (assign (.Name y py) X.env (.ref D)) _ _ s3
  have cne:∀ y c,X.env.cells.lookup y=some c→c≠C:=fun y c e=>by
    obtain ⟨v,z⟩:=I2.cell y c e
    exact Nat.ne_of_lt (Nat.lt_of_lt_of_le z.lt hC)
  refine wpAny_assign_Name (store_ok2 I3 hN0 hi' (.inl hy) (show RelV (.ref D) (.ref D) from rfl) (fun s4 I4 ⟨a,hs4,ha⟩=>?_) (.inr hy))
  have haC:C≠a:=by
    rcases ha with e | e
    · rw [e]; exact Nat.ne_of_gt (Nat.lt_of_lt_of_le I2.lt hC)
    · exact Ne.symm (cne y a e)
  refine ⟨m,hN.sameBut hs4 haC,fun h' hs'=>⟨_,H3,I4.butC hs' (Nat.le_trans I2.sz hC) hn (Nat.ne_of_gt (Nat.lt_of_lt_of_le I2.lt hC)) cne (fun p hp=>?_),q3⟩⟩
  exact Nat.ne_of_lt (Nat.lt_of_lt_of_le (Heap.lt_size (I2.pin p hp).1) hC)
end
end L2
namespace L2
open PySem PySem.Spec PyProof.Rows
theorem strs_of:∀ {ts:List Str} {us:List Value},Vals (ts.map V.str) us→∃ l:List (Str × Tok),us=strValues l∧l.map (·.1)=ts
  | [],us,h=>by
    cases h
    exact ⟨[],rfl,rfl⟩
  | x::r,us,h=>by
    cases h with
    | cons a b =>
      obtain ⟨t,rfl⟩:=a
      obtain ⟨l,rfl,e⟩:=strs_of b
      exact ⟨(x,t)::l,rfl,by rw [List.map_cons,e]⟩
section
variable {X:Cx}
theorem mt_join:MtR X "str.join" (fun x xs H Q=>∃ sep D,∃ ts:List Str,x=.str sep∧xs=[.ref D]∧SqL X.K H D (ts.map V.str)∧JoinOk sep ts=true∧Q (.str (Txt.join sep ts)) H):=by
  intro pins s σ H x xs v us Q I rx r h
  obtain ⟨sep,D,ts,e1,e2,hq,hok,q⟩:=h
  subst e1 e2
  obtain ⟨t,rfl⟩:=rx
  obtain ⟨u,rfl,ry⟩:=vals1 r
  cases ry
  obtain ⟨its,rv,p,hz⟩:=I.list hq
  obtain ⟨l,rfl,et⟩:=strs_of rv
  exact SC.join p.isList et hok fun t1 k=>⟨.str _,H,I.tok k,⟨t1,rfl⟩,q⟩
end
end L2
namespace L2
open PySem PySem.Spec PyProof.Rows
section
variable {prog:Program} {w:World} {A:Around} {E:Value→Shared→Prop} {s:Shared}
theorem draw_list {it t:Addr} {items:Array Value} (hne:t≠it):∀ (n i:Nat) (s:Shared) (Q:List Value→Shared→Prop),s.heap.IsListIter it t i→s.heap.IsList t items→i + n≤items.size →
    (∀ h',h'.IsListIter it t (i + n)→Heap.SameBut it s.heap h'→Q ((items.toList.drop i).take n) { s with heap:=h' })→wpAny (model prog w) A (draw (.ref it) n) Q E s
  | 0,i,s,Q,hit,_,_,hQ=>by
    show wpAny _ _ (pure []) Q E s
    exact wpAny_pure (by simpa using hQ s.heap hit (Heap.SameBut.refl ..))
  | n + 1,i,s,Q,hit,ht,hle,hQ=>by
    have hlt:i < items.size:=by omega
    show wpAny _ _ (pyNext (.ref it) >>= _) Q E s
    refine wpAny_bind (wpAny_pyNext_list_item hit ht (x:=items[i]) (by simp [hlt]) fun h₁ hit₁ hs₁=>?_)
    refine wpAny_bind (wpAny_holding (draw_list hne n (i + 1) _ _ hit₁ (ht.extBut hs₁.extBut hne) (by omega) fun h₂ hit₂ hs₂=>wpAny_pure ?_))
    have hd:items.toList.drop i=items[i]::items.toList.drop (i + 1):=by simp [List.drop_eq_getElem_cons,hlt]
    have:=hQ h₂ (by rw [show i + (n + 1)=i + 1 + n by omega]; exact hit₂) (hs₁.trans hs₂)
    rw [hd,List.take_succ_cons] at this
    exact this
theorem unpackItems_list {t:Addr} {items:Array Value} {Q:List Value→Shared→Prop} (hh:A.handled=none) (ht:s.heap.IsList t items)
    (hQ:∀ h',Heap.ExtBut s.heap.objs.size s.heap h'→Q items.toList { s with heap:=h' }):wpAny (model prog w) A (unpackItems (.ref t) items.size none) Q E s:=by
  have hlt:t≠s.heap.objs.size:=by obtain ⟨o,ho,_⟩:=ht; exact Nat.ne_of_lt (Heap.lt_size ho)
  unfold unpackItems
  refine wpAny_bind ?_
  · unfold notIterableAtAll
    refine wpAny_bind (wpAny_specialOf ht.typeIs slot_list_iter.lookup ?_)
    refine wpAny_pure ?_
    simp only [Bool.false_eq_true,if_false]
    refine wpAny_bind (wpAny_holding (wpAny_pyIter_list ht ?_))
    refine wpAny_bind (wpAny_holding (draw_list hlt items.size 0 _ _ ⟨_,Heap.get?_push_size _ rfl,rfl,rfl⟩ (ht.push _) (by omega) fun h₁ hit₁ hs₁=>?_))
    have hall:List.take items.size (List.drop 0 items.toList)=items.toList:=by
      rw [List.drop_zero]; exact List.take_of_length_le (by simp)
    rw [hall]
    rw [if_neg (by simp)]
    have ht₁:h₁.IsList t items:=(ht.push _).extBut hs₁.extBut hlt
    refine wpAny_bind (wpAny_holding (wpAny_pyNext_list_end hh hit₁ ht₁ (by simp) fun h₂ he₂=>?_))
    simp only [Option.isSome_none,Bool.false_eq_true,if_false]
    refine wpAny_pure (hQ h₂ fun b o hb e=>he₂ b o hb (hs₁.extBut b o hb (Heap.get?_push_of_some _ e)))
theorem assign_Tuple_list {env:Env} {elts:List Expr} {x1} {pos:Pos} {t:Addr} {items:Array Value} {Q:Unit→Shared→Prop} (hh:A.handled=none) (ht:s.heap.IsList t items)
    (hn:(assignEach elts env).length=items.size) (hstar:(assignEach elts env).findIdx? (·.1)=none)
    (h:∀ h',Heap.ExtBut s.heap.objs.size s.heap h'→wpAny (model prog w) A (assignInOrder ((assignEach elts env).map (·.2)) items.toList) Q E { s with heap:=h' }) :
    wpAny (model prog w) A (assign (.Tuple elts x1 pos) env (.ref t)) Q E s:=by
  rw [assign_Tuple]
  refine wpAny_bind (wpAny_standAt ?_)
  unfold unpack
  rw [hn,hstar]
  exact wpAny_bind (wpAny_holding (unpackItems_list hh ht h))
end
section
variable {X:Cx} {pos:Pos}
inductive gSeq (n:Nat) (t:TGs) (v:V) (σ:St) (H:Hp) (Q:St→Hp→Prop):Prop
  | mk (a:Addr) (o:HO) (xs:List V) (e:v=.ref a) (h:H a=some o) (ob:Ob o xs) (l:xs.length=n) (q:t xs σ H Q):gSeq n t v σ H Q
theorem pg_seq {es:List Expr} {k:Nat} {t:TGs} {n:Nat} (hc:X.calm=true) (h:PGs X es t)
    (hn:(assignEach es X.env).length=n:=by rfl) (hst:(assignEach es X.env).findIdx? (·.1)=none:=by rfl):PG X (.Tuple es k pos) (gSeq n t):=by
  intro pins s σ H v u Q I r hw
  obtain ⟨a,o,xs,e1,ha,ho,hl,hw⟩:=hw
  subst e1
  cases r
  rcases ho with ho | ho
  · subst ho
    obtain ⟨its,rv,ht,hz⟩:=I.list (.of ha)
    refine assign_Tuple_list (I.ok.hd hc) ht.isList (by simp [hn,← hl,rv.length]) hst fun h' hx=>?_
    have I1:Inv X pins σ H { s with heap:=h' }:=I.kept (t':=s.toks) fun b o e=>hx b o (Nat.ne_of_lt (Heap.lt_size e)) e
    exact h pins _ σ H xs _ Q I1 (by simpa using rv) hw
  · subst ho
    obtain ⟨its,rv,ht,hz⟩:=I.tuple (.of ha)
    refine assign_Tuple_tuple (I.ok.hd hc) ht (by simp [hn,← hl,rv.length]) hst fun h' hx=>?_
    have I1:Inv X pins σ H { s with heap:=h' }:=I.kept (t':=s.toks) fun b o e=>hx b o (Nat.ne_of_lt (Heap.lt_size e)) e
    exact h pins _ σ H xs _ Q I1 (by simpa using rv) hw
theorem pg_triple {Ns:List Str} {sc:Scope} {x y z:Str} {p1 p2 p3 p4:Pos} {k:Nat} (hc:X.calm=true) (S:LnScope X [x,y,z] Ns sc):∀ C fp s0 H0,PG (cxLN X [x,y,z] Ns sc C fp s0 H0) (.Tuple [.Name x p1,.Name y p2,.Name z p3] k p4) (gSeq 3 (gCons (gName 0) (gCons (gName 1) (gCons (gName 2) gNil)))):=fun C fp s0 H0=>by
  have lx:(relabel sc X.env).names.lookup x=some .local:=lookup_relabel_local (S.loc x (by simp))
  have ly:(relabel sc X.env).names.lookup y=some .local:=lookup_relabel_local (S.loc y (by simp))
  have lz:(relabel sc X.env).names.lookup z=some .local:=lookup_relabel_local (S.loc z (by simp))
  exact pg_seq (X:=cxLN X [x,y,z] Ns sc C fp s0 H0) hc (pgs_cons (pg_name (i:=0) S.all rfl (.inl lx) (.inr lx)) (pgs_cons (pg_name (i:=1) S.all rfl (.inl ly) (.inr ly)) (pgs_cons (pg_name (i:=2) S.all rfl (.inl lz) (.inr lz)) pgs_nil)))
end
end L2
namespace Pr
open PySem L2 PyProof.Rows
def coverM (st:List Lad.Step) (one other:Int) (k:Nat):List Lad.Piece:=if Lad.ur st 0 other < Lad.low st one 0 then [.rest one other] else restL one (Lad.dn st 0 (Lad.low st one 0))++Lad.runBars (Lad.runs st one other k 0)++restL (Lad.dn st 0 (Lad.ur st 0 other)) other
theorem restL_len (i j:Int):(restL i j).length≤1:=by unfold restL; split <;> simp
theorem len3' {α:Type}:∀ {u:List α},u.length=3→∃ a b c,u=[a,b,c]
  | [a,b,c],_=>⟨a,b,c,rfl⟩
theorem one_line:1≤sizeLine:=by decide
theorem PieceT.wr {H:Hp} {v:V} {x:Lad.Piece} {D:Addr} {ys:List V} {o:HO} (h:PieceT H v x) (hD:H D=some (.lst ys)):PieceT (upd H D o) v x:=by
  obtain ⟨a,e,h⟩:=h
  exact ⟨a,e,by rw [upd_ne (fun z=>by rw [z,hD] at h; cases h)]; exact h⟩
section
variable {P:Program} {w:World} {K:PySem.W.Frag} {mg:Str→Option Value} {base:Heap} {C:Addr}
inductive sp_cover (mg:Str→Option Value) (C:Addr) (vs:List V) (H:Hp) (Q:VK) (E:XK):Prop
  | mk (p:Addr) (one other:Int) (b:Int) (ps:List Int) (rows:List Lad.Step) (e:vs=[.ref p,.int one,.int other]) (h:LadAt C H p b ps rows) (ok:LadOk b ps rows) (m0 : -W30 < one) (m1:one < other) (m2:other < W30)
      (q:(coverM (allSt b ps rows) one other rows.length).length≤300→∀ D ys H',Same H H'→H D=none→H' D=some (.lst ys)→Paired (PieceT H') ys (coverM (allSt b ps rows) one other rows.length)→Q (.ref D) H')
      (x:300 < (coverM (allSt b ps rows) one other rows.length).length→∀ H',Same H H'→E (.ref (cOf mg "TooMany")) none H'):sp_cover mg C vs H Q E
theorem sc_cover:FnScope ["ladder","one","other","begin","end","head","tail","runs","bars"] ["ladder","one","other"] (defScope s_cover):=⟨rfl,rfl,rfl,by decide +kernel,rfl,by decide +kernel,by decide +kernel⟩
set_option maxHeartbeats 8000000 in
theorem cover (T:Txt K mg C):CanX P w K mg base 8 "cover" ["ladder","one","other"] (sp_cover mg C):=by
  refine fn_canX T.f_cover sc_cover (fun vs H Q E h=>?_) (fun f cdv A outer s H vs Q E hr W h=>?_)
  · obtain ⟨p,one,other,b,ps,rows,rfl,_⟩:=h
    rfl
  · obtain ⟨p,one,other,b,ps,rows,rfl,hL,ok,m0,m1,m2,q,x⟩:=h
    refine ⟨_,(pss_cons (ps_expr (pe_can (need_time T) hr (pa2 (pv 1) (pv 2))))
      (pss_cons (ps_set (i:=3) sc_cover.nd rfl (Or.inl rfl) (pe_can (first_begun T) hr (pa2 (pv 0) (pv 1))))
      (pss_cons (ps_set (i:=4) sc_cover.nd rfl (Or.inl rfl) (pe_canM (pv 0) T.cl (bar_at T) hr (pa2 pe_int (pv 2))))
      (pss_cons (ps_if (pt_cmpR op_gt (pv 3) (pv 4) (nomark _))
        (pss_one (ps_ret (pe_lst (pa1 (pe_tup (pa3 pe_str (pv 1) (pv 2)))))))
        pss_nil)
      (pss_cons (ps_set (i:=5) sc_cover.nd rfl (Or.inl rfl) (pe_can (rest_between T) hr (pa2 (pv 1) (pe_ix (ix_tupK K) (pe_canM (pv 0) T.cl (stretch T) hr (pa2 pe_int (pv 3))) pe_int (fun _ _=>rfl)))))
      (pss_cons (ps_set (i:=6) sc_cover.nd rfl (Or.inl rfl) (pe_can (rest_between T) hr (pa2 (pe_ix (ix_tupK K) (pe_canM (pv 0) T.cl (stretch T) hr (pa2 pe_int (pv 4))) pe_int (fun _ _=>rfl)) (pv 2))))
      (pss_cons (ps_set (i:=7) sc_cover.nd rfl (Or.inl rfl) (pe_can (greatest_runs T) hr (pa3 (pv 0) (pv 3) (pv 4))))
      (pss_cons (ps_if (pt_cmpR op_gt (pe_op op_add (pe_op op_add (pe_b (call_lenK K) T.b_len boot_len (pa1 (pv 5))) (pe_b (call_lenK K) T.b_len boot_len (pa1 (pv 6)))) (pe_b (call_sum_seqK K rfl) T.b_sum boot_sum (pa1 (pe_ln (xs:=["roll","first","behind"]) (Ns:=["ladder","one","other","begin","end","head","tail","runs","bars"]) rfl (lnS _ sc_cover) (pi_listK K (pv 7)) (pg_triple rfl (lnS _ sc_cover)) (fun _ _ _ _=>pts_nil) (fun _ _ _ _=>(pe_op op_sub (pv 2) (pv 1))))))) (pe_gi T.c_MOST_PIECES) (nomark _))
        (pss_one (ps_raise W rfl T.x_TooMany.cls (pa1 pe_str)))
        pss_nil)
      (pss_cons (ps_setLN2 (i:=8) (xs1:=["roll","first","behind"]) (xs2:=["number"]) (Ns:=["ladder","one","other","begin","end","head","tail","runs","bars"]) sc_cover.nd rfl rfl rfl (lnS _ sc_cover) (pi_listK K (pv 7)) (pg_three K (i:=1) (j:=2) (k:=3) rfl (lnS _ sc_cover) (by decide) (by decide) (by decide) rfl rfl rfl) (fun _ _ _ _=>pi_rangeL rfl T.b_range (pa2 (pv 2) (pv 3))) (pg_at (i:=0) (lnS _ sc_cover) (by decide) rfl) (fun _ _ _ _=>pts_nil) (fun _ _ _ _=>(pe_tup (pa3 pe_str (pv 1) (pv 0)))))
      (pss_one (ps_ret (pe_op op_cat (pe_op op_cat (pv 5) (pv 8)) (pv 6))))))))))))),?_⟩
    have hW:W30=1000000000000000000000000000000:=rfl
    have hW4:W40=10000000000000000000000000000000000000000:=rfl
    have hrl:=(rowsB_ok ok.r).1
    have lf:=low_far ok 0 m0 (show one < W30 by omega)
    have uf:=ur_far ok 0 (show -W30 < other by omega) m2
    obtain ⟨dx,a,o,c,hi⟩:=lad_ins hL
    unfold coverM at q x
    generalize hst:allSt b ps rows=st at q x lf uf
    refine ⟨_,rfl,_,rfl,one,other,rfl,m0,m1,m2,_,rfl,_,rfl,p,one,b,ps,rows,rfl,hL,ok,m0,by omega,fun H1 s1=>?_⟩
    rw [hst]
    refine ⟨_,rfl,p,dx,_,rfl,s1 _ _ hi,flds_no _ _ _ (by decide) (by decide) (by decide),_,rfl,p,0,other,b,ps,rows,rfl,hL.same s1,ok,by omega,by omega,by omega,m2,fun H2 s2=>?_⟩
    rw [show (0:Int)=((0:Nat):Int) from rfl,ur_allSt,hst]
    have s12:=s1.trans s2
    refine ⟨_,rfl,_,rfl,_,_,rfl,rfl,_,rfl,?_⟩
    refine iteB (fun hc=>?_) (fun hc=>?_)
    · have hc:Lad.ur st 0 other < Lad.low st one 0:=of_decide_eq_true hc
      rw [if_pos hc] at q
      refine ⟨_,rfl,_,rfl,line1 (by show 3≤1000; decide),fun t ht=>⟨line1 (by show 1≤1000; decide),fun D hD=>?_⟩⟩
      have s3:Same H2 (upd H2 t (.tup [.str "rest",.int one,.int other])):=Same.upd ht
      exact q (by show 1≤300; decide) D _ _ (s12.trans (s3.trans (Same.upd hD))) (same_none (s12.trans s3) hD) upd_same (.cons ⟨t,rfl,(Same.upd hD) _ _ upd_same⟩ .nil)
    have hc:¬ Lad.ur st 0 other < Lad.low st one 0:=of_decide_eq_false hc
    rw [if_neg hc] at q x
    have gd:Lad.Goods st:=by rw [← hst]; exact ok.goods
    have stl:st.length=rows.length + 1:=by rw [← hst]; rfl
    obtain ⟨rok,_⟩:=Lad.runs_ok gd (one:=one) (other:=other) rows.length 0 (by omega) (by omega)
    have rbl:=Lad.runBars_len (st:=st) (one:=one) (other:=other) (Lad.runs st one other rows.length 0) fun y hy=>(rok y hy).1.le
    refine ⟨_,rfl,_,rfl,p,dx,_,rfl,s12 _ _ hi,flds_no _ _ _ (by decide) (by decide) (by decide),_,rfl,p,0,_,b,ps,rows,rfl,hL.same s12,ok,by omega,by omega,by omega,by omega,fun t3 H3 s3 ht3=>?_⟩
    rw [show (0:Int)=((0:Nat):Int) from rfl,dn_allSt,dn_allSt,hst] at ht3
    have s13:=s12.trans s3
    refine ⟨t3,_,_,_,rfl,rfl,.of ht3,atI_nat (j:=0) rfl,_,_,rfl,fun HD hys H4 s4 _ hHD pH=>?_⟩
    have s14:=s13.trans s4
    refine ⟨_,rfl,p,dx,_,rfl,s14 _ _ hi,flds_no _ _ _ (by decide) (by decide) (by decide),_,rfl,p,0,_,b,ps,rows,rfl,hL.same s14,ok,by omega,by omega,by omega,by omega,fun t5 H5 s5 ht5=>?_⟩
    rw [show (0:Int)=((0:Nat):Int) from rfl,dn_allSt,dn_allSt,hst] at ht5
    have s15:=s14.trans s5
    refine ⟨t5,_,_,_,rfl,rfl,.of ht5,atI_nat (j:=0) rfl,_,rfl,_,_,rfl,fun TD tys H6 s6 _ hTD pT=>?_⟩
    have s16:=s15.trans s6
    refine ⟨_,rfl,_,rfl,_,rfl,p,one,other,b,ps,rows,by rw [hst]; rfl,hL.same s16,ok,m0,by omega,by omega,m2,fun RD rys H7 s7 hRD pR=>?_⟩
    rw [hst] at pR
    have s17:=s16.trans s7
    have hl:=Paired.length pH
    have tl:=Paired.length pT
    have rl:=Paired.length pR
    have hl1:=restL_len one (Lad.dn st 0 (Lad.low st one 0))
    have tl1:=restL_len (Lad.dn st 0 (Lad.ur st 0 other)) other
    have hHD7:=(s5.trans (s6.trans s7)) _ _ hHD
    have hTD7:=s7 _ _ hTD
    have rlen:∀ k r,(Lad.runs st one other k r).length≤2 * k + 1:=fun k=>by
      induction k with
      | zero=>intro r; exact Nat.le_refl _
      | succ k ih =>
        intro r
        unfold Lad.runs
        split
        · rw [List.length_cons,List.length_append]
          have:=ih (r + 1)
          show (Lad.runs st one other k (r + 1)).length + 1 + 1≤_
          omega
        · show 1≤_; omega
    have rl9:=rlen rows.length 0
    refine ⟨_,rfl,HD,_,rfl,.inl (.of hHD7),_,rfl,TD,_,rfl,.inl (.of hTD7),_,_,rfl,rfl,_,rfl,RD,rfl,⟨_,.of hRD⟩,fun SD hSD=>?_⟩
    refine lcN_list (xs:=rys) (fun i ys H8=>H8 SD=some (.lst ys)∧Same H7 H8∧ys=(((Lad.runs st one other rows.length 0).take i).map fun y=>y.2.2 - y.2.1).map V.int) ⟨upd_same,Same.upd hSD,rfl⟩ (fun i ys H8 h=>⟨h.1,.of (h.2.1 _ _ hRD)⟩) (fun ys H8 h=>?fin) fun i x ys H8 u hu hi' hx h=>?turn
    case turn =>
      obtain ⟨h1,h2,rfl⟩:=h
      obtain ⟨u1,u2,u3,rfl⟩:=len3' hu
      obtain ⟨y,hy,b8,rfl,hb8⟩:=Paired.get pR hx
      refine ⟨b8,_,_,rfl,h2 _ _ hb8,.inr rfl,rfl,_,_,rfl,_,_,rfl,_,_,rfl,rfl,⟨[_,_,_],rfl,rfl⟩,yesI ⟨_,rfl,_,rfl,_,_,rfl,rfl,?_⟩⟩
      refine LcNx.mk hi' (by omega) (by rw [List.length_map,List.length_map,List.length_take]; omega) h1 ⟨upd_same,fun b' o' e=>?_,?_⟩
      · rw [upd_ne (ne_of_none e hSD)]; exact h2 _ _ e
      · rw [List.take_add_one,hy,List.map_append,List.map_append]
        rfl
    obtain ⟨h1,h2,rfl⟩:=h
    rw [rl,List.take_length] at h1
    refine ⟨SD,_,rfl,.inl (.of h1),_,_,rfl,rfl,_,_,rfl,rfl,_,rfl,?_⟩
    have hmany:((((Lad.runs st one other rows.length 0).map fun y=>y.2.2 - y.2.1)).sum:Int)=((Lad.runBars (Lad.runs st one other rows.length 0)).length:Int):=rbl.symm
    rw [hmany,hl,tl]
    generalize hrb:Lad.runBars (Lad.runs st one other rows.length 0)=rb at q x rbl
    have s18:=s17.trans h2
    refine iteB (fun hd=>?_) (fun hd=>?_)
    · have hd:=of_decide_eq_true hd
      exact ⟨⟨one_line,x (by rw [List.length_append,List.length_append]; omega) _ s18⟩⟩
    have hd:=of_decide_eq_false hd
    have hRD8:=h2 _ _ hRD
    have pR8:Paired (RunT H8) rys (Lad.runs st one other rows.length 0):=Paired.mapP pR fun _ _ z=>z.same h2
    refine ⟨_,rfl,RD,rfl,⟨_,.of hRD8⟩,fun BD hBD=>?_⟩
    refine lc2_list (xs:=rys) (fun i ys H9=>H9 BD=some (.lst ys)∧Same H8 H9∧Paired (PieceT H9) ys (Lad.runBars ((Lad.runs st one other rows.length 0).take i))) ⟨upd_same,Same.upd hBD,.nil⟩ (fun i ys H9 h=>⟨h.1,.of (h.2.1 _ _ hRD8)⟩) (fun ys H9 h=>?_) fun i y ys H9 v u hv hu hi' hy h m hm=>?_
    · obtain ⟨d1,d2,d3⟩:=h
      rw [rl,List.take_length,hrb] at d3
      have dl:=Paired.length d3
      have s89:=h2.trans d2
      have hHD9:=s89 _ _ hHD7
      have hTD9:=s89 _ _ hTD7
      refine ⟨_,rfl,_,rfl,HD,BD,_,_,rfl,rfl,hHD9,d1,by rw [sizeLine_eq]; omega,fun M hM=>?_⟩
      have sM:Same H9 (upd H9 M (.lst (hys++ys))):=Same.upd hM
      have hM':(upd H9 M (.lst (hys++ys))) M=some (.lst (hys++ys)):=upd_same
      generalize (upd H9 M (.lst (hys++ys)))=HM at sM hM'
      refine ⟨_,rfl,M,TD,_,_,rfl,rfl,hM',sM _ _ hTD9,by rw [sizeLine_eq,List.length_append]; omega,fun Z hZ=>?_⟩
      have sZ:Same HM (upd HM Z (.lst (hys++ys++tys))):=Same.upd hZ
      have sMZ:=sM.trans sZ
      have s9Z:=s89.trans sMZ
      refine q (by rw [List.length_append,List.length_append]; omega) Z _ _ (s17.trans s9Z) (same_none (s17.trans (s89.trans sM)) hZ) upd_same ?_
      exact Paired.app (Paired.app (Paired.mapP pH fun _ _ z=>z.same ((s5.trans (s6.trans s7)).trans s9Z)) (Paired.mapP d3 fun _ _ z=>z.same sMZ)) (Paired.mapP pT fun _ _ z=>z.same (s7.trans s9Z))
    · obtain ⟨d1,d2,d3⟩:=h
      obtain ⟨u1,u2,u3,rfl⟩:=len3' hu
      obtain ⟨v0,rfl⟩:=len1 hv
      obtain ⟨run,hrun,b9,rfl,hb9⟩:=Paired.get pR8 hy
      subst hm
      refine ⟨b9,_,rfl,.of (d2 _ _ hb9),rfl,_,_,rfl,_,_,rfl,_,_,rfl,rfl,[some (.int (run.1:Int)),some (.int run.2.1),some (.int run.2.2)],rfl,rfl,?_⟩
      refine ⟨_,rfl,_,rfl,_,_,rfl,?_⟩
      have rmem:=List.mem_of_getElem? hrun
      have dl:=Paired.length d3
      have tot:(Lad.runBars ((Lad.runs st one other rows.length 0).take (i + 1))).length≤rb.length:=by
        rw [← hrb]
        have:Lad.runBars (Lad.runs st one other rows.length 0)=Lad.runBars ((Lad.runs st one other rows.length 0).take (i + 1))++Lad.runBars ((Lad.runs st one other rows.length 0).drop (i + 1)):=by
          unfold Lad.runBars
          rw [← List.flatMap_append,List.take_append_drop]
        rw [this,List.length_append]
        omega
      have tk:Lad.runBars ((Lad.runs st one other rows.length 0).take (i + 1))=Lad.runBars ((Lad.runs st one other rows.length 0).take i)++Lad.barsOf run.1 run.2.1 (run.2.2 - run.2.1).toNat:=by
        unfold Lad.runBars
        rw [List.take_add_one,hrun,List.flatMap_append]
        congr 1
        show List.flatMap _ [run]=_
        rw [List.flatMap_cons,List.flatMap_nil,List.append_nil]
      rw [tk,List.length_append,Lad.barsOf_len] at tot
      refine lcIn_range (fun j zs HA=>HA BD=some (.lst zs)∧Same H8 HA∧Paired (PieceT HA) zs (Lad.runBars ((Lad.runs st one other rows.length 0).take i)++Lad.barsOf run.1 run.2.1 j)) ⟨d1,d2,by rw [show Lad.barsOf run.1 run.2.1 0=[] from rfl,List.append_nil]; exact d3⟩ (fun j zs HA h=>h.1) (fun zs HA h=>?_) fun j zs HA u hu hj h=>?_
      · obtain ⟨g1,g2,g3⟩:=h
        exact ⟨rys.length - (i + 1),by omega,rfl,hi',g1,g2,by rw [tk]; exact g3⟩
      · obtain ⟨g1,g2,g3⟩:=h
        obtain ⟨w0,rfl⟩:=len1 hu
        have gl:=Paired.length g3
        rw [List.length_append,Lad.barsOf_len] at gl
        refine ⟨⟨[_],rfl,rfl⟩,yesI ⟨_,rfl,_,rfl,line1 (by show 3≤1000; decide),fun t ht=>?_⟩⟩
        have sT:Same HA (upd HA t (.tup [.str "bar",.int (run.1:Int),.int (run.2.1 + (j:Int))])):=Same.upd ht
        have htT:PieceT (upd HA t (.tup [.str "bar",.int (run.1:Int),.int (run.2.1 + (j:Int))])) (.ref t) (.bar run.1 (run.2.1 + (j:Int))):=⟨t,rfl,upd_same⟩
        generalize (upd HA t (.tup [.str "bar",.int (run.1:Int),.int (run.2.1 + (j:Int))]))=HT at sT htT
        refine in2 hj (sT _ _ g1) (by rw [sizeLine_eq]; omega) ⟨upd_same,fun b' o' e=>?_,?_⟩
        · rw [upd_ne (ne_of_none e hBD)]; exact sT _ _ (g2 _ _ e)
        · rw [Lad.barsOf_snoc,← List.append_assoc]
          exact Paired.app (Paired.mapP g3 fun _ _ z=>(z.same sT).wr (sT _ _ g1)) (.cons (htT.wr (sT _ _ g1)) .nil)
end
end Pr
namespace Srt
open PySem
abbrev Pl:=Int × Str
def plt (a b:Pl):Bool:=if a.1=b.1 then decide (a.2.cps.toList < b.2.cps.toList) else decide (a.1 < b.1)
theorem plt_asym {a b:Pl} (h:plt a b=true):plt b a=false:=by
  unfold plt at h ⊢
  by_cases e:a.1=b.1
  · rw [if_pos e] at h
    rw [if_pos e.symm]
    exact decide_eq_false (List.lt_asymm (of_decide_eq_true h))
  · rw [if_neg e] at h
    rw [if_neg (Ne.symm e)]
    have:=of_decide_eq_true h
    exact decide_eq_false (by omega)
theorem plt_irr (a:Pl):plt a a=false:=by
  cases h:plt a a with
  | false=>rfl
  | true=>exact (plt_asym h).symm.trans h ▸ rfl
theorem plt_tr {a b c:Pl} (h:plt b a=false) (h':plt c b=false):plt c a=false:=by
  unfold plt at h h' ⊢
  by_cases e:b.1=a.1 <;> by_cases e':c.1=b.1
  · rw [if_pos e] at h
    rw [if_pos e'] at h'
    rw [if_pos (e'.trans e)]
    have h1:=List.not_lt.mp (of_decide_eq_false h)
    have h2:=List.not_lt.mp (of_decide_eq_false h')
    exact decide_eq_false (List.not_lt.mpr (List.le_trans h1 h2))
  · rw [if_neg e'] at h'
    have:=of_decide_eq_false h'
    rw [if_neg (by omega)]
    exact decide_eq_false (by omega)
  · rw [if_neg e] at h
    have:=of_decide_eq_false h
    rw [if_neg (by omega)]
    exact decide_eq_false (by omega)
  · rw [if_neg e] at h
    rw [if_neg e'] at h'
    have:=of_decide_eq_false h
    have:=of_decide_eq_false h'
    rw [if_neg (by omega)]
    exact decide_eq_false (by omega)
theorem plt_one {a b:Pl} (h:plt a b=false) (h':plt b a=false):a=b:=by
  unfold plt at h h'
  by_cases e:a.1=b.1
  · rw [if_pos e] at h
    rw [if_pos e.symm] at h'
    have h1:=List.not_lt.mp (of_decide_eq_false h)
    have h2:=List.not_lt.mp (of_decide_eq_false h')
    have h3:=List.le_antisymm h2 h1
    obtain ⟨a1,⟨⟨a2⟩⟩⟩:=a
    obtain ⟨b1,⟨⟨b2⟩⟩⟩:=b
    cases e
    cases h3
    rfl
  · rw [if_neg e] at h
    rw [if_neg (Ne.symm e)] at h'
    have:=of_decide_eq_false h
    have:=of_decide_eq_false h'
    exact absurd (show a.1=b.1 by omega) e
def ltOf (es:List Pl) (i j:Nat):Bool:=plt (es.getD i (0,⟨#[]⟩)) (es.getD j (0,⟨#[]⟩))
theorem ltOf_ord (es:List Pl):Ord (ltOf es):=⟨plt_asym,plt_tr⟩
end Srt
namespace L2
open PySem PySem.Spec PyProof.Rows
abbrev Places (H:Hp) (xs:List V) (es:List Srt.Pl):Prop:=Paired (fun x (e:Srt.Pl)=>∃ a r,x=.ref a∧H a=some (.tup (.int e.1::.str e.2::r))) xs es
inductive sp_place (vs:List V) (H:Hp) (Q:VK) (E:XK):Prop
  | mk (a:Addr) (m:Int) (k:Str) (r:List V) (h0:vs=[.ref a]) (h1:H a=some (.tup (.int m::.str k::r))) (q:∀ t,H t=none→Q (.ref t) (upd H t (.tup [.int m,.str k]))):sp_place vs H Q E
def PJ (H0:Hp) (es:List Srt.Pl) (i:Nat) (H:Hp) (ks:List Value):Prop :=
  Same H0 H∧Paired (fun (u:Value) (e:Srt.Pl)=>∃ t,u=.ref t∧H t=some (.tup [.int e.1,.str e.2])) ks (es.take i)
section
variable {X:Cx} {pins:List (Addr × Obj)} {σ:St} {H:Hp} {s:Shared}
theorem tup2_at (I:Inv X pins σ H s) {t:Addr} {m:Int} {k:Str} (h:H t=some (.tup [.int m,.str k])):∃ o n tm tk,s.heap.get? t=some o∧o.cls=.type "tuple"∧o.data=.seq #[.int m tm,.str k tk] n:=by
  obtain ⟨_,its,rv,o,ho,hc,n,hd⟩:=I.hok t _ h
  obtain ⟨u,v,rfl,⟨tm,rfl⟩,⟨tk,rfl⟩⟩:=vals2 rv
  exact ⟨o,n,tm,tk,ho,hc,hd⟩
theorem ask2 (I:Inv X pins σ H s) {A:Around} {t t':Addr} {e e':Srt.Pl} (h:H t=some (.tup [.int e.1,.str e.2])) (h':H t'=some (.tup [.int e'.1,.str e'.2])) {C:Bool→Shared→Prop} {E:Value→Shared→Prop} (q:C (Srt.plt e e') s) :
    wpAny (model X.prog X.w) A (keyLt' (tuples' true) (.ref t) (.ref t')) C E s:=by
  obtain ⟨o,n,tm,tk,ho,hc,hd⟩:=tup2_at I h
  obtain ⟨o',n',tm',tk',ho',hc',hd'⟩:=tup2_at I h'
  refine PySem.W.kat_lt ho hd ho' hd' ?_
  refine PySem.W.kat_cons (wpAny_eqBool_int (PySem.W.kat_go (fun e1=>PySem.W.kat_yes ?_) fun e1=>PySem.W.kat_no ?_))
  · have e1':e.1=e'.1:=by simpa using e1
    refine PySem.W.kat_cons (wpAny_eqBool_str (PySem.W.kat_go (fun e2=>PySem.W.kat_yes (PySem.W.kat_nil ?_)) fun e2=>PySem.W.kat_no ?_))
    · have e2':e.2=e'.2:=by simpa using e2
      have e3:Srt.plt e e'=false:=by
        unfold Srt.plt
        rw [if_pos e1',e2']
        exact decide_eq_false (List.lt_irrefl _)
      rw [e3] at q
      exact q
    · have e3:Srt.plt e e'=decide (e.2.cps.toList < e'.2.cps.toList):=by
        unfold Srt.plt
        rw [if_pos e1']
      rw [e3] at q
      exact PySem.W.kat_one _ _ (lt_str q)
  · have e1':¬ e.1=e'.1:=by simpa using e1
    have e3:Srt.plt e e'=decide (e.1 < e'.1):=by
      unfold Srt.plt
      rw [if_neg e1']
    rw [e3] at q
    exact oneLt_int q
theorem kat_tups (I:Inv X pins σ H s):∀ {ks:List Value} {es:List Srt.Pl},Paired (fun (u:Value) (e:Srt.Pl)=>∃ t,u=.ref t∧H t=some (.tup [.int e.1,.str e.2])) ks es→∃ fs,PySem.W.KatTups s.heap ks fs∧fs.length=ks.length∧∀ v ∈ fs,∃ m tm,v=Value.int m tm
  | _,_,.nil=>⟨[],.nil,rfl,fun v h=>nomatch h⟩
  | _,_,.cons ⟨t,e,h⟩ r=>by
    obtain ⟨fs,h1,h2,h3⟩:=kat_tups I r
    obtain ⟨o,n,tm,tk,ho,hc,hd⟩:=tup2_at I h
    subst e
    refine ⟨_::fs,.cons ho hc hd rfl h1,by rw [List.length_cons,List.length_cons,h2],fun v hv=>?_⟩
    rcases List.mem_cons.mp hv with rfl | hv
    · exact ⟨_,_,rfl⟩
    · exact h3 v hv
theorem Paired.getR {α β:Type} {F:α→β→Prop}:∀ {xs:List α} {ys:List β} {i:Nat} {y:β},Paired F xs ys→ys[i]?=some y→∃ x,xs[i]?=some x∧F x y
  | _,_,_,_,.nil,e=>by simp at e
  | _,_,0,_,.cons r _,e=>by simp at e; subst e; exact ⟨_,rfl,r⟩
  | _,_,i + 1,y,.cons _ t,e=>by
    obtain ⟨u,h1,h2⟩:=Paired.getR (i:=i) (y:=y) t (by simpa using e)
    exact ⟨u,by simpa using h1,h2⟩
theorem Paired.snoc {α β:Type} {F:α→β→Prop} {x:α} {y:β} (h:F x y):∀ {xs:List α} {ys:List β},Paired F xs ys→Paired F (xs++[x]) (ys++[y])
  | _,_,.nil=>.cons h .nil
  | _,_,.cons r t=>.cons r (Paired.snoc h t)
inductive rSort (K:PySem.W.Frag) (vs:List V) (H:Hp) (Q:VK):Prop
  | mk (l:Addr) (xs:List V) (es:List Srt.Pl) (h0:vs=[.ref l]) (h1:SqL K H l xs) (h2:xs.length < 64) (h3:Places H xs es)
    (q:∀ D H' (p:List Nat),Same H H'→H D=none→H' D=some (.lst (p.map fun i=>xs.getD i .non))→p.Perm (List.range xs.length)→p.Pairwise (Srt.R (Srt.ltOf es))→Q (.ref D) H'):rSort K vs H Q
theorem sort_places {k k':Nat} {kf pn:Str} {vs:List V} {us:List Value} {Q:VK} {f:Addr} {fd:FuncData} (F:FnOk X.prog X.w X.K X.mg X.base CX0 k f fd [pn] sp_place) (hb:Binds X.K fd [pn] []) (hr:Room (k + 2) X.A)
    (I:Inv X pins σ H s) (r:Vals vs us) (h:rSort X.K vs H Q):wpAny (model X.prog X.w) X.A (call (.builtin "sorted") us [(Str.ofString "key",.ref f)]) (EP X pins σ Q) X.xe s:=by
  obtain ⟨l,xs,es,rfl,hl,h64,hp,q⟩:=h
  obtain ⟨u,rfl,ru⟩:=vals1 r
  cases ru
  have hlen:xs.length=es.length:=hp.length
  refine sort_call (J:=PJ H es) I hl h64 ⟨Same.refl _,by rw [List.take_zero]; exact .nil⟩ (fun i x v pins σ H' s ks hx rx hJ hk J=>?_) fun pins σ H' s ks hJ hk J=>?_
  · obtain ⟨hs,hP⟩:=hJ
    obtain ⟨e,he,a,rr,rfl,ha⟩:=Paired.get hp hx
    cases rx
    have run:=run_fn (X:=inn X) (k:=k) (f:=f) (fd:=fd) (ps:=[pn]) (sp:=sp_place) (dvs:=[]) (ds:=[]) (E:=E0) (CX:=CX0) (us:=[Value.ref a]) (vs:=[V.ref a]) (Q:=fun v H2=>∃ t,v=.ref t∧Same H' H2∧H2 t=some (.tup [.int e.1,.str e.2])) F hr.in1.in1 hb .nil pass0 J (.cons rfl .nil)
      ⟨a,e.1,e.2,rr,rfl,hs _ _ ha,fun t ht=>⟨t,rfl,Same.upd ht,upd_same⟩⟩
    refine thn run fun u s2 hu=>?_
    obtain ⟨v,H2,J2,rv,t,rfl,s2',ht⟩:=hu
    cases rv
    refine ⟨H2,J2,hs.trans s2',?_⟩
    rw [List.take_add_one,he]
    exact Paired.snoc ⟨t,rfl,ht⟩ (Paired.mapP hP fun _ _ ⟨t',e1,e2⟩=>⟨t',e1,s2' _ _ e2⟩)
  · obtain ⟨hs,hP⟩:=hJ
    rw [List.take_of_length_le (by omega)] at hP
    refine ⟨tuples' true,Srt.ltOf es,⟨Srt.ltOf_ord es,fun h2 Q hQ=>?_,fun i j C hi hj hC=>?_⟩,fun p p1 p2 D hD=>q D _ p (hs.trans (Same.upd hD)) (hs.free hD) upd_same p1 p2⟩
    · obtain ⟨fs,t1,t2,t3⟩:=kat_tups J hP
      refine PySem.W.kat_kind (T:=.type "int") t1 (by omega) (fun v hv=>?_) (by decide +kernel) ?_
      · obtain ⟨m,tm,rfl⟩:=t3 v hv
        exact PySem.W.Looks.of_pure rfl
      · exact hQ
    · have hi':es[i]?=some es[i]:=List.getElem?_eq_getElem (by omega)
      have hj':es[j]?=some es[j]:=List.getElem?_eq_getElem (by omega)
      obtain ⟨u,eu,t,rfl,ht⟩:=Paired.getR hP hi'
      obtain ⟨u',eu',t',rfl,ht'⟩:=Paired.getR hP hj'
      unfold PySem.W.kas_ask
      rw [List.getD_eq_getElem?_getD,List.getD_eq_getElem?_getD,eu,eu']
      refine ask2 J ht ht' ?_
      unfold Srt.ltOf at hC
      rw [List.getD_eq_getElem?_getD,List.getD_eq_getElem?_getD,hi',hj'] at hC
      exact hC
end
section
variable {X:Cx} {k:Nat} {kf pn:Str} {e:Expr} {t:TA} {p pos kp kpos:Pos}
theorem pe_sortK (K:PySem.W.Frag) (h:Can X.prog X.w X.K X.mg X.base k kf [pn] sp_place) (hr:Room (k + 2) X.A) (hm:X.mg "sorted"=none) (ha:PA X [e] t) (ek:X.K=K:=by rfl) (hg:Gl X "sorted":=by rfl) (hg2:Gl X kf:=by rfl) (hdb:(kf == ("__debug__" : Str))=false:=by decide)
    (he:backTo pos (starEach [e] X.env)=(false,eval e X.env)::backTo pos (starEach [] X.env):=by rfl) (hpl:(backTo pos (starEach [e] X.env)).any (·.1)=false:=by rfl) :
    PE X (.Call (.Name "sorted" p) [e] [⟨some "key",.Name kf kp,kpos⟩] pos) (fun σ H Q=>t σ H fun vs H1=>rSort K vs H1 Q):=by
  subst ek
  refine ⟨?_⟩
  intro pins s σ H Q I hq
  obtain ⟨f,fd,F,hmf,kpn,hb⟩:=h
  refine wpAny_Call_Name_kw (ld_blt I hg hm boot_sorted ?_ (by decide) (by decide))
  refine callWith_kw (thn (ha pos pins s σ H _ I hq) fun us s1 ⟨vs,H1,I1,r,q⟩=>?_) he hpl
  refine thn ((pk_cons (nm:=some "key") (kpos:=kpos) (pe_glob (pos:=kp) hg2 hmf (v:=.ref f) rfl hdb) pk_nil) pos pins s1 σ H1 (fun zs H2=>zs=[.ref f]∧H2=H1) I1 ⟨rfl,rfl⟩) fun ws s2 ⟨zs,H2,I2,r2,e1,e2⟩=>?_
  subst e1 e2
  obtain ⟨u,rfl,ru⟩:=vals1 r2
  cases ru
  exact sort_places (kf:=kf) (k':=0) F hb hr I2 r q
end
end L2
namespace L2
open PySem PySem.Spec PyProof.Rows
mutual
def Dat (H:Hp):PyData→V→Prop
  | .none,v=>v=.non
  | .bool b,v=>v=.bl b
  | .int i,v=>v=.int i
  | .str x,v=>v=.str x
  | .list ds,v=>∃ a xs,v=.ref a∧H a=some (.lst xs)∧DatAll H ds xs
  | .tuple ds,v=>∃ a xs,v=.ref a∧H a=some (.tup xs)∧DatAll H ds xs
  | .dict _,_=>False
def DatAll (H:Hp):List PyData→List V→Prop
  | [],xs=>xs=[]
  | d::ds,xs=>∃ x r,xs=x::r∧Dat H d x∧DatAll H ds r
end
mutual
theorem Dat.same {H H':Hp} (s:∀ b o,H b=some o→H' b=some o):∀ (d:PyData) (v:V),Dat H d v→Dat H' d v
  | .none,v,h=>by unfold Dat at h ⊢; exact h
  | .bool _,v,h=>by unfold Dat at h ⊢; exact h
  | .int _,v,h=>by unfold Dat at h ⊢; exact h
  | .str _,v,h=>by unfold Dat at h ⊢; exact h
  | .list ds,v,h=>by
    unfold Dat at h ⊢
    obtain ⟨a,xs,e,h1,h2⟩:=h
    exact ⟨a,xs,e,s _ _ h1,DatAll.same s ds xs h2⟩
  | .tuple ds,v,h=>by
    unfold Dat at h ⊢
    obtain ⟨a,xs,e,h1,h2⟩:=h
    exact ⟨a,xs,e,s _ _ h1,DatAll.same s ds xs h2⟩
  | .dict _,v,h=>by unfold Dat at h; exact h.elim
theorem DatAll.same {H H':Hp} (s:∀ b o,H b=some o→H' b=some o):∀ (ds:List PyData) (xs:List V),DatAll H ds xs→DatAll H' ds xs
  | [],xs,h=>by unfold DatAll at h ⊢; exact h
  | d::ds,xs,h=>by
    unfold DatAll at h ⊢
    obtain ⟨x,r,e,h1,h2⟩:=h
    exact ⟨x,r,e,Dat.same s d x h1,DatAll.same s ds r h2⟩
end
section
variable {X:Cx} {pins:List (Addr × Obj)} {σ:St} {H:Hp} {s:Shared}
mutual
theorem Dat.reads (I:Inv X pins σ H s):∀ (d:PyData) (v:V) (u:Value),RelV v u→Dat H d v→∃ as,Reads s.heap u d as
  | .none,v,u,r,h=>by unfold Dat at h; subst h; cases r; exact ⟨_,.none⟩
  | .bool b,v,u,r,h=>by unfold Dat at h; subst h; cases r; exact ⟨_,.bool b⟩
  | .int i,v,u,r,h=>by unfold Dat at h; subst h; obtain ⟨t,rfl⟩:=r; exact ⟨_,.int i t⟩
  | .str x,v,u,r,h=>by unfold Dat at h; subst h; obtain ⟨t,rfl⟩:=r; exact ⟨_,.str x t⟩
  | .list ds,v,u,r,h=>by
    unfold Dat at h
    obtain ⟨a,xs,rfl,h1,h2⟩:=h
    cases r
    obtain ⟨_,its,n,rv,e⟩:=I.hok a _ h1
    obtain ⟨as,hr⟩:=DatAll.reads I ds xs its rv h2
    exact ⟨_,.list e rfl rfl (by simpa using hr)⟩
  | .tuple ds,v,u,r,h=>by
    unfold Dat at h
    obtain ⟨a,xs,rfl,h1,h2⟩:=h
    cases r
    obtain ⟨_,its,rv,o,ho,hc,n,hd⟩:=I.hok a _ h1
    obtain ⟨as,hr⟩:=DatAll.reads I ds xs its rv h2
    exact ⟨_,.tuple ho hc hd (by simpa using hr)⟩
  | .dict _,v,u,r,h=>by unfold Dat at h; exact h.elim
theorem DatAll.reads (I:Inv X pins σ H s):∀ (ds:List PyData) (xs:List V) (us:List Value),Vals xs us→DatAll H ds xs→∃ as,ReadsAll s.heap us ds as
  | [],xs,us,r,h=>by unfold DatAll at h; subst h; cases r; exact ⟨_,.nil⟩
  | d::ds,xs,us,r,h=>by
    unfold DatAll at h
    obtain ⟨x,rr,rfl,h1,h2⟩:=h
    cases r with
    | cons rx rt =>
      obtain ⟨as,q1⟩:=Dat.reads I d x _ rx h1
      obtain ⟨bs,q2⟩:=DatAll.reads I ds rr _ rt h2
      exact ⟨_,.cons q1 q2⟩
end
end
structure Fit (d:PyData):Prop where
  sh:d.showable=true
  cl:d.canLay0=true
  sz:d.shown.length≤sizeLine
  dp:d.depth≤8
section
variable {X:Cx}
inductive cRepr (vs:List V) (H:Hp) (Q:VK):Prop
  | mk (a:Addr) (d:PyData) (e:vs=[.ref a]) (h:Dat H d (.ref a)) (f:Fit d) (q:Q (.str d.shown) H):cRepr vs H Q
theorem call_repr {k:Nat} (hr:Room k X.A):CallR X (.builtin "repr") cRepr:=by
  intro pins s σ H xs us Q I r h
  obtain ⟨a,d,rfl,hd,f,q⟩:=h
  obtain ⟨u,rfl,ru⟩:=vals1 r
  cases ru
  obtain ⟨as,rd⟩:=Dat.reads I d (.ref a) (.ref a) rfl hd
  exact repr_of_reads' rd f.sh (PyData.noDict_hsm (PyData.hasDict_of_canLay d f.cl)) hr.gd (by have:=hr.un; have:=f.dp; omega) (fun _ _ q=>q) (fun h' u tk hk=>⟨.str d.shown,H,I.kept hk,⟨u,rfl⟩,q⟩) f.sz
inductive rEqD (neg:Bool) (x y:V) (H:Hp) (Q:VK):Prop
  | mk (d d':PyData) (h:Dat H d x) (h':Dat H d' y) (f:d.canLay0=true) (f':d'.canLay0=true) (p:d.depth≤8) (q:Q (.bl (if neg then !PyData.eqv d d' else PyData.eqv d d')) H):rEqD neg x y H Q
theorem op_eqD {k:Nat} (hr:Room k X.A):OpR X (compareOp .Eq) (rEqD false):=by
  intro pins s σ H x y v u Q I rx ry h
  obtain ⟨d,d',h1,h2,f,f',p,q⟩:=h
  obtain ⟨as,r1⟩:=Dat.reads I d _ _ rx h1
  obtain ⟨bs,r2⟩:=Dat.reads I d' _ _ ry h2
  exact SeqAt.eqOverData X.prog X.w X.A X.xe s v u d d' as bs _ r1 r2 f f' (by have:=hr.un; omega) (fin_bl I q rfl)
theorem op_neD {k:Nat} (hr:Room k X.A):OpR X (compareOp .NotEq) (rEqD true):=by
  intro pins s σ H x y v u Q I rx ry h
  obtain ⟨d,d',h1,h2,f,f',p,q⟩:=h
  obtain ⟨as,r1⟩:=Dat.reads I d _ _ rx h1
  obtain ⟨bs,r2⟩:=Dat.reads I d' _ _ ry h2
  exact SeqAt.compareNe_reads r1 r2 f f' (by have:=hr.un; omega) (fin_bl I q rfl)
end
theorem ints_of:∀ {ns:List Int} {us:List Value},Vals (ns.map V.int) us→∃ l:List (Int × Tok),us=l.map (fun p=>Value.int p.1 p.2)∧l.map (·.1)=ns
  | [],us,h=>by
    cases h
    exact ⟨[],rfl,rfl⟩
  | x::r,us,h=>by
    cases h with
    | cons a b =>
      obtain ⟨t,rfl⟩:=a
      obtain ⟨l,rfl,e⟩:=ints_of b
      exact ⟨(x,t)::l,rfl,by rw [List.map_cons,e]⟩
theorem numAt_of (l:List (Int × Tok)) (i:Nat):numAt l.toArray i=(l.map (·.1)).getD i 0:=by
  unfold numAt
  rw [List.getD_eq_getElem?_getD,List.getElem?_map]
  simp
theorem intItems_of (l:List (Int × Tok)):intItems l.toArray=(l.map fun p=>Value.int p.1 p.2).toArray:=by
  unfold intItems
  simp
section
variable {X:Cx}
inductive cBest (K:PySem.W.Frag) (le:Int→Int→Prop) (vs:List V) (H:Hp) (Q:VK):Prop
  | mk (p:Addr) (ns:List Int) (e:vs=[.ref p]) (h:SqL K H p (ns.map V.int)) (ne:ns≠[]) (q:∀ m,m ∈ ns→(∀ x ∈ ns,le x m)→Q (.int m) H):cBest K le vs H Q
theorem call_max_list (K:PySem.W.Frag) (hc:X.calm=true) (ek:X.K=K:=by rfl):CallR X (.builtin "max") (cBest K fun x m=>x≤m):=by
  subst ek
  intro pins s σ H xs us Q I r h
  obtain ⟨p,ns,rfl,hq,hne,q⟩:=h
  obtain ⟨u,rfl,rx⟩:=vals1 r
  cases rx
  obtain ⟨its,rv,pl,hz⟩:=I.list hq
  obtain ⟨l,rfl,el⟩:=ints_of rv
  have hlen:l.length=ns.length:=by rw [← el,List.length_map]
  have hpos:0 < ns.length:=List.length_pos_iff.mpr hne
  refine max_intList (xs:=l.toArray) (I.ok.hd hc) (by rw [intItems_of]; exact pl.isList) (by rw [List.size_toArray]; omega) fun v h' tk hv hk=>?_
  obtain ⟨t,rfl⟩:=intItems_at hv
  obtain ⟨b1,b2⟩:=argBest_gt (numAt l.toArray) (l.toArray.size - 1)
  rw [List.size_toArray] at b1 b2 ⊢
  have hb:argBest (fun i j=>decide (numAt l.toArray i > numAt l.toArray j)) (l.length - 1) < ns.length:=by omega
  refine ⟨.int _,H,I.kept hk,⟨t,rfl⟩,q _ ?_ fun x hx=>?_⟩
  · rw [numAt_of,el,List.getD_eq_getElem?_getD,List.getElem?_eq_getElem hb]
    exact List.getElem_mem hb
  · obtain ⟨j,hj,rfl⟩:=List.getElem_of_mem hx
    have:=b2 j (by omega)
    rw [numAt_of l j,el,List.getD_eq_getElem?_getD (l:=ns) (i:=j),List.getElem?_eq_getElem hj] at this
    exact this
theorem call_min_list (K:PySem.W.Frag) (hc:X.calm=true) (ek:X.K=K:=by rfl):CallR X (.builtin "min") (cBest K fun x m=>m≤x):=by
  subst ek
  intro pins s σ H xs us Q I r h
  obtain ⟨p,ns,rfl,hq,hne,q⟩:=h
  obtain ⟨u,rfl,rx⟩:=vals1 r
  cases rx
  obtain ⟨its,rv,pl,hz⟩:=I.list hq
  obtain ⟨l,rfl,el⟩:=ints_of rv
  have hlen:l.length=ns.length:=by rw [← el,List.length_map]
  have hpos:0 < ns.length:=List.length_pos_iff.mpr hne
  refine min_intList (xs:=l.toArray) (I.ok.hd hc) (by rw [intItems_of]; exact pl.isList) (by rw [List.size_toArray]; omega) fun v h' tk hv hk=>?_
  obtain ⟨t,rfl⟩:=intItems_at hv
  obtain ⟨b1,b2⟩:=argBest_lt (numAt l.toArray) (l.toArray.size - 1)
  rw [List.size_toArray] at b1 b2 ⊢
  have hb:argBest (fun i j=>decide (numAt l.toArray i < numAt l.toArray j)) (l.length - 1) < ns.length:=by omega
  refine ⟨.int _,H,I.kept hk,⟨t,rfl⟩,q _ ?_ fun x hx=>?_⟩
  · rw [numAt_of,el,List.getD_eq_getElem?_getD,List.getElem?_eq_getElem hb]
    exact List.getElem_mem hb
  · obtain ⟨j,hj,rfl⟩:=List.getElem_of_mem hx
    have:=b2 j (by omega)
    rw [numAt_of l j,el,List.getD_eq_getElem?_getD (l:=ns) (i:=j),List.getElem?_eq_getElem hj] at this
    exact this
end
end L2
namespace Ent
open PySem
abbrev En:=Int × Str × Int
def pl (e:En):Srt.Pl:=(e.1,e.2.1)
def eD (e:En):PyData:=.tuple [.int e.1,.str e.2.1,.int e.2.2]
def emptyD:PyData:=.tuple [.int 0,.int 0,.none,.none,.none,.none]
def barD (n:Nat) (s lo hi:Int) (f l:En):PyData:=.tuple [.int n,.int s,.int lo,.int hi,eD f,eD l]
def bef (a b:En):Bool:=Srt.plt (pl a) (pl b)
def vals (es:List En):List Int:=es.map (·.2.2)
def Keyed (es:List En):Prop:=(es.map (·.2.1)).Nodup
inductive BarOf (es:List En) (b:PyData):Prop
  | non (h:es=[]) (e:b=emptyD):BarOf es b
  | some (lo hi:Int) (f l:En) (h1:lo ∈ vals es) (h2:∀ v ∈ vals es,lo≤v) (h3:hi ∈ vals es) (h4:∀ v ∈ vals es,v≤hi) (h5:f ∈ es) (h6:∀ e ∈ es,bef e f=false) (h7:l ∈ es) (h8:∀ e ∈ es,bef l e=false)
    (e:b=barD es.length (vals es).sum lo hi f l):BarOf es b
theorem keyed_inj:∀ {es:List En} {a b:En},Keyed es→a ∈ es→b ∈ es→a.2.1=b.2.1→a=b
  | [],a,b,_,h,_,_=>nomatch h
  | e::es,a,b,k,ha,hb,hk=>by
    unfold Keyed at k
    rw [List.map_cons,List.nodup_cons] at k
    rcases List.mem_cons.mp ha with ea | ha <;> rcases List.mem_cons.mp hb with eb | hb
    · rw [ea,eb]
    · exact absurd (List.mem_map.mpr ⟨b,hb,by rw [← hk,ea]⟩) k.1
    · exact absurd (List.mem_map.mpr ⟨a,ha,by rw [hk,eb]⟩) k.1
    · exact keyed_inj k.2 ha hb hk
theorem perm_sum {xs ys:List Int} (h:xs.Perm ys):xs.sum=ys.sum:=by
  induction h with
  | nil=>rfl
  | cons x _ ih=>rw [List.sum_cons,List.sum_cons,ih]
  | swap x y l=>rw [List.sum_cons,List.sum_cons,List.sum_cons,List.sum_cons]; omega
  | trans _ _ i1 i2=>exact i1.trans i2
theorem BarOf.one {es es':List En} {b b':PyData} (p:es.Perm es') (k:Keyed es) (h:BarOf es b) (h':BarOf es' b'):b=b':=by
  cases h with
  | non e1 e2 =>
    cases h' with
    | non e3 e4=>rw [e2,e4]
    | some lo hi f l h1 h2 h3 h4 h5 =>
      rw [e1] at p
      rw [p.symm.eq_nil] at h5
      exact nomatch h5
  | some lo hi f l h1 h2 h3 h4 h5 h6 h7 h8 e =>
    cases h' with
    | non e3 e4 =>
      rw [e3] at p
      rw [p.eq_nil] at h5
      exact nomatch h5
    | some lo' hi' f' l' g1 g2 g3 g4 g5 g6 g7 g8 e' =>
      have pv:(vals es).Perm (vals es'):=p.map _
      have a1:=h2 lo' (pv.mem_iff.mpr g1)
      have a2:=g2 lo (pv.mem_iff.mp h1)
      have a3:=h4 hi' (pv.mem_iff.mpr g3)
      have a4:=g4 hi (pv.mem_iff.mp h3)
      have b1:pl f=pl f':=Srt.plt_one (g6 f (p.mem_iff.mp h5)) (h6 f' (p.mem_iff.mpr g5))
      have b2:pl l=pl l':=Srt.plt_one (h8 l' (p.mem_iff.mpr g7)) (g8 l (p.mem_iff.mp h7))
      have c1:f=f':=keyed_inj k h5 (p.mem_iff.mpr g5) (congrArg (·.2) b1)
      have c2:l=l':=keyed_inj k h7 (p.mem_iff.mpr g7) (congrArg (·.2) b2)
      have d1:lo=lo':=by omega
      have d2:hi=hi':=by omega
      rw [e,e',c1,c2,d1,d2,p.length_eq,perm_sum pv]
theorem BarOf.perm {es es':List En} {b:PyData} (p:es.Perm es') (h:BarOf es b):BarOf es' b:=by
  cases h with
  | non e1 e2=>exact .non (by rw [e1] at p; exact p.symm.eq_nil) e2
  | some lo hi f l h1 h2 h3 h4 h5 h6 h7 h8 e =>
    have pv:(vals es).Perm (vals es'):=p.map _
    exact .some lo hi f l (pv.mem_iff.mp h1) (fun v hv=>h2 v (pv.mem_iff.mpr hv)) (pv.mem_iff.mp h3) (fun v hv=>h4 v (pv.mem_iff.mpr hv)) (p.mem_iff.mp h5) (fun v hv=>h6 v (p.mem_iff.mpr hv)) (p.mem_iff.mp h7) (fun v hv=>h8 v (p.mem_iff.mpr hv)) (by rw [e,p.length_eq,perm_sum pv])
def dn:En:=(0,⟨#[]⟩,0)
def pick (es:List En) (p:List Nat):List En:=p.map fun i=>es.getD i dn
theorem pick_perm {es:List En} {p:List Nat} (hp:p.Perm (List.range es.length)):(pick es p).Perm es:=by
  have h:=hp.map fun i=>es.getD i dn
  have e:(List.range es.length).map (fun i=>es.getD i dn)=es:=by
    refine List.ext_getElem (by simp) fun i h1 h2=>?_
    simp [h2]
  rw [e] at h
  exact h
theorem ltOf_en (es:List En) {i j:Nat} (hi:i < es.length) (hj:j < es.length):Srt.ltOf (es.map pl) i j=bef (es.getD i dn) (es.getD j dn):=by
  unfold Srt.ltOf bef
  rw [List.getD_eq_getElem?_getD,List.getD_eq_getElem?_getD,List.getD_eq_getElem?_getD,List.getD_eq_getElem?_getD,List.getElem?_map,List.getElem?_map,List.getElem?_eq_getElem hi,List.getElem?_eq_getElem hj]
  rfl
theorem bef_irr (e:En):bef e e=false:=Srt.plt_irr _
theorem pick_first {es:List En} {p:List Nat} {f:En} {r:List En} (hp:p.Perm (List.range es.length)) (hs:p.Pairwise (Srt.R (Srt.ltOf (es.map pl)))) (h:pick es p=f::r):f ∈ es∧∀ e ∈ es,bef e f=false:=by
  refine ⟨(pick_perm hp).mem_iff.mp (by rw [h]; exact List.mem_cons_self),fun e he=>?_⟩
  have he':=(pick_perm hp).mem_iff.mpr he
  cases p with
  | nil=>cases h
  | cons i q =>
    have hlt:∀ k ∈ i::q,k < es.length:=fun k hk=>List.mem_range.mp (hp.mem_iff.mp hk)
    unfold pick at h he'
    rw [List.map_cons] at h he'
    have ef:=(List.cons.inj h).1
    rcases List.mem_cons.mp he' with e1 | e1
    · rw [e1,← ef]; exact bef_irr _
    · obtain ⟨j,hj,rfl⟩:=List.mem_map.mp e1
      have hR:=(List.pairwise_cons.mp hs).1 j hj
      have:=Srt.R.le (Srt.ltOf_ord _) hR
      rw [ltOf_en es (hlt j (List.mem_cons_of_mem _ hj)) (hlt i List.mem_cons_self)] at this
      rw [← ef]
      exact this
theorem pick_last {es:List En} {p:List Nat} {l:En} {r:List En} (hp:p.Perm (List.range es.length)) (hs:p.Pairwise (Srt.R (Srt.ltOf (es.map pl)))) (h:pick es p=r++[l]):l ∈ es∧∀ e ∈ es,bef l e=false:=by
  refine ⟨(pick_perm hp).mem_iff.mp (by rw [h]; simp),fun e he=>?_⟩
  have he':=(pick_perm hp).mem_iff.mpr he
  rcases List.eq_nil_or_concat p with rfl | ⟨q,i,rfl⟩
  · unfold pick at h; simp at h
  · rw [List.concat_eq_append] at *
    have hlt:∀ k ∈ q++[i],k < es.length:=fun k hk=>List.mem_range.mp (hp.mem_iff.mp hk)
    unfold pick at h he'
    rw [List.map_append,List.map_singleton] at h he'
    have ef:=(List.append_inj' h rfl).2
    have el:es.getD i dn=l:=(List.cons.inj ef).1
    rcases List.mem_append.mp he' with e1 | e1
    · obtain ⟨j,hj,rfl⟩:=List.mem_map.mp e1
      have hR:=(List.pairwise_append.mp hs).2.2 j hj i List.mem_cons_self
      have:=Srt.R.le (Srt.ltOf_ord _) hR
      rw [ltOf_en es (hlt i (by simp)) (hlt j (List.mem_append_left _ hj)),el] at this
      exact this
    · rw [List.mem_singleton.mp e1,el]; exact bef_irr _
structure Lf (d:PyData):Prop where
  sh:d.showable=true
  cl:d.canLay0=true
  ls:d.leavesShort 62=true
theorem lf_none:Lf .none:=⟨rfl,rfl,rfl⟩
theorem lf_int {i:Int} (h:i.natAbs < 10 ^ 40):Lf (.int i) where
  sh:=by
    unfold PyData.showable
    exact decide_eq_true (PySem.Spec.log2_small (Nat.lt_trans h (by decide +kernel)))
  cl:=rfl
  ls:=by
    unfold PyData.leavesShort
    refine decide_eq_true ?_
    show (Str.ofString (toString i)).length≤62
    rw [ofString_length]
    exact Nat.le_trans (int_text_length_le10 (k:=40) (by decide) h) (by decide)
def KeyOk (k:Str):Prop:=k.cps.size≤8∧∀ c ∈ k.cps.toList,c < 128
theorem lf_str {k:Str} (h:KeyOk k):Lf (.str k) where
  sh:=rfl
  cl:=by
    unfold PyData.canLay0 PyData.strOk
    rw [Array.all_eq_true_iff_forall_mem]
    intro c hc
    have:=h.2 c (Array.mem_toList_iff.mpr hc)
    exact decide_eq_true (by omega)
  ls:=by
    unfold PyData.leavesShort
    rw [List.all_eq_true]
    intro c hc
    have:=h.2 c hc
    have e:(16:Nat) ^ 8=4294967296:=by decide
    exact decide_eq_true (by omega)
theorem lf_all:∀ {ds:List PyData},(∀ d ∈ ds,Lf d)→PyData.showableAll ds=true∧PyData.canLayAll0 ds=true∧PyData.leavesShortAll 62 ds=true
  | [],_=>⟨rfl,rfl,rfl⟩
  | d::ds,h=>by
    obtain ⟨a,b,c⟩:=lf_all fun x hx=>h x (List.mem_cons_of_mem d hx)
    have hd:=h d List.mem_cons_self
    unfold PyData.showableAll PyData.canLayAll0 PyData.leavesShortAll
    rw [a,b,c,hd.sh,hd.cl,hd.ls]
    exact ⟨rfl,rfl,rfl⟩
theorem lf_list {ds:List PyData} (h:∀ d ∈ ds,Lf d):Lf (.list ds) where
  sh:=by unfold PyData.showable; exact (lf_all h).1
  cl:=by unfold PyData.canLay0; exact (lf_all h).2.1
  ls:=by unfold PyData.leavesShort; exact (lf_all h).2.2
theorem lf_tuple {ds:List PyData} (h:∀ d ∈ ds,Lf d):Lf (.tuple ds) where
  sh:=by unfold PyData.showable; exact (lf_all h).1
  cl:=by unfold PyData.canLay0; exact (lf_all h).2.1
  ls:=by unfold PyData.leavesShort; exact (lf_all h).2.2
theorem Lf.fit {d:PyData} (h:Lf d) (hb:d.bulk≤20000) (hd:d.depth≤8):L2.Fit d where
  sh:=h.sh
  cl:=h.cl
  sz:=by
    have:=PyData.shown_le_bulk 62 (by decide) d h.ls
    rw [sizeLine_eq]
    have e:(62 + 2) * d.bulk≤64 * 20000:=Nat.mul_le_mul (by decide) hb
    omega
  dp:=hd
structure EnOk (e:En):Prop where
  m:e.1.natAbs < 10 ^ 30
  v:e.2.2.natAbs < 10 ^ 30
  k:KeyOk e.2.1
theorem le40 {i:Int} (h:i.natAbs < 10 ^ 30):i.natAbs < 10 ^ 40:=Nat.lt_trans h (by decide +kernel)
theorem lf_three {e:En} (h:EnOk e):∀ d ∈ [PyData.int e.1,.str e.2.1,.int e.2.2],Lf d:=fun d hd=>by
  rcases List.mem_cons.mp hd with rfl | hd
  · exact lf_int (le40 h.m)
  · rcases List.mem_cons.mp hd with rfl | hd
    · exact lf_str h.k
    · rw [List.mem_singleton.mp hd]; exact lf_int (le40 h.v)
theorem lf_eD {e:En} (h:EnOk e):Lf (eD e):=lf_tuple (lf_three h)
theorem bulk_eD {e:En} (h:EnOk e):(eD e).bulk≤11:=by
  have:=h.k.1
  unfold eD
  simp only [PyData.bulk,PyData.bulkAll]
  omega
theorem depth_eD (e:En):(eD e).depth=1:=by
  unfold eD
  simp [PyData.depth,PyData.depthAll]
theorem sum_bound:∀ {ns:List Int},(∀ n ∈ ns,n.natAbs < 10 ^ 30)→ns.sum.natAbs≤ns.length * 10 ^ 30
  | [],_=>by simp
  | n::r,h=>by
    have h1:=sum_bound fun x hx=>h x (List.mem_cons_of_mem n hx)
    have h2:=h n List.mem_cons_self
    rw [List.sum_cons,List.length_cons,Nat.add_mul]
    omega
end Ent
namespace L2
open PySem PySem.Spec PyProof.Rows
section
variable {X:Cx} {k k':Nat} {x:Str} {sp:Sp} {p pos:Pos}
theorem pe_can0 (h:Can X.prog X.w X.K X.mg X.base k x [] sp) (hr:Room k' X.A) (hg:Gl X x:=by rfl) (hk:k≤k':=by decide) (hdb:(x == ("__debug__" : Str))=false:=by decide):PE X (.Call (.Name x p) [] [] pos) (tCall sp [] E0 tNil):=by
  obtain ⟨f,fd,F,hm,kp,b⟩:=h
  exact pe_call0 F (hr.mono hk) hg hm kp b .nil pass0 hdb
end
theorem Same.but_ne {H H':Hp} {D:Addr} {o:HO} (s:Same H H') (h:H D=none):Same H (L2.upd H' D o):=fun b u e=>by
  rw [L2.upd_ne (ne_of_none e h)]
  exact s _ _ e
theorem Paired.mono2 {α β:Type} {F G:α→β→Prop} (f:∀ a b,F a b→G a b) {l₁:List α} {l₂:List β} (r:Paired F l₁ l₂):Paired G l₁ l₂:=Paired.mapP r f
theorem Paired.mapR {α β γ:Type} {F:α→β→Prop} {G:α→γ→Prop} {g:β→γ} (h:∀ a b,F a b→G a (g b)):∀ {xs:List α} {ys:List β},Paired F xs ys→Paired G xs (ys.map g)
  | _,_,.nil=>.nil
  | _,_,.cons r t=>.cons (h _ _ r) (Paired.mapR h t)
theorem Paired.picks {α β:Type} {F:α→β→Prop} {xs:List α} {ys:List β} {a:α} {b:β} (h:Paired F xs ys):∀ (p:List Nat),(∀ i ∈ p,i < xs.length)→Paired F (p.map fun i=>xs.getD i a) (p.map fun i=>ys.getD i b)
  | [],_=>.nil
  | i::p,hp=>by
    have hi:=hp i List.mem_cons_self
    obtain ⟨y,ey,r⟩:=Paired.get h (List.getElem?_eq_getElem hi)
    refine .cons ?_ (Paired.picks h p fun j hj=>hp j (List.mem_cons_of_mem _ hj))
    show F (xs.getD i a) (ys.getD i b)
    rw [List.getD_eq_getElem?_getD,List.getD_eq_getElem?_getD,ey,List.getElem?_eq_getElem hi]
    exact r
theorem line1000 {n:Nat} (h:n≤1000):n≤sizeLine:=Nat.le_of_lt (small1000 h)
end L2
namespace Pr
open PySem L2 PyProof.Rows Ent
abbrev three (e:En):List V:=[.int e.1,.str e.2.1,.int e.2.2]
def EntG (H:Hp) (x:V) (e:En):Prop:=∃ a o,x=.ref a∧H a=some o∧Ob o (three e)
def EntT (H:Hp) (x:V) (e:En):Prop:=∃ a,x=.ref a∧H a=some (.tup (three e))
theorem EntG.same {H H':Hp} (s:Same H H') {x:V} {e:En} (h:EntG H x e):EntG H' x e:=by
  obtain ⟨a,o,h1,h2,h3⟩:=h
  exact ⟨a,o,h1,s _ _ h2,h3⟩
theorem EntT.same {H H':Hp} (s:Same H H') {x:V} {e:En} (h:EntT H x e):EntT H' x e:=by
  obtain ⟨a,h1,h2⟩:=h
  exact ⟨a,h1,s _ _ h2⟩
theorem EntT.g {H:Hp} {x:V} {e:En} (h:EntT H x e):EntG H x e:=by
  obtain ⟨a,h1,h2⟩:=h
  exact ⟨a,_,h1,h2,.inr rfl⟩
theorem EntT.wr {H:Hp} {x:V} {e:En} {D:Addr} {ys:List V} {o:HO} (h:EntT H x e) (hD:H D=some (.lst ys)):EntT (upd H D o) x e:=by
  obtain ⟨a,h1,h2⟩:=h
  exact ⟨a,h1,by rw [upd_ne (ne_of h2 hD (by intro z; cases z))]; exact h2⟩
theorem EntT.dat {H:Hp} {x:V} {e:En} (h:EntT H x e):Dat H (eD e) x:=by
  obtain ⟨a,h1,h2⟩:=h
  unfold eD Dat
  refine ⟨a,_,h1,h2,?_⟩
  unfold DatAll
  refine ⟨_,_,rfl,by unfold Dat; rfl,?_⟩
  unfold DatAll
  refine ⟨_,_,rfl,by unfold Dat; rfl,?_⟩
  unfold DatAll
  refine ⟨_,_,rfl,by unfold Dat; rfl,?_⟩
  unfold DatAll
  rfl
section
variable {P:Program} {w:World} {K:PySem.W.Frag} {mg:Str→Option Value} {base:Heap} {C:Addr}
theorem sc_place_of:FnScope ["entry"] ["entry"] (defScope s_place_of):=⟨rfl,rfl,rfl,by decide +kernel,rfl,by decide +kernel,by decide +kernel⟩
theorem place_of (T:Txt K mg C):Can P w K mg base 1 "place_of" ["entry"] sp_place:=by
  refine fn_can T.f_place_of sc_place_of (fun vs H Q E h=>?_) (fun f cdv A outer s H vs Q E hr h=>?_)
  · obtain ⟨a,m,k,r,rfl,_⟩:=h
    rfl
  · obtain ⟨a,m,k,r,rfl,ha,q⟩:=h
    refine ⟨_,pss_one (ps_ret (pe_tup (pa2 (pe_ix (ix_tupK K) (pv 0) pe_int (fun _ _=>rfl)) (pe_ix (ix_tupK K) (pv 0) pe_int (fun _ _=>rfl))))),?_⟩
    refine ⟨_,rfl,a,_,_,_,rfl,rfl,.of ha,atI_nat (j:=0) rfl,_,rfl,a,_,_,_,rfl,rfl,.of ha,atI_nat (j:=1) rfl,line1000 (by show 2≤1000; decide),fun p hp=>q p hp⟩
inductive sp_empty (vs:List V) (H:Hp) (Q:VK) (E:XK):Prop
  | mk (e:vs=[]) (q:∀ p H',Same H H'→H p=none→Dat H' emptyD (.ref p)→Q (.ref p) H'):sp_empty vs H Q E
theorem sc_empty:FnScope [] [] (defScope s_empty):=⟨rfl,rfl,rfl,by decide +kernel,rfl,by decide +kernel,by decide +kernel⟩
theorem dat_empty {H:Hp} {p:Addr} (h:H p=some (.tup [.int 0,.int 0,.non,.non,.non,.non])):Dat H emptyD (.ref p):=by
  unfold emptyD Dat
  refine ⟨p,_,rfl,h,?_⟩
  iterate 6
    unfold DatAll
    refine ⟨_,_,rfl,by unfold Dat; rfl,?_⟩
  unfold DatAll
  rfl
theorem empty (T:Txt K mg C):Can P w K mg base 1 "empty" [] sp_empty:=by
  refine fn_can T.f_empty sc_empty (fun vs H Q E h=>?_) (fun f cdv A outer s H vs Q E hr h=>?_)
  · obtain ⟨rfl,_⟩:=h
    rfl
  · obtain ⟨rfl,q⟩:=h
    refine ⟨_,pss_one (ps_ret (pe_tup (pa_cons pe_int (pa_cons pe_int (pa_cons pe_non (pa_cons pe_non (pa_cons pe_non (pa_cons pe_non pa_nil)))))))),?_⟩
    exact ⟨line1000 (by show 6≤1000; decide),fun p hp=>q p _ (Same.upd hp) hp (dat_empty upd_same)⟩
inductive sp_in_order (vs:List V) (H:Hp) (Q:VK) (E:XK):Prop
  | mk (a:Addr) (o:HO) (xs:List V) (es:List En) (h0:vs=[.ref a]) (h1:H a=some o) (h2:Ob o xs) (h3:Paired (EntG H) xs es) (h4:es.length < 64)
    (q:∀ D H' ys (p:List Nat),Same H H'→H D=none→H' D=some (.lst ys)→Paired (EntT H') ys (pick es p)→p.Perm (List.range es.length)→p.Pairwise (Srt.R (Srt.ltOf (es.map pl)))→Q (.ref D) H'):sp_in_order vs H Q E
theorem sc_in_order:FnScope ["entries"] ["entries"] (defScope s_in_order):=⟨rfl,rfl,rfl,by decide +kernel,rfl,by decide +kernel,by decide +kernel⟩
theorem in_order (T:Txt K mg C):Can P w K mg base 4 "in_order" ["entries"] sp_in_order:=by
  refine fn_can T.f_in_order sc_in_order (fun vs H Q E h=>?_) (fun f cdv A outer s H vs Q E hr h=>?_)
  · obtain ⟨a,o,xs,es,rfl,_⟩:=h
    rfl
  · obtain ⟨a,o,xs,es,rfl,ha,ho,hp,h64,q⟩:=h
    have hlen:xs.length=es.length:=hp.length
    refine ⟨_,pss_one (ps_ret (pe_sortK K (place_of T) hr T.b_sorted (pa1 (pe_lc rfl (lcS sc_in_order) (pi_seq (pv 0)) (fun _ _ _ _=>pts_nil) (fun _ _ _ _=>pe_t call_tup_ob T.b_tuple boot_tuple (pa1 (pv 0))))))),?_⟩
    refine ⟨_,rfl,a,o,xs,rfl,ha,ho,fun J hJ D hD=>?_⟩
    refine lc_it hJ (fun i ys H1=>H1 D=some (.lst ys)∧ys.length=i∧Same H H1∧Paired (EntT H1) ys (es.take i)) ⟨upd_same,rfl,Same.upd hD,.nil⟩ (fun i ys H1 h=>⟨h.1,h.2.2.1 _ _ ha⟩) (fun ys H1 h=>?_) fun i x ys H1 hi hx h=>?_
    · obtain ⟨d1,d2,d3,d4⟩:=h
      rw [List.take_of_length_le (by omega)] at d4
      refine ⟨D,ys,es.map pl,rfl,.of d1,by omega,Paired.mapR (fun x e ⟨b,e1,e2⟩=>⟨b,_,e1,e2⟩) d4,fun D' H' p s' hD' hg p1 p2=>?_⟩
      rw [d2,hlen] at p1
      refine q D' H' _ p (d3.trans s') (d3.free hD') hg ?_ p1 p2
      exact Paired.picks (Paired.mono2 (fun _ _ z=>z.same s') d4) p fun i hi=>by
        have:=List.mem_range.mp (p1.mem_iff.mp hi)
        omega
    · obtain ⟨d1,d2,d3,d4⟩:=h
      obtain ⟨e,he,b,ob,rfl,hb,hob⟩:=Paired.get hp hx
      refine yesI ⟨_,rfl,b,ob,_,rfl,d3 _ _ hb,hob,fun l H2 s2 hl=>LcNx.mk hi (by omega) (by omega) (s2 _ _ d1) ⟨upd_same,by rw [List.length_append,d2]; rfl,(d3.trans s2).but_ne hD,?_⟩⟩
      rw [List.take_add_one,he]
      refine Paired.snoc ?_ (Paired.mono2 (fun _ _ z=>(z.same s2).wr (s2 _ _ d1)) d4)
      exact EntT.wr ⟨l,rfl,hl⟩ (s2 _ _ d1)
end
end Pr
namespace Pr
open PySem L2 PyProof.Rows Ent
theorem dat_bar {H:Hp} {p:Addr} {n:Nat} {s lo hi:Int} {f l:En} {x y:V} (h:H p=some (.tup [.int n,.int s,.int lo,.int hi,x,y])) (hx:EntT H x f) (hy:EntT H y l):Dat H (barD n s lo hi f l) (.ref p):=by
  unfold barD Dat
  refine ⟨p,_,rfl,h,?_⟩
  iterate 4
    unfold DatAll
    refine ⟨_,_,rfl,by unfold Dat; rfl,?_⟩
  unfold DatAll
  refine ⟨_,_,rfl,hx.dat,?_⟩
  unfold DatAll
  refine ⟨_,_,rfl,hy.dat,?_⟩
  unfold DatAll
  rfl
section
variable {P:Program} {w:World} {K:PySem.W.Frag} {mg:Str→Option Value} {base:Heap} {C:Addr}
inductive sp_bar_of (vs:List V) (H:Hp) (Q:VK) (E:XK):Prop
  | mk (a:Addr) (o:HO) (xs:List V) (es:List En) (h0:vs=[.ref a]) (h1:H a=some o) (h2:Ob o xs) (h3:Paired (EntG H) xs es) (h4:es.length < 64)
    (q:∀ p H' b,Same H H'→H p=none→BarOf es b→Dat H' b (.ref p)→Q (.ref p) H'):sp_bar_of vs H Q E
theorem sc_bar_of:FnScope ["entries","rows","values"] ["entries"] (defScope s_bar_of):=⟨rfl,rfl,rfl,by decide +kernel,rfl,by decide +kernel,by decide +kernel⟩
theorem bar_of (T:Txt K mg C):Can P w K mg base 5 "bar_of" ["entries"] sp_bar_of:=by
  refine fn_can T.f_bar_of sc_bar_of (fun vs H Q E h=>?_) (fun f cdv A outer s H vs Q E hr h=>?_)
  · obtain ⟨a,o,xs,es,rfl,_⟩:=h
    rfl
  · obtain ⟨a,o,xs,es,rfl,ha,ho,hp,h64,q⟩:=h
    have hlen:xs.length=es.length:=hp.length
    refine ⟨_,pss_cons (ps_set (i:=1) sc_bar_of.nd rfl (Or.inl rfl) (pe_can (in_order T) hr (pa1 (pv 0))))
      (pss_cons (ps_if (pt_not (pt_truth (pv 1) (fun _=>rfl))) (pss_one (ps_ret (pe_can0 (empty T) hr))) pss_nil)
      (pss_cons (ps_setLC (i:=2) rfl rfl rfl (lcS sc_bar_of) (pi_listK K (pv 1)) (fun _ _ _ _=>pts_nil) (fun _ _ _ _=>pe_ix (ix_tupK K) (pv 0) pe_int (fun _ _=>rfl)))
      (pss_one (ps_ret (pe_tup (pa_cons (pe_b (call_lenK K) T.b_len boot_len (pa1 (pv 1))) (pa_cons (pe_b (call_sum_seqK K rfl) T.b_sum boot_sum (pa1 (pv 2))) (pa_cons (pe_b (call_min_list K rfl) T.b_min boot_min (pa1 (pv 2))) (pa_cons (pe_b (call_max_list K rfl) T.b_max boot_max (pa1 (pv 2)))
        (pa_cons (pe_ix (ix_listK K) (pv 1) pe_int (fun _ _=>rfl)) (pa_cons (pe_ix (ix_listK K) (pv 1) (pe_un un_neg pe_int) (fun _ _=>rfl)) pa_nil))))))))))),?_⟩
    refine ⟨_,rfl,a,o,xs,es,rfl,ha,ho,hp,h64,fun D H1 ys p s1 hD hy hE p1 p2=>?_⟩
    have hpm:=pick_perm p1
    have hyl:ys.length=es.length:=by rw [hE.length,hpm.length_eq]
    refine ⟨_,rfl,_,.inl ⟨ys,.of hy,rfl⟩,?_⟩
    cases hes:ys with
    | nil =>
      refine iteT ⟨rfl,fun p' H2 s2 hp' hd=>q p' H2 _ (s1.trans s2) (s1.free hp') (.non ?_ rfl) hd⟩
      rw [hes] at hyl
      exact List.eq_nil_of_length_eq_zero hyl.symm
    | cons y yr =>
      rw [← hes]
      have hye:(!ys.isEmpty)=true:=by rw [hes]; rfl
      rw [hye]
      refine iteF ?_
      refine ⟨_,rfl,D,rfl,⟨ys,.of hy⟩,fun V' hV=>?_⟩
      refine lc_list (xs:=ys) (fun i zs H2=>H2 V'=some (.lst zs)∧Same H1 H2∧zs=(vals ((pick es p).take i)).map V.int) ⟨upd_same,Same.upd hV,rfl⟩ (fun i zs H2 h=>⟨h.1,h.2.1.seq (.of hy)⟩) (fun zs H2 h=>?_) fun i x zs H2 hi hx h=>?_
      · obtain ⟨d1,d2,d3⟩:=h
        rw [List.take_of_length_le (by rw [hE.length]; exact Nat.le_refl _)] at d3
        subst d3
        have hD2:H2 D=some (.lst ys):=d2 _ _ hy
        have hE2:Paired (EntT H2) ys (pick es p):=Paired.mono2 (fun _ _ z=>z.same d2) hE
        have hne:vals (pick es p)≠[]:=by
          intro z
          have z2:(vals (pick es p)).length=0:=by rw [z]; rfl
          unfold vals at z2
          rw [List.length_map,← hE.length,hes] at z2
          cases z2
        cases hpk:pick es p with
        | nil =>
          rw [hpk] at hne
          exact absurd rfl hne
        | cons fe re =>
        rcases List.eq_nil_or_concat (pick es p) with z | ⟨rl,le,hpl⟩
        · rw [hpk] at z; cases z
        rw [List.concat_eq_append] at hpl
        obtain ⟨yf,ef,rf⟩:=Paired.getR hE2 (i:=0) (y:=fe) (by rw [hpk]; rfl)
        obtain ⟨yl,el,rl'⟩:=Paired.getR hE2 (i:=rl.length) (y:=le) (by rw [hpl]; simp)
        have hlast:∃ yr',ys=yr'++[yl]:=by
          rcases List.eq_nil_or_concat ys with z | ⟨yr',yl',hyr⟩
          · rw [hes] at z; cases z
          · rw [List.concat_eq_append] at hyr
            refine ⟨yr',?_⟩
            have l1:ys.length=rl.length + 1:=by rw [hE2.length,hpl]; simp
            have l2:yr'.length=rl.length:=by rw [hyr] at l1; simpa using l1
            rw [hyr,← l2] at el
            rw [hyr]
            simp at el
            rw [el]
        obtain ⟨yr',hyr⟩:=hlast
        have hbar:=fun lo hi (g1:lo ∈ vals (pick es p)) g2 (g3:hi ∈ vals (pick es p)) g4=>BarOf.perm hpm (.some lo hi fe le g1 g2 g3 g4 (by rw [hpk]; exact List.mem_cons_self) (fun e he=>(pick_first p1 p2 hpk).2 e (hpm.mem_iff.mp he)) (by rw [hpl]; simp) (fun e he=>(pick_last p1 p2 hpl).2 e (hpm.mem_iff.mp he)) rfl)
        refine ⟨_,rfl,D,ys,rfl,.inl (.of hD2),_,rfl,V',_,rfl,.inl (.of d1),_,rfl,V',_,rfl,.of d1,hne,fun lo g1 g2=>⟨_,rfl,V',_,rfl,.of d1,hne,fun hi g3 g4=>?_⟩⟩
        refine ⟨_,rfl,D,ys,_,_,rfl,rfl,.of hD2,atI_nat (j:=0) ef,_,rfl,_,rfl,D,ys,_,_,rfl,rfl,.of hD2,by rw [hyr]; exact atI_last _ _,line1000 (by show 6≤1000; decide),fun pp hpp=>?_⟩
        refine q pp _ _ ((s1.trans d2).trans (Same.upd hpp)) ((s1.trans d2).free hpp) (hbar lo hi g1 g2 g3 g4) ?_
        have hn:ys.length=(pick es p).length:=hE2.length
        exact dat_bar (by rw [upd_same,hn]) (rf.same (Same.upd hpp)) (rl'.same (Same.upd hpp))
      · obtain ⟨d1,d2,d3⟩:=h
        obtain ⟨e,he,b,rfl,hb⟩:=Paired.get hE hx
        refine yesI ⟨_,rfl,b,_,_,_,rfl,rfl,.of (d2 _ _ hb),atI_nat (j:=2) rfl,LcNx.mk hi (by omega) ?_ d1 ⟨upd_same,d2.but_ne hV,?_⟩⟩
        · rw [d3]
          unfold vals
          rw [List.length_map,List.length_map,List.length_take]
          omega
        · rw [d3,List.take_add_one,he]
          unfold vals
          simp
end
end Pr
namespace Ent
open PySem
structure BarF (es:List En) (lo hi:Int) (f l:En):Prop where
  h1:lo ∈ vals es
  h2:∀ v ∈ vals es,lo≤v
  h3:hi ∈ vals es
  h4:∀ v ∈ vals es,v≤hi
  h5:f ∈ es
  h6:∀ e ∈ es,bef e f=false
  h7:l ∈ es
  h8:∀ e ∈ es,bef l e=false
theorem BarF.of {es:List En} {lo hi:Int} {f l:En} (h:BarF es lo hi f l):BarOf es (barD es.length (vals es).sum lo hi f l):=.some lo hi f l h.h1 h.h2 h.h3 h.h4 h.h5 h.h6 h.h7 h.h8 rfl
structure Bd where
  es:List En
  lo:Int
  hi:Int
  f:En
  l:En
def Bd.Ok (d:Bd):Prop:=BarF d.es d.lo d.hi d.f d.l
def alls (ds:List Bd):List En:=(ds.map (·.es)).flatten
theorem mem_alls {ds:List Bd} {e:En}:e ∈ alls ds↔∃ d ∈ ds,e ∈ d.es:=by
  unfold alls
  rw [List.mem_flatten]
  constructor
  · rintro ⟨l,hl,he⟩
    obtain ⟨d,hd,rfl⟩:=List.mem_map.mp hl
    exact ⟨d,hd,he⟩
  · rintro ⟨d,hd,he⟩
    exact ⟨_,List.mem_map.mpr ⟨d,hd,rfl⟩,he⟩
theorem mem_vals {es:List En} {v:Int}:v ∈ vals es↔∃ e ∈ es,e.2.2=v:=List.mem_map
theorem vals_alls {ds:List Bd} {v:Int}:v ∈ vals (alls ds)↔∃ d ∈ ds,v ∈ vals d.es:=by
  rw [mem_vals]
  constructor
  · rintro ⟨e,he,rfl⟩
    obtain ⟨d,hd,h⟩:=mem_alls.mp he
    exact ⟨d,hd,mem_vals.mpr ⟨e,h,rfl⟩⟩
  · rintro ⟨d,hd,h⟩
    obtain ⟨e,he,rfl⟩:=mem_vals.mp h
    exact ⟨e,mem_alls.mpr ⟨d,hd,he⟩,rfl⟩
theorem alls_len:∀ (ds:List Bd),(ds.map fun d=>(d.es.length:Int)).sum=((alls ds).length:Int)
  | []=>rfl
  | d::ds=>by
    have ih:=alls_len ds
    unfold alls at ih ⊢
    rw [List.map_cons,List.sum_cons,ih,List.map_cons,List.flatten_cons,List.length_append]
    omega
theorem alls_sum:∀ (ds:List Bd),(ds.map fun d=>(vals d.es).sum).sum=(vals (alls ds)).sum
  | []=>rfl
  | d::ds=>by
    have ih:=alls_sum ds
    unfold alls vals at ih ⊢
    rw [List.map_cons,List.sum_cons,ih,List.map_cons,List.flatten_cons,List.map_append,List.sum_append]
theorem join_bar {ds:List Bd} (ok:∀ d ∈ ds,d.Ok) {lo hi:Int} {f l:En} (h1:lo ∈ ds.map (·.lo)) (h2:∀ v ∈ ds.map (·.lo),lo≤v) (h3:hi ∈ ds.map (·.hi)) (h4:∀ v ∈ ds.map (·.hi),v≤hi)
    (h5:f ∈ ds.map (·.f)++ds.map (·.l)) (h6:∀ e ∈ ds.map (·.f)++ds.map (·.l),bef e f=false) (h7:l ∈ ds.map (·.f)++ds.map (·.l)) (h8:∀ e ∈ ds.map (·.f)++ds.map (·.l),bef l e=false) :
    BarF (alls ds) lo hi f l:=by
  have mem:∀ e ∈ ds.map (·.f)++ds.map (·.l),e ∈ alls ds:=fun e he=>by
    rcases List.mem_append.mp he with he | he
    · obtain ⟨d,hd,rfl⟩:=List.mem_map.mp he
      exact mem_alls.mpr ⟨d,hd,(ok d hd).h5⟩
    · obtain ⟨d,hd,rfl⟩:=List.mem_map.mp he
      exact mem_alls.mpr ⟨d,hd,(ok d hd).h7⟩
  refine ⟨?_,fun v hv=>?_,?_,fun v hv=>?_,mem f h5,fun e he=>?_,mem l h7,fun e he=>?_⟩
  · obtain ⟨d,hd,rfl⟩:=List.mem_map.mp h1
    exact vals_alls.mpr ⟨d,hd,(ok d hd).h1⟩
  · obtain ⟨d,hd,h⟩:=vals_alls.mp hv
    have:=h2 d.lo (List.mem_map.mpr ⟨d,hd,rfl⟩)
    have:=(ok d hd).h2 v h
    omega
  · obtain ⟨d,hd,rfl⟩:=List.mem_map.mp h3
    exact vals_alls.mpr ⟨d,hd,(ok d hd).h3⟩
  · obtain ⟨d,hd,h⟩:=vals_alls.mp hv
    have:=h4 d.hi (List.mem_map.mpr ⟨d,hd,rfl⟩)
    have:=(ok d hd).h4 v h
    omega
  · obtain ⟨d,hd,h⟩:=mem_alls.mp he
    exact Srt.plt_tr (h6 d.f (List.mem_append_left _ (List.mem_map.mpr ⟨d,hd,rfl⟩))) ((ok d hd).h6 e h)
  · obtain ⟨d,hd,h⟩:=mem_alls.mp he
    exact Srt.plt_tr ((ok d hd).h8 e h) (h8 d.l (List.mem_append_right _ (List.mem_map.mpr ⟨d,hd,rfl⟩)))
end Ent
namespace Pr
open PySem L2 PyProof.Rows Ent
def BarS (H:Hp) (x:V) (d:Bd):Prop:=∃ a o xf xl,x=.ref a∧H a=some o∧Ob o [.int d.es.length,.int (vals d.es).sum,.int d.lo,.int d.hi,xf,xl]∧EntG H xf d.f∧EntG H xl d.l∧d.Ok
theorem BarS.same {H H':Hp} (s:Same H H') {x:V} {d:Bd} (h:BarS H x d):BarS H' x d:=by
  obtain ⟨a,o,xf,xl,h1,h2,h3,h4,h5,h6⟩:=h
  exact ⟨a,o,xf,xl,h1,s _ _ h2,h3,h4.same s,h5.same s,h6⟩
inductive BarG (H:Hp) (x:V) (es:List En):Prop
  | non (a:Addr) (o:HO) (e:x=.ref a) (h:H a=some o) (ob:Ob o [.int 0,.int 0,.non,.non,.non,.non]) (he:es=[]):BarG H x es
  | some (d:Bd) (he:es=d.es) (h:BarS H x d):BarG H x es
theorem lc_ixG {K:PySem.W.Frag} {j:Int} {σ:L2.St} {H:Hp} {L D:Addr} {Fin:Hp→Prop} {ys zs:List V} (hy:H L=some (.lst ys)) (hn:ys.length≤1000) (hz:zs.length=ys.length)
    (hp:∀ (k:Nat) (y:V),ys[k]?=some y→∃ a o its v,y=.ref a∧H a=some o∧Ob o its∧atI its j=some v∧zs[k]?=some v) (hD:H D=none) (q:∀ H',Same H H'→H' D=some (.lst zs)→Fin H') :
    lcGo tYes (tOp rIxO (tVar 0) (tC (.int j))) σ (Itl K L) D Fin H:=by
  refine lc_list (xs:=ys) (fun k ws H1=>H1 D=some (.lst ws)∧Same H H1∧ws=zs.take k) ⟨upd_same,Same.upd hD,rfl⟩ (fun k ws H1 h=>⟨h.1,h.2.1.seq (.of hy)⟩) (fun ws H1 h=>?_) fun k x ws H1 hk hx h=>?_
  · obtain ⟨h1,h2,rfl⟩:=h
    rw [List.take_of_length_le (by omega)] at h1
    exact q H1 h2 h1
  · obtain ⟨h1,h2,rfl⟩:=h
    obtain ⟨a,o,its,v,rfl,ha,ho,hv,hzk⟩:=hp k x hx
    refine yesI ⟨_,rfl,a,o,its,j,v,rfl,rfl,h2 _ _ ha,ho,hv,LcNx.mk hk hn (by rw [List.length_take]; omega) h1 ⟨upd_same,h2.but_ne hD,?_⟩⟩
    rw [List.take_add_one,hzk]
    rfl
section
variable {P:Program} {w:World} {K:PySem.W.Frag} {mg:Str→Option Value} {base:Heap} {C:Addr}
inductive sp_joined (vs:List V) (H:Hp) (Q:VK) (E:XK):Prop
  | mk (x y:V) (es es':List En) (h0:vs=[x,y]) (h1:BarG H x es) (h2:BarG H y es') (q:∀ p H' b,Same H H'→H p=none→BarOf (es++es') b→Dat H' b (.ref p)→Q (.ref p) H'):sp_joined vs H Q E
theorem sc_joined:FnScope ["one","other","bars","ends"] ["one","other"] (defScope s_joined):=⟨rfl,rfl,rfl,by decide +kernel,rfl,by decide +kernel,by decide +kernel⟩
theorem ints_zs {H:Hp} {ys:List V} {ds:List Bd} {g:Bd→Int} {j:Nat} (hp:Paired (BarS H) ys ds) (hg:∀ d xf xl,atI [V.int d.es.length,.int (vals d.es).sum,.int d.lo,.int d.hi,xf,xl] (j:Int)=some (.int (g d))) :
    ∀ (k:Nat) (y:V),ys[k]?=some y→∃ a o its v,y=.ref a∧H a=some o∧Ob o its∧atI its (j:Int)=some v∧((ds.map g).map V.int)[k]?=some v:=fun k y hy=>by
  obtain ⟨d,hd,a,o,xf,xl,e,h2,h3,h4,h5,h6⟩:=Paired.get hp hy
  refine ⟨a,o,_,_,e,h2,h3,hg d xf xl,?_⟩
  rw [List.getElem?_map,List.getElem?_map,hd]
  rfl
theorem ends_zs {H:Hp}:∀ {ys:List V} {ds:List Bd},Paired (BarS H) ys ds→∃ zs ws,Paired (EntG H) zs (ds.map (·.f))∧Paired (EntG H) ws (ds.map (·.l)) ∧
    (∀ (k:Nat) (y:V),ys[k]?=some y→∃ a o its v,y=.ref a∧H a=some o∧Ob o its∧atI its 4=some v∧zs[k]?=some v)∧∀ (k:Nat) (y:V),ys[k]?=some y→∃ a o its v,y=.ref a∧H a=some o∧Ob o its∧atI its 5=some v∧ws[k]?=some v
  | _,_,.nil=>⟨[],[],.nil,.nil,fun k y h=>by simp at h,fun k y h=>by simp at h⟩
  | _,_,.cons ⟨a,o,xf,xl,e,h2,h3,h4,h5,h6⟩ r=>by
    obtain ⟨zs,ws,p1,p2,q1,q2⟩:=ends_zs r
    refine ⟨xf::zs,xl::ws,.cons h4 p1,.cons h5 p2,fun k y hy=>?_,fun k y hy=>?_⟩
    · cases k with
      | zero =>
        have hy':=Option.some.inj hy
        exact ⟨a,o,_,xf,by rw [← hy']; exact e,h2,h3,atI_nat (j:=4) rfl,rfl⟩
      | succ k=>exact q1 k y hy
    · cases k with
      | zero =>
        have hy':=Option.some.inj hy
        exact ⟨a,o,_,xl,by rw [← hy']; exact e,h2,h3,atI_nat (j:=5) rfl,rfl⟩
      | succ k=>exact q2 k y hy
set_option maxHeartbeats 4000000 in
theorem joined (T:Txt K mg C):Can P w K mg base 5 "joined" ["one","other"] sp_joined:=by
  refine fn_can T.f_joined sc_joined (fun vs H Q E h=>?_) (fun f cdv A outer s H vs Q E hr h=>?_)
  · obtain ⟨x,y,es,es',rfl,_⟩:=h
    rfl
  · obtain ⟨x,y,es,es',rfl,h1,h2,q⟩:=h
    refine ⟨_,pss_cons (ps_setLC (i:=2) rfl rfl rfl (lcS sc_joined) (pi_tupK K (pe_tup (pa2 (pv 0) (pv 1)))) (fun _ _ _ _=>pts_one (pt_cmpR op_gt (pe_ix ix_ob (pv 0) pe_int (fun _ _=>rfl)) pe_int (nomark _))) (fun _ _ _ _=>pv 0))
      (pss_cons (ps_if (pt_not (pt_truth (pv 2) (fun _=>rfl))) (pss_one (ps_ret (pe_can0 (empty T) hr))) pss_nil)
      (pss_cons (ps_set (i:=3) sc_joined.nd rfl (Or.inl rfl) (pe_can (in_order T) hr (pa1 (pe_op op_cat (pe_lc rfl (lcS sc_joined) (pi_listK K (pv 2)) (fun _ _ _ _=>pts_nil) (fun _ _ _ _=>pe_ix ix_ob (pv 0) pe_int (fun _ _=>rfl))) (pe_lc rfl (lcS sc_joined) (pi_listK K (pv 2)) (fun _ _ _ _=>pts_nil) (fun _ _ _ _=>pe_ix ix_ob (pv 0) pe_int (fun _ _=>rfl)))))))
      (pss_one (ps_ret (pe_tup (pa_cons (pe_b (call_sum_seqK K rfl) T.b_sum boot_sum (pa1 (pe_lc rfl (lcS sc_joined) (pi_listK K (pv 2)) (fun _ _ _ _=>pts_nil) (fun _ _ _ _=>pe_ix ix_ob (pv 0) pe_int (fun _ _=>rfl)))))
        (pa_cons (pe_b (call_sum_seqK K rfl) T.b_sum boot_sum (pa1 (pe_lc rfl (lcS sc_joined) (pi_listK K (pv 2)) (fun _ _ _ _=>pts_nil) (fun _ _ _ _=>pe_ix ix_ob (pv 0) pe_int (fun _ _=>rfl)))))
        (pa_cons (pe_b (call_min_list K rfl) T.b_min boot_min (pa1 (pe_lc rfl (lcS sc_joined) (pi_listK K (pv 2)) (fun _ _ _ _=>pts_nil) (fun _ _ _ _=>pe_ix ix_ob (pv 0) pe_int (fun _ _=>rfl)))))
        (pa_cons (pe_b (call_max_list K rfl) T.b_max boot_max (pa1 (pe_lc rfl (lcS sc_joined) (pi_listK K (pv 2)) (fun _ _ _ _=>pts_nil) (fun _ _ _ _=>pe_ix ix_ob (pv 0) pe_int (fun _ _=>rfl)))))
        (pa_cons (pe_ix (ix_listK K) (pv 3) pe_int (fun _ _=>rfl)) (pa_cons (pe_ix (ix_listK K) (pv 3) (pe_un un_neg pe_int) (fun _ _=>rfl)) pa_nil))))))))))),?_⟩
    refine ⟨_,rfl,_,rfl,two_line,fun t ht=>⟨t,rfl,⟨_,.of upd_same⟩,fun D hD=>?_⟩⟩
    have st:Same H (upd H t (.tup [x,y])):=Same.upd ht
    have hD0:H D=none:=st.free hD
    have pb:Paired (BarG H) [x,y] [es,es']:=.cons h1 (.cons h2 .nil)
    refine lc_tup (xs:=[x,y]) (fun i ys H1=>H1 D=some (.lst ys)∧ys.length≤i∧Same (upd H t (.tup [x,y])) H1∧∃ ds,Paired (BarS H) ys ds∧alls ds=([es,es'].take i).flatten) ⟨upd_same,Nat.zero_le _,Same.upd hD,[],.nil,rfl⟩ (fun i ys H1 h=>⟨h.1,h.2.2.1.sqT (.of upd_same)⟩) (fun ys H1 h=>?_) fun i b ys H1 hi hx h=>?_
    · obtain ⟨d1,d2,d3,ds,d4,d5⟩:=h
      have s1:Same H H1:=st.trans d3
      have d4:=Paired.mono2 (fun _ _ z=>BarS.same s1 z) d4
      have d5':alls ds=es++es':=by rw [d5]; simp
      have d2':ys.length≤2:=d2
      have dl:ys.length=ds.length:=d4.length
      have dok:∀ d ∈ ds,d.Ok:=fun d hd=>by
        obtain ⟨k,hk,rfl⟩:=List.getElem_of_mem hd
        obtain ⟨_,_,_,_,_,_,_,_,_,_,_,h⟩:=Paired.getR d4 (List.getElem?_eq_getElem hk)
        exact h
      refine ⟨_,rfl,_,.inl ⟨ys,.of d1,rfl⟩,?_⟩
      cases hys:ys with
      | nil =>
        refine iteT ⟨rfl,fun p' H2 s2 hp' hd=>q p' H2 _ (s1.trans s2) (s1.free hp') (.non ?_ rfl) hd⟩
        rw [hys] at dl
        have:ds=[]:=List.eq_nil_of_length_eq_zero dl.symm
        rw [← d5',this]
        rfl
      | cons y0 yr =>
        have hye:(!(y0::yr).isEmpty)=true:=rfl
        rw [hye]
        refine iteF ?_
        have hne:ds≠[]:=fun z=>by rw [hys,z] at dl; cases dl
        obtain ⟨zs,ws,p1,p2,q1,q2⟩:=ends_zs d4
        have lz:zs.length=ys.length:=by rw [p1.length,List.length_map]; omega
        have lw:ws.length=ys.length:=by rw [p2.length,List.length_map]; omega
        refine ⟨_,rfl,D,rfl,⟨ys,.of d1⟩,fun D1 hD1=>lc_ixG d1 (by omega) lz q1 hD1 fun H2 s2 g1=>?_⟩
        have d42:=Paired.mono2 (fun _ _ z=>BarS.same s2 z) d4
        refine ⟨_,rfl,D,rfl,⟨ys,.of (s2 _ _ d1)⟩,fun D2 hD2=>lc_ixG (s2 _ _ d1) (by omega) lw (fun k y hy=>by
          obtain ⟨a,o,its,v,e1,e2,e3,e4,e5⟩:=q2 k y hy
          exact ⟨a,o,its,v,e1,s2 _ _ e2,e3,e4,e5⟩) hD2 fun H3 s3 g2=>?_⟩
        refine ⟨D1,D2,_,_,rfl,rfl,s3 _ _ g1,g2,line1000 (by omega),fun D3 hD3=>?_⟩
        have s13:Same H1 H3:=s2.trans s3
        have s14:Same H1 (upd H3 D3 (.lst (zs++ws))):=s13.trans (Same.upd hD3)
        refine ⟨D3,_,zs++ws,ds.map (·.f)++ds.map (·.l),rfl,upd_same,.inl rfl,Paired.mono2 (fun _ _ z=>EntG.same s14 z) (by
            have:∀ {xs xs':List V} {ys ys':List En},Paired (EntG H1) xs ys→Paired (EntG H1) xs' ys'→Paired (EntG H1) (xs++xs') (ys++ys'):=fun {xs xs' ys ys'} a b=>by
              induction a with
              | nil=>exact b
              | cons r _ ih=>exact .cons r ih
            exact this p1 p2),by rw [List.length_append,List.length_map,List.length_map]; omega,fun E5 H5 es5 pp s5 hE5 g5 pe5 pm ps=>?_⟩
        have s15:Same H1 H5:=s14.trans s5
        have d45:=Paired.mono2 (fun _ _ z=>BarS.same s15 z) d4
        refine ⟨_,rfl,D,rfl,⟨ys,.of (s15 _ _ d1)⟩,fun D6 hD6=>lc_ixG (s15 _ _ d1) (by omega) (by rw [List.length_map,List.length_map]; omega) (ints_zs (j:=0) (g:=fun d=>(d.es.length:Int)) d45 fun d xf xl=>atI_nat (j:=0) rfl) hD6 fun H6 s6 g6=>⟨D6,_,rfl,.inl (.of g6),?_⟩⟩
        refine ⟨_,rfl,D,rfl,⟨ys,.of ((s15.trans s6) _ _ d1)⟩,fun D7 hD7=>lc_ixG ((s15.trans s6) _ _ d1) (by omega) (by rw [List.length_map,List.length_map]; omega) (ints_zs (j:=1) (g:=fun d=>(vals d.es).sum) (Paired.mono2 (fun _ _ z=>BarS.same s6 z) d45) fun d xf xl=>atI_nat (j:=1) rfl) hD7 fun H7 s7 g7=>⟨D7,_,rfl,.inl (.of g7),?_⟩⟩
        have s57:Same H5 H7:=s6.trans s7
        refine ⟨_,rfl,D,rfl,⟨ys,.of ((s15.trans s57) _ _ d1)⟩,fun D8 hD8=>lc_ixG ((s15.trans s57) _ _ d1) (by omega) (by rw [List.length_map,List.length_map]; omega) (ints_zs (j:=2) (g:=fun d=>d.lo) (Paired.mono2 (fun _ _ z=>BarS.same s57 z) d45) fun d xf xl=>atI_nat (j:=2) rfl) hD8 fun H8 s8 g8=>⟨D8,_,rfl,.of g8,by simpa using hne,fun lo l1 l2=>?_⟩⟩
        have s58:Same H5 H8:=s57.trans s8
        refine ⟨_,rfl,D,rfl,⟨ys,.of ((s15.trans s58) _ _ d1)⟩,fun D9 hD9=>lc_ixG ((s15.trans s58) _ _ d1) (by omega) (by rw [List.length_map,List.length_map]; omega) (ints_zs (j:=3) (g:=fun d=>d.hi) (Paired.mono2 (fun _ _ z=>BarS.same s58 z) d45) fun d xf xl=>atI_nat (j:=3) rfl) hD9 fun H9 s9 g9=>⟨D9,_,rfl,.of g9,by simpa using hne,fun hi' l3 l4=>?_⟩⟩
        have s59:Same H5 H9:=s58.trans s9
        have pm':=pick_perm pm
        have pe9:Paired (EntT H9) es5 (pick (ds.map (·.f)++ds.map (·.l)) pp):=Paired.mono2 (fun _ _ z=>EntT.same s59 z) pe5
        cases hpk:pick (ds.map (·.f)++ds.map (·.l)) pp with
        | nil =>
          rw [hpk] at pm'
          have:=pm'.length_eq
          rw [List.length_append,List.length_map,List.length_map] at this
          have:ds.length=0:=by simp at this; omega
          exact absurd (List.eq_nil_of_length_eq_zero this) hne
        | cons fe re =>
        rcases List.eq_nil_or_concat (pick (ds.map (·.f)++ds.map (·.l)) pp) with z | ⟨rl,le,hpl⟩
        · rw [hpk] at z; cases z
        rw [List.concat_eq_append] at hpl
        obtain ⟨yf,ef,rf⟩:=Paired.getR pe9 (i:=0) (y:=fe) (by rw [hpk]; rfl)
        obtain ⟨yl,el,rl'⟩:=Paired.getR pe9 (i:=rl.length) (y:=le) (by rw [hpl]; simp)
        have hlast:∃ yr',es5=yr'++[yl]:=by
          rcases List.eq_nil_or_concat es5 with z | ⟨yr',yl',hyr⟩
          · rw [z] at ef; cases ef
          · rw [List.concat_eq_append] at hyr
            refine ⟨yr',?_⟩
            have l1:es5.length=rl.length + 1:=by rw [pe9.length,hpl]; simp
            have l2:yr'.length=rl.length:=by rw [hyr] at l1; simpa using l1
            rw [hyr,← l2] at el
            rw [hyr]
            simp at el
            rw [el]
        obtain ⟨yr',hyr⟩:=hlast
        have b1:=pick_first pm ps hpk
        have b2:=pick_last pm ps hpl
        have hbar:=(join_bar dok l1 l2 l3 l4 b1.1 b1.2 b2.1 b2.2).of
        rw [← alls_sum,d5'] at hbar
        refine ⟨_,rfl,E5,es5,_,_,rfl,rfl,.of (s59 _ _ g5),atI_nat (j:=0) ef,_,rfl,_,rfl,E5,es5,_,_,rfl,rfl,.of (s59 _ _ g5),by rw [hyr]; exact atI_last _ _,line1000 (by show 6≤1000; decide),fun p10 hp10=>?_⟩
        refine q p10 _ _ ((s1.trans (s15.trans s59)).trans (Same.upd hp10)) ((s1.trans (s15.trans s59)).free hp10) hbar ?_
        refine dat_bar ?_ (rf.same (Same.upd hp10)) (rl'.same (Same.upd hp10))
        rw [upd_same,alls_len,d5']
    · obtain ⟨d1,d2,d3,ds,d4,d5⟩:=h
      obtain ⟨es0,he0,hb⟩:=Paired.get pb hx
      have s1:Same H H1:=st.trans d3
      have etk:([es,es'].take (i + 1)).flatten=([es,es'].take i).flatten++es0:=by rw [List.take_add_one,he0]; simp
      cases hb with
      | non a o e h ob he =>
        subst e
        refine ⟨_,rfl,a,o,_,_,_,rfl,rfl,s1 _ _ h,ob,atI_nat (j:=0) rfl,_,_,rfl,rfl,_,rfl,iteF (LcNo.mk hi ⟨d1,by omega,d3,ds,d4,?_⟩)⟩
        rw [etk,he,d5]
        simp
      | some d he h =>
        obtain ⟨a,o,xf,xl,rfl,h2,h3,h4,h5,h6⟩:=h
        have hpos:0 < d.es.length:=List.length_pos_of_mem h6.h5
        have hdec:decide ((0:Int) < (d.es.length:Int))=true:=decide_eq_true (by omega)
        refine ⟨_,rfl,a,o,_,_,_,rfl,rfl,s1 _ _ h2,h3,atI_nat (j:=0) rfl,_,_,rfl,rfl,_,rfl,?_⟩
        rw [hdec]
        refine iteT ⟨_,rfl,LcNx.mk hi (by show 2≤1000; decide) d2 d1 ⟨upd_same,by rw [List.length_append]; show _ + 1≤_; omega,d3.but_ne hD,ds++[d],Paired.snoc ⟨a,o,xf,xl,rfl,h2,h3,h4,h5,h6⟩ d4,?_⟩⟩
        unfold alls at d5 ⊢
        rw [List.map_append,List.flatten_append,d5,etk,he]
        simp
end
end Pr
namespace L2
open PySem PySem.Spec PyProof.Rows
mutual
def noL:PyData→Bool
  | .list _=>false
  | .tuple ds=>noLs ds
  | .dict _=>false
  | _=>true
def noLs:List PyData→Bool
  | []=>true
  | d::ds=>noL d && noLs ds
end
mutual
theorem Dat.tups {H H':Hp} (s:∀ b xs,H b=some (.tup xs)→H' b=some (.tup xs)):∀ (d:PyData) (v:V),noL d=true→Dat H d v→Dat H' d v
  | .none,v,_,h=>by unfold Dat at h ⊢; exact h
  | .bool _,v,_,h=>by unfold Dat at h ⊢; exact h
  | .int _,v,_,h=>by unfold Dat at h ⊢; exact h
  | .str _,v,_,h=>by unfold Dat at h ⊢; exact h
  | .list ds,v,n,h=>by unfold noL at n; cases n
  | .tuple ds,v,n,h=>by
    unfold noL at n
    unfold Dat at h ⊢
    obtain ⟨a,xs,e,h1,h2⟩:=h
    exact ⟨a,xs,e,s _ _ h1,DatAll.tups s ds xs n h2⟩
  | .dict _,v,n,h=>by unfold noL at n; cases n
theorem DatAll.tups {H H':Hp} (s:∀ b xs,H b=some (.tup xs)→H' b=some (.tup xs)):∀ (ds:List PyData) (xs:List V),noLs ds=true→DatAll H ds xs→DatAll H' ds xs
  | [],xs,_,h=>by unfold DatAll at h ⊢; exact h
  | d::ds,xs,n,h=>by
    unfold noLs at n
    rw [Bool.and_eq_true] at n
    unfold DatAll at h ⊢
    obtain ⟨x,r,e,h1,h2⟩:=h
    exact ⟨x,r,e,Dat.tups s d x n.1 h1,DatAll.tups s ds r n.2 h2⟩
end
end L2
namespace Ent
open PySem
theorem bar_noL {es:List En} {b:PyData} (h:BarOf es b):L2.noL b=true:=by
  cases h with
  | non _ e=>rw [e]; rfl
  | some lo hi f l h1 h2 h3 h4 h5 h6 h7 h8 e=>rw [e]; rfl
end Ent
namespace Pr
open PySem L2 PyProof.Rows Ent
end Pr
namespace Ent
open PySem
theorem keyed_perm {es es':List En} (p:es.Perm es') (k:Keyed es):Keyed es':=by
  unfold Keyed at k ⊢
  exact (p.map _).nodup_iff.mp k
theorem lf_bar {es:List En} {b:PyData} (hk:∀ e ∈ es,EnOk e) (hn:es.length≤1000) (h:BarOf es b):Lf b∧b.bulk≤40∧b.depth≤2:=by
  cases h with
  | non e1 e2 =>
    subst e2
    refine ⟨lf_tuple fun d hd=>?_,by decide,by decide⟩
    simp only [List.mem_cons,List.not_mem_nil,or_false] at hd
    rcases hd with rfl | rfl | rfl | rfl | rfl | rfl
    · exact lf_int (by decide)
    · exact lf_int (by decide)
    all_goals exact lf_none
  | some lo hi f l h1 h2 h3 h4 h5 h6 h7 h8 e =>
    subst e
    have hv:∀ v ∈ vals es,v.natAbs < 10 ^ 30:=fun v hv=>by
      obtain ⟨x,hx,rfl⟩:=List.mem_map.mp hv
      exact (hk x hx).v
    have hs:=sum_bound hv
    have hl:(vals es).length=es.length:=List.length_map ..
    refine ⟨lf_tuple fun d hd=>?_,?_,?_⟩
    · simp only [List.mem_cons,List.not_mem_nil,or_false] at hd
      rcases hd with rfl | rfl | rfl | rfl | rfl | rfl
      · exact lf_int (Nat.lt_of_le_of_lt (by rw [Int.natAbs_natCast]; exact hn) (by decide +kernel))
      · refine lf_int (Nat.lt_of_le_of_lt hs ?_)
        rw [hl]
        exact Nat.lt_of_le_of_lt (Nat.mul_le_mul_right _ hn) (by decide +kernel)
      · exact lf_int (le40 (hv _ h1))
      · exact lf_int (le40 (hv _ h3))
      · exact lf_eD (hk _ h5)
      · exact lf_eD (hk _ h7)
    · have a:=bulk_eD (hk _ h5)
      have b:=bulk_eD (hk _ h7)
      unfold barD
      simp only [PyData.bulk,PyData.bulkAll]
      omega
    · unfold barD
      simp only [PyData.depth,PyData.depthAll,depth_eD]
      omega
end Ent
namespace Pr
open PySem L2 PyProof.Rows Ent
theorem ent_of_dat {H:Hp} {x:V} {e:En} (h:Dat H (eD e) x):EntT H x e:=by
  unfold eD Dat at h
  obtain ⟨a,xs,e1,h1,h2⟩:=h
  unfold DatAll at h2
  obtain ⟨x1,r1,rfl,d1,h2⟩:=h2
  unfold DatAll at h2
  obtain ⟨x2,r2,rfl,d2,h2⟩:=h2
  unfold DatAll at h2
  obtain ⟨x3,r3,rfl,d3,h2⟩:=h2
  unfold DatAll at h2
  unfold Dat at d1 d2 d3
  subst h2 d1 d2 d3
  exact ⟨a,e1,h1⟩
def BT (H:Hp) (x:V) (es:List En):Prop:=∃ p b,x=.ref p∧Dat H b (.ref p)∧BarOf es b
theorem BT.same {H H':Hp} (s:Same H H') {x:V} {es:List En} (h:BT H x es):BT H' x es:=by
  obtain ⟨p,b,e,d,o⟩:=h
  exact ⟨p,b,e,d.same s _ _,o⟩
theorem BT.tups {H H':Hp} (s:∀ b xs,H b=some (.tup xs)→H' b=some (.tup xs)) {x:V} {es:List En} (h:BT H x es):BT H' x es:=by
  obtain ⟨p,b,e,d,o⟩:=h
  exact ⟨p,b,e,Dat.tups s _ _ (bar_noL o) d,o⟩
theorem BT.cases {H:Hp} {x:V} {es:List En} (h:BT H x es):(∃ p,x=.ref p∧es=[]∧H p=some (.tup [.int 0,.int 0,.non,.non,.non,.non])) ∨
    ∃ (p:Addr) (d:Bd) (xf xl:V),x=.ref p∧es=d.es∧d.Ok∧H p=some (.tup [.int d.es.length,.int (vals d.es).sum,.int d.lo,.int d.hi,xf,xl])∧EntT H xf d.f∧EntT H xl d.l:=by
  obtain ⟨p,b,rfl,d,o⟩:=h
  cases o with
  | non he e =>
    subst e
    left
    unfold emptyD Dat at d
    obtain ⟨a,xs,e1,h1,h2⟩:=d
    cases e1
    unfold DatAll at h2
    obtain ⟨x1,r1,rfl,d1,h2⟩:=h2
    unfold DatAll at h2
    obtain ⟨x2,r2,rfl,d2,h2⟩:=h2
    unfold DatAll at h2
    obtain ⟨x3,r3,rfl,d3,h2⟩:=h2
    unfold DatAll at h2
    obtain ⟨x4,r4,rfl,d4,h2⟩:=h2
    unfold DatAll at h2
    obtain ⟨x5,r5,rfl,d5,h2⟩:=h2
    unfold DatAll at h2
    obtain ⟨x6,r6,rfl,d6,h2⟩:=h2
    unfold DatAll at h2
    unfold Dat at d1 d2 d3 d4 d5 d6
    subst h2 d1 d2 d3 d4 d5 d6
    exact ⟨p,rfl,he,h1⟩
  | some lo hi f l g1 g2 g3 g4 g5 g6 g7 g8 e =>
    subst e
    right
    unfold barD Dat at d
    obtain ⟨a,xs,e1,h1,h2⟩:=d
    cases e1
    unfold DatAll at h2
    obtain ⟨x1,r1,rfl,d1,h2⟩:=h2
    unfold DatAll at h2
    obtain ⟨x2,r2,rfl,d2,h2⟩:=h2
    unfold DatAll at h2
    obtain ⟨x3,r3,rfl,d3,h2⟩:=h2
    unfold DatAll at h2
    obtain ⟨x4,r4,rfl,d4,h2⟩:=h2
    unfold DatAll at h2
    obtain ⟨x5,r5,rfl,d5,h2⟩:=h2
    unfold DatAll at h2
    obtain ⟨x6,r6,rfl,d6,h2⟩:=h2
    unfold DatAll at h2
    have e5:=ent_of_dat d5
    have e6:=ent_of_dat d6
    unfold Dat at d1 d2 d3 d4
    subst h2 d1 d2 d3 d4
    exact ⟨p,⟨es,lo,hi,f,l⟩,x5,x6,rfl,rfl,⟨g1,g2,g3,g4,g5,g6,g7,g8⟩,h1,e5,e6⟩
theorem BT.g {H:Hp} {x:V} {es:List En} (h:BT H x es):BarG H x es:=by
  rcases (BT.cases h) with ⟨p,e,he,h⟩ | ⟨p,d,xf,xl,e,he,ok,h,hf,hl⟩
  · exact .non p _ e h (.inr rfl) he
  · exact .some d he ⟨p,_,xf,xl,e,h,.inr rfl,hf.g,hl.g,ok⟩
end Pr
namespace Pr
open PySem L2 PyProof.Rows Ent
def wn (i j:Int) (es:List En):List En:=es.filter fun e=>decide (i≤e.1) && decide (e.1 < j)
theorem wn_nil (i:Int) (es:List En):wn i i es=[]:=by
  unfold wn
  rw [List.filter_eq_nil_iff]
  intro e _
  simp
theorem wn_join {i k j:Int} (h1:i≤k) (h2:k≤j) (es:List En):(wn i k es++wn k j es).Perm (wn i j es):=by
  have h:=List.filter_append_perm (fun e:En=>decide (e.1 < k)) (wn i j es)
  have e1:(wn i j es).filter (fun e:En=>decide (e.1 < k))=wn i k es:=by
    unfold wn
    rw [List.filter_filter]
    refine List.filter_congr fun e _=>?_
    rw [Bool.eq_iff_iff]
    simp
    omega
  have e2:(wn i j es).filter (fun e:En=>!decide (e.1 < k))=wn k j es:=by
    unfold wn
    rw [List.filter_filter]
    refine List.filter_congr fun e _=>?_
    rw [Bool.eq_iff_iff]
    simp
    omega
  rw [e1,e2] at h
  exact h
def PieceG (H:Hp) (v:V) (p:Lad.Piece):Prop:=∃ a o,v=.ref a∧H a=some o∧Ob o (pieceV p)
theorem PieceG.same {H H':Hp} (s:Same H H') {v:V} {p:Lad.Piece} (h:PieceG H v p):PieceG H' v p:=by
  obtain ⟨a,o,e,h,g⟩:=h
  exact ⟨a,o,e,s _ _ h,g⟩
def PieceB (n:Nat):Lad.Piece→Prop
  | .rest a b=>a≤b
  | .bar r m=>r≤n∧-W40 < m∧m < W40
section
variable {P:Program} {w:World} {K:PySem.W.Frag} {mg:Str→Option Value} {base:Heap} {C:Addr}
inductive sp_between (vs:List V) (H:Hp) (Q:VK) (E:XK):Prop
  | mk (a:Addr) (o:HO) (xs:List V) (es:List En) (i j:Int) (h0:vs=[.ref a,.int i,.int j]) (h1:H a=some o) (h2:Ob o xs) (h3:Paired (EntG H) xs es) (h4:es.length < 64)
    (q:∀ p H',Same H H'→H p=none→BT H' (.ref p) (wn i j es)→Q (.ref p) H'):sp_between vs H Q E
theorem sc_between:FnScope ["entries","one","other"] ["entries","one","other"] (defScope s_between):=⟨rfl,rfl,rfl,by decide +kernel,rfl,by decide +kernel,by decide +kernel⟩
theorem wn_take {i j:Int} {es:List En} {k:Nat} {e:En} (h:es[k]?=some e):wn i j (es.take (k + 1))=wn i j (es.take k)++(if (decide (i≤e.1) && decide (e.1 < j))=true then [e] else []):=by
  unfold wn
  rw [List.take_add_one,h,List.filter_append]
  cases z:(decide (i≤e.1) && decide (e.1 < j)) <;> simp [z]
theorem between (T:Txt K mg C):Can P w K mg base 6 "between" ["entries","one","other"] sp_between:=by
  refine fn_can T.f_between sc_between (fun vs H Q E h=>?_) (fun f cdv A outer s H vs Q E hr h=>?_)
  · obtain ⟨a,o,xs,es,i,j,rfl,_⟩:=h
    rfl
  · obtain ⟨a,o,xs,es,i,j,rfl,ha,ho,hp,h64,q⟩:=h
    refine ⟨_,(pss_one (ps_ret (pe_can (bar_of T) hr (pa1 (pe_lc rfl (lcS sc_between) (pi_seq (pv 0)) (fun _ _ _ _=>(pts_one (pt_chain op_le op_lt (pv 2) (pe_ix ix_ob (pv 0) pe_int (fun _ _=>rfl)) (pv 3)))) (fun _ _ _ _=>(pv 0))))))),?_⟩
    have hlen:=Paired.length hp
    refine ⟨_,rfl,a,o,xs,rfl,ha,ho,fun J hJ D hD=>?_⟩
    refine lc_it hJ (fun k ys H1=>H1 D=some (.lst ys)∧Same H H1∧Paired (EntG H) ys (wn i j (es.take k))∧ys.length≤k) ⟨upd_same,Same.upd hD,.nil,Nat.le_refl _⟩ (fun k ys H1 h=>⟨h.1,h.2.1 _ _ ha⟩) (fun ys H1 h=>?_) fun k x ys H1 hk hx h=>?_
    · obtain ⟨d1,d2,d3,d4⟩:=h
      rw [List.take_of_length_le (by omega)] at d3
      have hl2:=Paired.length d3
      refine ⟨D,_,ys,_,rfl,d1,.inl rfl,Paired.mono2 (fun _ _ z=>z.same d2) d3,by omega,fun p H2 b s2 hp2 hb hd=>?_⟩
      exact q p H2 (d2.trans s2) (d2.free hp2) ⟨p,b,rfl,hd,hb⟩
    · obtain ⟨d1,d2,d3,d4⟩:=h
      obtain ⟨e,he,b,ob,rfl,hb,hob⟩:=Paired.get hp hx
      have wt:=wn_take (i:=i) (j:=j) he
      refine ⟨_,rfl,_,rfl,b,ob,_,_,_,rfl,rfl,d2 _ _ hb,hob,rfl,_,_,rfl,rfl,_,rfl,?_⟩
      have no:(decide (i≤e.1) && decide (e.1 < j))=false→LcNo xs.length k ys (fun k ys H1=>H1 D=some (.lst ys)∧Same H H1∧Paired (EntG H) ys (wn i j (es.take k))∧ys.length≤k) H1:=fun z=>by
        refine LcNo.mk hk ⟨d1,d2,?_,by omega⟩
        rw [wt,z,if_neg (by decide),List.append_nil]
        exact d3
      by_cases z1:i≤e.1
      · refine iteC (decide_eq_true z1) ⟨_,rfl,_,_,rfl,rfl,_,rfl,?_⟩
        by_cases z2:e.1 < j
        · refine iteC (decide_eq_true z2) ⟨_,rfl,LcNx.mk hk (by omega) (by omega) d1 ⟨upd_same,d2.but_ne hD,?_,by rw [List.length_append]; show ys.length + 1≤k + 1; omega⟩⟩
          rw [wt,decide_eq_true z1,decide_eq_true z2,if_pos (by decide)]
          exact Paired.snoc ⟨b,ob,rfl,hb,hob⟩ d3
        · exact iteN (decide_eq_false z2) (no (by rw [decide_eq_false z2,Bool.and_false]))
      · refine iteN (decide_eq_false z1) ⟨_,rfl,iteF (no (by rw [decide_eq_false z1,Bool.false_and]))⟩
inductive sp_piece_stretch (C:Addr) (vs:List V) (H:Hp) (Q:VK) (E:XK):Prop
  | mk (x:Addr) (v:V) (p:Lad.Piece) (b:Int) (ps:List Int) (rows:List Lad.Step) (h0:vs=[.ref x,v]) (h1:LadAt C H x b ps rows) (ok:LadOk b ps rows) (h2:PieceG H v p) (hb:PieceB rows.length p)
    (q:∀ t H',Same H H'→H' t=some (.tup [.int (Lad.ends (allSt b ps rows) p).1,.int (Lad.ends (allSt b ps rows) p).2])→Q (.ref t) H'):sp_piece_stretch C vs H Q E
theorem sc_piece_stretch:FnScope ["ladder","piece"] ["ladder","piece"] (defScope s_piece_stretch):=⟨rfl,rfl,rfl,by decide +kernel,rfl,by decide +kernel,by decide +kernel⟩
theorem piece_stretch (T:Txt K mg C):Can P w K mg base 5 "piece_stretch" ["ladder","piece"] (sp_piece_stretch C):=by
  refine fn_can T.f_piece_stretch sc_piece_stretch (fun vs H Q E h=>?_) (fun f cdv A outer s H vs Q E hr h=>?_)
  · obtain ⟨x,v,p,b,ps,rows,rfl,_⟩:=h
    rfl
  · obtain ⟨x,v,p,b,ps,rows,rfl,hL,ok,⟨a,o,rfl,ha,ho⟩,hb,q⟩:=h
    refine ⟨_,(pss_cons (ps_if (pt_cmpR op_eq (pe_ix ix_ob (pv 1) pe_int (fun _ _=>rfl)) pe_str (nomark _))
        (pss_one (ps_ret (pe_canM (pv 0) T.cl (stretch T) hr (pa2 (pe_ix ix_ob (pv 1) pe_int (fun _ _=>rfl)) (pe_ix ix_ob (pv 1) pe_int (fun _ _=>rfl))))))
        pss_nil)
      (pss_one (ps_ret (pe_tup (pa2 (pe_ix ix_ob (pv 1) pe_int (fun _ _=>rfl)) (pe_ix ix_ob (pv 1) pe_int (fun _ _=>rfl))))))),?_⟩
    cases p with
    | rest lo hi =>
      refine ⟨_,rfl,a,o,_,_,_,rfl,rfl,ha,ho,rfl,rfl,_,rfl,iteF ?_⟩
      refine ⟨_,rfl,a,o,_,_,_,rfl,rfl,ha,ho,rfl,_,rfl,a,o,_,_,_,rfl,rfl,ha,ho,rfl,two_line,fun u hu=>?_⟩
      exact q u _ (Same.upd hu) upd_same
    | bar r n =>
      obtain ⟨dx,fa,fo,fc,hi⟩:=lad_ins hL
      refine ⟨_,rfl,a,o,_,_,_,rfl,rfl,ha,ho,rfl,rfl,_,rfl,iteT ?_⟩
      refine ⟨_,rfl,x,dx,_,rfl,hi,flds_no _ _ _ (by decide) (by decide) (by decide),_,rfl,a,o,_,_,_,rfl,rfl,ha,ho,rfl,_,rfl,a,o,_,_,_,rfl,rfl,ha,ho,rfl,x,(r:Int),n,b,ps,rows,rfl,hL,ok,by omega,by have:=hb.1; omega,hb.2.1,hb.2.2,fun t H2 s2 ht=>?_⟩
      rw [dn_allSt,dn_allSt] at ht
      exact q t H2 s2 ht
inductive sp_bar_of_cover (C:Addr) (vs:List V) (H:Hp) (Q:VK) (E:XK):Prop
  | mk (x:Addr) (a:Addr) (o:HO) (xs:List V) (es:List En) (pa:Addr) (po:HO) (pys:List V) (pcs:List Lad.Piece) (i j:Int) (b:Int) (ps:List Int) (rows:List Lad.Step) (h0:vs=[.ref x,.ref a,.ref pa]) (hL:LadAt C H x b ps rows) (ok:LadOk b ps rows)
    (h1:H a=some o) (h2:Ob o xs) (h3:Paired (EntG H) xs es) (h4:es.length < 64) (g1:H pa=some po) (g2:Ob po pys) (g3:Paired (PieceG H) pys pcs) (g4:∀ p ∈ pcs,PieceB rows.length p) (g5:Lad.Chain (allSt b ps rows) i j pcs)
    (q:∀ p H',Same H H'→H p=none→BT H' (.ref p) (wn i j es)→Q (.ref p) H'):sp_bar_of_cover C vs H Q E
theorem sc_bar_of_cover:FnScope ["ladder","entries","pieces","bar","piece","first","behind"] ["ladder","entries","pieces"] (defScope s_bar_of_cover):=⟨rfl,rfl,rfl,by decide +kernel,rfl,by decide +kernel,by decide +kernel⟩
theorem ends_le {st:List Lad.Step} (g:Lad.Goods st) {n:Nat} {p:Lad.Piece} (h:PieceB n p):(Lad.ends st p).1≤(Lad.ends st p).2:=by
  cases p with
  | rest a b=>exact h
  | bar r m =>
    have:=Lad.dn_mono g r (show m≤m + 1 by omega)
    show Lad.dn st r m≤Lad.dn st r (m + 1)
    omega
theorem bar_of_cover (T:Txt K mg C):Can P w K mg base 7 "bar_of_cover" ["ladder","entries","pieces"] (sp_bar_of_cover C):=by
  refine fn_can T.f_bar_of_cover sc_bar_of_cover (fun vs H Q E h=>?_) (fun f cdv A outer s H vs Q E hr h=>?_)
  · obtain ⟨x,a,o,xs,es,pa,po,pys,pcs,i,j,b,ps,rows,rfl,_⟩:=h
    rfl
  · obtain ⟨x,a,o,xs,es,pa,po,pys,pcs,i,j,b,ps,rows,rfl,hL,ok,ha,ho,hp,h64,g1,g2,g3,g4,g5,q⟩:=h
    refine ⟨_,(pss_cons (ps_set (i:=3) sc_bar_of_cover.nd rfl (Or.inl rfl) (pe_can0 (empty T) hr))
      (pss_cons (ps_for PassesOwn.never rfl (pi_seq (pv 2)) (pg_name (i:=4) sc_bar_of_cover.nd rfl (Or.inl rfl))
        (pss_cons (ps_asg (pe_can (piece_stretch T) hr (pa2 (pv 0) (pv 4))) (pg_tupK K rfl (pgs_cons (pg_name (i:=5) sc_bar_of_cover.nd rfl (Or.inl rfl)) (pgs_cons (pg_name (i:=6) sc_bar_of_cover.nd rfl (Or.inl rfl)) pgs_nil))))
        (pss_one (ps_set (i:=3) sc_bar_of_cover.nd rfl (Or.inl rfl) (pe_can (joined T) hr (pa2 (pv 3) (pe_can (between T) hr (pa3 (pv 1) (pv 5) (pv 6)))))))))
      (pss_one (ps_ret (pv 3))))),?_⟩
    refine ⟨rfl,fun p0 H0 s0 hp0 hd0=>?_⟩
    have b0:BT H0 (.ref p0) (wn i i es):=by rw [wn_nil]; exact ⟨p0,_,rfl,hd0,.non rfl rfl⟩
    have pl:=Paired.length g3
    refine ⟨_,rfl,pa,po,pys,rfl,s0 _ _ g1,g2,fun J hJ=>for_it hJ (fun k σ H2=>∃ z bp v4 v5 v6,σ=[some (.ref x),some (.ref a),some (.ref pa),some (.ref bp),v4,v5,v6]∧Same H H2∧H bp=none∧i≤z∧BT H2 (.ref bp) (wn i z es)∧Lad.Chain (allSt b ps rows) z j (pcs.drop k))
      ⟨i,p0,_,_,_,rfl,s0,hp0,Int.le_refl _,b0,g5⟩ (fun k σ H2 _ ⟨_,_,_,_,_,_,s2,_⟩=>s2 _ _ g1) ?_ ?_⟩
    · rintro k v σ H2 hv ⟨z,bp,v4,v5,v6,rfl,s2,hbp,hz,hB,hC⟩
      obtain ⟨p,hpk,hG⟩:=Paired.get g3 hv
      have hk:k < pcs.length:=(List.getElem?_eq_some_iff.mp hpk).1
      have pb:=g4 p (List.mem_of_getElem? hpk)
      rw [List.drop_eq_getElem_cons hk,show pcs[k]=p from Option.some.inj ((List.getElem?_eq_getElem hk).symm.trans hpk)] at hC
      obtain _ | ⟨ce,ct⟩:=hC
      refine ⟨_,rfl,_,rfl,x,v,p,b,ps,rows,rfl,hL.same s2,ok,hG.same s2,pb,fun t H3 s3 ht=>?_⟩
      refine ⟨t,_,rfl,.of ht,rfl,_,_,rfl,_,_,rfl,rfl,?_⟩
      have s23:=s2.trans s3
      refine ⟨_,rfl,_,rfl,_,rfl,_,rfl,a,o,xs,es,_,_,rfl,s23 _ _ ha,ho,Paired.mono2 (fun _ _ z=>z.same s23) hp,h64,fun q4 H4 s4 hq4 hB4=>?_⟩
      refine ⟨_,_,_,_,rfl,((hB.same s3).same s4).g,hB4.g,fun p5 H5 b5 s5 hp5 ho5 hd5=>?_⟩
      have le:=ends_le ok.goods pb
      rw [ce] at ho5 le
      have s25:=s23.trans (s4.trans s5)
      exact ⟨_,p5,_,_,_,rfl,s25,(s23.trans s4).free hp5,Int.le_trans hz le,⟨p5,b5,rfl,hd5,BarOf.perm (wn_join hz le es) ho5⟩,ct⟩
    · rintro σ H2 ⟨z,bp,v4,v5,v6,rfl,s2,hbp,hz,hB,hC⟩
      rw [pl,List.drop_length] at hC
      cases hC
      exact ⟨_,rfl,q bp H2 s2 hbp hB⟩
end
end Pr
namespace Srt
end Srt
namespace Ent
open PySem
end Ent
namespace L2
open PySem PySem.Spec PyProof.Rows
theorem op_notIn_seqK {X:Cx} (K:PySem.W.Frag) (e:X.K=K:=by rfl):OpR X (compareOp .NotIn) (rIn K true):=by rw [← e]; exact op_notIn_seq
theorem op_in_seqK {X:Cx} (K:PySem.W.Frag) (e:X.K=K:=by rfl):OpR X (compareOp .In) (rIn K false):=by rw [← e]; exact op_in_seq
end L2
namespace Pr
open PySem L2 PyProof.Rows Ent
abbrev wd (cs:List Nat):Str:=Txt.join "" (cs.map fun c=>(⟨#[c]⟩:Str))
theorem sum_ones (cs:List Nat):(cs.map ((fun x:Str=>x.length) ∘ fun c=>(⟨#[c]⟩:Str))).sum=cs.length:=by
  induction cs with
  | nil=>rfl
  | cons c r ih =>
    rw [List.map_cons,List.sum_cons,List.length_cons,ih]
    show 1 + r.length=_
    omega
theorem wd_le (cs:List Nat):(wd cs).cps.size≤cs.length:=by
  have e:wd cs=Str.join "" (cs.map fun c=>(⟨#[c]⟩:Str)):=StrLaws.glued_eq_join _ _
  rw [e]
  have h1:=StrLaws.join_length_le "" (cs.map fun c=>(⟨#[c]⟩:Str))
  rw [List.map_map,sum_ones] at h1
  have h3:(("" : String):Str).length=0:=by decide
  rw [h3] at h1
  show (Str.join _ _).length≤_
  omega
theorem wd_mem {cs:List Nat} {c:Nat} (h:c ∈ (wd cs).cps.toList):c ∈ cs:=by
  have e:wd cs=Str.join "" (cs.map fun c=>(⟨#[c]⟩:Str)):=StrLaws.glued_eq_join _ _
  rw [e] at h
  rcases (mem_join "" c _).mp h with ⟨t,ht,h2⟩ | ⟨_,h2⟩
  · obtain ⟨d,hd,rfl⟩:=List.mem_map.mp ht
    have:c=d:=by simpa using h2
    rw [this]
    exact hd
  · have e0:(("" : String):Str).cps.toList=[]:=by decide
    rw [e0] at h2
    cases h2
theorem wd_join {cs:List Nat} (h:cs.length≤100):JoinOk "" (cs.map fun c=>(⟨#[c]⟩:Str))=true:=by
  refine joinOk_of ?_
  rw [List.map_map,sum_ones]
  have h3:(("" : String):Str).length=0:=by decide
  rw [h3]
  omega
theorem sign_at {sg:Str} {i:Int} (h0:0≤i) (h1:i < sg.cps.toList.length):∃ c,atI sg.cps.toList i=some c∧c ∈ sg.cps.toList:=by
  obtain ⟨n,rfl⟩:∃ n:Nat,i=n:=⟨i.toNat,by omega⟩
  have hn:n < sg.cps.toList.length:=by omega
  exact ⟨sg.cps.toList[n],atI_nat (List.getElem?_eq_getElem hn),List.getElem_mem hn⟩
theorem inV_str (k:Str) (ks:List Str):inV (.str k) (ks.map V.str)=decide (k ∈ ks):=by
  induction ks with
  | nil=>rfl
  | cons x t ih =>
    unfold inV at ih ⊢
    rw [List.map_cons,List.any_cons,ih]
    have e:eqV (.str x) (.str k)=decide (x=k):=by show (x == k)=_; by_cases z:x=k <;> simp [z]
    rw [e]
    by_cases z:k=x
    · subst z; simp
    · rw [decide_eq_false (fun h=>z h.symm),Bool.false_or]
      by_cases y:k ∈ t
      · rw [decide_eq_true y,decide_eq_true (List.mem_cons_of_mem _ y)]
      · rw [decide_eq_false y,decide_eq_false (by simp [z,y])]
theorem flat_strs (ks:List Str):(ks.map V.str).all flatV=true:=by
  rw [List.all_eq_true]
  intro x hx
  obtain ⟨k,_,rfl⟩:=List.mem_map.mp hx
  rfl
theorem few {α:Type} [DecidableEq α]:∀ {l zs:List α},l.Nodup→(∀ x ∈ l,x ∈ zs)→l.length≤zs.length
  | [],_,_,_=>Nat.zero_le _
  | x::t,zs,nd,h=>by
    have nd':=List.nodup_cons.mp nd
    have hx:=h x List.mem_cons_self
    have:=few (zs:=zs.erase x) nd'.2 fun y hy=>by
      have ne:y≠x:=fun z=>nd'.1 (z ▸ hy)
      exact (List.mem_erase_of_ne ne).mpr (h y (List.mem_cons_of_mem _ hy))
    rw [List.length_erase_of_mem hx] at this
    have:0 < zs.length:=List.length_pos_of_mem hx
    rw [List.length_cons]
    omega
def cd (i:Nat):Str:=((toString ((10:Int) + (i:Int)):String):Str)
section
variable {P:Program} {w:World} {K:PySem.W.Frag} {mg:Str→Option Value} {base:Heap} {C:Addr}
abbrev A36:Str:=(("0123456789abcdefghijklmnopqrstuvwxyz" : String):Str)
theorem cd_ok:∀ i < 89,KeyOk (cd i):=by
  have h:(List.range 89).all (fun i=>decide ((cd i).cps.size≤8) && (cd i).cps.toList.all (fun c=>decide (c < 128)))=true:=by decide +kernel
  intro i hi
  have:=List.all_eq_true.mp h i (List.mem_range.mpr hi)
  rw [Bool.and_eq_true] at this
  exact ⟨of_decide_eq_true this.1,fun c hc=>of_decide_eq_true (List.all_eq_true.mp this.2 c hc)⟩
theorem cd_nd:((List.range 89).map cd).Nodup:=by decide +kernel
def But2 (p a:Addr) (H H':Hp):Prop:=∀ b o,H b=some o→b≠p→b≠a→H' b=some o
inductive sp_key (vs:List V) (H:Hp) (Q:VK) (E:XK):Prop
  | mk (p a:Addr) (ks:List Str) (e:vs=[.ref p,.ref a]) (h1:PotAt H p) (ha:H a=some (.lst (ks.map V.str))) (na:a≠p) (hl:ks.length < 60)
      (q:∀ k H',KeyOk k→k ∉ ks→But2 p a H H'→PotAt H' p→H' a=some (.lst ((ks++[k]).map V.str))→Q (.str k) H'):sp_key vs H Q E
theorem sc_key:FnScope ["_law_pot_here","_law_keys","_law_signs","_law_key_here"] ["_law_pot_here","_law_keys"] (defScope s_law_key):=⟨rfl,rfl,rfl,by decide +kernel,rfl,by decide +kernel,by decide +kernel⟩
set_option maxHeartbeats 4000000 in
theorem key (T:Txt K mg C):Can P w K mg base 2 "_law_key" ["_law_pot_here","_law_keys"] sp_key:=by
  refine fn_can T.f_law_key sc_key (fun vs H Q E h=>?_) (fun f cdv A outer s H vs Q E hr h=>?_)
  · obtain ⟨p,a,ks,rfl,_⟩:=h
    rfl
  · obtain ⟨p,a,ks,rfl,hp,ha,na,hl,q⟩:=h
    refine ⟨_,(pss_cons (ps_set (i:=2) sc_key.nd rfl (Or.inr rfl) pe_str)
      (pss_cons (ps_set (i:=3) sc_key.nd rfl (Or.inl rfl) (pe_bmK K PySem.F.plainAttrs_str PySem.F.slot_str_join PySem.F.type_str_join mt_join pe_str (pa1 (pe_lc rfl (lcS sc_key) (pi_range1 rfl T.b_range (pa1 (pe_op op_add pe_int (pe_can (digit T) hr (pa2 (pv 0) pe_int))))) (fun _ _ _ _=>pts_nil) (fun _ _ _ _=>(pe_ix ix_str (pv 3) (pe_can (digit T) hr (pa2 (pv 1) pe_int)) (fun _ _=>rfl)))))))
      (pss_cut (ps_if (pt_cmpR (op_in_seqK K) (pv 3) (pv 1) rfl)
        (pss_one (ps_set (i:=3) sc_key.nd rfl (Or.inl rfl) (pe_ix (ix_listK K) (pe_lc rfl (lcS sc_key) (pi_range2 rfl T.b_range (pa2 pe_int pe_int)) (fun _ _ _ _=>(pts_one (pt_cmpR (op_notIn_seqK K) (pe_t call_str_int T.b_str boot_str (pa1 (pv 0))) (pv 2) rfl))) (fun _ _ _ _=>(pe_t call_str_int T.b_str boot_str (pa1 (pv 0))))) pe_int (fun _ _=>rfl))))
        pss_nil)
      (pss_cons (ps_expr (pe_bmK K PySem.F.plainAttrs_list PySem.F.slot_list_append PySem.F.type_list_append mt_append (pv 1) (pa1 (pv 3))))
      (pss_one (ps_ret (pv 3))))))),?_⟩
    refine ⟨rfl,_,rfl,p,_,rfl,hp,by decide +kernel,by decide +kernel,fun d1 H2 a1 b1 c2 hp2=>⟨_,_,rfl,rfl,_,rfl,by omega,by omega,fun D hD=>?_⟩⟩
    have nD:D≠p:=hp2.ne hD
    refine lc_range (fun i ys H3=>H3 D=some (.lst ys)∧But p H2 H3∧PotAt H3 p∧∃ cs:List Nat,ys=cs.map (fun c=>V.str ⟨#[c]⟩)∧cs.length=i∧∀ c ∈ cs,c ∈ A36.cps.toList) ⟨upd_same,(Same.upd hD).but,hp2.same (Same.upd hD),[],rfl,rfl,fun _ h=>nomatch h⟩ (fun i ys H3 h=>h.1) (fun ys H3 h=>?_) fun i ys H3 hi h=>?go
    case go =>
      obtain ⟨h1,h2,h3,cs,rfl,h5,h6⟩:=h
      refine yesI ⟨_,rfl,_,rfl,p,_,rfl,h3,by decide +kernel,by decide +kernel,fun d H4 a4 b4 c4 hp4=>?_⟩
      obtain ⟨ch,hch,hab⟩:=sign_at (sg:=A36) a4 (by show d < 36; exact b4)
      refine ⟨_,_,_,rfl,rfl,by decide +kernel,hch,LcNx.mk hi (by omega) (by rw [List.length_map]; omega) (c4 _ _ h1 nD) ⟨upd_same,?_,?_,cs++[ch],by rw [List.map_append]; rfl,by rw [List.length_append,h5]; rfl,fun z hz=>?_⟩⟩
      · intro b' o hb hn
        rw [upd_ne (ne_of_none hb hD)]
        exact c4 _ _ (h2 _ _ hb hn) hn
      · obtain ⟨x,y,hxy⟩:=hp4
        exact ⟨x,y,by rw [upd_ne (Ne.symm nD)]; exact hxy⟩
      · rcases List.mem_append.mp hz with hz | hz
        · exact h6 z hz
        · rw [List.mem_singleton.mp hz]; exact hab
    obtain ⟨h1,h2,h3,cs,rfl,h5,h6⟩:=h
    have e2:cs.map (fun c=>V.str ⟨#[c]⟩)=(cs.map fun c=>(⟨#[c]⟩:Str)).map V.str:=by rw [List.map_map]; rfl
    rw [e2] at h1
    have c3:=c2.trans h2
    have ha3:=c3 _ _ ha na
    have a128:∀ c ∈ A36.cps.toList,c < 128:=by
      have:A36.cps.toList.all (fun c=>decide (c < 128))=true:=by decide +kernel
      exact fun c hc=>of_decide_eq_true (List.all_eq_true.mp this c hc)
    have kw:KeyOk (wd cs):=⟨by have:=wd_le cs; show (wd cs).cps.size≤8; omega,fun c hc=>a128 c (h6 c (wd_mem hc))⟩
    refine ⟨_,D,_,rfl,rfl,.of h1,wd_join (by omega),?_⟩
    refine ⟨fun σ' H'=>∃ k,σ'=[some (.ref p),some (.ref a),some (.str A36),some (.str k)]∧Same H3 H'∧k ∉ ks∧KeyOk k,?_,?_⟩
    · refine ⟨_,rfl,_,rfl,a,_,rfl,.inl (.of ha3),rfl,flat_strs ks,_,rfl,?_⟩
      have hv0:=inV_str (wd cs) ks
      by_cases hc:wd cs ∈ ks
      · rw [decide_eq_true hc] at hv0
        refine iteC hv0 ?_
        refine ⟨_,_,rfl,⟨by decide,by decide,by decide,by decide⟩,fun G hG=>?_⟩
        refine lc_range (lo:=10) (n:=89) (fun i ys H5=>H5 G=some (.lst ys)∧Same H3 H5∧ys=(((List.range i).map cd).filter (fun k=>decide (k ∉ ks))).map V.str) ⟨upd_same,Same.upd hG,rfl⟩ (fun i ys H5 h=>h.1) (fun ys H5 h=>?_) fun i ys H5 hi h=>?_
        · obtain ⟨g1,g2,rfl⟩:=h
          cases hf:((List.range 89).map cd).filter (fun k=>decide (k ∉ ks)) with
          | nil =>
            exfalso
            have:=few cd_nd fun x hx=>by
              refine Classical.byContradiction fun z=>?_
              have:x ∈ ((List.range 89).map cd).filter (fun k=>decide (k ∉ ks)):=List.mem_filter.mpr ⟨hx,decide_eq_true z⟩
              rw [hf] at this
              cases this
            rw [List.length_map,List.length_range] at this
            omega
          | cons k rest =>
            rw [hf] at g1
            have hm:k ∈ ((List.range 89).map cd).filter (fun k=>decide (k ∉ ks)):=by rw [hf]; exact List.mem_cons_self
            obtain ⟨m1,m2⟩:=List.mem_filter.mp hm
            obtain ⟨i,hi,rfl⟩:=List.mem_map.mp m1
            exact ⟨G,_,_,_,rfl,rfl,.of g1,atI_nat (j:=0) rfl,_,rfl,g2,of_decide_eq_true m2,cd_ok i (List.mem_range.mp hi)⟩
        · obtain ⟨g1,g2,rfl⟩:=h
          have fl:(((List.range i).map cd).filter (fun k=>decide (k ∉ ks))).length≤i:=Nat.le_trans (List.length_filter_le _ _) (by rw [List.length_map,List.length_range]; omega)
          have lg:((10:Int) + (i:Int)).natAbs.log2 < 1920:=PySem.Spec.log2_small (Nat.lt_of_lt_of_le (show ((10:Int) + (i:Int)).natAbs < 1000 by omega) (by decide +kernel))
          refine ⟨_,rfl,_,rfl,lg,_,rfl,a,_,rfl,.inl (.of (g2 _ _ ha3)),rfl,flat_strs ks,_,rfl,?_⟩
          have hv:=inV_str (cd i) ks
          have ce:((toString ((10:Int) + (i:Int)):String):Str)=cd i:=rfl
          rw [ce]
          by_cases z:cd i ∈ ks
          · rw [decide_eq_true z] at hv
            refine iteN (show (!inV (V.str (cd i)) (ks.map V.str))=false by rw [hv]; rfl) (LcNo.mk hi ⟨g1,g2,?_⟩)
            rw [List.range_succ,List.map_append,List.filter_append,List.map_singleton,List.filter_cons,if_neg (by simp [z])]
            simp
          · rw [decide_eq_false z] at hv
            refine iteC (show (!inV (V.str (cd i)) (ks.map V.str))=true by rw [hv]; rfl) ⟨_,rfl,_,rfl,lg,LcNx.mk hi (by omega) (by rw [List.length_map]; exact fl) g1 ⟨upd_same,fun b o e=>?_,?_⟩⟩
            · rw [upd_ne (ne_of_none e hG)]; exact g2 _ _ e
            · rw [List.range_succ,List.map_append,List.filter_append,List.map_singleton,List.filter_cons,if_pos (decide_eq_true z),List.map_append]
              rfl
      · rw [decide_eq_false hc] at hv0
        exact iteN hv0 ⟨_,rfl,Same.refl _,hc,kw⟩
    · rintro σ' H5 ⟨k,rfl,s5,hk,ko⟩
      have ha5:=s5 _ _ ha3
      refine ⟨_,rfl,.inl ⟨rfl,_,.of ha5⟩,_,rfl,a,_,_,rfl,rfl,ha5,by rw [List.length_map]; exact line1000 (by omega),?_⟩
      refine ⟨_,rfl,q k _ ko hk (fun b o hb n1 n2=>?_) ?_ ?_⟩
      · rw [upd_ne n2]
        exact s5 _ _ (c3 _ _ hb n1)
      · obtain ⟨x,y,hxy⟩:=h3.same s5
        exact ⟨x,y,by rw [upd_ne (Ne.symm na)]; exact hxy⟩
      · rw [upd_same,List.map_append]
        rfl
end
end Pr
namespace Pr
open PySem L2 PyProof.Rows
section
variable {P:Program} {w:World} {K:PySem.W.Frag} {mg:Str→Option Value} {base:Heap} {C:Addr}
def clamp (x:Int):Int:=if (if x < W30 - 1 then x else W30 - 1) > 1 - W30 then (if x < W30 - 1 then x else W30 - 1) else 1 - W30
theorem clamp_in (x:Int) : -W30 < clamp x∧clamp x < W30:=by
  have hW:W30=1000000000000000000000000000000:=rfl
  unfold clamp
  constructor <;> split <;> (try split) <;> omega
inductive sp_time (vs:List V) (H:Hp) (Q:VK) (E:XK):Prop
  | mk (p:Addr) (t:Addr) (b:Int) (ps:List Int) (rows:List Lad.Step) (h0_:vs=[.ref p,.ref t]) (h1_:PotAt H p) (h4_:(∀ H',But p H H'→ToldAt H' t b ps rows)) (npt:p≠t) (h5_:LadOk b ps rows) (q:∀ u i j H',-W30 < i→i < j→j < W30→But p H H'→PotAt H' p→H' u=some (.tup [.int i,.int j])→Q (.ref u) H'):sp_time vs H Q E
theorem sc_time:FnScope ["_law_pot_here","_law_told","_law_one","_law_way","_law_roll","_law_number","_law_row","_law_other","_law_far","_law_ends"] ["_law_pot_here","_law_told"] (defScope s_law_time):=⟨rfl,rfl,rfl,by decide +kernel,rfl,by decide +kernel,by decide +kernel⟩
set_option maxHeartbeats 8000000 in
theorem time (T:Txt K mg C):Can P w K mg base 4 "_law_time" ["_law_pot_here","_law_told"] sp_time:=by
  refine fn_can T.f_law_time sc_time (fun vs H Q E h=>?_) (fun f cdv A outer s H vs Q E hr h=>?_)
  · obtain ⟨p,t,b,ps,rows,rfl,_⟩:=h
    rfl
  · obtain ⟨p,t,b,ps,rows,rfl,hp,hTb,npt,ok,q⟩:=h
    have htt:=total_pos ok
    have hrl:=(rowsB_ok ok.r).1
    refine ⟨_,(pss_cons (ps_set (i:=2) sc_time.nd rfl (Or.inl rfl) (pe_can (moment T) hr (pa2 (pv 0) (pv 1))))
      (pss_cons (ps_set (i:=3) sc_time.nd rfl (Or.inl rfl) (pe_can (digit T) hr (pa2 (pv 0) pe_int)))
      (pss_cons (ps_set (i:=4) sc_time.nd rfl (Or.inl rfl) (pe_can (digit T) hr (pa2 (pv 0) (pe_op op_add (pe_b (call_lenK K) T.b_len boot_len (pa1 (pe_ix (ix_tupK K) (pv 1) pe_int (fun _ _=>rfl)))) pe_int))))
      (pss_cons (ps_set (i:=5) sc_time.nd rfl (Or.inl rfl) (pe_can (lowest T) hr (pa2 (pv 1) (pv 2))))
      (pss_cons (ps_for PassesOwn.never rfl (pi_listK K (pe_slice (sl_listK K) (pe_ix (ix_tupK K) (pv 1) pe_int (fun _ _=>rfl)) po_none (po_some (pv 4)))) (pg_name (i:=6) sc_time.nd rfl (Or.inl rfl))
        (pss_one (ps_set (i:=5) sc_time.nd rfl (Or.inl rfl) (pe_can (raised T) hr (pa2 (pv 6) (pv 5))))))
      (pss_cons (ps_set (i:=7) sc_time.nd rfl (Or.inl rfl) (pe_op op_sub (pe_op op_add (pe_can (begins T) hr (pa3 (pv 1) (pv 4) (pe_op op_add (pv 5) (pe_can (digit T) hr (pa2 (pv 0) pe_int))))) (pe_can (digit T) hr (pa2 (pv 0) pe_int))) pe_int))
      (pss_cut (ps_if (pt_cmpR op_eq (pv 3) pe_int (nomark _))
        (pss_one (ps_set (i:=7) sc_time.nd rfl (Or.inl rfl) (pe_can (moment T) hr (pa2 (pv 0) (pv 1)))))
        pss_nil)
      (pss_cut (ps_if (pt_cmpR op_eq (pv 3) pe_int (nomark _))
        (pss_one (ps_set (i:=2) sc_time.nd rfl (Or.inl rfl) (pe_can (begins T) hr (pa3 (pv 1) (pv 4) (pv 5)))))
        pss_nil)
      (pss_cut (ps_if (pt_cmpR op_eq (pv 3) pe_int (nomark _))
        (pss_cons (ps_set (i:=8) sc_time.nd rfl (Or.inl rfl) (pe_ix (ix_listK K) (pe_lst (pa2 (pe_op op_add pe_int (pe_can (digit T) hr (pa2 (pv 0) pe_int))) (pe_op op_add pe_int (pe_can (digit T) hr (pa2 (pv 0) pe_int))))) (pe_can (digit T) hr (pa2 (pv 0) pe_int)) (fun _ _=>rfl)))
        (pss_one (ps_set (i:=7) sc_time.nd rfl (Or.inl rfl) (pe_can (begins T) hr (pa3 (pv 1) pe_int (pe_op op_add (pe_can (lowest T) hr (pa2 (pv 1) (pv 2))) (pv 8)))))))
        pss_nil)
      (pss_cut (ps_if (pt_cmpR op_eq (pv 3) pe_int (nomark _))
        (pss_one (ps_set (i:=7) sc_time.nd rfl (Or.inl rfl) (pe_op op_add (pe_op op_add (pv 2) pe_int) (pe_can (digit T) hr (pa2 (pv 0) (pe_can (turn T) hr (pa1 (pv 1))))))))
        pss_nil)
      (pss_cons (ps_setLC (i:=9) rfl rfl rfl (lcS sc_time) (pi_tupK K (pe_tup (pa2 (pv 2) (pv 7)))) (fun _ _ _ _=>pts_nil) (fun _ _ _ _=>(pe_b (call_max2 rfl) T.b_max boot_max (pa2 (pe_op op_sub pe_int (pe_op op_pow pe_int pe_int)) (pe_b (call_min2 rfl) T.b_min boot_min (pa2 (pe_op op_sub (pe_op op_pow pe_int pe_int) pe_int) (pv 0)))))))
      (pss_cut (ps_if (pt_cmpR op_eq (pe_ix (ix_listK K) (pv 9) pe_int (fun _ _=>rfl)) (pe_ix (ix_listK K) (pv 9) pe_int (fun _ _=>rfl)) (nomark _))
        (pss_one (ps_set (i:=9) sc_time.nd rfl (Or.inl rfl) (pe_lst (pa2 (pe_op op_sub (pe_ix (ix_listK K) (pv 9) pe_int (fun _ _=>rfl)) (pe_t call_int1 T.b_int boot_int (pa1 (pe_cmpR op_gt (pe_ix (ix_listK K) (pv 9) pe_int (fun _ _=>rfl)) pe_int (nomark _))))) (pe_op op_add (pe_ix (ix_listK K) (pv 9) pe_int (fun _ _=>rfl)) (pe_t call_int1 T.b_int boot_int (pa1 (pe_cmpR op_le (pe_ix (ix_listK K) (pv 9) pe_int (fun _ _=>rfl)) pe_int (nomark _)))))))))
        pss_nil)
      (pss_one (ps_ret (pe_tup (pa2 (pe_b (call_min_list K rfl) T.b_min boot_min (pa1 (pv 9))) (pe_b (call_max_list K rfl) T.b_max boot_max (pa1 (pv 9))))))))))))))))))),?_⟩
    have hT:=hTb H (fun _ _ h _=>h)
    refine ⟨_,rfl,_,rfl,p,t,b,ps,rows,rfl,hp,hT,npt,hTb,ok,fun o1 H1 a1 b1 c1 hp1=>?_⟩
    refine ⟨_,rfl,p,_,rfl,hp1,by decide +kernel,by decide +kernel,fun way H2 a2 b2 c2 hp2=>?_⟩
    have c12:=c1.trans c2
    obtain ⟨pa,ra,us,h1,h2,h3,h4⟩:=id (hTb H2 c12)
    have hul:us.length=rows.length:=Paired.length h4
    refine ⟨_,rfl,_,rfl,t,_,_,_,rfl,rfl,.of h1,rfl,ra,_,rfl,.inl (.of h3),_,_,rfl,rfl,p,_,rfl,hp2,by omega,by omega,fun d4 H3 a3 b3 c3 hp3=>?_⟩
    have c13:=c12.trans c3
    obtain ⟨r,rfl⟩:∃ r:Nat,d4=r:=⟨d4.toNat,by omega⟩
    refine ⟨_,rfl,_,rfl,t,_,b,ps,rows,rfl,hTb H3 c13,ok,fun H4 s4=>?_⟩
    have c14:=But.same c13 s4
    have hp4:=hp3.same s4
    obtain ⟨pa,ra,us,h1,h2,h3,h4⟩:=id (hTb H4 c14)
    have hul:us.length=rows.length:=Paired.length h4
    refine ⟨_,rfl,t,_,_,_,rfl,rfl,.of h1,rfl,_,rfl,_,rfl,ra,_,rfl,.of h3,fun p1 hq1=>?_⟩
    rw [cut_take _ (by omega),Int.toNat_natCast]
    have s5:Same H4 (upd H4 p1 (.lst (us.take r))):=Same.upd hq1
    have hp1':(upd H4 p1 (.lst (us.take r))) p1=some (.lst (us.take r)):=upd_same
    generalize (upd H4 p1 (.lst (us.take r)))=H5 at s5 hp1'
    have c15:=But.same c14 s5
    have hp5:=hp4.same s5
    refine ⟨p1,rfl,⟨_,.of hp1'⟩,for_list (K:=K) (a:=p1) (xs:=us.take r) (fun k σ H6=>∃ n v6,σ=[some (.ref p),some (.ref t),some (.int o1),some (.int way),some (.int (r:Int)),some (.int n),v6,none,none,none]∧Same H5 H6) ⟨_,none,rfl,Same.refl _⟩ (fun k σ H6 _ ⟨_,_,_,s6⟩=>.of (s6 _ _ hp1')) ?_ ?_⟩
    · rintro k x σ H6 hx ⟨n,v6,rfl,s6⟩
      have hkl:k < (us.take r).length:=(List.getElem?_eq_some_iff.mp hx).1
      rw [List.length_take] at hkl
      rw [List.getElem?_take,if_pos (by omega)] at hx
      obtain ⟨st,hst,hrow⟩:=Paired.get h4 hx
      have sz:=(ok.steps st (List.mem_cons_of_mem _ (List.mem_of_getElem? hst))).1
      refine ⟨_,rfl,_,rfl,x,st,_,rfl,(hrow.same s5).same s6,sz,fun H7 s7=>?_⟩
      exact ⟨_,_,rfl,s6.trans s7⟩
    rintro σ H6 ⟨n,v6,rfl,s6⟩
    have c16:=But.same c15 s6
    have hp6:=hp5.same s6
    refine ⟨_,rfl,_,rfl,_,rfl,_,rfl,p,_,rfl,hp6,by decide +kernel,by decide +kernel,fun d7 H7 a7 b7 c7 hp7=>⟨_,_,rfl,rfl,?_⟩⟩
    have c17:=c16.trans c7
    refine ⟨t,r,_,b,ps,rows,rfl,hTb H7 c17,ok,fun H8 s8=>?_⟩
    generalize Lad.down (((b,Lad.bars ps)::rows).take (r + 1)) (n + d7)=z8
    have c18:=But.same c17 s8
    refine ⟨_,rfl,p,_,rfl,hp7.same s8,by decide +kernel,by decide +kernel,fun d9 H9 a9 b9 c9 hp9=>⟨_,_,rfl,rfl,_,_,rfl,rfl,?_⟩⟩
    have c19:=c18.trans c9
    refine ⟨fun σ H'=>∃ o1 o2 v8,σ=[some (.ref p),some (.ref t),some (.int o1),some (.int way),some (.int (r:Int)),some (.int n),v6,some (.int o2),v8,none]∧But p H H'∧PotAt H' p,⟨_,rfl,rfl,_,rfl,?_⟩,?_⟩
    · refine iteB (fun _=>?_) (fun _=>⟨_,_,_,rfl,c19,hp9⟩)
      refine ⟨_,rfl,_,rfl,p,t,b,ps,rows,rfl,hp9,hTb H9 c19,npt,fun H' c=>hTb H' (c19.trans c),ok,fun m HA _ _ cA hpA=>?_⟩
      exact ⟨_,_,_,rfl,c19.trans cA,hpA⟩
    rintro σ HB ⟨o1,o2,v8,rfl,cB,hpB⟩
    refine ⟨fun σ H'=>∃ o1 o2 v8,σ=[some (.ref p),some (.ref t),some (.int o1),some (.int way),some (.int (r:Int)),some (.int n),v6,some (.int o2),v8,none]∧But p H H'∧PotAt H' p,⟨_,rfl,rfl,_,rfl,?_⟩,?_⟩
    · refine iteB (fun _=>?_) (fun _=>⟨_,_,_,rfl,cB,hpB⟩)
      refine ⟨_,rfl,_,rfl,_,rfl,t,r,_,b,ps,rows,rfl,hTb HB cB,ok,fun HA sA=>?_⟩
      exact ⟨_,_,_,rfl,But.same cB sA,hpB.same sA⟩
    rintro σ HC ⟨o1,o2,v8,rfl,cC,hpC⟩
    refine ⟨fun σ H'=>∃ o1 o2 v8,σ=[some (.ref p),some (.ref t),some (.int o1),some (.int way),some (.int (r:Int)),some (.int n),v6,some (.int o2),v8,none]∧But p H H'∧PotAt H' p,⟨_,rfl,rfl,_,rfl,?_⟩,?_⟩
    · refine iteB (fun _=>?_) (fun _=>⟨_,_,_,rfl,cC,hpC⟩)
      refine ⟨_,rfl,p,_,rfl,hpC,by decide +kernel,by decide +kernel,fun e1 HD x1 y1 cD hpD=>⟨_,_,rfl,rfl,?_⟩⟩
      refine ⟨_,rfl,p,_,rfl,hpD,by decide +kernel,by decide +kernel,fun e2 HE x2 y2 cE hpE=>⟨_,_,rfl,rfl,line1 (by show 2≤1000; decide),fun l hl=>?_⟩⟩
      have cCE:=cC.trans (cD.trans cE)
      have sF:Same HE (upd HE l (.lst [.int (290 + e1),.int (297 + e2)])):=Same.upd hl
      have hl':(upd HE l (.lst [.int (290 + e1),.int (297 + e2)])) l=some (.lst [.int (290 + e1),.int (297 + e2)]):=upd_same
      generalize (upd HE l (.lst [.int (290 + e1),.int (297 + e2)]))=HF at sF hl'
      refine ⟨_,rfl,p,_,rfl,hpE.same sF,by decide +kernel,by decide +kernel,fun e3 HG x3 y3 cG hpG=>?_⟩
      have cCG:=(But.same cCE sF).trans cG
      have hlG:HG l=some (.lst [.int (290 + e1),.int (297 + e2)]):=cG _ _ hl' (fun z=>by rw [z] at hl'; obtain ⟨_,_,zz⟩:=hpE; rw [z] at hl; rw [hl] at zz; cases zz)
      refine ⟨l,_,_,_,rfl,rfl,.of hlG,atI_ints (S:=[290 + e1,297 + e2]) x3 y3,?_⟩
      refine ⟨_,rfl,_,rfl,_,rfl,t,_,b,ps,rows,rfl,hTb HG cCG,ok,fun HI sI=>⟨_,rfl,_,_,rfl,rfl,?_⟩⟩
      have cCI:=But.same cCG sI
      refine ⟨t,0,_,b,ps,rows,rfl,hTb HI cCI,ok,fun HJ sJ=>?_⟩
      exact ⟨_,_,_,rfl,But.same cCI sJ,(hpG.same sI).same sJ⟩
    rintro σ HD ⟨o1,o2,v8,rfl,cD,hpD⟩
    refine ⟨fun σ H'=>∃ o1 o2 v8,σ=[some (.ref p),some (.ref t),some (.int o1),some (.int way),some (.int (r:Int)),some (.int n),v6,some (.int o2),v8,none]∧But p H H'∧PotAt H' p,⟨_,rfl,rfl,_,rfl,?_⟩,?_⟩
    · refine iteB (fun _=>?_) (fun _=>⟨_,_,_,rfl,cD,hpD⟩)
      refine ⟨_,rfl,_,_,rfl,rfl,_,rfl,_,rfl,t,b,ps,rows,rfl,hTb HD cD,ok,fun HE sE=>?_⟩
      refine ⟨p,_,rfl,hpD.same sE,by omega,by omega,fun e1 HF x1 y1 cF hpF=>⟨_,_,rfl,rfl,?_⟩⟩
      exact ⟨_,_,_,rfl,(But.same cD sE).trans cF,hpF⟩
    rintro σ HE ⟨o1,o2,v8,rfl,cE,hpE⟩
    refine ⟨_,rfl,_,rfl,line1 (by show 2≤1000; decide),fun tu htu=>?_⟩
    have s1:Same HE (upd HE tu (.tup [.int o1,.int o2])):=Same.upd htu
    have ht1:(upd HE tu (.tup [.int o1,.int o2])) tu=some (.tup [.int o1,.int o2]):=upd_same
    generalize (upd HE tu (.tup [.int o1,.int o2]))=HF at s1 ht1
    refine ⟨tu,rfl,⟨_,.of ht1⟩,fun D hD=>?_⟩
    have e30:(10:Int) ^ (30:Int).toNat=W30:=by decide +kernel
    have hW:W30=1000000000000000000000000000000:=rfl
    refine lc_tup (xs:=[.int o1,.int o2]) (fun k ys H3=>ys=(([o1,o2].take k).map clamp).map V.int∧Same HF H3∧H3 D=some (.lst ys)) ⟨rfl,Same.upd hD,upd_same⟩ (fun k ys H3 ⟨_,s3,d⟩=>⟨d,.of (s3 _ _ ht1)⟩) (fun ys HG ⟨e,sG,d⟩=>?_) (fun k v ys H3 hk hv ⟨e,s3,d⟩=>?_)
    · subst e
      have d:HG D=some (.lst [.int (clamp o1),.int (clamp o2)]):=d
      have b1:=clamp_in o1
      have b2:=clamp_in o2
      generalize clamp o1=x1 at d b1
      generalize clamp o2=x2 at d b2
      have cG:=But.same (But.same cE s1) sG
      have hpG:=(hpE.same s1).same sG
      refine ⟨fun σ H'=>∃ l y1 y2,σ=[some (.ref p),some (.ref t),some (.int o1),some (.int way),some (.int (r:Int)),some (.int n),v6,some (.int o2),v8,some (.ref l)]∧But p H H'∧PotAt H' p∧H' l=some (.lst ([y1,y2].map V.int))∧y1≠y2∧-W30 < y1∧y1 < W30∧-W30 < y2∧y2 < W30,⟨_,rfl,D,_,_,_,rfl,rfl,.of d,rfl,_,rfl,D,_,_,_,rfl,rfl,.of d,rfl,rfl,_,rfl,?_⟩,?_⟩
      · by_cases z:x1=x2
        · refine iteC (decide_eq_true (by rw [z])) ?_
          refine ⟨_,rfl,D,_,_,_,rfl,rfl,.of d,rfl,_,rfl,D,_,_,_,rfl,rfl,.of d,rfl,_,_,rfl,rfl,.inr ⟨_,rfl,_,_,rfl,rfl,?_⟩⟩
          refine ⟨_,rfl,D,_,_,_,rfl,rfl,.of d,rfl,_,rfl,D,_,_,_,rfl,rfl,.of d,rfl,_,_,rfl,rfl,.inr ⟨_,rfl,_,_,rfl,rfl,?_⟩⟩
          refine ⟨line1 (by show 2≤1000; decide),fun l hl=>?_⟩
          refine ⟨_,_,_,rfl,But.same cG (Same.upd hl),hpG.same (Same.upd hl),upd_same,?_⟩
          rw [z]
          by_cases y:x2 > 0
          · rw [decide_eq_true y,decide_eq_false (show ¬ x2≤0 by omega),if_pos rfl,if_neg (by decide)]
            omega
          · rw [decide_eq_false y,decide_eq_true (show x2≤0 by omega),if_neg (by decide),if_pos rfl]
            omega
        · refine iteN (decide_eq_false (fun y=>z (V.int.inj y))) ?_
          exact ⟨_,_,_,rfl,cG,hpG,d,z,b1.1,b1.2,b2.1,b2.2⟩
      · rintro σ HH ⟨l,y1,y2,rfl,cH,hpH,hl,ne,g1,g2,g3,g4⟩
        refine ⟨_,rfl,l,[y1,y2],rfl,.of hl,by simp,fun m hm1 hm2=>?_⟩
        refine ⟨_,rfl,l,[y1,y2],rfl,.of hl,by simp,fun m' hm1' hm2'=>⟨line1 (by show 2≤1000; decide),fun u hu=>?_⟩⟩
        have q1:=hm2 y1 (by simp)
        have q2:=hm2 y2 (by simp)
        have q3:=hm2' y1 (by simp)
        have q4:=hm2' y2 (by simp)
        have q5:m=y1∨m=y2:=by simpa using hm1
        have q6:m'=y1∨m'=y2:=by simpa using hm1'
        exact q u m m' _ (by omega) (by omega) (by omega) (But.same cH (Same.upd hu)) (hpH.same (Same.upd hu)) upd_same
    · obtain ⟨z,rfl,hz⟩:∃ z:Int,v=.int z∧[o1,o2][k]?=some z:=by
        match k,hk,hv with
        | 0,_,hv=>exact ⟨o1,(Option.some.inj hv).symm,rfl⟩
        | 1,_,hv=>exact ⟨o2,(Option.some.inj hv).symm,rfl⟩
      have hk2:k < 2:=hk
      refine yesI ⟨_,_,rfl,rfl,⟨by decide +kernel,by decide +kernel,by decide +kernel⟩,_,_,rfl,rfl,_,_,rfl,rfl,⟨by decide +kernel,by decide +kernel,by decide +kernel⟩,_,_,rfl,rfl,_,rfl,_,_,rfl,_,_,rfl,?_⟩
      rw [e30]
      refine LcNx.mk hk (by show 2≤1000; decide) (by rw [e,List.length_map,List.length_map,List.length_take]; exact Nat.le_trans (Nat.min_le_left _ _) (by omega)) d ⟨?_,?_,upd_same⟩
      · rw [e,List.take_add_one,hz,List.map_append,List.map_append]
        rfl
      · exact fun b o z=>by rw [upd_ne (ne_of_none z hD)]; exact s3 b o z
end
end Pr
namespace Pr
open PySem L2 PyProof.Rows Ent
theorem dat_ents {H:Hp}:∀ {ys:List V} {es:List En},Paired (EntT H) ys es→DatAll H (es.map eD) ys
  | _,_,.nil=>by unfold DatAll; rfl
  | _,_,.cons h t=>by
    rw [List.map_cons]
    unfold DatAll
    exact ⟨_,_,rfl,h.dat,dat_ents t⟩
theorem eD_lay {e:En} (h:KeyOk e.2.1):(eD e).canLay0=true:=by
  unfold eD PyData.canLay0 PyData.canLayAll0 PyData.canLayAll0
  rw [(lf_str h).cl]
  rfl
theorem ents_lay:∀ {es:List En},(∀ e ∈ es,EnOk e)→PyData.canLayAll0 (es.map eD)=true
  | [],_=>rfl
  | r::t,h=>by
    rw [List.map_cons]
    unfold PyData.canLayAll0
    rw [ents_lay fun x hx=>h x (List.mem_cons_of_mem _ hx),Bool.and_true]
    exact eD_lay (h r List.mem_cons_self).k
theorem ents_dep:∀ es:List En,PyData.depthAll (es.map eD)≤1
  | []=>by decide
  | r::t=>by
    rw [List.map_cons]
    have:=ents_dep t
    simp only [PyData.depthAll,eD,PyData.depth]
    omega
theorem ents_nil (es:List En):PyData.eqv (.list (es.map eD)) (.list [])=decide (es=[]):=by
  cases es with
  | nil=>rfl
  | cons x t=>rw [decide_eq_false (by simp)]; rfl
theorem EntT.tup {H H':Hp} (s:∀ b xs,H b=some (.tup xs)→H' b=some (.tup xs)) {x:V} {e:En} (h:EntT H x e):EntT H' x e:=by
  obtain ⟨a,e1,h1⟩:=h
  exact ⟨a,e1,s _ _ h1⟩
theorem PotAt.tup {H H':Hp} {p:Addr} (h:PotAt H p) (c:But p H H'):∀ b xs,H b=some (.tup xs)→H' b=some (.tup xs):=fun b xs hb=>c _ _ hb (fun z=>by
  obtain ⟨x,y,h⟩:=h
  rw [z,h] at hb
  cases hb)
section
variable {P:Program} {w:World} {K:PySem.W.Frag} {mg:Str→Option Value} {base:Heap} {C:Addr}
inductive sp_entries (vs:List V) (H:Hp) (Q:VK) (E:XK):Prop
  | mk (p t:Addr) (m:Nat) (b:Int) (ps:List Int) (rows:List Lad.Step) (h0_:vs=[.ref p,.ref t,.int (m:Int)]) (hm:m≤50) (h1_:PotAt H p) (h4_:∀ H',But p H H'→ToldAt H' t b ps rows) (npt:p≠t) (h5_:LadOk b ps rows)
      (q:∀ L xs es H',But p H H'→PotAt H' p→H L=none→H' L=some (.lst xs)→Paired (EntT H') xs es→es.length≤m→Keyed es→(∀ e ∈ es,EnOk e)→Q (.ref L) H'):sp_entries vs H Q E
theorem sc_entries:FnScope ["_law_pot_here","_law_told","_law_most","_law_found","_law_keys","_law_base","_law_k","_law_spread","_law_moment_here","_law_way"] ["_law_pot_here","_law_told","_law_most"] (defScope s_law_entries):=⟨rfl,rfl,rfl,by decide +kernel,rfl,by decide +kernel,by decide +kernel⟩
set_option maxHeartbeats 8000000 in
theorem entries (T:Txt K mg C):Can P w K mg base 4 "_law_entries" ["_law_pot_here","_law_told","_law_most"] sp_entries:=by
  refine fn_can T.f_law_entries sc_entries (fun vs H Q E h=>?_) (fun f cdv A outer s H vs Q E hr h=>?_)
  · obtain ⟨p,t,m,b,ps,rows,rfl,_⟩:=h
    rfl
  · obtain ⟨p,t,m,b,ps,rows,rfl,hm,hp,hTb,npt,ok,q⟩:=h
    have htt:=total_pos ok
    refine ⟨_,(pss_cons (ps_set (i:=3) sc_entries.nd rfl (Or.inl rfl) (pe_lst pa_nil))
      (pss_cons (ps_set (i:=4) sc_entries.nd rfl (Or.inl rfl) (pe_lst pa_nil))
      (pss_cons (ps_set (i:=5) sc_entries.nd rfl (Or.inl rfl) (pe_can (moment T) hr (pa2 (pv 0) (pv 1))))
      (pss_cons (ps_for PassesOwn.never rfl (pi_range1 rfl T.b_range (pa1 (pe_can (digit T) hr (pa2 (pv 0) (pe_op op_add (pv 2) pe_int))))) (pg_name (i:=6) sc_entries.nd rfl (Or.inl rfl))
        (pss_cons (ps_set (i:=7) sc_entries.nd rfl (Or.inl rfl) (pe_op op_mul (pe_can (turn T) hr (pa1 (pv 1))) (pe_ix (ix_listK K) (pe_lst (pa_cons pe_int (pa3 pe_int pe_int (pe_op op_pow pe_int pe_int)))) (pe_can (digit T) hr (pa2 (pv 0) pe_int)) (fun _ _=>rfl))))
        (pss_cons (ps_set (i:=8) sc_entries.nd rfl (Or.inl rfl) (pe_op op_sub (pe_op op_add (pv 5) (pe_can (digit T) hr (pa2 (pv 0) (pe_op op_add (pe_op op_mul pe_int (pv 7)) pe_int)))) (pv 7)))
        (pss_cons (ps_set (i:=9) sc_entries.nd rfl (Or.inl rfl) (pe_can (digit T) hr (pa2 (pv 0) pe_int)))
        (pss_cut (ps_if (pt_cmpR op_eq (pv 9) pe_int (nomark _))
          (pss_one (ps_set (i:=8) sc_entries.nd rfl (Or.inl rfl) (pe_can (moment T) hr (pa2 (pv 0) (pv 1)))))
          pss_nil)
        (pss_cut (ps_if (PW.pt (pw_and (pt_cmpR op_eq (pv 9) pe_int (nomark _)) (pw_and1 (pt_cmpR (op_neD hr) (pv 3) (pe_lst pa_nil) (nomark _)))))
          (pss_one (ps_set (i:=8) sc_entries.nd rfl (Or.inl rfl) (pe_ix ix_ob (pe_ix (ix_listK K) (pv 3) (pe_can (digit T) hr (pa2 (pv 0) (pe_b (call_lenK K) T.b_len boot_len (pa1 (pv 3))))) (fun _ _=>rfl)) pe_int (fun _ _=>rfl))))
          pss_nil)
        (pss_one (ps_expr (pe_bmK K PySem.F.plainAttrs_list PySem.F.slot_list_append PySem.F.type_list_append mt_append (pv 3) (pa1 (pe_tup (pa3 (pe_b (call_max2 rfl) T.b_max boot_max (pa2 (pe_op op_sub pe_int (pe_op op_pow pe_int pe_int)) (pe_b (call_min2 rfl) T.b_min boot_min (pa2 (pe_op op_sub (pe_op op_pow pe_int pe_int) pe_int) (pv 8))))) (pe_can (key T) hr (pa2 (pv 0) (pv 4))) (pe_can (wide T) hr (pa1 (pv 0)))))))))))))))
      (pss_one (ps_ret (pv 3))))))),?_⟩
    refine ⟨Nat.zero_le _,fun L hL=>?_⟩
    have s1:Same H (upd H L (.lst [])):=Same.upd hL
    have hL1:(upd H L (.lst [])) L=some (.lst []):=upd_same
    generalize (upd H L (.lst []))=H1 at s1 hL1
    refine ⟨Nat.zero_le _,fun Ks hKs=>?_⟩
    have s2:Same H1 (upd H1 Ks (.lst [])):=Same.upd hKs
    have hK2:(upd H1 Ks (.lst [])) Ks=some (.lst []):=upd_same
    have nLK:L≠Ks:=ne_of_none hL1 hKs
    have hKs0:H Ks=none:=same_none s1 hKs
    generalize (upd H1 Ks (.lst []))=H2 at s2 hK2
    have hL2:=s2 _ _ hL1
    have s12:=s1.trans s2
    have nL:L≠p:=hp.ne hL
    have nK:Ks≠p:=hp.ne hKs0
    have hW:W30=1000000000000000000000000000000:=rfl
    have hp2:=hp.same s12
    refine ⟨_,rfl,_,rfl,p,t,b,ps,rows,rfl,hp2,hTb H2 s12.but,npt,fun H' c=>hTb H' (s12.but.trans c),ok,fun o1 H3 a3 b3 c3 hp3=>?_⟩
    refine ⟨_,rfl,_,rfl,_,_,rfl,rfl,p,_,rfl,hp3,by omega,by omega,fun d0 H4 a4 b4 c4 hp4=>⟨_,rfl,by omega,by omega,?_⟩⟩
    have c24:=c3.trans c4
    refine for_range (n:=d0.toNat) (fun i σ H5=>∃ v6 v7 v8 v9 xs es,σ=[some (.ref p),some (.ref t),some (.int (m:Int)),some (.ref L),some (.ref Ks),some (.int o1),v6,v7,v8,v9]∧But p H H5∧PotAt H5 p∧H5 L=some (.lst xs)∧H5 Ks=some (.lst ((es.map (·.2.1)).map V.str))∧Paired (EntT H5) xs es∧es.length=i∧Keyed es∧∀ e ∈ es,EnOk e)
      ⟨_,_,_,_,[],[],rfl,s12.but.trans c24,hp4,c24 _ _ hL2 nL,c24 _ _ hK2 nK,.nil,rfl,List.nodup_nil,fun _ h=>nomatch h⟩ ?turn ?fin
    case fin =>
      rintro σ H5 ⟨v6,v7,v8,v9,xs,es,rfl,c5,hp5,hL5,hK5,hP5,hn,ky,ek⟩
      exact ⟨_,rfl,q L xs es H5 c5 hp5 hL hL5 hP5 (by omega) ky ek⟩
    case turn =>
      rintro i σ H5 hi ⟨v6,v7,v8,v9,xs,es,rfl,c5,hp5,hL5,hK5,hP5,hn,ky,ek⟩
      have hxl:=Paired.length hP5
      refine ⟨_,rfl,t,b,ps,rows,rfl,hTb H5 c5,ok,fun H6 s6=>?_⟩
      refine ⟨_,_,rfl,rfl,⟨by decide +kernel,by decide +kernel,by decide +kernel⟩,line1 (by show 4≤1000; decide),fun l hl=>?_⟩
      have s7:Same H6 (upd H6 l (.lst ([1,3,40,(10:Int) ^ (6:Int).toNat].map V.int))):=Same.upd hl
      have hl7:(upd H6 l (.lst ([1,3,40,(10:Int) ^ (6:Int).toNat].map V.int))) l=some (.lst ([1,3,40,(10:Int) ^ (6:Int).toNat].map V.int)):=upd_same
      have nl:l≠p:=(hp5.same s6).ne hl
      generalize hH7:(upd H6 l (.lst ([1,3,40,(10:Int) ^ (6:Int).toNat].map V.int)))=H7 at s7 hl7
      have hH7':(upd H6 l (.lst [.int 1,.int 3,.int 40,.int ((10:Int) ^ (6:Int).toNat)]))=H7:=hH7
      rw [hH7']
      have s57:=s6.trans s7
      refine ⟨_,rfl,p,_,rfl,hp5.same s57,by decide +kernel,by decide +kernel,fun d8 H8 a8 b8 c8 hp8=>?_⟩
      refine ⟨l,_,_,_,rfl,rfl,.of (c8 _ _ hl7 nl),atI_ints (S:=[1,3,40,(10:Int) ^ (6:Int).toNat]) a8 b8,?_⟩
      have sz:1≤[1,3,40,(10:Int) ^ (6:Int).toNat].getD d8.toNat 0∧[1,3,40,(10:Int) ^ (6:Int).toNat].getD d8.toNat 0≤1000000:=by
        rcases (show d8=0∨d8=1∨d8=2∨d8=3 by omega) with rfl | rfl | rfl | rfl <;> decide +kernel
      generalize [1,3,40,(10:Int) ^ (6:Int).toNat].getD d8.toNat 0=y8 at sz
      refine ⟨_,_,rfl,rfl,.inl ⟨by omega,by omega⟩,?_⟩
      have sp1:1≤Lad.total ps * y8:=by
        have:=Int.mul_le_mul htt.1 sz.1 (by decide) (by omega)
        omega
      have sp2:Lad.total ps * y8≤12000000000000000:=by
        have:=Int.mul_le_mul htt.2 sz.2 (by omega) (by decide)
        omega
      generalize Lad.total ps * y8=spr at sp1 sp2
      refine ⟨_,rfl,_,rfl,_,rfl,_,_,rfl,rfl,.inl ⟨by decide,by decide⟩,_,_,rfl,rfl,p,_,rfl,hp8,by omega,by omega,fun d9 H9 a9 b9 c9 hp9=>⟨_,_,rfl,rfl,_,rfl,_,_,rfl,rfl,?_⟩⟩
      refine ⟨_,rfl,p,_,rfl,hp9,by decide +kernel,by decide +kernel,fun way HA aA bA cA hpA=>?_⟩
      have c59:But p H5 HA:=(But.trans (But.trans (But.trans s57.but c8) c9) cA)
      have tup59:=hp5.tup c59
      have hP:Paired (EntT HA) xs es:=Paired.mapP hP5 fun _ _ z=>z.tup tup59
      have hLA:=c59 _ _ hL5 nL
      have hKA:=c59 _ _ hK5 nK
      have cHA:=c5.trans c59
      clear c8 c9 cA hp8 hp9 hl7 hH7 hH7' s6 s7 s57 hP5 hL5 hK5
      generalize o1 + d9 - spr=z8
      refine ⟨fun σ H'=>∃ z8,σ=[some (.ref p),some (.ref t),some (.int (m:Int)),some (.ref L),some (.ref Ks),some (.int o1),some (.int (0 + (i:Int))),some (.int spr),some (.int z8),some (.int way)]∧But p HA H'∧PotAt H' p,⟨_,rfl,rfl,_,rfl,?_⟩,?_⟩
      · refine iteB (fun _=>?_) (fun _=>⟨_,rfl,fun _ _ h _=>h,hpA⟩)
        refine ⟨_,rfl,_,rfl,p,t,b,ps,rows,rfl,hpA,hTb HA cHA,npt,fun H' c=>hTb H' (cHA.trans c),ok,fun mo HB _ _ cB hpB=>?_⟩
        exact ⟨_,rfl,cB,hpB⟩
      rintro σ HB ⟨z8,rfl,cB,hpB⟩
      have hPB:Paired (EntT HB) xs es:=Paired.mapP hP fun _ _ z=>z.tup (hpA.tup cB)
      have hLB:=cB _ _ hLA nL
      refine ⟨fun σ H'=>∃ z8,σ=[some (.ref p),some (.ref t),some (.int (m:Int)),some (.ref L),some (.ref Ks),some (.int o1),some (.int (0 + (i:Int))),some (.int spr),some (.int z8),some (.int way)]∧But p HB H'∧PotAt H' p,⟨_,rfl,rfl,_,rfl,?_⟩,?_⟩
      · refine iteB (fun _=>?_) (fun _=>iteF ⟨_,rfl,fun _ _ h _=>h,hpB⟩)
        refine ⟨_,rfl,Nat.zero_le _,fun e0 he0=>?_⟩
        have sE:Same HB (upd HB e0 (.lst [])):=Same.upd he0
        have hE:(upd HB e0 (.lst [])) e0=some (.lst []):=upd_same
        generalize (upd HB e0 (.lst []))=HE at sE hE
        refine ⟨.list (es.map eD),.list [],by unfold Dat; exact ⟨L,_,rfl,sE _ _ hLB,dat_ents (Paired.mapP hPB fun _ _ z=>z.same sE)⟩,by unfold Dat; exact ⟨e0,_,rfl,hE,by unfold DatAll; rfl⟩,by unfold PyData.canLay0; exact ents_lay ek,rfl,by have:=ents_dep es; simp only [PyData.depth]; omega,_,rfl,?_⟩
        rw [ents_nil]
        by_cases z:es=[]
        · refine iteN (by rw [decide_eq_true z]; rfl) ⟨_,rfl,sE.but,hpB.same sE⟩
        · refine iteC (by rw [decide_eq_false z]; rfl) ?_
          have esl:0 < es.length:=List.length_pos_iff.mpr z
          refine ⟨_,rfl,_,rfl,_,rfl,L,_,rfl,.inl (.of (sE _ _ hLB)),p,_,rfl,hpB.same sE,by omega,by omega,fun dd HF aF bF cF hpF=>?_⟩
          obtain ⟨n,rfl⟩:∃ n:Nat,dd=n:=⟨dd.toNat,by omega⟩
          have hnx:n < xs.length:=by omega
          obtain ⟨e,he,u,hxu,hu⟩:=Paired.get (Paired.mapP (Paired.mapP hPB fun _ _ z=>z.same sE) fun _ _ z=>z.tup ((hpB.same sE).tup cF)) (List.getElem?_eq_getElem hnx)
          refine ⟨L,_,_,_,rfl,rfl,.of (cF _ _ (sE _ _ hLB) nL),atI_nat (List.getElem?_eq_getElem hnx),?_⟩
          rw [hxu]
          exact ⟨u,_,_,_,_,rfl,rfl,hu,.inr rfl,rfl,_,rfl,sE.but.trans cF,hpF⟩
      rintro σ HC ⟨z8,rfl,cC,hpC⟩
      have hPC:Paired (EntT HC) xs es:=Paired.mapP hPB fun _ _ z=>z.tup (hpB.tup cC)
      have hLC:=cC _ _ hLB nL
      have hKC:=cC _ _ (cB _ _ hKA nK) nK
      have e30:(10:Int) ^ (30:Int).toNat=W30:=by decide +kernel
      refine ⟨_,rfl,.inl ⟨rfl,_,.of hLC⟩,_,_,rfl,rfl,⟨by decide +kernel,by decide +kernel,by decide +kernel⟩,_,_,rfl,rfl,_,_,rfl,rfl,⟨by decide +kernel,by decide +kernel,by decide +kernel⟩,_,_,rfl,rfl,_,rfl,_,_,rfl,_,_,rfl,?_⟩
      rw [e30]
      have ecl:(if (if z8 < W30 - 1 then z8 else W30 - 1) > 1 - W30 then (if z8 < W30 - 1 then z8 else W30 - 1) else 1 - W30)=clamp z8:=rfl
      have kl:((es.map (·.2.1)).map V.str).length=es.length:=by rw [List.length_map,List.length_map]
      refine ⟨_,rfl,_,rfl,p,Ks,es.map (·.2.1),rfl,hpC,hKC,nK,by rw [List.length_map]; omega,fun k HD ko nk cD hpD hKD=>?_⟩
      refine ⟨_,rfl,p,rfl,hpD,fun v HE v0 v1 cE hpE=>⟨line1 (by show 3≤1000; decide),fun u hu=>?_⟩⟩
      have tCD:∀ b xs,HC b=some (.tup xs)→HD b=some (.tup xs):=fun b' xs' hb=>cD _ _ hb (fun z=>by
        obtain ⟨x1,y1,h⟩:=hpC
        rw [z,h] at hb
        cases hb) (fun z=>by rw [z,hKC] at hb; cases hb)
      have hPE:Paired (EntT HE) xs es:=Paired.mapP (Paired.mapP hPC fun _ _ z=>z.tup tCD) fun _ _ z=>z.tup (hpD.tup cE)
      have hLE:=cE _ _ (cD _ _ hLC nL nLK) nL
      have hKE:=cE _ _ hKD nK
      have sG:Same HE (upd HE u (.tup [.int (clamp z8),.str k,.int v])):=Same.upd hu
      have hG:(upd HE u (.tup [.int (clamp z8),.str k,.int v])) u=some (.tup [.int (clamp z8),.str k,.int v]):=upd_same
      rw [ecl]
      generalize (upd HE u (.tup [.int (clamp z8),.str k,.int v]))=HG at sG hG
      have hLG:=sG _ _ hLE
      refine ⟨L,xs,_,rfl,rfl,hLG,by rw [hxl]; exact line1 (by omega),?_⟩
      have nuL:u≠L:=fun z=>by rw [z] at hu; rw [hu] at hLE; cases hLE
      have cl:=clamp_in z8
      refine ⟨_,_,_,_,xs++[.ref u],es++[(clamp z8,k,v)],rfl,?_,?_,upd_same,?_,?_,by rw [List.length_append]; show es.length + 1=i + 1; omega,?_,?_⟩
      · intro b' o' hb hn
        have hbHA:=cHA _ _ hb hn
        have nbK:b'≠Ks:=ne_of_none hb hKs0
        have nbL:b'≠L:=ne_of_none hb hL
        rw [upd_ne nbL]
        exact sG _ _ (cE _ _ (cD _ _ (cC _ _ (cB _ _ hbHA hn) hn) hn nbK) hn)
      · obtain ⟨x1,y1,h⟩:=hpE.same sG
        exact ⟨x1,y1,by rw [upd_ne (Ne.symm nL)]; exact h⟩
      · rw [upd_ne (Ne.symm nLK),sG _ _ hKE,List.map_append,List.map_append,List.map_append]
        rfl
      · refine Paired.snoc (EntT.wr ⟨u,rfl,hG⟩ hLG) (Paired.mapP hPE fun _ _ z=>(z.same sG).wr hLG)
      · unfold Ent.Keyed at ky ⊢
        rw [List.map_append,List.nodup_append]
        refine ⟨ky,by simp,fun a ha b hb=>?_⟩
        have eb:b=k:=List.mem_singleton.mp hb
        intro z
        rw [z,eb] at ha
        exact nk ha
      · intro e he
        rcases List.mem_append.mp he with he | he
        · exact ek e he
        · rw [List.mem_singleton.mp he]
          have h30:((10:Nat) ^ 30)=1000000000000000000000000000000:=by decide +kernel
          exact ⟨by rw [h30]; show (clamp z8).natAbs < _; omega,by rw [h30]; show v.natAbs < _; omega,ko⟩
end
end Pr
namespace Sg
open PySem PyProof.Rows
section
variable {prog:Program} {w:World} {A:Around} {E:Value→Shared→Prop} {s:Shared} {a₀:Array Keyed}
end
end Sg
namespace Sg
open PySem PyProof.Rows
end Sg
namespace Sg
open PySem PyProof.Rows
section
variable {prog:Program} {w:World} {A:Around} {E:Value→Shared→Prop} {s:Shared} {a₀:Array Keyed}
end
end Sg
namespace Sg
open PySem PyProof.Rows
section
variable {prog:Program} {w:World} {A:Around} {E:Value→Shared→Prop} {s:Shared} {a₀:Array Keyed}
end
end Sg
namespace Sg
open PySem PyProof.Rows
section
variable {prog:Program} {w:World} {A:Around} {E:Value→Shared→Prop} {s:Shared} {a₀:Array Keyed}
end
end Sg
namespace Sg
open PySem PyProof.Rows
section
variable {prog:Program} {w:World} {A:Around} {E:Value→Shared→Prop} {s:Shared}
end
end Sg
namespace L2
open PySem PySem.Spec PyProof.Rows
theorem Inv.drawn {X:Cx} {pins:List (Addr × Obj)} {σ:St} {H:Hp} {s:Shared} (d:Drawn) (I:Inv X pins σ H s):Inv X pins σ H { s with drawn:=d }:=⟨I.ok,I.os,I.bare,I.base,I.loc,I.cell,I.free,I.freeC,I.pin,I.hok,I.len⟩
section
variable {X:Cx}
end
end L2
namespace Srt
open PySem
end Srt
namespace L2
open PySem PySem.Spec PySem.W PyProof.Rows
open Classical in
noncomputable def newsOf (base h:Heap) (L:Addr):List (Addr × Obj):=(List.range h.objs.size).filterMap fun b=>if b=L∨base.get? b≠none then none else (h.get? b).map fun o=>(b,o)
theorem newsOf_news (base h:Heap) (L:Addr):News base L h (newsOf base h L):=by
  intro p hp
  unfold newsOf at hp
  obtain ⟨b,_,e⟩:=List.mem_filterMap.mp hp
  split at e
  · cases e
  · rename_i hn
    obtain ⟨o,ho,rfl⟩:=Option.map_eq_some_iff.mp e
    exact ⟨ho,fun z=>hn (.inl z),Classical.byContradiction fun z=>hn (.inr z)⟩
theorem newsOf_mem {base h:Heap} {L b:Addr} {o:Obj} (e:h.get? b=some o) (hL:b≠L) (hb:base.get? b=none):(b,o) ∈ newsOf base h L:=by
  unfold newsOf
  refine List.mem_filterMap.mpr ⟨b,List.mem_range.mpr (Heap.lt_size e),?_⟩
  rw [if_neg (by rintro (z | z); exact hL z; exact z hb),e]
  rfl
section
variable {X:Cx} {pins:List (Addr × Obj)} {σ:St} {H:Hp} {s:Shared}
theorem Inv.ofFr {h':Heap} {t':Nat} {m:Str→Option Value} {more:List (Addr × Obj)} (I:Inv X pins σ H s) (hm:s.heap.Ns X.env.locals m) (F:Fr X.base X.env.locals h' m) (N:News X.base X.env.locals h' (more++newsOf X.base s.heap X.env.locals)) :
    (∀ b o,b≠X.env.locals→s.heap.get? b=some o→h'.get? b=some o)∧Inv X pins σ H { s with heap:=h',toks:=t' }:=by
  have keep:∀ b o,b≠X.env.locals→s.heap.get? b=some o→h'.get? b=some o:=fun b o hb e=>by
    cases q:X.base.get? b with
    | some o' =>
      have e1:=I.bk b o' q
      rw [e] at e1
      cases e1
      exact F.keep b o q
    | none=>exact (N (b,o) (List.mem_append_right _ (newsOf_mem e hb q))).1
  have hL:∃ o,s.heap.get? X.env.locals=some o:=let ⟨o,_,_,e,_⟩:=hm; ⟨o,e⟩
  refine ⟨keep,I.step (g':=s.gens) (d':=s.drawn) (ch:=[]) (fun b hb=>by simp at hb) (fun b o hb _ _ e _=>keep b o hb e) (fun b o hb _ _ e _=>⟨o.slots,keep b o hb e⟩) (fun _ _ _ _ n=>n) (fun b o _ e=>?_) (fun _ _ e=>e) (fun _ _ _ e=>e) (fun b ps e=>⟨#[],by rw [e]; simp⟩) (fun m' hm'=>?_) (fun b u e=>?_) I.bare⟩
  · by_cases hb:b=X.env.locals
    · obtain ⟨o',_,_,e',_⟩:=F.ns
      exact ⟨o',by rw [hb]; exact e'⟩
    · exact ⟨o,keep b o hb e⟩
  · have em:m'=m:=by
      funext y
      obtain ⟨o,es,ep,ho,hd,hk,hf⟩:=hm
      obtain ⟨o',es',ep',ho',hd',hk',hf'⟩:=hm'
      rw [ho] at ho'; cases ho'
      rw [hd] at hd'; cases hd'
      rw [← hf y,← hf' y]
    rw [em]; exact F.ns
  · refine (I.hok b u e).stay (fun c v hc q=>keep c v ?_ q) (fun _ q=>q) fun _ _ q=>q
    rintro rfl
    rcases hc with rfl | hc
    · rw [I.free] at e; cases e
    · rw [I.free] at hc; cases hc
theorem Inv.trackG {a:Addr} {o:HO} {ob:Obj} (I:Inv X pins σ H s) (he:s.heap.get? a=some ob) (nL:X.env.locals≠a) (nd:∀ v,ob.data≠.cell v) (hn:H a=none) (x0:X.s₀.heap.get? a=none) (xp:∀ p ∈ X.pn++pins,p.1≠a) (new:ObjOk X.prog X.w (upd H a o) s.heap a o):Inv X pins σ (upd H a o) s:=by
  have na:∀ {b u},H b=some u→b≠a:=fun {b u} e z=>by rw [z,hn] at e; cases e
  refine ⟨I.ok,I.os,I.bare,⟨I.base.keep,I.base.slot,fun b o e n hx=>?_,I.base.there,fun b xs e=>?_,fun b o u e=>?_,fun b ps e=>?_⟩,I.loc,I.cell,?_,fun y c e=>?_,fun p hp=>?_,fun b ob' e=>?_,I.len⟩
  · rw [upd_ne (fun z=>by rw [z,x0] at e; cases e)]; exact I.base.free b o e n hx
  · have e1:=I.base.tups b xs e
    rw [upd_ne (na e1)]; exact e1
  · have e1:=I.base.frzs b o u e
    rw [upd_ne (na e1)]; exact e1
  · obtain ⟨m,e1⟩:=I.base.tbls b ps e
    exact ⟨m,by rw [upd_ne (na e1)]; exact e1⟩
  · rw [upd_ne nL]; exact I.free
  · have nc:c≠a:=fun z=>by
      obtain ⟨v,o,ho,hdd⟩:=I.cell y c e
      rw [z,he] at ho; cases ho; exact nd _ hdd
    rw [upd_ne nc]; exact I.freeC y c e
  · obtain ⟨e1,e2,e3⟩:=I.pin p hp
    exact ⟨e1,by rw [upd_ne (xp p hp)]; exact e2,e3⟩
  · by_cases hb:b=a
    · subst hb
      rw [upd_same] at e
      cases e
      exact new
    · rw [upd_ne hb] at e
      refine (I.hok b ob' e).stay (fun c u _ q=>q) (fun c q=>?_) fun c xs q=>?_
      · rw [upd_ne (na q)]; exact q
      · rw [upd_ne (na q)]; exact q
end
end L2
namespace L2
open PySem PySem.Spec PySem.W PyProof.Rows
section
variable {X:Cx}
end
end L2
namespace L2
open PySem PySem.Spec PyProof.Rows
section
variable {prog:Program} {w:World} {A:Around} {E:Value→Shared→Prop} {s:Shared}
theorem sort_small {a:Addr} {vs:List Value} {n:Nat} {P:PySem.Fin→Shared→Prop} (ho:s.heap.get? a=some (seqObj "list" vs.toArray n)) (h2:vs.length < 2) (h:P (.done (.ret .none)) { s with heap:=sortedHeap s.heap a vs vs.toArray }):wpAny (model prog w) A (Builtin.«list.sort» ⟨[.ref a],[]⟩) P E s:=by
  rw [list_sort_plain]
  have ha:=Heap.lt_size ho
  have hz:vs.length≤sizeLine:=by rw [sizeLine_eq]; omega
  refine wpAny_bind (listItems_at ho rfl (wpAny_bind (listUpdate_at ho rfl ?_ (by rw [List.size_toArray]; exact hz) (Nat.zero_le _))))
  obtain ⟨e1,ho1⟩:∃ e1,(s.heap.update a (Obj.mapSeq fun _=>(#[]:Array Value))).get? a=some (seqObj "list" #[] e1):=⟨_,get?_update_seq ho fun _=>#[]⟩
  refine wpAny_bind (seqEpoch_at ho1 rfl (wpAny_bind (wpAny_newTuple (wpAny_bind (wpAny_newList (wpAny_holding ?_) (Nat.zero_le _))) hz)))
  have ho6:(((s.heap.update a (Obj.mapSeq fun _=>(#[]:Array Value))).push (seqObj "tuple" vs.toArray 0)).push (seqObj "list" #[] 0)).get? a=some (seqObj "list" #[] e1):=Heap.get?_push_of_some _ (Heap.get?_push_of_some _ ho1)
  show wpAny (model prog w) A _ P E { s with heap:=((s.heap.update a (Obj.mapSeq fun _=>(#[]:Array Value))).push (seqObj "tuple" vs.toArray 0)).push (seqObj "list" #[] 0) }
  dsimp only
  have hs2:vs.toArray.size < 2:=by rw [List.size_toArray]; exact h2
  rw [if_pos hs2,if_pos hs2]
  refine wpAny_bind (wpAny_pure ?_)
  rw [StateT.run_pure]
  refine wpAny_bind (wpAny_pure ?_)
  dsimp only
  have eo:(arrOf (SortSt.mk' general' (vs.toArray.zip vs.toArray) #[] 7 none)).map (·.2)=vs.toArray:=by
    show (vs.toArray.zip vs.toArray).map (·.2)=vs.toArray
    refine Array.ext (by simp) fun i h1 h2=>by simp
  refine wpAny_bind (seqEpoch_at ho6 rfl (wpAny_bind (listUpdate_at ho6 rfl ?_ (Nat.zero_le _) (by rw [eo,List.size_toArray]; omega))))
  rw [eo]
  simp only [bne_self_eq_false,Bool.false_eq_true,if_false]
  exact wpAny_pure h
end
section
variable {X:Cx}
end
end L2
namespace L2
open PySem PySem.Spec PySem.W PyProof.Rows
section
variable {X:Cx} {pins:List (Addr × Obj)} {σ:St} {H:Hp} {s:Shared}
theorem vals_at {xs:List V} {vs:List Value} (rv:Vals xs vs):∀ l:List Nat,(∀ i ∈ l,i < xs.length)→Vals (l.map fun i=>xs.getD i .non) (l.map fun i=>vs.getD i Value.none)
  | [],_=>.nil
  | i::r,hl=>by
    have hi:=hl i List.mem_cons_self
    obtain ⟨u,hu,ru⟩:=rv.get (List.getElem?_eq_getElem hi)
    rw [List.map_cons,List.map_cons]
    refine .cons ?_ (vals_at rv r fun j hj=>hl j (List.mem_cons_of_mem _ hj))
    rw [List.getD_eq_getElem?_getD,List.getD_eq_getElem?_getD,hu,List.getElem?_eq_getElem hi]
    exact ru
theorem sorted_gen {p:Addr} {Q:VK} {PV:List Value→Prop} (hex:X.ex=[]) (I:Inv X pins σ H s)
    (hcol:∀ Q':List Value→Shared→Prop,(∀ vs (h':Heap) tk d,(∀ b o,s.heap.get? b=some o→h'.get? b=some o)→PV vs→Q' vs { s with heap:=h',toks:=tk,drawn:=d })→wpAny (model X.prog X.w) X.A.in1 (collect (.ref p)) Q' X.xe s)
    (hgo:∀ vs,PV vs→∃ (xs:List V) (lt:Nat→Nat→Bool),Vals xs vs∧xs.length < 64∧(∀ s',Inv X pins σ H s'→2≤xs.length→∃ κ,Asks X xs.length vs s' κ lt) ∧
      ∀ D (is:List Nat),is.Perm (List.range xs.length)→is.Pairwise (Srt.R lt)→H D=none→Q (.ref D) (upd H D (.lst (is.map fun i=>xs.getD i .non)))) :
    wpAny (model X.prog X.w) X.A (call (.builtin "sorted") [.ref p]) (EP X pins σ Q) X.xe s:=by
  refine Calls.call_function_entry kind_sorted plain_sorted entry_sorted (args_sorted1 _) ?_
  unfold Builtin.«sorted»
  refine wpAny_bind (m:=checkCount "sorted" 1 1 _) (wpAny_pure (wpAny_bind (hcol _ fun vs h' tk d keep pv=>?_)))
  obtain ⟨xs,lt,rv,h64,hask,q⟩:=hgo vs pv
  have hlen:xs.length=vs.length:=rv.length
  have hz:vs.length≤sizeLine:=by rw [sizeLine_eq]; omega
  refine wpAny_bind (wpAny_newList ?_ hz)
  have oL:(h'.push (seqObj "list" vs.toArray 0)).get? h'.objs.size=some (seqObj "list" vs.toArray 0):=Heap.get?_push_size _ rfl
  have I1:Inv X pins σ H { s with heap:=h',toks:=tk,drawn:=d }:=(I.kept (t':=tk) keep).drawn d
  by_cases h2:vs.length < 2
  · refine wpAny_bind (wpAny_holding (wpAny_call_entry slot_list_sort (s:={ s with heap:=h'.push (seqObj "list" vs.toArray 0),toks:=tk,drawn:=d }) ⟨_,oL,rfl⟩ entry_list_sort (sort_small oL h2 ⟨_,rfl,wpAny_pure ⟨_,rfl,?_⟩⟩) (args_list_sort _)))
    obtain ⟨e,he⟩:=sortedHeap_at (out:=vs.toArray) oL
    have hq:Q (.ref h'.objs.size) (upd H h'.objs.size (.lst xs)):=by
      have:=q h'.objs.size (List.range xs.length) (List.Perm.refl _) (by
        match xs,hlen with
        | [],_=>exact List.Pairwise.nil
        | [_],_=>exact List.pairwise_singleton _ _
        | _::_::_,e=>simp only [List.length_cons] at e; omega) (I1.hok.fresh (Nat.le_refl _))
      have e2:((List.range xs.length).map fun i=>xs.getD i .non)=xs:=by
        apply List.ext_getElem (by simp)
        intro i h1 h2
        rw [List.getElem_map,List.getElem_range,List.getD_eq_getElem?_getD,List.getElem?_eq_getElem h2]
        rfl
      rw [e2] at this
      exact this
    refine ⟨.ref h'.objs.size,_,I1.laid (t':=tk) (o:=.lst xs) (fun b u e=>?_) (Nat.le_refl _) ⟨by rw [sizeLine_eq]; omega,vs,e,rv,he⟩,rfl,hq⟩
    have hb:=Heap.lt_size e
    rw [sortedHeap_old (Nat.ne_of_lt hb) (by rw [size_push']; exact Nat.lt_succ_of_lt hb)]
    exact Heap.get?_push_of_some _ e
  obtain ⟨m,hm,_⟩:=id I1.loc
  have gk:∀ b o,h'.get? b=some o→(h'.push (seqObj "list" vs.toArray 0)).get? b=some o:=fun b o e=>Heap.get?_push_of_some _ e
  have F:Fr X.base X.env.locals (h'.push (seqObj "list" vs.toArray 0)) m:=⟨hm.keeps gk,fun b o e=>gk b o (I1.bk b o e),Nat.le_trans I.ok.bsz I.ok.above⟩
  have N:News X.base X.env.locals (h'.push (seqObj "list" vs.toArray 0)) (newsOf X.base h' X.env.locals):=(newsOf_news X.base h' X.env.locals).grown gk
  have hLl:X.env.locals < h'.objs.size:=I1.lt
  refine wpAny_bind (wpAny_holding (wpAny_call_entry slot_list_sort (s:={ s with heap:=h'.push (seqObj "list" vs.toArray 0),toks:=tk,drawn:=d }) ⟨_,oL,rfl⟩ entry_list_sort ?body (args_list_sort _)))
  case body =>
    refine kat_list_sort (s:={ s with heap:=h'.push (seqObj "list" vs.toArray 0),toks:=tk,drawn:=d }) F N oL (Nat.ne_of_gt hLl) (Heap.get?_none_of_le (Nat.le_trans I.ok.bsz (Nat.le_trans I.ok.above (Nat.le_of_lt hLl)))) (fun p hp=>Nat.ne_of_lt (Heap.lt_size ((newsOf_news X.base h' X.env.locals) p hp).1)) (by omega) (by omega) fun e1 h3 F3 N3=>?_
    obtain ⟨_,I3⟩:=I1.ofFr (t':=tk) (more:=[(h'.objs.size,seqObj "list" #[] e1)]) hm F3 N3
    obtain ⟨κ,ak⟩:=hask _ I3 (by omega)
    refine ak.kind (by omega) _ ?_
    refine Srt.good_wp (n:=vs.length) (lt:=lt) (fun i j C hi hj hC=>ak.ask i j C (by omega) (by omega) hC) _ (Srt.good_mono (fun pp hp2=>?_) _ (Srt.sort_ok ak.ord (by omega)))
    obtain ⟨o1,o2⟩:=Srt.out_ok hp2.1 hp2.2
    refine KasFin.intro F3 N3 (.head fun q hq=>Nat.ne_of_lt (Heap.lt_size ((newsOf_news X.base h' X.env.locals) q hq).1)) fun h4 c F4 N4=>⟨_,rfl,wpAny_pure ⟨_,rfl,?_⟩⟩
    obtain ⟨kp,I4⟩:=I1.ofFr (t':=tk) (more:=[(h'.objs.size,listOf (List.toArray (pp.toList.map fun i=>vs.getD i Value.none)) c)]) hm F4 N4
    obtain ⟨d1,d2,d3⟩:=N4 _ List.mem_cons_self
    have hD:H h'.objs.size=none:=I1.hok.fresh (Nat.le_refl _)
    have x0:X.s₀.heap.get? h'.objs.size=none:=by
      cases e:X.s₀.heap.get? h'.objs.size with
      | none=>rfl
      | some o =>
        obtain ⟨o',e2⟩:=I1.base.there _ o e (by rw [hex]; simp)
        exact absurd (Heap.lt_size e2) (Nat.lt_irrefl _)
    have xp:∀ p ∈ X.pn++pins,p.1≠h'.objs.size:=fun p hp z=>absurd (Heap.lt_size (I1.pin p hp).1) (by rw [z]; exact Nat.lt_irrefl _)
    have vls:=vals_at rv pp.toList fun i hi=>by rw [hlen]; exact List.mem_range.mp (o1.mem_iff.mp hi)
    refine ⟨.ref h'.objs.size,_,I4.trackG (o:=.lst (pp.toList.map fun i=>xs.getD i .non)) d1 (Ne.symm d2) (fun v z=>nomatch z) hD x0 xp ⟨?_,_,c,vls,d1⟩,rfl,q _ _ (by rw [hlen]; exact o1) o2 hD⟩
    rw [List.length_map,o1.length_eq,List.length_range,sizeLine_eq]; omega
end
section
variable {X:Cx}
theorem collect_ob {pins:List (Addr × Obj)} {σ:St} {H:Hp} {s:Shared} {A:Around} {E:Value→Shared→Prop} {p:Addr} {o:HO} {xs:List V} (I:Inv X pins σ H s) (h:H p=some o) (ob:Ob o xs) (Q':List Value→Shared→Prop)
    (q:∀ vs (h':Heap) tk d,(∀ b o,s.heap.get? b=some o→h'.get? b=some o)→Vals xs vs→Q' vs { s with heap:=h',toks:=tk,drawn:=d }):wpAny (model X.prog X.w) A (collect (.ref p)) Q' E s:=by
  rcases ob with rfl | rfl
  · obtain ⟨hz,its,n,rv,e⟩:=I.hok p _ h
    refine wpAny_collect_seq p (T:="list") (.inl rfl) e rfl rfl (fun h' k=>?_) (by rw [List.size_toArray,← rv.length]; exact hz)
    exact q _ h' s.toks s.drawn k rv
  · obtain ⟨hz,its,rv,ob,e,hc,n,hd⟩:=I.hok p _ h
    refine wpAny_collect_seq p (T:="tuple") (.inr rfl) e hc hd (fun h' k=>?_) (by rw [List.size_toArray,← rv.length]; exact hz)
    exact q _ h' s.toks s.drawn k rv
end
end L2
namespace Srt
open PySem
abbrev T3:=Int × Str × Int
def tlt (a b:T3):Bool:=if a.1=b.1 then (if a.2.1=b.2.1 then decide (a.2.2 < b.2.2) else decide (a.2.1.cps.toList < b.2.1.cps.toList)) else decide (a.1 < b.1)
theorem tlt_plt {a b:T3} (h:(a.1,a.2.1)≠(b.1,b.2.1)):tlt a b=plt (a.1,a.2.1) (b.1,b.2.1):=by
  unfold tlt plt
  by_cases e:a.1=b.1
  · rw [if_pos e,if_pos e,if_neg fun z=>h (by rw [e,z])]
  · rw [if_neg e,if_neg e]
theorem tlt_same {a b:T3} (h:(a.1,a.2.1)=(b.1,b.2.1)):tlt a b=decide (a.2.2 < b.2.2):=by
  unfold tlt
  rw [if_pos (by injection h),if_pos (by injection h)]
def ltE (es:List T3) (i j:Nat):Bool:=tlt (es.getD i (0,⟨#[]⟩,0)) (es.getD j (0,⟨#[]⟩,0))
theorem tlt_asym {a b:T3} (h:tlt a b=true):tlt b a=false:=by
  by_cases e:(a.1,a.2.1)=(b.1,b.2.1)
  · rw [tlt_same e] at h
    rw [tlt_same e.symm]
    have:=of_decide_eq_true h
    exact decide_eq_false (by omega)
  · rw [tlt_plt e] at h
    rw [tlt_plt (Ne.symm e)]
    exact plt_asym h
theorem tlt_tr {a b c:T3} (h:tlt b a=false) (h':tlt c b=false):tlt c a=false:=by
  by_cases e:(b.1,b.2.1)=(a.1,a.2.1)
  · by_cases e':(c.1,c.2.1)=(b.1,b.2.1)
    · rw [tlt_same e] at h
      rw [tlt_same e'] at h'
      rw [tlt_same (e'.trans e)]
      have:=of_decide_eq_false h
      have:=of_decide_eq_false h'
      exact decide_eq_false (by omega)
    · rw [tlt_plt e'] at h'
      rw [tlt_plt (by rw [← e]; exact e'),← e]
      exact h'
  · by_cases e':(c.1,c.2.1)=(b.1,b.2.1)
    · rw [tlt_plt e] at h
      rw [tlt_plt (by rw [e']; exact e),e']
      exact h
    · rw [tlt_plt e] at h
      rw [tlt_plt e'] at h'
      have t:=plt_tr h h'
      by_cases e2:(c.1,c.2.1)=(a.1,a.2.1)
      · rw [← e2] at h
        exact absurd (plt_one h' h) e'
      · rw [tlt_plt e2]
        exact t
theorem ltE_ord (es:List T3):Ord (ltE es):=⟨tlt_asym,tlt_tr⟩
end Srt
namespace L2
open PySem PySem.Spec PySem.W PyProof.Rows
section
variable {X:Cx} {pins:List (Addr × Obj)} {σ:St} {H:Hp} {s:Shared}
abbrev Trips (H:Hp):List V→List Srt.T3→Prop:=Paired fun x e=>∃ a,x=.ref a∧H a=some (.tup [.int e.1,.str e.2.1,.int e.2.2])
theorem tup3_at (I:Inv X pins σ H s) {t:Addr} {m v:Int} {k:Str} (h:H t=some (.tup [.int m,.str k,.int v])):∃ o n tm tk tv,s.heap.get? t=some o∧o.cls=.type "tuple"∧o.data=.seq #[.int m tm,.str k tk,.int v tv] n:=by
  obtain ⟨_,its,rv,o,ho,hc,n,hd⟩:=I.hok t _ h
  cases rv with
  | cons r1 rv =>
    obtain ⟨u,v,rfl,⟨tk,rfl⟩,⟨tv,rfl⟩⟩:=vals2 rv
    obtain ⟨tm,rfl⟩:=r1
    exact ⟨o,n,tm,tk,tv,ho,hc,hd⟩
theorem ask3 (I:Inv X pins σ H s) {A:Around} {t t':Addr} {e e':Srt.T3} (h:H t=some (.tup [.int e.1,.str e.2.1,.int e.2.2])) (h':H t'=some (.tup [.int e'.1,.str e'.2.1,.int e'.2.2])) {C:Bool→Shared→Prop} {E:Value→Shared→Prop} (q:C (Srt.tlt e e') s) :
    wpAny (model X.prog X.w) A (keyLt' (tuples' true) (.ref t) (.ref t')) C E s:=by
  obtain ⟨o,n,tm,tk,tv,ho,hc,hd⟩:=tup3_at I h
  obtain ⟨o',n',tm',tk',tv',ho',hc',hd'⟩:=tup3_at I h'
  unfold Srt.tlt at q
  refine PySem.W.kat_lt ho hd ho' hd' ?_
  refine PySem.W.kat_cons (wpAny_eqBool_int (PySem.W.kat_go (fun e1=>PySem.W.kat_yes ?_) fun e1=>PySem.W.kat_no ?_))
  · have e1':e.1=e'.1:=by simpa using e1
    rw [if_pos e1'] at q
    refine PySem.W.kat_cons (wpAny_eqBool_str (PySem.W.kat_go (fun e2=>PySem.W.kat_yes ?_) fun e2=>PySem.W.kat_no ?_))
    · have e2':e.2.1=e'.2.1:=by simpa using e2
      rw [if_pos e2'] at q
      refine PySem.W.kat_cons (wpAny_eqBool_int (PySem.W.kat_go (fun e3=>PySem.W.kat_yes (PySem.W.kat_nil ?_)) fun e3=>PySem.W.kat_no ?_))
      · have e3':e.2.2=e'.2.2:=by simpa using e3
        rw [decide_eq_false (by omega)] at q
        exact q
      · exact PySem.W.kat_one _ _ (lt_int q)
    · have e2':¬ e.2.1=e'.2.1:=by simpa using e2
      rw [if_neg e2'] at q
      exact PySem.W.kat_one _ _ (lt_str q)
  · have e1':¬ e.1=e'.1:=by simpa using e1
    rw [if_neg e1'] at q
    exact oneLt_int q
theorem kat_trips (I:Inv X pins σ H s):∀ {xs:List V} {ks:List Value} {es:List Srt.T3},Vals xs ks→Trips H xs es→∃ fs,PySem.W.KatTups s.heap ks fs∧fs.length=ks.length∧∀ v ∈ fs,∃ m tm,v=Value.int m tm
  | _,_,_,.nil,.nil=>⟨[],.nil,rfl,fun v h=>nomatch h⟩
  | _,_,_,.cons rx rv,.cons ⟨t,e,h⟩ r=>by
    obtain ⟨fs,h1,h2,h3⟩:=kat_trips I rv r
    obtain ⟨o,n,tm,tk,tv,ho,hc,hd⟩:=tup3_at I h
    subst e
    cases rx
    refine ⟨_::fs,.cons ho hc hd rfl h1,by rw [List.length_cons,List.length_cons,h2],fun v hv=>?_⟩
    rcases List.mem_cons.mp hv with rfl | hv
    · exact ⟨_,_,rfl⟩
    · exact h3 v hv
inductive cSrtE (vs:List V) (H:Hp) (Q:VK):Prop
  | mk (p:Addr) (o:HO) (xs:List V) (es:List Srt.T3) (e:vs=[.ref p]) (h:H p=some o) (ob:Ob o xs) (t:Trips H xs es) (h64:es.length < 64)
      (q:∀ D (is:List Nat),is.Perm (List.range es.length)→is.Pairwise (Srt.R (Srt.ltE es))→H D=none→Q (.ref D) (upd H D (.lst (is.map fun i=>xs.getD i .non)))):cSrtE vs H Q
theorem call_sortedE (hex:X.ex=[]:=by rfl):CallR X (.builtin "sorted") cSrtE:=by
  intro pins s σ H xs us Q I r h
  obtain ⟨p,o,ys,es,rfl,hp,ob,tr,h64,q⟩:=h
  obtain ⟨u,rfl,rx⟩:=vals1 r
  cases rx
  have hl:ys.length=es.length:=Paired.length tr
  refine sorted_gen (PV:=Vals ys) hex I (fun Q' hq=>collect_ob I hp ob Q' hq) fun vs rv=>⟨ys,Srt.ltE es,rv,by omega,fun s' I' h2=>⟨tuples' true,Srt.ltE_ord es,fun _ Q' hQ=>?_,fun i j C hi hj hC=>?_⟩,fun D is p1 p2 hD=>q D is (by rw [← hl]; exact p1) p2 hD⟩
  · obtain ⟨fs,t1,t2,t3⟩:=kat_trips I' rv tr
    have:=rv.length
    refine PySem.W.kat_kind (T:=.type "int") t1 (by omega) (fun v hv=>?_) (by decide +kernel) ?_
    · obtain ⟨m,tm,rfl⟩:=t3 v hv
      exact PySem.W.Looks.of_pure rfl
    · exact hQ
  · have hi':es[i]?=some es[i]:=List.getElem?_eq_getElem (by omega)
    have hj':es[j]?=some es[j]:=List.getElem?_eq_getElem (by omega)
    obtain ⟨u,eu,t,rfl,ht⟩:=Paired.getR tr hi'
    obtain ⟨u',eu',t',rfl,ht'⟩:=Paired.getR tr hj'
    obtain ⟨w1,hw1,r1⟩:=rv.get eu
    obtain ⟨w2,hw2,r2⟩:=rv.get eu'
    cases r1
    cases r2
    unfold PySem.W.kas_ask
    rw [List.getD_eq_getElem?_getD,List.getD_eq_getElem?_getD,hw1,hw2]
    refine ask3 I' ht ht' ?_
    unfold Srt.ltE at hC
    rw [List.getD_eq_getElem?_getD,List.getD_eq_getElem?_getD,hi',hj'] at hC
    exact hC
end
end L2
namespace Pr
open PySem L2 PyProof.Rows Ent
theorem sorted_srt {es:List En} {is:List Nat} (p1:is.Perm (List.range es.length)) (p2:is.Pairwise (Srt.R (Srt.ltE es))):(pick es is).Pairwise (fun a b=>bef b a=false):=by
  unfold pick
  refine List.pairwise_map.mpr (p2.imp_of_mem fun {i j} hi hj hr=>?_)
  have hf:Srt.tlt (es.getD j dn) (es.getD i dn)=false:=hr.elim (fun h=>(Srt.ltE_ord es).1 h) (·.1)
  by_cases e:((es.getD j dn).1,(es.getD j dn).2.1)=((es.getD i dn).1,(es.getD i dn).2.1)
  · show Srt.plt (pl (es.getD j dn)) (pl (es.getD i dn))=false
    rw [show pl (es.getD j dn)=pl (es.getD i dn) from e]
    exact Srt.plt_irr _
  · rw [Srt.tlt_plt e] at hf
    exact hf
theorem srt_first {f:En} {r:List En} (h:(f::r).Pairwise (fun a b=>bef b a=false)):∀ e ∈ f::r,bef e f=false:=fun e he=>by
  rcases List.mem_cons.mp he with rfl | he
  · exact bef_irr _
  · exact (List.pairwise_cons.mp h).1 e he
theorem srt_last {l:En} {r:List En} (h:(r++[l]).Pairwise (fun a b=>bef b a=false)):∀ e ∈ r++[l],bef l e=false:=fun e he=>by
  rcases List.mem_append.mp he with he | he
  · exact (List.pairwise_append.mp h).2.2 e he l List.mem_cons_self
  · rw [List.mem_singleton.mp he]; exact bef_irr _
section
variable {P:Program} {w:World} {K:PySem.W.Frag} {mg:Str→Option Value} {base:Heap} {C:Addr}
inductive sp_lbar (vs:List V) (H:Hp) (Q:VK) (E:XK):Prop
  | mk (a:Addr) (xs:List V) (es:List En) (h0:vs=[.ref a]) (h1:H a=some (.lst xs)) (h3:Paired (EntT H) xs es) (h4:es.length < 64) (ek:∀ e ∈ es,EnOk e)
    (q:∀ p H',Same H H'→H p=none→BT H' (.ref p) es→Q (.ref p) H'):sp_lbar vs H Q E
theorem sc_lbar:FnScope ["_law_entries_here","_law_rows","_law_some"] ["_law_entries_here"] (defScope s_law_bar):=⟨rfl,rfl,rfl,by decide +kernel,rfl,by decide +kernel,by decide +kernel⟩
set_option maxHeartbeats 4000000 in
theorem lbar (T:Txt K mg C):Can P w K mg base 2 "_law_bar" ["_law_entries_here"] sp_lbar:=by
  refine fn_can T.f_law_bar sc_lbar (fun vs H Q E h=>?_) (fun f cdv A outer s H vs Q E hr h=>?_)
  · obtain ⟨a,xs,es,rfl,_⟩:=h
    rfl
  · obtain ⟨a,xs,es,rfl,ha,hp,h64,ek,q⟩:=h
    have hlen:xs.length=es.length:=hp.length
    refine ⟨_,(pss_cons (ps_set (i:=1) sc_lbar.nd rfl (Or.inl rfl) (pe_b call_sortedE T.b_sorted boot_sorted (pa1 (pv 0))))
      (pss_cons (ps_if (pt_cmpR (op_eqD hr) (pv 1) (pe_lst pa_nil) (nomark _))
        (pss_one (ps_ret (pe_tup (pa_cons pe_int (pa_cons pe_int (pa_cons pe_non (pa3 pe_non pe_non pe_non)))))))
        pss_nil)
      (pss_cons (ps_setLC (i:=2) rfl rfl rfl (lcS sc_lbar) (pi_listK K (pv 1)) (fun _ _ _ _=>pts_nil) (fun _ _ _ _=>(pe_ix (ix_tupK K) (pv 0) pe_int (fun _ _=>rfl))))
      (pss_one (ps_ret (pe_tup (pa_cons (pe_b (call_lenK K) T.b_len boot_len (pa1 (pv 1))) (pa_cons (pe_b (call_sum_seqK K rfl) T.b_sum boot_sum (pa1 (pv 2))) (pa_cons (pe_b (call_min_list K rfl) T.b_min boot_min (pa1 (pv 2))) (pa3 (pe_b (call_max_list K rfl) T.b_max boot_max (pa1 (pv 2))) (pe_ix (ix_listK K) (pv 1) pe_int (fun _ _=>rfl)) (pe_ix (ix_listK K) (pv 1) (pe_un un_neg pe_int) (fun _ _=>rfl)))))))))))),?_⟩
    refine ⟨_,rfl,a,_,xs,es,rfl,ha,.inl rfl,hp,h64,fun D is p1 p2 hD=>?_⟩
    have hpm:=pick_perm p1
    have srt:=sorted_srt p1 p2
    have s1:Same H (upd H D (.lst (is.map fun i=>xs.getD i .non))):=Same.upd hD
    have hy:(upd H D (.lst (is.map fun i=>xs.getD i .non))) D=some (.lst (is.map fun i=>xs.getD i .non)):=upd_same
    have hE:Paired (EntT (upd H D (.lst (is.map fun i=>xs.getD i .non)))) (is.map fun i=>xs.getD i .non) (pick es is):=Paired.picks (Paired.mono2 (fun _ _ z=>z.same s1) hp) is fun i hi=>by
      have:=List.mem_range.mp (p1.mem_iff.mp hi)
      omega
    generalize (upd H D (.lst (is.map fun i=>xs.getD i .non)))=H1 at s1 hy hE
    generalize (is.map fun i=>xs.getD i .non)=ys at hy hE
    have hyl:ys.length=es.length:=by rw [hE.length,hpm.length_eq]
    have ekp:∀ e ∈ pick es is,EnOk e:=fun e he=>ek e (hpm.mem_iff.mp he)
    generalize pick es is=pe at hpm srt hE ekp
    refine ⟨_,rfl,Nat.zero_le _,fun e0 he0=>?_⟩
    have s2:Same H1 (upd H1 e0 (.lst [])):=Same.upd he0
    have h0':(upd H1 e0 (.lst [])) e0=some (.lst []):=upd_same
    generalize (upd H1 e0 (.lst []))=H2 at s2 h0'
    have hy2:=s2 _ _ hy
    have hE2:Paired (EntT H2) ys pe:=Paired.mono2 (fun _ _ z=>z.same s2) hE
    have s02:=s1.trans s2
    refine ⟨.list (pe.map eD),.list [],by unfold Dat; exact ⟨D,_,rfl,hy2,dat_ents hE2⟩,by unfold Dat; exact ⟨e0,_,rfl,h0',by unfold DatAll; rfl⟩,by unfold PyData.canLay0; exact ents_lay ekp,rfl,by have:=ents_dep pe; simp only [PyData.depth]; omega,_,rfl,?_⟩
    rw [ents_nil]
    by_cases z:pe=[]
    · refine iteC (by rw [decide_eq_true z]; rfl) ⟨line1000 (by show 6≤1000; decide),fun u hu=>?_⟩
      rw [z] at hpm
      have en:es=[]:=List.Perm.eq_nil hpm.symm
      exact q u _ (s02.trans (Same.upd hu)) (s02.free hu) ⟨u,emptyD,rfl,dat_empty upd_same,.non en rfl⟩
    · refine iteN (by rw [decide_eq_false z]; rfl) ?_
      refine ⟨_,rfl,D,rfl,⟨ys,.of hy2⟩,fun V' hV=>?_⟩
      refine lc_list (xs:=ys) (fun i zs H3=>H3 V'=some (.lst zs)∧Same H2 H3∧zs=(vals (pe.take i)).map V.int) ⟨upd_same,Same.upd hV,rfl⟩ (fun i zs H3 h=>⟨h.1,h.2.1.seq (.of hy2)⟩) (fun zs H3 h=>?_) fun i x zs H3 hi hx h=>?_
      · obtain ⟨d1,d2,d3⟩:=h
        rw [List.take_of_length_le (by rw [hE.length]; exact Nat.le_refl _)] at d3
        subst d3
        have hD2:=d2 _ _ hy2
        have hE3:Paired (EntT H3) ys pe:=Paired.mono2 (fun _ _ z=>z.same d2) hE2
        cases hpk:pe with
        | nil=>exact absurd hpk z
        | cons fe re =>
        have hne:vals pe≠[]:=by rw [hpk]; unfold vals; simp
        rcases List.eq_nil_or_concat pe with zz | ⟨rl,le,hpl⟩
        · exact absurd zz z
        rw [List.concat_eq_append] at hpl
        obtain ⟨yf,ef,rf⟩:=Paired.getR hE3 (i:=0) (y:=fe) (by rw [hpk]; rfl)
        obtain ⟨yl,el,rl'⟩:=Paired.getR hE3 (i:=rl.length) (y:=le) (by rw [hpl]; simp)
        have hlast:∃ yr',ys=yr'++[yl]:=by
          rcases List.eq_nil_or_concat ys with zz | ⟨yr',yl',hyr⟩
          · rw [zz] at ef; cases ef
          · rw [List.concat_eq_append] at hyr
            refine ⟨yr',?_⟩
            have l1:ys.length=rl.length + 1:=by rw [hE3.length,hpl]; simp
            have l2:yr'.length=rl.length:=by rw [hyr] at l1; simpa using l1
            rw [hyr,← l2] at el
            rw [hyr]
            simp at el
            rw [el]
        obtain ⟨yr',hyr⟩:=hlast
        have sf:∀ e ∈ pe,bef e fe=false:=by rw [hpk] at srt ⊢; exact srt_first srt
        have sl:∀ e ∈ pe,bef le e=false:=by rw [hpl] at srt ⊢; exact srt_last srt
        have hbar:=fun lo hi (g1:lo ∈ vals pe) g2 (g3:hi ∈ vals pe) g4=>BarOf.perm hpm (.some lo hi fe le g1 g2 g3 g4 (by rw [hpk]; exact List.mem_cons_self) sf (by rw [hpl]; simp) sl rfl)
        refine ⟨_,rfl,D,ys,rfl,.inl (.of hD2),_,rfl,V',_,rfl,.inl (.of d1),_,rfl,V',_,rfl,.of d1,hne,fun lo g1 g2=>⟨_,rfl,V',_,rfl,.of d1,hne,fun hi g3 g4=>?_⟩⟩
        refine ⟨_,rfl,D,ys,_,_,rfl,rfl,.of hD2,atI_nat (j:=0) ef,_,rfl,_,rfl,D,ys,_,_,rfl,rfl,.of hD2,by rw [hyr]; exact atI_last _ _,line1000 (by show 6≤1000; decide),fun pp hpp=>?_⟩
        have hn:ys.length=pe.length:=hE3.length
        refine q pp _ ((s02.trans d2).trans (Same.upd hpp)) ((s02.trans d2).free hpp) ⟨pp,_,rfl,?_,hbar lo hi g1 g2 g3 g4⟩
        exact dat_bar (by rw [upd_same,hn]) (rf.same (Same.upd hpp)) (rl'.same (Same.upd hpp))
      · obtain ⟨d1,d2,d3⟩:=h
        obtain ⟨e,he,b,rfl,hb⟩:=Paired.get hE2 hx
        refine yesI ⟨_,rfl,b,_,_,_,rfl,rfl,.of (d2 _ _ hb),atI_nat (j:=2) rfl,LcNx.mk hi (by omega) ?_ d1 ⟨upd_same,d2.but_ne hV,?_⟩⟩
        · rw [d3]
          unfold vals
          rw [List.length_map,List.length_map,List.length_take]
          omega
        · rw [d3,List.take_add_one,he]
          unfold vals
          simp
inductive sp_within (vs:List V) (H:Hp) (Q:VK) (E:XK):Prop
  | mk (a:Addr) (xs:List V) (es:List En) (i j:Int) (h0:vs=[.ref a,.int i,.int j]) (h1:H a=some (.lst xs)) (h3:Paired (EntT H) xs es) (h4:es.length < 64) (ek:∀ e ∈ es,EnOk e)
    (q:∀ p H',Same H H'→H p=none→BT H' (.ref p) (wn i j es)→Q (.ref p) H'):sp_within vs H Q E
theorem sc_within:FnScope ["_law_entries_here","_law_one","_law_other"] ["_law_entries_here","_law_one","_law_other"] (defScope s_law_within):=⟨rfl,rfl,rfl,by decide +kernel,rfl,by decide +kernel,by decide +kernel⟩
theorem wn_sub {i j:Int} {es:List En} {e:En} (h:e ∈ wn i j es):e ∈ es:=(List.mem_filter.mp h).1
theorem within (T:Txt K mg C):Can P w K mg base 3 "_law_within" ["_law_entries_here","_law_one","_law_other"] sp_within:=by
  refine fn_can T.f_law_within sc_within (fun vs H Q E h=>?_) (fun f cdv A outer s H vs Q E hr h=>?_)
  · obtain ⟨a,xs,es,i,j,rfl,_⟩:=h
    rfl
  · obtain ⟨a,xs,es,i,j,rfl,ha,hp,h64,ek,q⟩:=h
    refine ⟨_,(pss_one (ps_ret (pe_can (lbar T) hr (pa1 (pe_lc rfl (lcS sc_within) (pi_listK K (pv 0)) (fun _ _ _ _=>(pts_one (pt_chain op_le op_lt (pv 2) (pe_ix (ix_tupK K) (pv 0) pe_int (fun _ _=>rfl)) (pv 3)))) (fun _ _ _ _=>(pv 0))))))),?_⟩
    have hlen:=Paired.length hp
    refine ⟨_,rfl,a,rfl,⟨_,.of ha⟩,fun D hD=>?_⟩
    refine lc_list (xs:=xs) (fun k ys H1=>H1 D=some (.lst ys)∧Same H H1∧Paired (EntT H) ys (wn i j (es.take k))∧ys.length≤k) ⟨upd_same,Same.upd hD,.nil,Nat.le_refl _⟩ (fun k ys H1 h=>⟨h.1,.of (h.2.1 _ _ ha)⟩) (fun ys H1 h=>?_) fun k x ys H1 hk hx h=>?_
    · obtain ⟨d1,d2,d3,d4⟩:=h
      rw [List.take_of_length_le (by omega)] at d3
      have hl2:=Paired.length d3
      refine ⟨D,ys,_,rfl,d1,Paired.mono2 (fun _ _ z=>z.same d2) d3,by omega,fun e he=>ek e (wn_sub he),fun p H2 s2 hp2 hb=>?_⟩
      exact q p H2 (d2.trans s2) (d2.free hp2) hb
    · obtain ⟨d1,d2,d3,d4⟩:=h
      obtain ⟨e,he,b,rfl,hb⟩:=Paired.get hp hx
      have wt:=wn_take (i:=i) (j:=j) he
      refine ⟨_,rfl,_,rfl,b,_,_,_,rfl,rfl,.of (d2 _ _ hb),rfl,_,_,rfl,rfl,_,rfl,?_⟩
      have no:(decide (i≤e.1) && decide (e.1 < j))=false→LcNo xs.length k ys (fun k ys H1=>H1 D=some (.lst ys)∧Same H H1∧Paired (EntT H) ys (wn i j (es.take k))∧ys.length≤k) H1:=fun z=>by
        refine LcNo.mk hk ⟨d1,d2,?_,by omega⟩
        rw [wt,z,if_neg (by decide),List.append_nil]
        exact d3
      by_cases z1:i≤e.1
      · refine iteC (decide_eq_true z1) ⟨_,rfl,_,_,rfl,rfl,_,rfl,?_⟩
        by_cases z2:e.1 < j
        · refine iteC (decide_eq_true z2) ⟨_,rfl,LcNx.mk hk (by omega) (by omega) d1 ⟨upd_same,d2.but_ne hD,?_,by rw [List.length_append]; show ys.length + 1≤k + 1; omega⟩⟩
          rw [wt,decide_eq_true z1,decide_eq_true z2,if_pos (by decide)]
          exact Paired.snoc ⟨b,rfl,hb⟩ d3
        · exact iteN (decide_eq_false z2) (no (by rw [decide_eq_false z2,Bool.and_false]))
      · refine iteN (decide_eq_false z1) ⟨_,rfl,iteF (no (by rw [decide_eq_false z1,Bool.false_and]))⟩
end
end Pr
namespace Pr
open PySem L2 PyProof.Rows Ent
def EntN (qs:List Addr) (H:Hp) (x:V) (e:En):Prop:=∃ a o,x=.ref a∧H a=some o∧Ob o (three e)∧∀ q ∈ qs,a≠q
theorem EntN.g {qs:List Addr} {H:Hp} {x:V} {e:En} (h:EntN qs H x e):EntG H x e:=by
  obtain ⟨a,o,e1,h1,h2,_⟩:=h
  exact ⟨a,o,e1,h1,h2⟩
theorem EntN.but {qs qs':List Addr} {H H':Hp} (c:∀ b o,H b=some o→(∀ q ∈ qs,b≠q)→H' b=some o) (hq:∀ q ∈ qs',q ∈ qs) {x:V} {e:En} (h:EntN qs H x e):EntN qs' H' x e:=by
  obtain ⟨a,o,e1,h1,h2,h3⟩:=h
  exact ⟨a,o,e1,c _ _ h1 h3,h2,fun q hq'=>h3 q (hq q hq')⟩
theorem erase_perm {α:Type}:∀ (l:List α) (k:Nat) (x:α),l[k]?=some x→([x]++l.eraseIdx k).Perm l
  | [],k,x,h=>by simp at h
  | a::t,0,x,h=>by
    have:a=x:=by simpa using h
    rw [this]
    exact List.Perm.refl _
  | a::t,k + 1,x,h=>by
    have ih:=erase_perm t k x (by simpa using h)
    rw [List.eraseIdx_cons_succ]
    exact (List.Perm.swap a x _).trans (ih.cons a)
theorem Paired.erase {α β:Type} {F:α→β→Prop}:∀ {xs:List α} {ys:List β} (k:Nat),Paired F xs ys→Paired F (xs.eraseIdx k) (ys.eraseIdx k)
  | _,_,_,.nil=>.nil
  | _,_,0,.cons _ t=>t
  | _,_,k + 1,.cons h t=>.cons h (Paired.erase k t)
theorem ob_tup {H:Hp} {u:Addr} {ys:List V} (h:H u=some (.tup ys)) {p:Addr} (hp:PotAt H p):u≠p:=fun z=>by
  obtain ⟨x,y,hp⟩:=hp
  rw [z,hp] at h
  cases h
section
variable {P:Program} {w:World} {K:PySem.W.Frag} {mg:Str→Option Value} {base:Heap} {C:Addr}
inductive sp_handed (vs:List V) (H:Hp) (Q:VK) (E:XK):Prop
  | mk (p a:Addr) (xs:List V) (es:List En) (h0:vs=[.ref p,.ref a]) (hp:PotAt H p) (h1:H a=some (.lst xs)) (h3:Paired (EntT H) xs es) (h4:es.length < 64) (ek:∀ e ∈ es,EnOk e)
    (q:∀ R o zs fs H',But p H H'→PotAt H' p→R≠p→H' R=some o→Ob o zs→Paired (EntN [p] H') zs fs→fs.Perm es→Q (.ref R) H'):sp_handed vs H Q E
theorem sc_handed:FnScope ["_law_pot_here","_law_entries_here","_law_left","_law_found","_law_entry"] ["_law_pot_here","_law_entries_here"] (defScope s_law_handed):=⟨rfl,rfl,rfl,by decide +kernel,rfl,by decide +kernel,by decide +kernel⟩
set_option maxHeartbeats 4000000 in
theorem handed (T:Txt K mg C):Can P w K mg base 2 "_law_handed" ["_law_pot_here","_law_entries_here"] sp_handed:=by
  refine fn_can T.f_law_handed sc_handed (fun vs H Q E h=>?_) (fun f cdv A outer s H vs Q E hr h=>?_)
  · obtain ⟨p,a,xs,es,rfl,_⟩:=h
    rfl
  · obtain ⟨p,a,xs,es,rfl,hp,ha,hP,h64,ek,q⟩:=h
    refine ⟨_,(pss_cons (ps_set (i:=2) sc_handed.nd rfl (Or.inl rfl) (pe_t (call_list_ofK K) T.b_list boot_list (pa1 (pv 1))))
      (pss_cons (ps_set (i:=3) sc_handed.nd rfl (Or.inl rfl) (pe_lst pa_nil))
      (pss_cons (ps_while PassesOwn.never (pt_cmpR (op_neD hr) (pv 2) (pe_lst pa_nil) (nomark _))
        (pss_cons (ps_set (i:=4) sc_handed.nd rfl (Or.inl rfl) (pe_bmK K PySem.F.plainAttrs_list PySem.F.slot_list_pop PySem.F.type_list_pop mt_popAt (pv 2) (pa1 (pe_can (digit T) hr (pa2 (pv 0) (pe_b (call_lenK K) T.b_len boot_len (pa1 (pv 2))))))))
        (pss_one (ps_expr (pe_bmK K PySem.F.plainAttrs_list PySem.F.slot_list_append PySem.F.type_list_append mt_append (pv 3) (pa1 (pe_ix (ix_listK K) (pe_lst (pa3 (pv 4) (pv 4) (pe_t (call_list_ofK K) T.b_list boot_list (pa1 (pv 4))))) (pe_can (digit T) hr (pa2 (pv 0) pe_int)) (fun _ _=>rfl))))))))
      (pss_one (ps_ret (pe_ix (ix_listK K) (pe_lst (pa2 (pv 3) (pe_t call_tup_ob T.b_tuple boot_tuple (pa1 (pv 3))))) (pe_can (digit T) hr (pa2 (pv 0) pe_int)) (fun _ _=>rfl))))))),?_⟩
    have hxl:=Paired.length hP
    refine ⟨_,rfl,a,_,rfl,.inl (.of ha),fun L hL=>?_⟩
    have s1:Same H (upd H L (.lst xs)):=Same.upd hL
    have hL1:(upd H L (.lst xs)) L=some (.lst xs):=upd_same
    generalize (upd H L (.lst xs))=H1 at s1 hL1
    refine ⟨Nat.zero_le _,fun F hF=>?_⟩
    have s2:Same H1 (upd H1 F (.lst [])):=Same.upd hF
    have hF2:(upd H1 F (.lst [])) F=some (.lst []):=upd_same
    have nLF:L≠F:=ne_of_none hL1 hF
    have hF0:H F=none:=same_none s1 hF
    generalize (upd H1 F (.lst []))=H2 at s2 hF2
    have s12:=s1.trans s2
    have hL2:=s2 _ _ hL1
    have nLp:L≠p:=hp.ne hL
    have nFp:F≠p:=hp.ne hF0
    refine ⟨fun m σ H3=>∃ v4 ls les zs fs,σ=[some (.ref p),some (.ref a),some (.ref L),some (.ref F),v4]∧But p H H3∧PotAt H3 p∧H3 L=some (.lst ls)∧Paired (EntT H3) ls les∧H3 F=some (.lst zs)∧Paired (EntN [p,L,F] H3) zs fs∧(fs++les).Perm es∧m=les.length,⟨es.length,_,xs,es,[],[],rfl,s12.but,hp.same s12,hL2,Paired.mapP hP fun _ _ z=>z.same s12,hF2,.nil,List.Perm.refl _,rfl⟩,?_⟩
    rintro m σ H3 ⟨v4,ls,les,zs,fs,rfl,c3,hp3,hL3,hP3,hF3,hN3,pm,rfl⟩
    have lsl:=Paired.length hP3
    have zsl:=Paired.length hN3
    have tl:=pm.length_eq
    rw [List.length_append] at tl
    have ekl:∀ e ∈ les,EnOk e:=fun e he=>ek e (pm.mem_iff.mp (List.mem_append_right _ he))
    refine ⟨_,rfl,Nat.zero_le _,fun e0 he0=>?_⟩
    have s4:Same H3 (upd H3 e0 (.lst [])):=Same.upd he0
    have h04:(upd H3 e0 (.lst [])) e0=some (.lst []):=upd_same
    generalize (upd H3 e0 (.lst []))=H4 at s4 h04
    have c4:=c3.trans (s4.but (p:=p))
    have hp4:=hp3.same s4
    have hL4:=s4 _ _ hL3
    have hF4:=s4 _ _ hF3
    have hP4:Paired (EntT H4) ls les:=Paired.mapP hP3 fun _ _ z=>z.same s4
    have hN4:Paired (EntN [p,L,F] H4) zs fs:=Paired.mapP hN3 fun _ _ z=>z.but (fun _ _ h _=>s4 _ _ h) fun _ h=>h
    refine ⟨.list (les.map eD),.list [],by unfold Dat; exact ⟨L,_,rfl,hL4,dat_ents hP4⟩,by unfold Dat; exact ⟨e0,_,rfl,h04,by unfold DatAll; rfl⟩,by unfold PyData.canLay0; exact ents_lay ekl,rfl,by have:=ents_dep les; simp only [PyData.depth]; omega,_,rfl,?_⟩
    rw [ents_nil]
    by_cases z:les=[]
    · refine iteN (by rw [decide_eq_true z]; rfl) ?_
      rw [z,List.append_nil] at pm
      refine ⟨_,rfl,_,rfl,F,_,zs,rfl,hF4,.inl rfl,fun l H5 s5 hl=>⟨two_line,fun t ht=>?_⟩⟩
      have s6:Same H5 (upd H5 t (.lst [.ref F,.ref l])):=Same.upd ht
      have ht6:(upd H5 t (.lst [.ref F,.ref l])) t=some (.lst [.ref F,.ref l]):=upd_same
      have hp5:=hp4.same s5
      have ntp:t≠p:=hp5.ne ht
      generalize (upd H5 t (.lst [.ref F,.ref l]))=H6 at s6 ht6
      have hp6:=hp5.same s6
      have hl6:=s6 _ _ hl
      refine ⟨_,rfl,p,_,rfl,hp6,by decide +kernel,by decide +kernel,fun d H7 a7 b7 c7 hp7=>?_⟩
      have s46:=s5.trans s6
      have c47:But p H4 H7:=s46.but.trans c7
      have cH7:=c4.trans c47
      have hN7:Paired (EntN [p] H7) zs fs:=Paired.mapP hN4 fun _ _ z=>z.but (fun b o h n=>c47 _ _ h (n p (by simp))) (fun q hq=>by simp at hq; simp [hq])
      have ht7:=c7 _ _ ht6 ntp
      rcases (show d=0∨d=1 by omega) with rfl | rfl
      · exact ⟨t,_,_,_,rfl,rfl,.of ht7,rfl,q F _ zs fs H7 cH7 hp7 nFp (c47 _ _ hF4 nFp) (.inl rfl) hN7 pm⟩
      · have nlp:=ob_tup hl6 hp6
        exact ⟨t,_,_,_,rfl,rfl,.of ht7,rfl,q l _ zs fs H7 cH7 hp7 nlp (c7 _ _ hl6 nlp) (.inr rfl) hN7 pm⟩
    · refine iteC (by rw [decide_eq_false z]; rfl) ?_
      refine ⟨fun σ' H'=>∃ v4 ls' les' zs' fs',σ'=[some (.ref p),some (.ref a),some (.ref L),some (.ref F),v4]∧But p H H'∧PotAt H' p∧H' L=some (.lst ls')∧Paired (EntT H') ls' les'∧H' F=some (.lst zs')∧Paired (EntN [p,L,F] H') zs' fs'∧(fs'++les').Perm es∧les'.length < les.length,fun σ' H' ⟨v4,ls',les',zs',fs',h1,h2,h3,h4,h5,h6,h7,h8,h9⟩=>⟨les'.length,h9,v4,ls',les',zs',fs',h1,h2,h3,h4,h5,h6,h7,h8,rfl⟩,?_⟩
      have lp:0 < les.length:=List.length_pos_iff.mpr z
      refine ⟨_,rfl,.inl ⟨rfl,_,.of hL4⟩,_,rfl,_,rfl,L,_,rfl,.inl (.of hL4),p,_,rfl,hp4,by omega,by omega,fun d H5 a5 b5 c5 hp5=>?_⟩
      obtain ⟨j,rfl⟩:∃ j:Nat,d=j:=⟨d.toNat,by omega⟩
      have hj:j < ls.length:=by omega
      have hL5:=c5 _ _ hL4 nLp
      have hF5:=c5 _ _ hF4 nFp
      have hP5:Paired (EntT H5) ls les:=Paired.mapP hP4 fun _ _ z=>z.tup (hp4.tup c5)
      have hN5:Paired (EntN [p,L,F] H5) zs fs:=Paired.mapP hN4 fun _ _ z=>z.but (fun b o h n=>c5 _ _ h (n p (by simp))) fun _ h=>h
      obtain ⟨e,he,u,hxu,hu⟩:=Paired.get hP5 (List.getElem?_eq_getElem hj)
      refine ⟨L,_,_,j,.ref u,rfl,rfl,hL5,by omega,by omega,by rw [seqIndex_of (by omega) (by omega)]; rfl,by rw [List.getElem?_eq_getElem hj,hxu],?_⟩
      have hL6:(upd H5 L (.lst (ls.eraseIdx j))) L=some (.lst (ls.eraseIdx j)):=upd_same
      have b56:∀ b o,H5 b=some o→b≠L→(upd H5 L (.lst (ls.eraseIdx j))) b=some o:=fun b o h n=>by rw [upd_ne n]; exact h
      generalize (upd H5 L (.lst (ls.eraseIdx j)))=H6 at hL6 b56
      have tup56:∀ b ys,H5 b=some (.tup ys)→H6 b=some (.tup ys):=fun b ys h=>b56 _ _ h (fun z=>by rw [z,hL5] at h; cases h)
      have hF6:=b56 _ _ hF5 (Ne.symm nLF)
      have hu6:=tup56 _ _ hu
      have hp6:PotAt H6 p:=by
        obtain ⟨x1,y1,h⟩:=hp5
        exact ⟨x1,y1,b56 _ _ h (Ne.symm nLp)⟩
      refine ⟨_,rfl,.inl ⟨rfl,_,.of hF6⟩,_,rfl,_,rfl,_,rfl,u,_,rfl,.inr (.of hu6),fun l hl=>⟨line1 (by show 3≤1000; decide),fun t ht=>?_⟩⟩
      have s7:Same H6 (upd H6 l (.lst (three e))):=Same.upd hl
      have hl7:(upd H6 l (.lst (three e))) l=some (.lst (three e)):=upd_same
      generalize (upd H6 l (.lst (three e)))=H7 at s7 hl7 ht
      have s8:Same H7 (upd H7 t (.lst [.ref u,.ref u,.ref l])):=Same.upd ht
      have ht8:(upd H7 t (.lst [.ref u,.ref u,.ref l])) t=some (.lst [.ref u,.ref u,.ref l]):=upd_same
      have hp7:=hp6.same s7
      have ntp:t≠p:=hp7.ne ht
      have nlp:l≠p:=hp6.ne hl
      have nlL:l≠L:=fun z=>by rw [z,hL6] at hl; cases hl
      have nlF:l≠F:=fun z=>by rw [z,hF6] at hl; cases hl
      generalize (upd H7 t (.lst [.ref u,.ref u,.ref l]))=H8 at s8 ht8
      have s68:=s7.trans s8
      refine ⟨_,rfl,p,_,rfl,hp7.same s8,by decide +kernel,by decide +kernel,fun d9 H9 a9 b9 c9 hp9=>?_⟩
      have c69:But p H6 H9:=s68.but.trans c9
      have ht9:=c9 _ _ ht8 ntp
      have hF9:=c69 _ _ hF6 nFp
      have hL9:=c69 _ _ hL6 nLp
      have hu9:EntN [p,L,F] H9 (.ref u) e:=⟨u,_,rfl,c69 _ _ hu6 (ob_tup hu6 hp6),.inr rfl,fun q hq=>by
        have n1:=ob_tup hu6 hp6
        have n2:u≠L:=fun z=>by rw [z,hL6] at hu6; cases hu6
        have n3:u≠F:=fun z=>by rw [z,hF6] at hu6; cases hu6
        simp at hq
        rcases hq with rfl | rfl | rfl
        · exact n1
        · exact n2
        · exact n3⟩
      have hl9:EntN [p,L,F] H9 (.ref l) e:=⟨l,_,rfl,c9 _ _ (s8 _ _ hl7) nlp,.inl rfl,fun q hq=>by
        simp at hq
        rcases hq with rfl | rfl | rfl
        · exact nlp
        · exact nlL
        · exact nlF⟩
      have hN9:Paired (EntN [p,L,F] H9) zs fs:=Paired.mapP hN5 fun _ _ z=>z.but (fun b o h n=>c69 _ _ (b56 _ _ h (n L (by simp))) (n p (by simp))) fun _ h=>h
      have hP9:Paired (EntT H9) (ls.eraseIdx j) (les.eraseIdx j):=Paired.erase j (Paired.mapP hP5 fun _ _ z=>(z.tup tup56).tup (hp6.tup c69))
      have key:∀ v,EntN [p,L,F] H9 v e→∃ v4 ls' les' zs' fs',[some (V.ref p),some (.ref a),some (.ref L),some (.ref F),some (.ref u)]=[some (.ref p),some (.ref a),some (.ref L),some (.ref F),v4]∧But p H (upd H9 F (.lst (zs++[v])))∧PotAt (upd H9 F (.lst (zs++[v]))) p∧(upd H9 F (.lst (zs++[v]))) L=some (.lst ls')∧Paired (EntT (upd H9 F (.lst (zs++[v])))) ls' les'∧(upd H9 F (.lst (zs++[v]))) F=some (.lst zs')∧Paired (EntN [p,L,F] (upd H9 F (.lst (zs++[v])))) zs' fs'∧(fs'++les').Perm es∧les'.length < les.length:=fun v hv=>by
        have wr:∀ b o,H9 b=some o→(∀ q ∈ [p,L,F],b≠q)→(upd H9 F (.lst (zs++[v]))) b=some o:=fun b o h n=>by rw [upd_ne (n F (by simp))]; exact h
        refine ⟨_,ls.eraseIdx j,les.eraseIdx j,zs++[v],fs++[e],rfl,fun b' o' hb hn=>?_,?_,?_,?_,upd_same,?_,?_,?_⟩
        · rw [upd_ne (ne_of_none hb hF0)]
          exact c69 _ _ (b56 _ _ (c5 _ _ (c4 _ _ hb hn) hn) (ne_of_none hb hL)) hn
        · obtain ⟨x1,y1,h⟩:=hp9
          exact ⟨x1,y1,by rw [upd_ne (Ne.symm nFp)]; exact h⟩
        · rw [upd_ne nLF]; exact hL9
        · exact Paired.mapP hP9 fun _ _ z=>z.wr hF9
        · exact Paired.snoc (hv.but wr fun _ h=>h) (Paired.mapP hN9 fun _ _ z=>z.but wr fun _ h=>h)
        · rw [List.append_assoc]
          exact ((erase_perm les j _ he).append_left fs).trans pm
        · rw [List.length_eraseIdx]
          split <;> omega
      rcases (show d9=0∨d9=1∨d9=2 by omega) with rfl | rfl | rfl
      · exact ⟨t,_,_,_,rfl,rfl,.of ht9,rfl,F,zs,_,rfl,rfl,hF9,line1000 (by omega),key _ hu9⟩
      · exact ⟨t,_,_,_,rfl,rfl,.of ht9,rfl,F,zs,_,rfl,rfl,hF9,line1000 (by omega),key _ hu9⟩
      · exact ⟨t,_,_,_,rfl,rfl,.of ht9,rfl,F,zs,_,rfl,rfl,hF9,line1000 (by omega),key _ hl9⟩
end
end Pr
namespace L2
open PySem PySem.Spec PyProof.Rows
section
variable {X:Cx} {a b c d:Expr} {ta tb tc td:TE} {pos:Pos}
theorem cut_at {xs:List V} {n:Nat} (h:n≤xs.length):cutV xs (some (n:Int)) none=xs.drop n:=by
  unfold cutV
  rw [HT.sIx_nat,HT.sIx_none,Nat.min_eq_left h]
  exact List.take_of_length_le (by rw [List.length_drop]; exact Nat.le_refl _)
end
end L2
namespace L2
open PySem PySem.Spec PyProof.Rows
section
variable {X:Cx}
end
end L2
namespace Pr
open PySem L2 PyProof.Rows Ent
def pieceD:Lad.Piece→PyData
  | .rest a b=>.tuple [.str "rest",.int a,.int b]
  | .bar r n=>.tuple [.str "bar",.int (r:Int),.int n]
def pieceL:Lad.Piece→PyData
  | .rest a b=>.list [.str "rest",.int a,.int b]
  | .bar r n=>.list [.str "bar",.int (r:Int),.int n]
def PieceS:Lad.Piece→Prop
  | .rest a b=>a.natAbs < 10 ^ 40∧b.natAbs < 10 ^ 40
  | .bar r n=>r≤1000∧n.natAbs < 10 ^ 40
def PD (qs:List Addr) (H:Hp) (v:V) (x:Lad.Piece × Bool):Prop:=∃ a,v=.ref a∧H a=some (if x.2=true then .tup (pieceV x.1) else .lst (pieceV x.1))∧∀ q ∈ qs,a≠q
def pdD (x:Lad.Piece × Bool):PyData:=if x.2=true then pieceD x.1 else pieceL x.1
theorem PD.but {qs qs':List Addr} {H H':Hp} (c:∀ b o,H b=some o→(∀ q ∈ qs,b≠q)→H' b=some o) (hq:∀ q ∈ qs',q ∈ qs) {v:V} {x:Lad.Piece × Bool} (h:PD qs H v x):PD qs' H' v x:=by
  obtain ⟨a,e1,h1,h3⟩:=h
  exact ⟨a,e1,c _ _ h1 h3,fun q hq'=>h3 q (hq q hq')⟩
theorem PD.g {qs:List Addr} {H:Hp} {v:V} {x:Lad.Piece × Bool} (h:PD qs H v x):PieceG H v x.1:=by
  obtain ⟨a,e1,h1,h3⟩:=h
  obtain ⟨q,f⟩:=x
  cases f with
  | true=>exact ⟨a,_,e1,h1,.inr rfl⟩
  | false=>exact ⟨a,_,e1,h1,.inl rfl⟩
theorem datAll3 {H:Hp} {x y:Int} {g:Str}:DatAll H [.str g,.int x,.int y] [.str g,.int x,.int y]:=by
  unfold DatAll
  refine ⟨_,_,rfl,by unfold Dat; rfl,?_⟩
  unfold DatAll
  refine ⟨_,_,rfl,by unfold Dat; rfl,?_⟩
  unfold DatAll
  refine ⟨_,_,rfl,by unfold Dat; rfl,?_⟩
  unfold DatAll
  rfl
theorem PD.dat {qs:List Addr} {H:Hp} {v:V} {x:Lad.Piece × Bool} (h:PD qs H v x):Dat H (pdD x) v:=by
  obtain ⟨a,rfl,h1,h3⟩:=h
  obtain ⟨q,f⟩:=x
  cases f with
  | true =>
    cases q with
    | rest i j=>unfold pdD; rw [if_pos rfl]; unfold pieceD Dat; exact ⟨a,_,rfl,h1,datAll3⟩
    | bar i j=>unfold pdD; rw [if_pos rfl]; unfold pieceD Dat; exact ⟨a,_,rfl,h1,datAll3⟩
  | false =>
    cases q with
    | rest i j=>unfold pdD; rw [if_neg Bool.false_ne_true]; unfold pieceL Dat; exact ⟨a,_,rfl,h1,datAll3⟩
    | bar i j=>unfold pdD; rw [if_neg Bool.false_ne_true]; unfold pieceL Dat; exact ⟨a,_,rfl,h1,datAll3⟩
theorem dat_pds {qs:List Addr} {H:Hp}:∀ {ys:List V} {xs:List (Lad.Piece × Bool)},Paired (PD qs H) ys xs→DatAll H (xs.map pdD) ys
  | _,_,.nil=>by unfold DatAll; rfl
  | _,_,.cons h t=>by
    rw [List.map_cons]
    unfold DatAll
    exact ⟨_,_,rfl,h.dat,dat_pds t⟩
theorem key_rest:KeyOk "rest":=⟨by decide +kernel,by decide +kernel⟩
theorem key_bar:KeyOk "bar":=⟨by decide +kernel,by decide +kernel⟩
theorem lf_3 {g:Str} {x y:Int} (hg:KeyOk g) (hx:x.natAbs < 10 ^ 40) (hy:y.natAbs < 10 ^ 40):∀ d ∈ [PyData.str g,.int x,.int y],Lf d:=fun d hd=>by
  rcases List.mem_cons.mp hd with rfl | hd
  · exact lf_str hg
  · rcases List.mem_cons.mp hd with rfl | hd
    · exact lf_int hx
    · rw [List.mem_singleton.mp hd]; exact lf_int hy
theorem lf_pd {x:Lad.Piece × Bool} (h:PieceS x.1):Lf (pdD x)∧(pdD x).bulk≤12∧(pdD x).depth=1:=by
  obtain ⟨q,f⟩:=x
  have l1:(("rest" : String):Str).cps.size=4:=by decide +kernel
  have l2:(("bar" : String):Str).cps.size=3:=by decide +kernel
  have b40:∀ r:Nat,r≤1000→((r:Int)).natAbs < 10 ^ 40:=fun r hr=>by rw [Int.natAbs_natCast]; exact Nat.lt_of_le_of_lt hr (by decide +kernel)
  cases f with
  | true =>
    cases q with
    | rest i j =>
      unfold pdD
      rw [if_pos rfl]
      refine ⟨lf_tuple (lf_3 key_rest h.1 h.2),?_,?_⟩
      · unfold pieceD
        simp only [PyData.bulk,PyData.bulkAll]
        omega
      · unfold pieceD
        simp [PyData.depth,PyData.depthAll]
    | bar i j =>
      unfold pdD
      rw [if_pos rfl]
      refine ⟨lf_tuple (lf_3 key_bar (b40 _ h.1) h.2),?_,?_⟩
      · unfold pieceD
        simp only [PyData.bulk,PyData.bulkAll]
        omega
      · unfold pieceD
        simp [PyData.depth,PyData.depthAll]
  | false =>
    cases q with
    | rest i j =>
      unfold pdD
      rw [if_neg Bool.false_ne_true]
      refine ⟨lf_list (lf_3 key_rest h.1 h.2),?_,?_⟩
      · unfold pieceL
        simp only [PyData.bulk,PyData.bulkAll]
        omega
      · unfold pieceL
        simp [PyData.depth,PyData.depthAll]
    | bar i j =>
      unfold pdD
      rw [if_neg Bool.false_ne_true]
      refine ⟨lf_list (lf_3 key_bar (b40 _ h.1) h.2),?_,?_⟩
      · unfold pieceL
        simp only [PyData.bulk,PyData.bulkAll]
        omega
      · unfold pieceL
        simp [PyData.depth,PyData.depthAll]
theorem pds_all:∀ {xs:List (Lad.Piece × Bool)},(∀ x ∈ xs,PieceS x.1)→PyData.bulkAll (xs.map pdD)≤13 * xs.length∧PyData.depthAll (xs.map pdD)≤1
  | [],_=>by simp [PyData.bulkAll,PyData.depthAll]
  | x::t,h=>by
    obtain ⟨h1,h2⟩:=pds_all fun y hy=>h y (List.mem_cons_of_mem x hy)
    obtain ⟨_,b,d⟩:=lf_pd (h x List.mem_cons_self)
    rw [List.map_cons,List.length_cons]
    simp only [PyData.bulkAll,PyData.depthAll]
    rw [d]
    omega
theorem fit_pds {xs:List (Lad.Piece × Bool)} (h:∀ x ∈ xs,PieceS x.1) (hl:xs.length≤300):L2.Fit (.list (xs.map pdD)):=by
  obtain ⟨h1,h2⟩:=pds_all h
  refine Lf.fit (lf_list fun d hd=>?_) ?_ ?_
  · obtain ⟨x,hx,rfl⟩:=List.mem_map.mp hd
    exact (lf_pd (h x hx)).1
  · simp only [PyData.bulk]
    omega
  · simp only [PyData.depth]
    omega
theorem chain_split {st:List Lad.Step} {n:Nat} (g:Lad.Goods st):∀ {pcs:List Lad.Piece} {i j:Int} (k:Nat),Lad.Chain st i j pcs→(∀ p ∈ pcs,PieceB n p)→∃ z,Lad.Chain st i z (pcs.take k)∧Lad.Chain st z j (pcs.drop k)∧i≤z∧z≤j
  | [],i,j,k,h,_=>by
    cases h
    rw [List.take_nil,List.drop_nil]
    exact ⟨i,.nil _,.nil _,Int.le_refl _,Int.le_refl _⟩
  | p::t,i,j,k,.cons h tt,hb=>by
    have le:=ends_le g (hb p List.mem_cons_self)
    cases k with
    | zero =>
      obtain ⟨z,_,_,z1,z2⟩:=chain_split g 0 tt fun q hq=>hb q (List.mem_cons_of_mem _ hq)
      exact ⟨i,.nil _,.cons h tt,Int.le_refl _,by omega⟩
    | succ k =>
      obtain ⟨z,c1,c2,z1,z2⟩:=chain_split g k tt fun q hq=>hb q (List.mem_cons_of_mem _ hq)
      exact ⟨z,.cons h c1,c2,by omega,z2⟩
theorem keyed_wn {es:List En} (k:Ent.Keyed es) (i j:Int):Ent.Keyed (wn i j es):=by
  unfold Ent.Keyed at k ⊢
  exact List.Sublist.nodup (List.Sublist.map _ List.filter_sublist) k
theorem bt_lay {es:List En} {b:PyData} (hk:∀ e ∈ es,EnOk e) (hn:es.length≤1000) (h:BarOf es b):b.canLay0=true∧b.depth≤8:=by
  obtain ⟨l,_,d⟩:=lf_bar hk hn h
  exact ⟨l.cl,by omega⟩
section
variable {P:Program} {w:World} {K:PySem.W.Frag} {mg:Str→Option Value} {base:Heap} {C:Addr}
inductive sp_lcover (C:Addr) (vs:List V) (H:Hp) (Q:VK) (E:XK):Prop
  | mk (p:Addr) (one other:Int) (b:Int) (ps:List Int) (rows:List Lad.Step) (e:vs=[.ref p,.int one,.int other]) (h:LadAt C H p b ps rows) (ok:LadOk b ps rows) (m0 : -W30 < one) (m1:one < other) (m2:other < W30)
      (q:(coverM (allSt b ps rows) one other rows.length).length≤300→∀ D ys H',Same H H'→H D=none→H' D=some (.lst ys)→Paired (PieceT H') ys (coverM (allSt b ps rows) one other rows.length)→Q (.ref D) H')
      (x:∀ H',Same H H'→Q .non H'):sp_lcover C vs H Q E
theorem sc_lcover:FnScope ["_law_ladder","_law_one","_law_other","_law_found"] ["_law_ladder","_law_one","_law_other"] (defScope s_law_cover):=⟨rfl,rfl,rfl,by decide +kernel,rfl,by decide +kernel,by decide +kernel⟩
theorem lcover (T:Txt K mg C):Can P w K mg base 9 "_law_cover" ["_law_ladder","_law_one","_law_other"] (sp_lcover C):=by
  refine fn_can T.f_law_cover sc_lcover (fun vs H Q E h=>?_) (fun f cdv A outer s H vs Q E hr h=>?_)
  · obtain ⟨p,one,other,b,ps,rows,rfl,_⟩:=h
    rfl
  · obtain ⟨p,one,other,b,ps,rows,rfl,hL,ok,m0,m1,m2,q,x⟩:=h
    refine ⟨_,(pss_cons (ps_set (i:=3) sc_lcover.nd rfl (Or.inl rfl) pe_non)
      (pss_cons (ps_try (n:=4) (fun pn xe E W=>(pss_one (ps_set (i:=3) sc_lcover.nd rfl (Or.inl rfl) (pe_canX (cover T) W hr (pa3 (pv 0) (pv 1) (pv 2))))))
        (ph0 T.x_TooMany.m (fun a=>pss_one (ps_set (i:=3) sc_lcover.nd rfl (Or.inl rfl) pe_non)) ph_nil))
      (pss_one (ps_ret (pv 3))))),?_⟩
    refine ⟨_,rfl,_,rfl,_,rfl,p,one,other,b,ps,rows,rfl,hL,ok,m0,m1,m2,fun hn D ys H' s' hD0 hD hP=>⟨_,rfl,q hn D ys H' s' hD0 hD hP⟩,fun hn H' s'=>?_⟩
    intro σ' hσ
    match σ',hσ with
    | [t0,t1,t2,t3],_ =>
      exact .mk true T.e_TooMany_TooMany (iteT ⟨_,rfl,x H' s'⟩)
inductive sp_lcover_right (C:Addr) (vs:List V) (H:Hp) (Q:VK) (E:XK):Prop
  | mk (p x a:Addr) (o:HO) (xs:List V) (es:List En) (D:Addr) (ys:List V) (pcs:List Lad.Piece) (due:Addr) (i j:Int) (b:Int) (ps:List Int) (rows:List Lad.Step) (e:vs=[.ref p,.ref x,.ref a,.ref D,.ref due]) (hp:PotAt H p)
      (hL:∀ H',But p H H'→LadAt C H' x b ps rows) (ok:LadOk b ps rows) (ha:H a=some o) (ho:Ob o xs) (hx:Paired (EntN [p] H) xs es) (na:a≠p) (h64:es.length < 64) (ky:Ent.Keyed es) (ek:∀ e ∈ es,EnOk e)
      (hD:H D=some (.lst ys)) (nD:D≠p) (hy:Paired (PieceT H) ys pcs) (hB:∀ p ∈ pcs,PieceB rows.length p) (hS:∀ p ∈ pcs,PieceS p) (hC:Lad.Chain (allSt b ps rows) i j pcs) (hl:pcs.length≤300) (hd:BT H (.ref due) (wn i j es))
      (q:∀ H',But p H H'→PotAt H' p→Q (.bl true) H'):sp_lcover_right C vs H Q E
theorem sc_cover_right:FnScope ["_law_pot_here","_law_ladder","_law_entries_here","_law_pieces","_law_due","_law_turned","_law_stays","_law_found","_law_at"] ["_law_pot_here","_law_ladder","_law_entries_here","_law_pieces","_law_due"] (defScope s_law_cover_right):=⟨rfl,rfl,rfl,by decide +kernel,rfl,by decide +kernel,by decide +kernel⟩
theorem pdsG {qs:List Addr} {H:Hp} {zs:List V} {qf:List (Lad.Piece × Bool)} (h:Paired (PD qs H) zs qf):Paired (PieceG H) zs (qf.map Prod.fst):=Paired.mapR (fun _ _ z=>z.g) h
theorem Paired.dropP {α β:Type} {F:α→β→Prop}:∀ {xs:List α} {ys:List β} (k:Nat),Paired F xs ys→Paired F (xs.drop k) (ys.drop k)
  | _,_,0,h=>h
  | _,_,k + 1,.nil=>.nil
  | _,_,k + 1,.cons _ t=>Paired.dropP k t
set_option maxHeartbeats 8000000 in
theorem lcover_right (T:Txt K mg C):Can P w K mg base 8 "_law_cover_right" ["_law_pot_here","_law_ladder","_law_entries_here","_law_pieces","_law_due"] (sp_lcover_right C):=by
  refine fn_can T.f_law_cover_right sc_cover_right (fun vs H Q E h=>?_) (fun f cdv A outer s H vs Q E hr h=>?_)
  · obtain ⟨p,x,a,o,xs,es,D,ys,pcs,due,i,j,b,ps,rows,rfl,_⟩:=h
    rfl
  · obtain ⟨p,x,a,o,xs,es,D,ys,pcs,due,i,j,b,ps,rows,rfl,hp,hL,ok,ha,ho,hx,na,h64,ky,ek,hD,nD,hy,hB,hS,hC,hl,hd,q⟩:=h
    refine ⟨_,(pss_cons (ps_setLC (i:=5) rfl rfl rfl (lcS sc_cover_right) (pi_listK K (pv 3)) (fun _ _ _ _=>pts_nil) (fun _ _ _ _=>(pe_ix (ix_listK K) (pe_lst (pa2 (pv 0) (pe_t (call_list_ofK K) T.b_list boot_list (pa1 (pv 0))))) (pe_can (digit T) hr (pa2 (pv 1) pe_int)) (fun _ _=>rfl))))
      (pss_cons (ps_set (i:=6) sc_cover_right.nd rfl (Or.inl rfl) (pe_b (call_repr hr) T.b_repr boot_repr (pa1 (pv 5))))
      (pss_cons (ps_set (i:=7) sc_cover_right.nd rfl (Or.inl rfl) (pe_can (bar_of_cover T) hr (pa3 (pv 1) (pv 2) (pe_ix (ix_listK K) (pe_lst (pa2 (pv 5) (pe_t call_tup_ob T.b_tuple boot_tuple (pa1 (pv 5))))) (pe_can (digit T) hr (pa2 (pv 0) pe_int)) (fun _ _=>rfl)))))
      (pss_cons (ps_if (PW.pt (pw_or (pt_cmpR (op_neD hr) (pv 7) (pv 4) (nomark _)) (pw_or1 (pt_cmpR op_ne (pe_b (call_repr hr) T.b_repr boot_repr (pa1 (pv 5))) (pv 6) (nomark _)))))
        (pss_one (ps_ret pe_bl))
        pss_nil)
      (pss_cons (ps_if (pt_cmpR op_lt (pe_b (call_lenK K) T.b_len boot_len (pa1 (pv 3))) pe_int (nomark _))
        (pss_one (ps_ret pe_bl))
        pss_nil)
      (pss_cons (ps_set (i:=8) sc_cover_right.nd rfl (Or.inl rfl) (pe_op op_add pe_int (pe_can (digit T) hr (pa2 (pv 0) (pe_op op_sub (pe_b (call_lenK K) T.b_len boot_len (pa1 (pv 3))) pe_int)))))
      (pss_one (ps_ret (pe_cmpR (op_eqD hr) (pe_can (joined T) hr (pa2 (pe_can (bar_of_cover T) hr (pa3 (pv 1) (pv 2) (pe_slice (sl_listK K) (pv 3) po_none (po_some (pv 8))))) (pe_can (bar_of_cover T) hr (pa3 (pv 1) (pv 2) (pe_slice (sl_listK K) (pv 3) (po_some (pv 8)) po_none))))) (pv 4) (nomark _)))))))))),?_⟩
    have yl:=Paired.length hy
    refine ⟨_,rfl,D,rfl,⟨_,.of hD⟩,fun G hG=>?_⟩
    have nG:G≠p:=hp.ne hG
    refine lc_list (xs:=ys) (fun k zs H1=>H1 G=some (.lst zs)∧But p H H1∧PotAt H1 p∧∃ qf,Paired (PD [p,G] H1) zs qf∧qf.map Prod.fst=pcs.take k) ⟨upd_same,(Same.upd hG).but,hp.same (Same.upd hG),[],.nil,rfl⟩ (fun k zs H1 h=>⟨h.1,.of (h.2.1 _ _ hD nD)⟩) (fun zs H1 h=>?_) fun k v zs H1 hk hv h=>?go
    case go =>
      obtain ⟨d1,d2,d3,qf,d4,d5⟩:=h
      obtain ⟨pc,hpc,u,rfl,hu⟩:=Paired.get hy hv
      have hu1:H1 u=some (.tup (pieceV pc)):=hp.tup d2 _ _ hu
      refine yesI ⟨_,rfl,_,rfl,u,_,rfl,.inr (.of hu1),fun l hl1=>⟨two_line,fun t ht=>?_⟩⟩
      have s2:Same H1 (upd H1 l (.lst (pieceV pc))):=Same.upd hl1
      have hl2:(upd H1 l (.lst (pieceV pc))) l=some (.lst (pieceV pc)):=upd_same
      have nl:l≠p:=d3.ne hl1
      have nlG:l≠G:=fun z=>by rw [z,d1] at hl1; cases hl1
      generalize (upd H1 l (.lst (pieceV pc)))=H2 at s2 hl2 ht
      have s3:Same H2 (upd H2 t (.lst [.ref u,.ref l])):=Same.upd ht
      have ht3:(upd H2 t (.lst [.ref u,.ref l])) t=some (.lst [.ref u,.ref l]):=upd_same
      have nt:t≠p:=(d3.same s2).ne ht
      generalize (upd H2 t (.lst [.ref u,.ref l]))=H3 at s3 ht3
      have s13:=s2.trans s3
      refine ⟨_,rfl,p,_,rfl,d3.same s13,by decide +kernel,by decide +kernel,fun d H4 a4 b4 c4 hp4=>?_⟩
      have c14:But p H1 H4:=s13.but.trans c4
      have hG4:=c14 _ _ d1 nG
      have nuG:u≠G:=fun z=>by rw [z,d1] at hu1; cases hu1
      have qU:PD [p,G] H4 (.ref u) (pc,true):=⟨u,rfl,c14 _ _ hu1 (ob_tup hu1 d3),fun q hq=>by
        simp at hq
        rcases hq with rfl | rfl
        · exact ob_tup hu1 d3
        · exact nuG⟩
      have qL:PD [p,G] H4 (.ref l) (pc,false):=⟨l,rfl,c4 _ _ (s3 _ _ hl2) nl,fun q hq=>by
        simp at hq
        rcases hq with rfl | rfl
        · exact nl
        · exact nlG⟩
      have d4':Paired (PD [p,G] H4) zs qf:=Paired.mapP d4 fun _ _ z=>z.but (fun b o h n=>c14 _ _ h (n p (by simp))) fun _ h=>h
      have ql:qf.length≤k:=by
        have:=congrArg List.length d5
        rw [List.length_map,List.length_take] at this
        omega
      have zl:=Paired.length d4
      have key:∀ v pf,PD [p,G] H4 v pf→pf.1=pc→LcNx ys.length k G zs (fun k zs H1=>H1 G=some (.lst zs)∧But p H H1∧PotAt H1 p∧∃ qf,Paired (PD [p,G] H1) zs qf∧qf.map Prod.fst=pcs.take k) v H4:=fun v pf hv' he=>by
        have wr:∀ b o,H4 b=some o→(∀ q ∈ [p,G],b≠q)→(upd H4 G (.lst (zs++[v]))) b=some o:=fun b o h n=>by rw [upd_ne (n G (by simp))]; exact h
        refine LcNx.mk hk (by omega) (by omega) hG4 ⟨upd_same,fun b o hb hn=>?_,?_,qf++[pf],?_,?_⟩
        · rw [upd_ne (ne_of_none hb hG)]
          exact c14 _ _ (d2 _ _ hb hn) hn
        · obtain ⟨x1,y1,h⟩:=hp4
          exact ⟨x1,y1,by rw [upd_ne (Ne.symm nG)]; exact h⟩
        · exact Paired.snoc (hv'.but wr fun _ h=>h) (Paired.mapP d4' fun _ _ z=>z.but wr fun _ h=>h)
        · rw [List.map_append,d5,List.take_add_one,hpc]
          show _++[pf.1]=_
          rw [he]
          rfl
      rcases (show d=0∨d=1 by omega) with rfl | rfl
      · exact ⟨t,_,_,_,rfl,rfl,.of (c4 _ _ ht3 nt),rfl,key _ _ qU rfl⟩
      · exact ⟨t,_,_,_,rfl,rfl,.of (c4 _ _ ht3 nt),rfl,key _ _ qL rfl⟩
    obtain ⟨d1,d2,d3,qf,d4,d5⟩:=h
    rw [List.take_of_length_le (by omega)] at d5
    have qs:∀ z ∈ qf,PieceS z.1:=fun z hz=>hS _ (by rw [← d5]; exact List.mem_map.mpr ⟨z,hz,rfl⟩)
    have qfl:qf.length≤300:=by
      have:=congrArg List.length d5
      rw [List.length_map] at this
      omega
    have ft:=fit_pds qs qfl
    refine ⟨_,rfl,G,_,rfl,by unfold Dat; exact ⟨G,_,rfl,d1,dat_pds d4⟩,ft,?_⟩
    refine ⟨_,rfl,_,rfl,_,rfl,_,rfl,G,_,zs,rfl,d1,.inl rfl,fun l H2 s2 hl2=>⟨two_line,fun t ht=>?_⟩⟩
    have s3:Same H2 (upd H2 t (.lst [.ref G,.ref l])):=Same.upd ht
    have ht3:(upd H2 t (.lst [.ref G,.ref l])) t=some (.lst [.ref G,.ref l]):=upd_same
    have hp2:=d3.same s2
    have nt:t≠p:=hp2.ne ht
    have nl:l≠p:=ob_tup hl2 hp2
    generalize (upd H2 t (.lst [.ref G,.ref l]))=H3 at s3 ht3
    have hp3:=hp2.same s3
    refine ⟨_,rfl,p,_,rfl,hp3,by decide +kernel,by decide +kernel,fun d H4 a4 b4 c4 hp4=>?_⟩
    have c14:But p H1 H4:=(s2.trans s3).but.trans c4
    have cH4:=d2.trans c14
    have ht4:=c4 _ _ ht3 nt
    have hG4:=c14 _ _ d1 nG
    have hl4:=c4 _ _ (s3 _ _ hl2) nl
    have d44:Paired (PD [p,G] H4) zs qf:=Paired.mapP d4 fun _ _ z=>z.but (fun b o h n=>c14 _ _ h (n p (by simp))) fun _ h=>h
    have pG:Paired (PieceG H4) zs pcs:=by
      have:=pdsG d44
      rw [d5] at this
      exact this
    have hx4:Paired (EntG H4) xs es:=Paired.mapP hx fun _ _ z=>(z.but (qs':=[p]) (fun b o h n=>cH4 _ _ h (n p (by simp))) fun _ h=>h).g
    have ha4:=cH4 _ _ ha na
    have hd4:=hd.tups (hp.tup cH4)
    have hE4:∀ e ∈ wn i j es,EnOk e:=fun e he=>ek e (wn_sub he)
    have wl:(wn i j es).length≤1000:=by
      have:(wn i j es).length≤es.length:=List.length_filter_le _ _
      omega
    obtain ⟨dv,bD,ed,hdd,hob⟩:=id hd
    cases ed
    obtain ⟨pa,po,hpa,hpo,hix⟩:∃ pa po,H4 pa=some po∧Ob po zs∧atI [V.ref G,V.ref l] d=some (.ref pa):=by
      rcases (show d=0∨d=1 by omega) with rfl | rfl
      · exact ⟨G,_,hG4,.inl rfl,rfl⟩
      · exact ⟨l,_,hl4,.inr rfl,rfl⟩
    refine ⟨t,_,_,.ref pa,rfl,rfl,.of ht4,hix,?_⟩
    refine ⟨x,a,o,xs,es,pa,po,zs,pcs,i,j,b,ps,rows,rfl,hL H4 cH4,ok,ha4,ho,hx4,h64,hpa,hpo,pG,hB,hC,fun fp H5 s5 hfp hb5=>?_⟩
    have c45:But p H4 H5:=s5.but
    have cH5:=cH4.trans c45
    have hp5:=hp4.same s5
    have hd5:Dat H5 bD (.ref due):=Dat.tups (hp.tup cH5) _ _ (bar_noL hob) hdd
    obtain ⟨fp',bF,ef,hdF,hoF⟩:=hb5
    cases ef
    have eb:=BarOf.one (List.Perm.refl _) (keyed_wn ky i j) hoF hob
    subst eb
    have lay:=bt_lay hE4 wl hob
    refine ⟨_,rfl,_,rfl,bF,bF,hdF,hd5,lay.1,lay.1,lay.2,_,rfl,?_⟩
    rw [PySem.SeqAt.eqv_refl _ lay.1]
    refine iteF ?_
    have d45:Paired (PD [p,G] H5) zs qf:=Paired.mapP d44 fun _ _ z=>z.but (fun b o h _=>s5 _ _ h) fun _ h=>h
    refine ⟨_,rfl,G,_,rfl,by unfold Dat; exact ⟨G,_,rfl,s5 _ _ hG4,dat_pds d45⟩,ft,_,rfl,rfl,_,rfl,?_⟩
    rw [decide_eq_true rfl]
    refine iteF ?_
    have hD5:=cH5 _ _ hD nD
    refine ⟨_,rfl,D,_,rfl,.inl (.of hD5),_,_,rfl,rfl,_,rfl,?_⟩
    refine iteB (fun _=>q H5 cH5 hp5) (fun hc=>?_)
    have hc:=of_decide_eq_false hc
    refine ⟨_,rfl,_,rfl,D,_,rfl,.inl (.of hD5),_,_,rfl,rfl,p,_,rfl,hp5,by omega,by omega,fun d6 H6 a6 b6 c6 hp6=>⟨_,_,rfl,rfl,?_⟩⟩
    obtain ⟨n,hn⟩:∃ n:Nat,1 + d6=(n:Int):=⟨(1 + d6).toNat,by omega⟩
    rw [hn]
    have hnl:n≤ys.length:=by omega
    have cH6:=cH5.trans c6
    have hD6:=c6 _ _ hD5 nD
    have hy6:Paired (PieceT H6) ys pcs:=Paired.mapP hy fun _ _ ⟨a',e',h'⟩=>⟨a',e',hp.tup cH6 _ _ h'⟩
    have hx6:Paired (EntG H6) xs es:=Paired.mapP hx fun _ _ z=>(z.but (qs':=[p]) (fun b o h n=>cH6 _ _ h (n p (by simp))) fun _ h=>h).g
    have ha6:=cH6 _ _ ha na
    obtain ⟨z,ch1,ch2,z1,z2⟩:=chain_split ok.goods n hC hB
    have toG:∀ {H':Hp} {v:V} {pc:Lad.Piece},PieceT H' v pc→PieceG H' v pc:=fun {H' v pc} ⟨a',e',h'⟩=>⟨a',_,e',h',.inr rfl⟩
    refine ⟨_,rfl,_,rfl,_,rfl,_,rfl,_,rfl,D,_,rfl,.of hD6,fun P1 hP1=>?_⟩
    rw [cut_take _ (by omega),Int.toNat_natCast]
    have s7:Same H6 (upd H6 P1 (.lst (ys.take n))):=Same.upd hP1
    have hP7:(upd H6 P1 (.lst (ys.take n))) P1=some (.lst (ys.take n)):=upd_same
    generalize (upd H6 P1 (.lst (ys.take n)))=H7 at s7 hP7
    have c67:But p H6 H7:=s7.but
    refine ⟨x,a,o,xs,es,P1,_,ys.take n,pcs.take n,i,z,b,ps,rows,rfl,hL H7 (cH6.trans c67),ok,s7 _ _ ha6,ho,Paired.mapP hx6 fun _ _ z=>z.same s7,h64,hP7,.inl rfl,Paired.take n (Paired.mapP hy6 fun _ _ z=>toG (z.same s7)),fun q hq=>hB q (List.mem_of_mem_take hq),ch1,fun f8 H8 s8 hf8 hb8=>?_⟩
    have s68:=s7.trans s8
    refine ⟨_,rfl,_,rfl,_,rfl,_,rfl,_,rfl,D,_,rfl,.of (s68 _ _ hD6),fun P2 hP2=>?_⟩
    rw [cut_at hnl]
    have s9:Same H8 (upd H8 P2 (.lst (ys.drop n))):=Same.upd hP2
    have hP9:(upd H8 P2 (.lst (ys.drop n))) P2=some (.lst (ys.drop n)):=upd_same
    generalize (upd H8 P2 (.lst (ys.drop n)))=H9 at s9 hP9
    have s69:=s68.trans s9
    have c69:But p H6 H9:=s69.but
    refine ⟨x,a,o,xs,es,P2,_,ys.drop n,pcs.drop n,z,j,b,ps,rows,rfl,hL H9 (cH6.trans c69),ok,s69 _ _ ha6,ho,Paired.mapP hx6 fun _ _ z=>z.same s69,h64,hP9,.inl rfl,Paired.dropP n (Paired.mapP hy6 fun _ _ z=>toG (z.same s69)),fun q hq=>hB q (List.mem_of_mem_drop hq),ch2,fun f10 H10 s10 hf10 hb10=>?_⟩
    refine ⟨_,_,_,_,rfl,((hb8.same s9).same s10).g,hb10.g,fun p11 H11 b11 s11 hp11 ho11 hd11=>?_⟩
    have s611:=s69.trans (s10.trans s11)
    have cH11:=cH6.trans (s611.but (p:=p))
    have hdd11:Dat H11 bF (.ref due):=Dat.tups (hp.tup cH11) _ _ (bar_noL hob) hdd
    have eb:=BarOf.one (List.Perm.refl _) (keyed_wn ky i j) (BarOf.perm (wn_join z1 z2 es) ho11) hob
    subst eb
    refine ⟨_,rfl,b11,b11,hd11,hdd11,lay.1,lay.1,lay.2,?_⟩
    rw [PySem.SeqAt.eqv_refl _ lay.1]
    exact q H11 cH11 (hp6.same s611)
end
end Pr
namespace Pr
open PySem L2 PyProof.Rows Ent
theorem chain_rest (st:List Lad.Step) {i j:Int} (h:i≤j):Lad.Chain st i j (restL i j):=by
  unfold restL
  split
  · exact .cons rfl (.nil _)
  · rw [show i=j by omega]
    exact .nil _
theorem nat30 {x:Int} (h1 : -W30≤x) (h2:x≤W30):x.natAbs < 10 ^ 40:=by
  have hW:W30=1000000000000000000000000000000:=rfl
  have h40:((10:Nat) ^ 40)=10000000000000000000000000000000000000000:=by decide +kernel
  rw [h40]
  omega
theorem cover_pieces {b:Int} {ps:List Int} {rows:List Lad.Step} (ok:LadOk b ps rows) {one other:Int} (m0 : -W30 < one) (m1:one < other) (m2:other < W30) :
    (∀ p ∈ coverM (allSt b ps rows) one other rows.length,PieceB rows.length p∧PieceS p)∧Lad.Chain (allSt b ps rows) one other (coverM (allSt b ps rows) one other rows.length):=by
  have g:=ok.goods
  have hrl:=(rowsB_ok ok.r).1
  have hl:0 + rows.length + 1=(allSt b ps rows).length:=by show 0 + rows.length + 1=rows.length + 1; omega
  have lf:=fun r=>low_far ok r m0 (show one < W30 by omega)
  have uf:=fun r=>ur_far ok r (show -W30 < other by omega) m2
  have sl:(allSt b ps rows).length=rows.length + 1:=rfl
  generalize allSt b ps rows=st at *
  have a1:=Lad.le_ur g 0 other (Lad.low st one 0)
  have a3:=Lad.ur_spec g 0 other
  have a5:=Lad.low_dn g one 0
  have a7:=Lad.low_le g one 0 (Lad.ur st 0 other)
  have hW:W30=1000000000000000000000000000000:=rfl
  have hW4:W40=10000000000000000000000000000000000000000:=rfl
  unfold coverM
  by_cases z:Lad.ur st 0 other < Lad.low st one 0
  · rw [if_pos z]
    refine ⟨fun p hp=>?_,.cons rfl (.nil _)⟩
    rw [List.mem_singleton.mp hp]
    exact ⟨Int.le_of_lt m1,nat30 (by omega) (by omega),nat30 (by omega) (by omega)⟩
  · rw [if_neg z]
    obtain ⟨b1,b2⟩:=Lad.runs_ok g rows.length 0 hl (show Lad.low st one 0≤Lad.ur st 0 other by omega)
    refine ⟨fun p hp=>?_,((chain_rest st a5).app b2).app (chain_rest st a3.1)⟩
    rcases List.mem_append.mp hp with hp | hp
    · rcases List.mem_append.mp hp with hp | hp
      · unfold restL at hp
        split at hp
        · rename_i y
          rw [List.mem_singleton.mp hp]
          exact ⟨Int.le_of_lt y,nat30 (by omega) (by omega),nat30 (by omega) (by omega)⟩
        · cases hp
      · unfold Lad.runBars at hp
        obtain ⟨x,hx,hp⟩:=List.mem_flatMap.mp hp
        obtain ⟨n,rfl,n1,n2⟩:=Lad.mem_barsOf hp
        obtain ⟨c1,_,c3,_⟩:=b1 x hx
        have l1:=c1.le
        have l2:=c1.lo
        have l3:=c1.hi
        have f1:=lf x.1
        have f2:=uf x.1
        refine ⟨⟨by omega,by omega,by omega⟩,by omega,?_⟩
        have h40:((10:Nat) ^ 40)=10000000000000000000000000000000000000000:=by decide +kernel
        rw [h40]
        omega
    · unfold restL at hp
      split at hp
      · rename_i y
        rw [List.mem_singleton.mp hp]
        exact ⟨Int.le_of_lt y,nat30 (by omega) (by omega),nat30 (by omega) (by omega)⟩
      · cases hp
theorem wn_perm {i j:Int} {es fs:List En} (h:fs.Perm es):(wn i j fs).Perm (wn i j es):=h.filter _
section
variable {P:Program} {w:World} {K:PySem.W.Frag} {mg:Str→Option Value} {base:Heap} {C:Addr}
inductive sp_right (C:Addr) (vs:List V) (H:Hp) (Q:VK) (E:XK):Prop
  | mk (p x t L:Addr) (xs:List V) (es:List En) (b:Int) (ps:List Int) (rows:List Lad.Step) (e:vs=[.ref p,.ref x,.ref t,.ref L]) (hp:PotAt H p)
      (hL:∀ H',But p H H'→LadAt C H' x b ps rows) (hT:∀ H',But p H H'→ToldAt H' t b ps rows) (npt:p≠t) (ok:LadOk b ps rows) (ha:H L=some (.lst xs)) (na:L≠p) (hx:Paired (EntT H) xs es) (h64:es.length < 64) (ky:Ent.Keyed es) (ek:∀ e ∈ es,EnOk e)
      (q:∀ H',But p H H'→Q (.bl true) H'):sp_right C vs H Q E
theorem sc_right:FnScope ["_law_pot_here","_law_ladder","_law_told","_law_entries_here","_law_one","_law_other","_law_due","_law_handed_here","_law_stays","_law_middle","_law_pieces"] ["_law_pot_here","_law_ladder","_law_told","_law_entries_here"] (defScope s_law_right):=⟨rfl,rfl,rfl,by decide +kernel,rfl,by decide +kernel,by decide +kernel⟩
set_option maxHeartbeats 8000000 in
theorem right (T:Txt K mg C):Can P w K mg base 10 "_law_right" ["_law_pot_here","_law_ladder","_law_told","_law_entries_here"] (sp_right C):=by
  refine fn_can T.f_law_right sc_right (fun vs H Q E h=>?_) (fun f cdv A outer s H vs Q E hr h=>?_)
  · obtain ⟨p,x,t,L,xs,es,b,ps,rows,rfl,_⟩:=h
    rfl
  · obtain ⟨p,x,t,L,xs,es,b,ps,rows,rfl,hp,hL,hT,npt,ok,ha,na,hx,h64,ky,ek,q⟩:=h
    refine ⟨_,(pss_cons (ps_asg (pe_can (time T) hr (pa2 (pv 0) (pv 2))) (pg_tupK K rfl (pgs_cons (pg_name (i:=4) sc_right.nd rfl (Or.inl rfl)) (pgs_cons (pg_name (i:=5) sc_right.nd rfl (Or.inl rfl)) pgs_nil))))
      (pss_cons (ps_set (i:=6) sc_right.nd rfl (Or.inl rfl) (pe_can (within T) hr (pa3 (pv 3) (pv 4) (pv 5))))
      (pss_cons (ps_set (i:=7) sc_right.nd rfl (Or.inl rfl) (pe_can (handed T) hr (pa2 (pv 0) (pv 3))))
      (pss_cons (ps_setLC (i:=8) rfl rfl rfl (lcS sc_right) (pi_seq (pv 7)) (fun _ _ _ _=>pts_nil) (fun _ _ _ _=>(pe_t call_tup_ob T.b_tuple boot_tuple (pa1 (pv 0)))))
      (pss_cons (ps_if (pt_cmpR (op_neD hr) (pe_can (between T) hr (pa3 (pv 7) (pv 4) (pv 5))) (pv 6) (nomark _))
        (pss_one (ps_ret pe_bl))
        pss_nil)
      (pss_cons (ps_set (i:=9) sc_right.nd rfl (Or.inl rfl) (pe_op op_add (pe_op op_add (pv 4) pe_int) (pe_can (digit T) hr (pa2 (pv 0) (pe_op op_sub (pv 5) (pv 4))))))
      (pss_cons (ps_if (pt_cmpR (op_neD hr) (pe_can (joined T) hr (pa2 (pe_can (between T) hr (pa3 (pv 7) (pv 4) (pv 9))) (pe_can (between T) hr (pa3 (pv 7) (pv 9) (pv 5))))) (pv 6) (nomark _))
        (pss_one (ps_ret pe_bl))
        pss_nil)
      (pss_cut (ps_set (i:=10) sc_right.nd rfl (Or.inl rfl) (pe_can (lcover T) hr (pa3 (pv 1) (pv 4) (pv 5))))
      (pss_cut (ps_if (PW.pt (pw_and (pt_cmpR op_notN (pv 10) pe_non (nomark _)) (pw_and1 (pt_not (pt_val (pe_can (lcover_right T) hr (pa_cons (pv 0) (pa_cons (pv 1) (pa3 (pv 7) (pv 10) (pv 6))))))))))
        (pss_one (ps_ret pe_bl))
        pss_nil)
      (pss_one (ps_ret (pe_cmpR (op_eqD hr) (pe_lc rfl (lcS sc_right) (pi_seq (pv 7)) (fun _ _ _ _=>pts_nil) (fun _ _ _ _=>(pe_t call_tup_ob T.b_tuple boot_tuple (pa1 (pv 0))))) (pv 8) (nomark _))))))))))))),?_⟩
    refine ⟨_,rfl,_,rfl,p,t,b,ps,rows,rfl,hp,hT,npt,ok,fun u one other H1 m0 m1 m2 c1 hp1 hu=>⟨u,_,rfl,.of hu,rfl,_,_,rfl,_,_,rfl,rfl,?_⟩⟩
    have hx1:Paired (EntT H1) xs es:=Paired.mapP hx fun _ _ z=>z.tup (hp.tup c1)
    have ha1:=c1 _ _ ha na
    refine ⟨_,rfl,_,rfl,_,rfl,L,xs,es,one,other,rfl,ha1,hx1,h64,ek,fun du H2 s2 hdu hbd=>?_⟩
    have c2:But p H1 H2:=s2.but
    have cH2:=c1.trans c2
    have hp2:=hp1.same s2
    have hx2:Paired (EntT H2) xs es:=Paired.mapP hx1 fun _ _ z=>z.same s2
    obtain ⟨du',bD,ed,hdD,hob⟩:=hbd
    cases ed
    have wl:(wn one other es).length≤1000:=by
      have:(wn one other es).length≤es.length:=List.length_filter_le _ _
      omega
    have lay:=bt_lay (fun e he=>ek e (wn_sub he)) wl hob
    have kw:=keyed_wn ky one other
    have hW:W30=1000000000000000000000000000000:=rfl
    refine ⟨_,rfl,_,rfl,p,L,xs,es,rfl,hp2,s2 _ _ ha1,hx2,h64,ek,fun R o zs fs H3 c3 hp3 nR hR ho hN pm=>?_⟩
    have cH3:=cH2.trans c3
    have zl:=Paired.length hN
    have fl:=pm.length_eq
    have ekf:∀ e ∈ fs,EnOk e:=fun e he=>ek e (pm.mem_iff.mp he)
    refine ⟨_,rfl,R,o,zs,rfl,hR,ho,fun J hJ D hD=>?_⟩
    have nD:D≠p:=hp3.ne hD
    refine lc_it hJ (fun i ys H4=>H4 D=some (.lst ys)∧ys.length=i∧Same H3 H4∧Paired (EntT H4) ys (fs.take i)) ⟨upd_same,rfl,Same.upd hD,.nil⟩ (fun i ys H4 h=>⟨h.1,h.2.2.1 _ _ hR⟩) (fun ys H4 h=>?_) fun i v ys H4 hi hv h=>?go
    case go =>
      obtain ⟨d1,d2,d3,d4⟩:=h
      obtain ⟨e,he,b',ob,rfl,hb,hob',_⟩:=Paired.get hN hv
      refine yesI ⟨_,rfl,b',ob,_,rfl,d3 _ _ hb,hob',fun l H5 s5 hl=>LcNx.mk hi (by omega) (by omega) (s5 _ _ d1) ⟨upd_same,by rw [List.length_append,d2]; rfl,(d3.trans s5).but_ne hD,?_⟩⟩
      rw [List.take_add_one,he]
      refine Paired.snoc ?_ (Paired.mono2 (fun _ _ z=>(z.same s5).wr (s5 _ _ d1)) d4)
      exact EntT.wr ⟨l,rfl,hl⟩ (s5 _ _ d1)
    obtain ⟨d1,d2,d3,d4⟩:=h
    rw [List.take_of_length_le (by omega)] at d4
    have c34:But p H3 H4:=d3.but
    have cH4:=cH3.trans c34
    have hp4:=hp3.same d3
    have hN4:Paired (EntN [p] H4) zs fs:=Paired.mapP hN fun _ _ z=>z.but (fun b o h _=>d3 _ _ h) fun _ h=>h
    have hR4:=d3 _ _ hR
    have hdD4:Dat H4 bD (.ref du):=Dat.tups (hp2.tup (c3.trans c34)) _ _ (bar_noL hob) hdD
    clear hN hdD hx hx1 hx2
    have g4:Paired (EntG H4) zs fs:=Paired.mapP hN4 fun _ _ z=>z.g
    refine ⟨_,rfl,_,rfl,_,rfl,R,o,zs,fs,one,other,rfl,hR4,ho,g4,by omega,fun bp H5 s5 hbp hb5=>?_⟩
    obtain ⟨bp',bF,ef,hdF,hoF⟩:=hb5
    cases ef
    have eb:=BarOf.one (List.Perm.refl _) kw (BarOf.perm (wn_perm pm) hoF) hob
    subst eb
    refine ⟨_,rfl,bF,bF,hdF,Dat.same s5 _ _ hdD4,lay.1,lay.1,lay.2,_,rfl,?_⟩
    rw [PySem.SeqAt.eqv_refl _ lay.1]
    refine iteF ?_
    have hp5:=hp4.same s5
    refine ⟨_,rfl,_,_,rfl,rfl,_,rfl,_,rfl,_,rfl,_,_,rfl,rfl,p,_,rfl,hp5,by omega,by omega,fun d6 H6 a6 b6 c6 hp6=>⟨_,_,rfl,rfl,?_⟩⟩
    have c46:But p H4 H6:=s5.but.trans c6
    have cH6:=cH4.trans c46
    have g6:Paired (EntG H6) zs fs:=Paired.mapP hN4 fun _ _ z=>(z.but (qs':=[p]) (fun b o h n=>c46 _ _ h (n p (by simp))) fun _ h=>h).g
    have hR6:=c46 _ _ hR4 nR
    have hdD6:Dat H6 bF (.ref du):=Dat.tups (hp4.tup c46) _ _ (bar_noL hob) hdD4
    have mid1:one≤one + 1 + d6:=by omega
    have mid2:one + 1 + d6≤other:=by omega
    refine ⟨_,rfl,_,rfl,_,rfl,R,o,zs,fs,one,one + 1 + d6,rfl,hR6,ho,g6,by omega,fun b7 H7 s7 hb7 ht7=>?_⟩
    refine ⟨_,rfl,_,rfl,_,rfl,R,o,zs,fs,one + 1 + d6,other,rfl,s7 _ _ hR6,ho,Paired.mapP g6 fun _ _ z=>z.same s7,by omega,fun b8 H8 s8 hb8 ht8=>?_⟩
    refine ⟨_,_,_,_,rfl,(ht7.same s8).g,ht8.g,fun p9 H9 b9 s9 hp9 ho9 hd9=>?_⟩
    have s69:=s7.trans (s8.trans s9)
    have eb:=BarOf.one (List.Perm.refl _) kw (BarOf.perm ((wn_join mid1 mid2 fs).trans (wn_perm pm)) ho9) hob
    subst eb
    refine ⟨_,rfl,b9,b9,hd9,Dat.same s69 _ _ hdD6,lay.1,lay.1,lay.2,_,rfl,?_⟩
    rw [PySem.SeqAt.eqv_refl _ lay.1]
    refine iteF ?_
    have c49:But p H4 H9:=c46.trans s69.but
    have cH9:=cH4.trans c49
    have hp9':=hp6.same s69
    obtain ⟨cp1,cp2⟩:=cover_pieces ok m0 m1 m2
    refine ⟨fun σ H'=>∃ v10,σ=[some (V.ref p),some (.ref x),some (.ref t),some (.ref L),some (.int one),some (.int other),some (.ref du),some (.ref R),some (.ref D),some (.int (one + 1 + d6)),some v10]∧But p H4 H'∧PotAt H' p∧(v10=.non∨∃ D2 ys2,v10=.ref D2∧D2≠p∧(coverM (allSt b ps rows) one other rows.length).length≤300∧H' D2=some (.lst ys2)∧Paired (PieceT H') ys2 (coverM (allSt b ps rows) one other rows.length)),?_,?_⟩
    · refine ⟨_,rfl,_,rfl,_,rfl,x,one,other,b,ps,rows,rfl,hL H9 cH9,ok,m0,m1,m2,fun hn D2 ys2 HA sA hD20 hD2 hP2=>?_,fun HA sA=>?_⟩
      · exact ⟨_,rfl,c49.trans sA.but,hp9'.same sA,.inr ⟨D2,ys2,rfl,hp9'.ne hD20,hn,hD2,hP2⟩⟩
      · exact ⟨_,rfl,c49.trans sA.but,hp9'.same sA,.inl rfl⟩
    rintro σ HA ⟨v10,rfl,cA,hpA,hv⟩
    refine ⟨fun σ H'=>∃ v10,σ=[some (V.ref p),some (.ref x),some (.ref t),some (.ref L),some (.int one),some (.int other),some (.ref du),some (.ref R),some (.ref D),some (.int (one + 1 + d6)),some v10]∧But p H4 H',?_,?_⟩
    · rcases hv with rfl | ⟨D2,ys2,rfl,nD2,hn,hD2,hP2⟩
      · exact ⟨_,rfl,rfl,_,rfl,iteF (iteF ⟨_,rfl,cA⟩)⟩
      · refine ⟨_,rfl,rfl,_,rfl,iteT ?_⟩
        have nA:Paired (EntN [p] HA) zs fs:=Paired.mapP hN4 fun _ _ z=>z.but (fun b o h n=>cA _ _ h (n p (by simp))) fun _ h=>h
        refine ⟨_,rfl,_,rfl,_,rfl,_,rfl,_,rfl,p,x,R,o,zs,fs,D2,ys2,_,du,one,other,b,ps,rows,rfl,hpA,fun H' c=>hL H' ((cH4.trans cA).trans c),ok,cA _ _ hR4 nR,ho,nA,nR,by omega,keyed_perm pm.symm ky,ekf,hD2,nD2,hP2,fun q hq=>(cp1 q hq).1,fun q hq=>(cp1 q hq).2,cp2,hn,⟨du,b9,rfl,Dat.tups (hp4.tup cA) _ _ (bar_noL hob) hdD4,BarOf.perm (wn_perm pm.symm) hob⟩,fun HB cB hpB=>⟨_,rfl,iteF ⟨_,rfl,cA.trans cB⟩⟩⟩
    rintro σ HB ⟨v10,rfl,cB⟩
    have gB:Paired (EntG HB) zs fs:=Paired.mapP hN4 fun _ _ z=>(z.but (qs':=[p]) (fun b o h n=>cB _ _ h (n p (by simp))) fun _ h=>h).g
    have hRB:=cB _ _ hR4 nR
    have hDB:=cB _ _ d1 nD
    have d4B:Paired (EntT HB) ys fs:=Paired.mapP d4 fun _ _ z=>z.tup (hp4.tup cB)
    refine ⟨_,rfl,R,o,zs,rfl,hRB,ho,fun J hJ D3 hD3=>?_⟩
    refine lc_it hJ (fun i ys H5=>H5 D3=some (.lst ys)∧ys.length=i∧Same HB H5∧Paired (EntT H5) ys (fs.take i)) ⟨upd_same,rfl,Same.upd hD3,.nil⟩ (fun i ys H5 h=>⟨h.1,h.2.2.1 _ _ hRB⟩) (fun ys5 H5 h=>?_) fun i v ys H5 hi hv h=>?go2
    case go2 =>
      obtain ⟨d1,d2,d3,d4⟩:=h
      obtain ⟨e,he,b',ob,rfl,hb,hob'⟩:=Paired.get gB hv
      refine yesI ⟨_,rfl,b',ob,_,rfl,d3 _ _ hb,hob',fun l H6 s6 hl=>LcNx.mk hi (by omega) (by omega) (s6 _ _ d1) ⟨upd_same,by rw [List.length_append,d2]; rfl,(d3.trans s6).but_ne hD3,?_⟩⟩
      rw [List.take_add_one,he]
      refine Paired.snoc ?_ (Paired.mono2 (fun _ _ z=>(z.same s6).wr (s6 _ _ d1)) d4)
      exact EntT.wr ⟨l,rfl,hl⟩ (s6 _ _ d1)
    obtain ⟨f1,f2,f3,f4⟩:=h
    rw [List.take_of_length_le (by omega)] at f4
    refine ⟨_,rfl,.list (fs.map eD),.list (fs.map eD),by unfold Dat; exact ⟨_,_,rfl,f1,dat_ents f4⟩,by unfold Dat; exact ⟨_,_,rfl,f3 _ _ hDB,dat_ents (Paired.mapP d4B fun _ _ z=>z.same f3)⟩,by unfold PyData.canLay0; exact ents_lay ekf,by unfold PyData.canLay0; exact ents_lay ekf,by have:=ents_dep fs; simp only [PyData.depth]; omega,?_⟩
    rw [PySem.SeqAt.eqv_refl _ (by unfold PyData.canLay0; exact ents_lay ekf)]
    exact q H5 ((cH4.trans cB).trans f3.but)
end
end Pr
namespace Pr
open PySem L2 PyProof.Rows Ent
section
variable {P:Program} {w:World} {K:PySem.W.Frag} {mg:Str→Option Value} {base:Heap} {C:Addr}
inductive sp_law (K:PySem.W.Frag) (vs:List V) (H:Hp) (Q:VK) (E:XK):Prop
  | mk (a:Addr) (ns:List Int) (h0_:vs=[.ref a]) (h1_:SqL K H a (ns.map V.int)) (h2_:ns.length≤63) (h3_:∀ H',Q (.bl true) H'):sp_law K vs H Q E
theorem sc_law:FnScope ["_law_script","_law_told","_law_ladder","_law_entries_here","_law_k"] ["_law_script"] (defScope s_law):=⟨rfl,rfl,rfl,by decide +kernel,rfl,by decide +kernel,by decide +kernel⟩
set_option maxHeartbeats 8000000 in
theorem law_ok (T:Txt K mg C) {fa:Addr} {fd:FuncData} (FL:Fun K "law" "law" s_law fa fd):FnOk P w K mg base CX0 11 fa fd ["_law_script"] (sp_law K):=by
  obtain ⟨f0,fd0,F0,M,b0⟩:=T.m_init
  refine FL.ok sc_law (fun vs H Q E h=>?_) (fun cdv A outer s H vs Q E hr h=>?_)
  · obtain ⟨a,ns,rfl,_⟩:=h
    rfl
  · obtain ⟨a,ns,rfl,ha,hlen,k⟩:=h
    refine ⟨_,(pss_cons (ps_set (i:=1) sc_law.nd rfl (Or.inl rfl) (pe_can (drawn T) hr (pa1 (pe_can (pot T) hr (pa2 (pv 0) pe_int)))))
      (pss_cons (ps_set (i:=2) sc_law.nd rfl (Or.inl rfl) (pe_make M (init_ok T F0) (hr.mono (by decide)) rfl T.mgC b0 .nil pass0 (pa3 (pe_ix (ix_tupK K) (pv 1) pe_int (fun _ _=>rfl)) (pe_ix (ix_tupK K) (pv 1) pe_int (fun _ _=>rfl)) (pe_ix (ix_tupK K) (pv 1) pe_int (fun _ _=>rfl)))))
      (pss_cons (ps_set (i:=3) sc_law.nd rfl (Or.inl rfl) (pe_can (entries T) hr (pa3 (pe_can (pot T) hr (pa2 (pv 0) pe_int)) (pv 1) pe_int)))
      (pss_cons (ps_for PassesOwn.never rfl (pi_range2 rfl T.b_range (pa2 pe_int (pe_b (call_max2 rfl) T.b_max boot_max (pa2 pe_int (pe_b (call_min2 rfl) T.b_min boot_min (pa2 (pe_b (call_lenK K) T.b_len boot_len (pa1 (pv 0))) pe_int)))))) (pg_name (i:=4) sc_law.nd rfl (Or.inl rfl))
        (pss_one (ps_if (pt_not (pt_val (pe_can (right T) hr (pa_cons (pe_can (pot T) hr (pa2 (pv 0) (pv 4))) (pa3 (pv 2) (pv 1) (pv 3))))))
          (pss_one (ps_ret pe_bl))
          pss_nil)))
      (pss_one (ps_ret pe_bl)))))),?_⟩
    refine ⟨_,rfl,a,ns,0,rfl,ha,by omega,by omega,fun p H1 s1 hp0 hp1=>?_⟩
    refine ⟨p,rfl,hp1,fun t b ps rows H2 ok c2 hT _ _=>?_⟩
    have s2:Same H H2:=sameBut s1 hp0 c2
    obtain ⟨pa,ra,us,g1,g2,g3,g4⟩:=id hT
    have hul:us.length=rows.length:=Paired.length g4
    refine ⟨_,rfl,t,_,_,_,rfl,rfl,.of g1,rfl,_,rfl,t,_,_,_,rfl,rfl,.of g1,rfl,_,rfl,t,_,_,_,rfl,rfl,.of g1,rfl,?_⟩
    intro x dx hx hdx hne
    have sM:Same H2 (upd (upd H2 dx (.own x)) x (.ins C dx [])):=(Same.upd hdx).trans (Same.upd (by rw [upd_ne (Ne.symm hne)]; exact hx))
    refine ⟨x,dx,b,pa,_,ps,ra,_,us,rows,rfl,upd_same,sM _ _ g2,.inl rfl,sM _ _ g3,.inl rfl,Paired.mono (fun _ _ z=>(z.same sM).g) g4,ok,fun H5 c5 hL=>⟨rfl,?_⟩⟩
    have s25:Same H2 H5:=fun c o h=>c5 c o (sM c o h) (ne_of_none h hx)
    have s05:Same H H5:=s2.trans s25
    have hT5:ToldAt H5 t b ps rows:=hT.same s25
    have ti:∃ o,H5 t=some o:=⟨_,s25 _ _ g1⟩
    clear sM c5 hx hdx g1 g2 g3 g4
    have new:∀ {H' H'':Hp} {q:Addr},Same H5 H'→H' q=none→q≠t:=fun {H' H'' q} ss hq z=>by
      obtain ⟨o,ho⟩:=ti
      have:=ss _ _ ho
      rw [← z,hq] at this
      cases this
    refine ⟨_,rfl,a,ns,_,rfl,s05.seq ha,by omega,by omega,fun p6 H6 s6 hp6 hpot6=>?_⟩
    refine ⟨_,rfl,p6,t,40,b,ps,rows,rfl,by decide,hpot6,fun H' c=>hT5.same (sameBut s6 hp6 c),new (H'':=H6) (Same.refl _) hp6,ok,fun L xs es H7 c7 hp7 hL7 hL8 hx7 hn ky ek=>?_⟩
    have s57:Same H5 H7:=sameBut s6 hp6 c7
    have s07:=s05.trans s57
    refine ⟨_,rfl,a,_,rfl,.inl (s07.seq ha),_,_,rfl,_,_,rfl,_,_,rfl,⟨by decide,by decide,by repeat' split <;> omega,by repeat' split <;> omega⟩,?_⟩
    refine for_range (fun i σ H8=>∃ v4,σ=[some (.ref a),some (.ref t),some (.ref x),some (.ref L),v4]∧Same H7 H8) ⟨_,rfl,Same.refl _⟩ ?_ ?_
    · rintro i σ H8 hi ⟨v4,rfl,s8⟩
      refine ⟨_,rfl,_,rfl,a,ns,_,rfl,(s07.trans s8).seq ha,by omega,by omega,fun p9 H9 s9 hp9 hpot=>?_⟩
      have s89:∀ H',But p9 H9 H'→Same H8 H':=fun H' c=>sameBut s9 hp9 c
      have nL:L≠p9:=ne_of_none (s8 _ _ hL8) hp9
      refine ⟨_,rfl,_,rfl,_,rfl,p9,x,t,L,xs,es,b,ps,rows,rfl,hpot,fun H' c=>((hL.same s57).same s8).same (s89 H' c),fun H' c=>((hT5.same s57).same s8).same (s89 H' c),new (H'':=H9) (s57.trans s8) hp9,ok,s9 _ _ (s8 _ _ hL8),nL,Paired.mapP hx7 fun _ _ z=>(z.same s8).same s9,by omega,ky,ek,fun H10 c10=>⟨_,rfl,iteF ⟨_,rfl,s8.trans (s89 H10 c10)⟩⟩⟩
    · rintro σ H8 ⟨v4,rfl,s8⟩
      exact k _
theorem law_all (T:Txt K mg C) {fa:Addr} (hmg:mg "law"=some (.ref fa)) :
    ∃ fd:FuncData,(∀ (s:Shared) (u:Value),BindsTo s fd ⟨[u],[]⟩ [("_law_script",u)])∧∀ base:Heap,K.In base→base.Ns mainGlobals mg→FnOk P w K mg base CX0 11 fa fd ["_law_script"] (sp_law K):=by
  obtain ⟨f,fd,F⟩:=T.f_law
  have e:=hmg.symm.trans F.m
  cases e
  obtain ⟨oc,od,kV,doc,pm,an,cdv,ct,osl,rfl,lk,hcd⟩:=F.fn.ex
  exact ⟨_,fun s u=>.of_eq rfl,fun base _ _=>law_ok T F.fn⟩
end
theorem walk {l:PySem.W.OpenLaw} {q:Program} {loose:List Str} {XP:(Str→Option Value)→Heap→Prop} {YP:World→Heap→Prop} {d:DefRec} {K:Params→PySem.W.Frag} (hn:l.most=some 63) (hdf:d.params.defaults=[])
    (hY:∀ (w:World) (h:Heap),YP w h→(K w.params).In h)
    (F:∀ (w:World) (mg:Str→Option Value) (fa:Addr) (h:Heap),(K w.params).In h→h.Ns mainGlobals mg→mg d.name=some (.ref fa) →
      ∃ fd:FuncData,(∀ (s:Shared) (u:Value),BindsTo s fd ⟨[u],[]⟩ [("_law_script",u)])∧∀ base:Heap,(K w.params).In base→base.Ns mainGlobals mg→FnOk l.prog w (K w.params) mg base CX0 11 fa fd ["_law_script"] (sp_law (K w.params))) :
    PySem.W.WalkO q loose XP YP l.row.toRowW d [] (fun f vs=>PySem.call f vs) :=
  L2.walk_of (n:=63) (k:=11) (x:="_law_script") (CX:=fun _=>CX0) (sp:=fun w=>sp_law (K w.params)) hn (by decide) hdf ⟨rfl,by decide,by decide,rfl⟩ hY F (fun _ _ a ns hl _ hS=>⟨a,ns,rfl,hS,hl,fun _=>rfl⟩) fun _ _ _ _ _ z=>z
end Pr
namespace Pr
open PySem L2 PyProof.Rows
set_option maxHeartbeats 0 in
theorem txt_mk {K:PySem.W.Frag} {h:Heap} {mg:Str→Option Value} {C:Addr} (X:K.In h) (G:h.Ns mainGlobals mg) {f1:Addr} {od1 an1:Option Addr} {sl1:Array (Option Value)} {oc1 kV1 dc1 pm1 cd1 ct1:Value} {f2:Addr} {od2 an2:Option Addr} {sl2:Array (Option Value)} {oc2 kV2 dc2 pm2 cd2 ct2:Value} {f3:Addr} {od3 an3:Option Addr} {sl3:Array (Option Value)} {oc3 kV3 dc3 pm3 cd3 ct3:Value} {f4:Addr} {od4 an4:Option Addr} {sl4:Array (Option Value)} {oc4 kV4 dc4 pm4 cd4 ct4:Value} {f5:Addr} {od5 an5:Option Addr} {sl5:Array (Option Value)} {oc5 kV5 dc5 pm5 cd5 ct5:Value} {f6:Addr} {od6 an6:Option Addr} {sl6:Array (Option Value)} {oc6 kV6 dc6 pm6 cd6 ct6:Value} {f7:Addr} {od7 an7:Option Addr} {sl7:Array (Option Value)} {oc7 kV7 dc7 pm7 cd7 ct7:Value} {f8:Addr} {od8 an8:Option Addr} {sl8:Array (Option Value)} {oc8 kV8 dc8 pm8 cd8 ct8:Value} {f9:Addr} {od9 an9:Option Addr} {sl9:Array (Option Value)} {oc9 kV9 dc9 pm9 cd9 ct9:Value} {f10:Addr} {od10 an10:Option Addr} {sl10:Array (Option Value)} {oc10 kV10 dc10 pm10 cd10 ct10:Value} {f11:Addr} {od11 an11:Option Addr} {sl11:Array (Option Value)} {oc11 kV11 dc11 pm11 cd11 ct11:Value} {f12:Addr} {od12 an12:Option Addr} {sl12:Array (Option Value)} {oc12 kV12 dc12 pm12 cd12 ct12:Value} {f13:Addr} {od13 an13:Option Addr} {sl13:Array (Option Value)} {oc13 kV13 dc13 pm13 cd13 ct13:Value} {f14:Addr} {od14 an14:Option Addr} {sl14:Array (Option Value)} {oc14 kV14 dc14 pm14 cd14 ct14:Value} {f15:Addr} {od15 an15:Option Addr} {sl15:Array (Option Value)} {oc15 kV15 dc15 pm15 cd15 ct15:Value} {f16:Addr} {od16 an16:Option Addr} {sl16:Array (Option Value)} {oc16 kV16 dc16 pm16 cd16 ct16:Value} {f17:Addr} {od17 an17:Option Addr} {sl17:Array (Option Value)} {oc17 kV17 dc17 pm17 cd17 ct17:Value} {f18:Addr} {od18 an18:Option Addr} {sl18:Array (Option Value)} {oc18 kV18 dc18 pm18 cd18 ct18:Value} {f19:Addr} {od19 an19:Option Addr} {sl19:Array (Option Value)} {oc19 kV19 dc19 pm19 cd19 ct19:Value} {f20:Addr} {od20 an20:Option Addr} {sl20:Array (Option Value)} {oc20 kV20 dc20 pm20 cd20 ct20:Value} {f21:Addr} {od21 an21:Option Addr} {sl21:Array (Option Value)} {oc21 kV21 dc21 pm21 cd21 ct21:Value} {f22:Addr} {od22 an22:Option Addr} {sl22:Array (Option Value)} {oc22 kV22 dc22 pm22 cd22 ct22:Value} {f23:Addr} {od23 an23:Option Addr} {sl23:Array (Option Value)} {oc23 kV23 dc23 pm23 cd23 ct23:Value} {f24:Addr} {od24 an24:Option Addr} {sl24:Array (Option Value)} {oc24 kV24 dc24 pm24 cd24 ct24:Value} {f25:Addr} {od25 an25:Option Addr} {sl25:Array (Option Value)} {oc25 kV25 dc25 pm25 cd25 ct25:Value} {f26:Addr} {od26 an26:Option Addr} {sl26:Array (Option Value)} {oc26 kV26 dc26 pm26 cd26 ct26:Value} {f27:Addr} {od27 an27:Option Addr} {sl27:Array (Option Value)} {oc27 kV27 dc27 pm27 cd27 ct27:Value} {f28:Addr} {od28 an28:Option Addr} {sl28:Array (Option Value)} {oc28 kV28 dc28 pm28 cd28 ct28:Value} {f29:Addr} {od29 an29:Option Addr} {sl29:Array (Option Value)} {oc29 kV29 dc29 pm29 cd29 ct29:Value} {f30:Addr} {od30 an30:Option Addr} {sl30:Array (Option Value)} {oc30 kV30 dc30 pm30 cd30 ct30:Value} {f31:Addr} {od31 an31:Option Addr} {sl31:Array (Option Value)} {oc31 kV31 dc31 pm31 cd31 ct31:Value} {f32:Addr} {od32 an32:Option Addr} {sl32:Array (Option Value)} {oc32 kV32 dc32 pm32 cd32 ct32:Value} {f33:Addr} {od33 an33:Option Addr} {sl33:Array (Option Value)} {oc33 kV33 dc33 pm33 cd33 ct33:Value} {f34:Addr} {od34 an34:Option Addr} {sl34:Array (Option Value)} {oc34 kV34 dc34 pm34 cd34 ct34:Value} {f35:Addr} {od35 an35:Option Addr} {sl35:Array (Option Value)} {oc35 kV35 dc35 pm35 cd35 ct35:Value} {f36:Addr} {od36 an36:Option Addr} {sl36:Array (Option Value)} {oc36 kV36 dc36 pm36 cd36 ct36:Value} {f37:Addr} {od37 an37:Option Addr} {sl37:Array (Option Value)} {oc37 kV37 dc37 pm37 cd37 ct37:Value} {f38:Addr} {od38 an38:Option Addr} {sl38:Array (Option Value)} {oc38 kV38 dc38 pm38 cd38 ct38:Value} {f39:Addr} {od39 an39:Option Addr} {sl39:Array (Option Value)} {oc39 kV39 dc39 pm39 cd39 ct39:Value} {f40:Addr} {od40 an40:Option Addr} {sl40:Array (Option Value)} {oc40 kV40 dc40 pm40 cd40 ct40:Value} {f41:Addr} {od41 an41:Option Addr} {sl41:Array (Option Value)} {oc41 kV41 dc41 pm41 cd41 ct41:Value} {f42:Addr} {od42 an42:Option Addr} {sl42:Array (Option Value)} {oc42 kV42 dc42 pm42 cd42 ct42:Value} {f43:Addr} {od43 an43:Option Addr} {sl43:Array (Option Value)} {oc43 kV43 dc43 pm43 cd43 ct43:Value} {f44:Addr} {od44 an44:Option Addr} {sl44:Array (Option Value)} {oc44 kV44 dc44 pm44 cd44 ct44:Value} {f45:Addr} {od45 an45:Option Addr} {sl45:Array (Option Value)} {oc45 kV45 dc45 pm45 cd45 ct45:Value} {f46:Addr} {od46 an46:Option Addr} {sl46:Array (Option Value)} {oc46 kV46 dc46 pm46 cd46 ct46:Value} {f47:Addr} {od47 an47:Option Addr} {sl47:Array (Option Value)} {oc47 kV47 dc47 pm47 cd47 ct47:Value} {f48:Addr} {od48 an48:Option Addr} {sl48:Array (Option Value)} {oc48 kV48 dc48 pm48 cd48 ct48:Value} {f49:Addr} {od49 an49:Option Addr} {sl49:Array (Option Value)} {oc49 kV49 dc49 pm49 cd49 ct49:Value} {f50:Addr} {od50 an50:Option Addr} {sl50:Array (Option Value)} {oc50 kV50 dc50 pm50 cd50 ct50:Value} {f51:Addr} {od51 an51:Option Addr} {sl51:Array (Option Value)} {oc51 kV51 dc51 pm51 cd51 ct51:Value} {f52:Addr} {od52 an52:Option Addr} {sl52:Array (Option Value)} {oc52 kV52 dc52 pm52 cd52 ct52:Value} {f53:Addr} {od53 an53:Option Addr} {sl53:Array (Option Value)} {oc53 kV53 dc53 pm53 cd53 ct53:Value} {f54:Addr} {od54 an54:Option Addr} {sl54:Array (Option Value)} {oc54 kV54 dc54 pm54 cd54 ct54:Value} {t_WIDE_END:Tok} {t_NUMBER_END:Tok} {t_MOST_PIECES:Tok} {t_MOST_PARTS:Tok} {t_MOST_LENGTH:Tok} {t_MOST_ROWS:Tok} {t_MOST_SIZES:Tok} {t_MOST_SIZE:Tok} {f55:Addr} {od55 an55:Option Addr} {sl55:Array (Option Value)} {oc55 kV55 dc55 pm55 cd55 ct55:Value} {f56:Addr} {od56 an56:Option Addr} {sl56:Array (Option Value)} {oc56 kV56 dc56 pm56 cd56 ct56:Value} {f57:Addr} {od57 an57:Option Addr} {sl57:Array (Option Value)} {oc57 kV57 dc57 pm57 cd57 ct57:Value} {f58:Addr} {od58 an58:Option Addr} {sl58:Array (Option Value)} {oc58 kV58 dc58 pm58 cd58 ct58:Value} {f59:Addr} {od59 an59:Option Addr} {sl59:Array (Option Value)} {oc59 kV59 dc59 pm59 cd59 ct59:Value} {f60:Addr} {od60 an60:Option Addr} {sl60:Array (Option Value)} {oc60 kV60 dc60 pm60 cd60 ct60:Value} {f61:Addr} {od61 an61:Option Addr} {sl61:Array (Option Value)} {oc61 kV61 dc61 pm61 cd61 ct61:Value} {f62:Addr} {od62 an62:Option Addr} {sl62:Array (Option Value)} {oc62 kV62 dc62 pm62 cd62 ct62:Value} {f63:Addr} {od63 an63:Option Addr} {sl63:Array (Option Value)} {oc63 kV63 dc63 pm63 cd63 ct63:Value} {f64:Addr} {od64 an64:Option Addr} {sl64:Array (Option Value)} {oc64 kV64 dc64 pm64 cd64 ct64:Value} {c_TooMany:Addr} {cd_TooMany:ClassData}
    (aC:PySem.W.nsIn K mainGlobals "Ladder"=some (some (.ref C)))
    (a1:PySem.W.nsIn K mainGlobals "empty"=some (some (.ref f1)))
    (l1:K.lookup f1=some ⟨oc1,od1,.func (PySem.W.fnOf "empty" "empty" (defArgs s_empty) (defBody s_empty) (defScope s_empty) .none kV1 dc1 pm1 an1 cd1 ct1),sl1⟩)
    (c1:PySem.W.codeIn K cd1 "empty"=true)
    (k1:PySem.W.keepIn K (.ref f1)=true)
    (a2:PySem.W.nsIn K mainGlobals "in_order"=some (some (.ref f2)))
    (l2:K.lookup f2=some ⟨oc2,od2,.func (PySem.W.fnOf "in_order" "in_order" (defArgs s_in_order) (defBody s_in_order) (defScope s_in_order) .none kV2 dc2 pm2 an2 cd2 ct2),sl2⟩)
    (c2:PySem.W.codeIn K cd2 "in_order"=true)
    (k2:PySem.W.keepIn K (.ref f2)=true)
    (a3:PySem.W.nsIn K mainGlobals "place_of"=some (some (.ref f3)))
    (l3:K.lookup f3=some ⟨oc3,od3,.func (PySem.W.fnOf "place_of" "place_of" (defArgs s_place_of) (defBody s_place_of) (defScope s_place_of) .none kV3 dc3 pm3 an3 cd3 ct3),sl3⟩)
    (c3:PySem.W.codeIn K cd3 "place_of"=true)
    (k3:PySem.W.keepIn K (.ref f3)=true)
    (a4:PySem.W.nsIn K mainGlobals "bar_of"=some (some (.ref f4)))
    (l4:K.lookup f4=some ⟨oc4,od4,.func (PySem.W.fnOf "bar_of" "bar_of" (defArgs s_bar_of) (defBody s_bar_of) (defScope s_bar_of) .none kV4 dc4 pm4 an4 cd4 ct4),sl4⟩)
    (c4:PySem.W.codeIn K cd4 "bar_of"=true)
    (k4:PySem.W.keepIn K (.ref f4)=true)
    (a5:PySem.W.nsIn K mainGlobals "joined"=some (some (.ref f5)))
    (l5:K.lookup f5=some ⟨oc5,od5,.func (PySem.W.fnOf "joined" "joined" (defArgs s_joined) (defBody s_joined) (defScope s_joined) .none kV5 dc5 pm5 an5 cd5 ct5),sl5⟩)
    (c5:PySem.W.codeIn K cd5 "joined"=true)
    (k5:PySem.W.keepIn K (.ref f5)=true)
    (a6:PySem.W.nsIn K mainGlobals "is_whole"=some (some (.ref f6)))
    (l6:K.lookup f6=some ⟨oc6,od6,.func (PySem.W.fnOf "is_whole" "is_whole" (defArgs s_is_whole) (defBody s_is_whole) (defScope s_is_whole) .none kV6 dc6 pm6 an6 cd6 ct6),sl6⟩)
    (c6:PySem.W.codeIn K cd6 "is_whole"=true)
    (k6:PySem.W.keepIn K (.ref f6)=true)
    (a7:PySem.W.nsIn K mainGlobals "is_whole_from"=some (some (.ref f7)))
    (l7:K.lookup f7=some ⟨oc7,od7,.func (PySem.W.fnOf "is_whole_from" "is_whole_from" (defArgs s_is_whole_from) (defBody s_is_whole_from) (defScope s_is_whole_from) .none kV7 dc7 pm7 an7 cd7 ct7),sl7⟩)
    (c7:PySem.W.codeIn K cd7 "is_whole_from"=true)
    (k7:PySem.W.keepIn K (.ref f7)=true)
    (a8:PySem.W.nsIn K mainGlobals "is_wide"=some (some (.ref f8)))
    (l8:K.lookup f8=some ⟨oc8,od8,.func (PySem.W.fnOf "is_wide" "is_wide" (defArgs s_is_wide) (defBody s_is_wide) (defScope s_is_wide) .none kV8 dc8 pm8 an8 cd8 ct8),sl8⟩)
    (c8:PySem.W.codeIn K cd8 "is_wide"=true)
    (k8:PySem.W.keepIn K (.ref f8)=true)
    (a9:PySem.W.nsIn K mainGlobals "is_list"=some (some (.ref f9)))
    (l9:K.lookup f9=some ⟨oc9,od9,.func (PySem.W.fnOf "is_list" "is_list" (defArgs s_is_list) (defBody s_is_list) (defScope s_is_list) .none kV9 dc9 pm9 an9 cd9 ct9),sl9⟩)
    (c9:PySem.W.codeIn K cd9 "is_list"=true)
    (k9:PySem.W.keepIn K (.ref f9)=true)
    (a10:PySem.W.nsIn K mainGlobals "is_list_from"=some (some (.ref f10)))
    (l10:K.lookup f10=some ⟨oc10,od10,.func (PySem.W.fnOf "is_list_from" "is_list_from" (defArgs s_is_list_from) (defBody s_is_list_from) (defScope s_is_list_from) .none kV10 dc10 pm10 an10 cd10 ct10),sl10⟩)
    (c10:PySem.W.codeIn K cd10 "is_list_from"=true)
    (k10:PySem.W.keepIn K (.ref f10)=true)
    (a11:PySem.W.nsIn K mainGlobals "need_moment"=some (some (.ref f11)))
    (l11:K.lookup f11=some ⟨oc11,od11,.func (PySem.W.fnOf "need_moment" "need_moment" (defArgs s_need_moment) (defBody s_need_moment) (defScope s_need_moment) .none kV11 dc11 pm11 an11 cd11 ct11),sl11⟩)
    (c11:PySem.W.codeIn K cd11 "need_moment"=true)
    (k11:PySem.W.keepIn K (.ref f11)=true)
    (a12:PySem.W.nsIn K mainGlobals "need_roll"=some (some (.ref f12)))
    (l12:K.lookup f12=some ⟨oc12,od12,.func (PySem.W.fnOf "need_roll" "need_roll" (defArgs s_need_roll) (defBody s_need_roll) (defScope s_need_roll) .none kV12 dc12 pm12 an12 cd12 ct12),sl12⟩)
    (c12:PySem.W.codeIn K cd12 "need_roll"=true)
    (k12:PySem.W.keepIn K (.ref f12)=true)
    (a13:PySem.W.nsIn K mainGlobals "need_number"=some (some (.ref f13)))
    (l13:K.lookup f13=some ⟨oc13,od13,.func (PySem.W.fnOf "need_number" "need_number" (defArgs s_need_number) (defBody s_need_number) (defScope s_need_number) .none kV13 dc13 pm13 an13 cd13 ct13),sl13⟩)
    (c13:PySem.W.codeIn K cd13 "need_number"=true)
    (k13:PySem.W.keepIn K (.ref f13)=true)
    (a14:PySem.W.nsIn K mainGlobals "between"=some (some (.ref f14)))
    (l14:K.lookup f14=some ⟨oc14,od14,.func (PySem.W.fnOf "between" "between" (defArgs s_between) (defBody s_between) (defScope s_between) .none kV14 dc14 pm14 an14 cd14 ct14),sl14⟩)
    (c14:PySem.W.codeIn K cd14 "between"=true)
    (k14:PySem.W.keepIn K (.ref f14)=true)
    (a15:PySem.W.nsIn K mainGlobals "cover"=some (some (.ref f15)))
    (l15:K.lookup f15=some ⟨oc15,od15,.func (PySem.W.fnOf "cover" "cover" (defArgs s_cover) (defBody s_cover) (defScope s_cover) .none kV15 dc15 pm15 an15 cd15 ct15),sl15⟩)
    (c15:PySem.W.codeIn K cd15 "cover"=true)
    (k15:PySem.W.keepIn K (.ref f15)=true)
    (a16:PySem.W.nsIn K mainGlobals "need_time"=some (some (.ref f16)))
    (l16:K.lookup f16=some ⟨oc16,od16,.func (PySem.W.fnOf "need_time" "need_time" (defArgs s_need_time) (defBody s_need_time) (defScope s_need_time) .none kV16 dc16 pm16 an16 cd16 ct16),sl16⟩)
    (c16:PySem.W.codeIn K cd16 "need_time"=true)
    (k16:PySem.W.keepIn K (.ref f16)=true)
    (a17:PySem.W.nsIn K mainGlobals "first_begun"=some (some (.ref f17)))
    (l17:K.lookup f17=some ⟨oc17,od17,.func (PySem.W.fnOf "first_begun" "first_begun" (defArgs s_first_begun) (defBody s_first_begun) (defScope s_first_begun) .none kV17 dc17 pm17 an17 cd17 ct17),sl17⟩)
    (c17:PySem.W.codeIn K cd17 "first_begun"=true)
    (k17:PySem.W.keepIn K (.ref f17)=true)
    (a18:PySem.W.nsIn K mainGlobals "rest_between"=some (some (.ref f18)))
    (l18:K.lookup f18=some ⟨oc18,od18,.func (PySem.W.fnOf "rest_between" "rest_between" (defArgs s_rest_between) (defBody s_rest_between) (defScope s_rest_between) .none kV18 dc18 pm18 an18 cd18 ct18),sl18⟩)
    (c18:PySem.W.codeIn K cd18 "rest_between"=true)
    (k18:PySem.W.keepIn K (.ref f18)=true)
    (a19:PySem.W.nsIn K mainGlobals "greatest_runs"=some (some (.ref f19)))
    (l19:K.lookup f19=some ⟨oc19,od19,.func (PySem.W.fnOf "greatest_runs" "greatest_runs" (defArgs s_greatest_runs) (defBody s_greatest_runs) (defScope s_greatest_runs) .none kV19 dc19 pm19 an19 cd19 ct19),sl19⟩)
    (c19:PySem.W.codeIn K cd19 "greatest_runs"=true)
    (k19:PySem.W.keepIn K (.ref f19)=true)
    (a20:PySem.W.nsIn K mainGlobals "greater_within"=some (some (.ref f20)))
    (l20:K.lookup f20=some ⟨oc20,od20,.func (PySem.W.fnOf "greater_within" "greater_within" (defArgs s_greater_within) (defBody s_greater_within) (defScope s_greater_within) .none kV20 dc20 pm20 an20 cd20 ct20),sl20⟩)
    (c20:PySem.W.codeIn K cd20 "greater_within"=true)
    (k20:PySem.W.keepIn K (.ref f20)=true)
    (a21:PySem.W.nsIn K mainGlobals "bar_of_cover"=some (some (.ref f21)))
    (l21:K.lookup f21=some ⟨oc21,od21,.func (PySem.W.fnOf "bar_of_cover" "bar_of_cover" (defArgs s_bar_of_cover) (defBody s_bar_of_cover) (defScope s_bar_of_cover) .none kV21 dc21 pm21 an21 cd21 ct21),sl21⟩)
    (c21:PySem.W.codeIn K cd21 "bar_of_cover"=true)
    (k21:PySem.W.keepIn K (.ref f21)=true)
    (a22:PySem.W.nsIn K mainGlobals "piece_stretch"=some (some (.ref f22)))
    (l22:K.lookup f22=some ⟨oc22,od22,.func (PySem.W.fnOf "piece_stretch" "piece_stretch" (defArgs s_piece_stretch) (defBody s_piece_stretch) (defScope s_piece_stretch) .none kV22 dc22 pm22 an22 cd22 ct22),sl22⟩)
    (c22:PySem.W.codeIn K cd22 "piece_stretch"=true)
    (k22:PySem.W.keepIn K (.ref f22)=true)
    (a23:PySem.W.nsIn K mainGlobals "first_of"=some (some (.ref f23)))
    (l23:K.lookup f23=some ⟨oc23,od23,.func (PySem.W.fnOf "first_of" "first_of" (defArgs s_first_of) (defBody s_first_of) (defScope s_first_of) .none kV23 dc23 pm23 an23 cd23 ct23),sl23⟩)
    (c23:PySem.W.codeIn K cd23 "first_of"=true)
    (k23:PySem.W.keepIn K (.ref f23)=true)
    (a24:PySem.W.nsIn K mainGlobals "size_of"=some (some (.ref f24)))
    (l24:K.lookup f24=some ⟨oc24,od24,.func (PySem.W.fnOf "size_of" "size_of" (defArgs s_size_of) (defBody s_size_of) (defScope s_size_of) .none kV24 dc24 pm24 an24 cd24 ct24),sl24⟩)
    (c24:PySem.W.codeIn K cd24 "size_of"=true)
    (k24:PySem.W.keepIn K (.ref f24)=true)
    (a25:PySem.W.nsIn K mainGlobals "number_of"=some (some (.ref f25)))
    (l25:K.lookup f25=some ⟨oc25,od25,.func (PySem.W.fnOf "number_of" "number_of" (defArgs s_number_of) (defBody s_number_of) (defScope s_number_of) .none kV25 dc25 pm25 an25 cd25 ct25),sl25⟩)
    (c25:PySem.W.codeIn K cd25 "number_of"=true)
    (k25:PySem.W.keepIn K (.ref f25)=true)
    (a26:PySem.W.nsIn K mainGlobals "is_part"=some (some (.ref f26)))
    (l26:K.lookup f26=some ⟨oc26,od26,.func (PySem.W.fnOf "is_part" "is_part" (defArgs s_is_part) (defBody s_is_part) (defScope s_is_part) .none kV26 dc26 pm26 an26 cd26 ct26),sl26⟩)
    (c26:PySem.W.codeIn K cd26 "is_part"=true)
    (k26:PySem.W.keepIn K (.ref f26)=true)
    (a27:PySem.W.nsIn K mainGlobals "are_parts"=some (some (.ref f27)))
    (l27:K.lookup f27=some ⟨oc27,od27,.func (PySem.W.fnOf "are_parts" "are_parts" (defArgs s_are_parts) (defBody s_are_parts) (defScope s_are_parts) .none kV27 dc27 pm27 an27 cd27 ct27),sl27⟩)
    (c27:PySem.W.codeIn K cd27 "are_parts"=true)
    (k27:PySem.W.keepIn K (.ref f27)=true)
    (a28:PySem.W.nsIn K mainGlobals "are_sizes"=some (some (.ref f28)))
    (l28:K.lookup f28=some ⟨oc28,od28,.func (PySem.W.fnOf "are_sizes" "are_sizes" (defArgs s_are_sizes) (defBody s_are_sizes) (defScope s_are_sizes) .none kV28 dc28 pm28 an28 cd28 ct28),sl28⟩)
    (c28:PySem.W.codeIn K cd28 "are_sizes"=true)
    (k28:PySem.W.keepIn K (.ref f28)=true)
    (a29:PySem.W.nsIn K mainGlobals "is_row"=some (some (.ref f29)))
    (l29:K.lookup f29=some ⟨oc29,od29,.func (PySem.W.fnOf "is_row" "is_row" (defArgs s_is_row) (defBody s_is_row) (defScope s_is_row) .none kV29 dc29 pm29 an29 cd29 ct29),sl29⟩)
    (c29:PySem.W.codeIn K cd29 "is_row"=true)
    (k29:PySem.W.keepIn K (.ref f29)=true)
    (a30:PySem.W.nsIn K mainGlobals "are_rows"=some (some (.ref f30)))
    (l30:K.lookup f30=some ⟨oc30,od30,.func (PySem.W.fnOf "are_rows" "are_rows" (defArgs s_are_rows) (defBody s_are_rows) (defScope s_are_rows) .none kV30 dc30 pm30 an30 cd30 ct30),sl30⟩)
    (c30:PySem.W.codeIn K cd30 "are_rows"=true)
    (k30:PySem.W.keepIn K (.ref f30)=true)
    (a31:PySem.W.nsIn K mainGlobals "bar_lengths"=some (some (.ref f31)))
    (l31:K.lookup f31=some ⟨oc31,od31,.func (PySem.W.fnOf "bar_lengths" "bar_lengths" (defArgs s_bar_lengths) (defBody s_bar_lengths) (defScope s_bar_lengths) .none kV31 dc31 pm31 an31 cd31 ct31),sl31⟩)
    (c31:PySem.W.codeIn K cd31 "bar_lengths"=true)
    (k31:PySem.W.keepIn K (.ref f31)=true)
    (a32:PySem.W.nsIn K mainGlobals "_law_pot"=some (some (.ref f32)))
    (l32:K.lookup f32=some ⟨oc32,od32,.func (PySem.W.fnOf "_law_pot" "_law_pot" (defArgs s_law_pot) (defBody s_law_pot) (defScope s_law_pot) .none kV32 dc32 pm32 an32 cd32 ct32),sl32⟩)
    (c32:PySem.W.codeIn K cd32 "_law_pot"=true)
    (k32:PySem.W.keepIn K (.ref f32)=true)
    (a33:PySem.W.nsIn K mainGlobals "_law_digit"=some (some (.ref f33)))
    (l33:K.lookup f33=some ⟨oc33,od33,.func (PySem.W.fnOf "_law_digit" "_law_digit" (defArgs s_law_digit) (defBody s_law_digit) (defScope s_law_digit) .none kV33 dc33 pm33 an33 cd33 ct33),sl33⟩)
    (c33:PySem.W.codeIn K cd33 "_law_digit"=true)
    (k33:PySem.W.keepIn K (.ref f33)=true)
    (a34:PySem.W.nsIn K mainGlobals "_law_wide"=some (some (.ref f34)))
    (l34:K.lookup f34=some ⟨oc34,od34,.func (PySem.W.fnOf "_law_wide" "_law_wide" (defArgs s_law_wide) (defBody s_law_wide) (defScope s_law_wide) .none kV34 dc34 pm34 an34 cd34 ct34),sl34⟩)
    (c34:PySem.W.codeIn K cd34 "_law_wide"=true)
    (k34:PySem.W.keepIn K (.ref f34)=true)
    (a35:PySem.W.nsIn K mainGlobals "_law_part"=some (some (.ref f35)))
    (l35:K.lookup f35=some ⟨oc35,od35,.func (PySem.W.fnOf "_law_part" "_law_part" (defArgs s_law_part) (defBody s_law_part) (defScope s_law_part) .none kV35 dc35 pm35 an35 cd35 ct35),sl35⟩)
    (c35:PySem.W.codeIn K cd35 "_law_part"=true)
    (k35:PySem.W.keepIn K (.ref f35)=true)
    (a36:PySem.W.nsIn K mainGlobals "_law_sizes"=some (some (.ref f36)))
    (l36:K.lookup f36=some ⟨oc36,od36,.func (PySem.W.fnOf "_law_sizes" "_law_sizes" (defArgs s_law_sizes) (defBody s_law_sizes) (defScope s_law_sizes) .none kV36 dc36 pm36 an36 cd36 ct36),sl36⟩)
    (c36:PySem.W.codeIn K cd36 "_law_sizes"=true)
    (k36:PySem.W.keepIn K (.ref f36)=true)
    (a37:PySem.W.nsIn K mainGlobals "_law_drawn"=some (some (.ref f37)))
    (l37:K.lookup f37=some ⟨oc37,od37,.func (PySem.W.fnOf "_law_drawn" "_law_drawn" (defArgs s_law_drawn) (defBody s_law_drawn) (defScope s_law_drawn) .none kV37 dc37 pm37 an37 cd37 ct37),sl37⟩)
    (c37:PySem.W.codeIn K cd37 "_law_drawn"=true)
    (k37:PySem.W.keepIn K (.ref f37)=true)
    (a38:PySem.W.nsIn K mainGlobals "_law_turn"=some (some (.ref f38)))
    (l38:K.lookup f38=some ⟨oc38,od38,.func (PySem.W.fnOf "_law_turn" "_law_turn" (defArgs s_law_turn) (defBody s_law_turn) (defScope s_law_turn) .none kV38 dc38 pm38 an38 cd38 ct38),sl38⟩)
    (c38:PySem.W.codeIn K cd38 "_law_turn"=true)
    (k38:PySem.W.keepIn K (.ref f38)=true)
    (a39:PySem.W.nsIn K mainGlobals "_law_starts"=some (some (.ref f39)))
    (l39:K.lookup f39=some ⟨oc39,od39,.func (PySem.W.fnOf "_law_starts" "_law_starts" (defArgs s_law_starts) (defBody s_law_starts) (defScope s_law_starts) .none kV39 dc39 pm39 an39 cd39 ct39),sl39⟩)
    (c39:PySem.W.codeIn K cd39 "_law_starts"=true)
    (k39:PySem.W.keepIn K (.ref f39)=true)
    (a40:PySem.W.nsIn K mainGlobals "_law_lowest"=some (some (.ref f40)))
    (l40:K.lookup f40=some ⟨oc40,od40,.func (PySem.W.fnOf "_law_lowest" "_law_lowest" (defArgs s_law_lowest) (defBody s_law_lowest) (defScope s_law_lowest) .none kV40 dc40 pm40 an40 cd40 ct40),sl40⟩)
    (c40:PySem.W.codeIn K cd40 "_law_lowest"=true)
    (k40:PySem.W.keepIn K (.ref f40)=true)
    (a41:PySem.W.nsIn K mainGlobals "_law_raised"=some (some (.ref f41)))
    (l41:K.lookup f41=some ⟨oc41,od41,.func (PySem.W.fnOf "_law_raised" "_law_raised" (defArgs s_law_raised) (defBody s_law_raised) (defScope s_law_raised) .none kV41 dc41 pm41 an41 cd41 ct41),sl41⟩)
    (c41:PySem.W.codeIn K cd41 "_law_raised"=true)
    (k41:PySem.W.keepIn K (.ref f41)=true)
    (a42:PySem.W.nsIn K mainGlobals "_law_lowered"=some (some (.ref f42)))
    (l42:K.lookup f42=some ⟨oc42,od42,.func (PySem.W.fnOf "_law_lowered" "_law_lowered" (defArgs s_law_lowered) (defBody s_law_lowered) (defScope s_law_lowered) .none kV42 dc42 pm42 an42 cd42 ct42),sl42⟩)
    (c42:PySem.W.codeIn K cd42 "_law_lowered"=true)
    (k42:PySem.W.keepIn K (.ref f42)=true)
    (a43:PySem.W.nsIn K mainGlobals "_law_begins"=some (some (.ref f43)))
    (l43:K.lookup f43=some ⟨oc43,od43,.func (PySem.W.fnOf "_law_begins" "_law_begins" (defArgs s_law_begins) (defBody s_law_begins) (defScope s_law_begins) .none kV43 dc43 pm43 an43 cd43 ct43),sl43⟩)
    (c43:PySem.W.codeIn K cd43 "_law_begins"=true)
    (k43:PySem.W.keepIn K (.ref f43)=true)
    (a44:PySem.W.nsIn K mainGlobals "_law_moment"=some (some (.ref f44)))
    (l44:K.lookup f44=some ⟨oc44,od44,.func (PySem.W.fnOf "_law_moment" "_law_moment" (defArgs s_law_moment) (defBody s_law_moment) (defScope s_law_moment) .none kV44 dc44 pm44 an44 cd44 ct44),sl44⟩)
    (c44:PySem.W.codeIn K cd44 "_law_moment"=true)
    (k44:PySem.W.keepIn K (.ref f44)=true)
    (a45:PySem.W.nsIn K mainGlobals "_law_key"=some (some (.ref f45)))
    (l45:K.lookup f45=some ⟨oc45,od45,.func (PySem.W.fnOf "_law_key" "_law_key" (defArgs s_law_key) (defBody s_law_key) (defScope s_law_key) .none kV45 dc45 pm45 an45 cd45 ct45),sl45⟩)
    (c45:PySem.W.codeIn K cd45 "_law_key"=true)
    (k45:PySem.W.keepIn K (.ref f45)=true)
    (a46:PySem.W.nsIn K mainGlobals "_law_entries"=some (some (.ref f46)))
    (l46:K.lookup f46=some ⟨oc46,od46,.func (PySem.W.fnOf "_law_entries" "_law_entries" (defArgs s_law_entries) (defBody s_law_entries) (defScope s_law_entries) .none kV46 dc46 pm46 an46 cd46 ct46),sl46⟩)
    (c46:PySem.W.codeIn K cd46 "_law_entries"=true)
    (k46:PySem.W.keepIn K (.ref f46)=true)
    (a47:PySem.W.nsIn K mainGlobals "_law_bar"=some (some (.ref f47)))
    (l47:K.lookup f47=some ⟨oc47,od47,.func (PySem.W.fnOf "_law_bar" "_law_bar" (defArgs s_law_bar) (defBody s_law_bar) (defScope s_law_bar) .none kV47 dc47 pm47 an47 cd47 ct47),sl47⟩)
    (c47:PySem.W.codeIn K cd47 "_law_bar"=true)
    (k47:PySem.W.keepIn K (.ref f47)=true)
    (a48:PySem.W.nsIn K mainGlobals "_law_time"=some (some (.ref f48)))
    (l48:K.lookup f48=some ⟨oc48,od48,.func (PySem.W.fnOf "_law_time" "_law_time" (defArgs s_law_time) (defBody s_law_time) (defScope s_law_time) .none kV48 dc48 pm48 an48 cd48 ct48),sl48⟩)
    (c48:PySem.W.codeIn K cd48 "_law_time"=true)
    (k48:PySem.W.keepIn K (.ref f48)=true)
    (a49:PySem.W.nsIn K mainGlobals "_law_within"=some (some (.ref f49)))
    (l49:K.lookup f49=some ⟨oc49,od49,.func (PySem.W.fnOf "_law_within" "_law_within" (defArgs s_law_within) (defBody s_law_within) (defScope s_law_within) .none kV49 dc49 pm49 an49 cd49 ct49),sl49⟩)
    (c49:PySem.W.codeIn K cd49 "_law_within"=true)
    (k49:PySem.W.keepIn K (.ref f49)=true)
    (a50:PySem.W.nsIn K mainGlobals "_law_handed"=some (some (.ref f50)))
    (l50:K.lookup f50=some ⟨oc50,od50,.func (PySem.W.fnOf "_law_handed" "_law_handed" (defArgs s_law_handed) (defBody s_law_handed) (defScope s_law_handed) .none kV50 dc50 pm50 an50 cd50 ct50),sl50⟩)
    (c50:PySem.W.codeIn K cd50 "_law_handed"=true)
    (k50:PySem.W.keepIn K (.ref f50)=true)
    (a51:PySem.W.nsIn K mainGlobals "_law_cover"=some (some (.ref f51)))
    (l51:K.lookup f51=some ⟨oc51,od51,.func (PySem.W.fnOf "_law_cover" "_law_cover" (defArgs s_law_cover) (defBody s_law_cover) (defScope s_law_cover) .none kV51 dc51 pm51 an51 cd51 ct51),sl51⟩)
    (c51:PySem.W.codeIn K cd51 "_law_cover"=true)
    (k51:PySem.W.keepIn K (.ref f51)=true)
    (a52:PySem.W.nsIn K mainGlobals "_law_cover_right"=some (some (.ref f52)))
    (l52:K.lookup f52=some ⟨oc52,od52,.func (PySem.W.fnOf "_law_cover_right" "_law_cover_right" (defArgs s_law_cover_right) (defBody s_law_cover_right) (defScope s_law_cover_right) .none kV52 dc52 pm52 an52 cd52 ct52),sl52⟩)
    (c52:PySem.W.codeIn K cd52 "_law_cover_right"=true)
    (k52:PySem.W.keepIn K (.ref f52)=true)
    (a53:PySem.W.nsIn K mainGlobals "_law_right"=some (some (.ref f53)))
    (l53:K.lookup f53=some ⟨oc53,od53,.func (PySem.W.fnOf "_law_right" "_law_right" (defArgs s_law_right) (defBody s_law_right) (defScope s_law_right) .none kV53 dc53 pm53 an53 cd53 ct53),sl53⟩)
    (c53:PySem.W.codeIn K cd53 "_law_right"=true)
    (k53:PySem.W.keepIn K (.ref f53)=true)
    (a54:PySem.W.nsIn K mainGlobals "law"=some (some (.ref f54)))
    (l54:K.lookup f54=some ⟨oc54,od54,.func (PySem.W.fnOf "law" "law" (defArgs s_law) (defBody s_law) (defScope s_law) .none kV54 dc54 pm54 an54 cd54 ct54),sl54⟩)
    (c54:PySem.W.codeIn K cd54 "law"=true)
    (k54:PySem.W.keepIn K (.ref f54)=true)
    (c_WIDE_END:PySem.W.nsIn K mainGlobals "WIDE_END"=some (some (.int 1000000000000000000000000000000 t_WIDE_END)))
    (c_NUMBER_END:PySem.W.nsIn K mainGlobals "NUMBER_END"=some (some (.int 10000000000000000000000000000000000000000 t_NUMBER_END)))
    (c_MOST_PIECES:PySem.W.nsIn K mainGlobals "MOST_PIECES"=some (some (.int 300 t_MOST_PIECES)))
    (c_MOST_PARTS:PySem.W.nsIn K mainGlobals "MOST_PARTS"=some (some (.int 12 t_MOST_PARTS)))
    (c_MOST_LENGTH:PySem.W.nsIn K mainGlobals "MOST_LENGTH"=some (some (.int 1000000000 t_MOST_LENGTH)))
    (c_MOST_ROWS:PySem.W.nsIn K mainGlobals "MOST_ROWS"=some (some (.int 4 t_MOST_ROWS)))
    (c_MOST_SIZES:PySem.W.nsIn K mainGlobals "MOST_SIZES"=some (some (.int 12 t_MOST_SIZES)))
    (c_MOST_SIZE:PySem.W.nsIn K mainGlobals "MOST_SIZE"=some (some (.int 1000 t_MOST_SIZE)))
    (b_ValueError:PySem.W.nsIn K mainGlobals "ValueError"=some none)
    (b_abs:PySem.W.nsIn K mainGlobals "abs"=some none)
    (b_all:PySem.W.nsIn K mainGlobals "all"=some none)
    (b_bool:PySem.W.nsIn K mainGlobals "bool"=some none)
    (b_divmod:PySem.W.nsIn K mainGlobals "divmod"=some none)
    (b_int:PySem.W.nsIn K mainGlobals "int"=some none)
    (b_isinstance:PySem.W.nsIn K mainGlobals "isinstance"=some none)
    (b_len:PySem.W.nsIn K mainGlobals "len"=some none)
    (b_list:PySem.W.nsIn K mainGlobals "list"=some none)
    (b_max:PySem.W.nsIn K mainGlobals "max"=some none)
    (b_min:PySem.W.nsIn K mainGlobals "min"=some none)
    (b_range:PySem.W.nsIn K mainGlobals "range"=some none)
    (b_repr:PySem.W.nsIn K mainGlobals "repr"=some none)
    (b_reversed:PySem.W.nsIn K mainGlobals "reversed"=some none)
    (b_sorted:PySem.W.nsIn K mainGlobals "sorted"=some none)
    (b_str:PySem.W.nsIn K mainGlobals "str"=some none)
    (b_sum:PySem.W.nsIn K mainGlobals "sum"=some none)
    (b_tuple:PySem.W.nsIn K mainGlobals "tuple"=some none)
    (pg:PySem.W.plainGet K C Str.empty=true)
    (hd:PySem.W.hasDictIn K C=true)
    (po:PySem.W.plainOver K C=true)
    (sa:PySem.W.findIn K (.ref C) "__setattr__"=some (some (.builtin "object.__setattr__")))
    (mk:PySem.W.makesIn K C=true)
    (kc:PySem.W.keepIn K (.ref C)=true)
    (n_open_lengths:PySem.W.findIn K (.ref C) "open_lengths"=some none)
    (n_part_lengths:PySem.W.findIn K (.ref C) "part_lengths"=some none)
    (n_steps:PySem.W.findIn K (.ref C) "steps"=some none)
    (a55:PySem.W.findIn K (.ref C) "__init__"=some (some (.ref f55)))
    (i55:PySem.W.isFn K (.ref f55)=true)
    (l55:K.lookup f55=some ⟨oc55,od55,.func (PySem.W.fnOf "__init__" "Ladder.__init__" (defArgs sm_init) (defBody sm_init) (defScope sm_init) .none kV55 dc55 pm55 an55 cd55 ct55),sl55⟩)
    (c55:PySem.W.codeIn K cd55 "Ladder.__init__"=true)
    (k55:PySem.W.keepIn K (.ref f55)=true)
    (a56:PySem.W.findIn K (.ref C) "begin"=some (some (.ref f56)))
    (i56:PySem.W.isFn K (.ref f56)=true)
    (l56:K.lookup f56=some ⟨oc56,od56,.func (PySem.W.fnOf "begin" "Ladder.begin" (defArgs sm_begin) (defBody sm_begin) (defScope sm_begin) .none kV56 dc56 pm56 an56 cd56 ct56),sl56⟩)
    (c56:PySem.W.codeIn K cd56 "Ladder.begin"=true)
    (k56:PySem.W.keepIn K (.ref f56)=true)
    (a57:PySem.W.findIn K (.ref C) "parts"=some (some (.ref f57)))
    (i57:PySem.W.isFn K (.ref f57)=true)
    (l57:K.lookup f57=some ⟨oc57,od57,.func (PySem.W.fnOf "parts" "Ladder.parts" (defArgs sm_parts) (defBody sm_parts) (defScope sm_parts) .none kV57 dc57 pm57 an57 cd57 ct57),sl57⟩)
    (c57:PySem.W.codeIn K cd57 "Ladder.parts"=true)
    (k57:PySem.W.keepIn K (.ref f57)=true)
    (a58:PySem.W.findIn K (.ref C) "rows"=some (some (.ref f58)))
    (i58:PySem.W.isFn K (.ref f58)=true)
    (l58:K.lookup f58=some ⟨oc58,od58,.func (PySem.W.fnOf "rows" "Ladder.rows" (defArgs sm_rows) (defBody sm_rows) (defScope sm_rows) .none kV58 dc58 pm58 an58 cd58 ct58),sl58⟩)
    (c58:PySem.W.codeIn K cd58 "Ladder.rows"=true)
    (k58:PySem.W.keepIn K (.ref f58)=true)
    (a59:PySem.W.findIn K (.ref C) "rolls"=some (some (.ref f59)))
    (i59:PySem.W.isFn K (.ref f59)=true)
    (l59:K.lookup f59=some ⟨oc59,od59,.func (PySem.W.fnOf "rolls" "Ladder.rolls" (defArgs sm_rolls) (defBody sm_rolls) (defScope sm_rolls) .none kV59 dc59 pm59 an59 cd59 ct59),sl59⟩)
    (c59:PySem.W.codeIn K cd59 "Ladder.rolls"=true)
    (k59:PySem.W.keepIn K (.ref f59)=true)
    (a60:PySem.W.findIn K (.ref C) "bar_at"=some (some (.ref f60)))
    (i60:PySem.W.isFn K (.ref f60)=true)
    (l60:K.lookup f60=some ⟨oc60,od60,.func (PySem.W.fnOf "bar_at" "Ladder.bar_at" (defArgs sm_bar_at) (defBody sm_bar_at) (defScope sm_bar_at) .none kV60 dc60 pm60 an60 cd60 ct60),sl60⟩)
    (c60:PySem.W.codeIn K cd60 "Ladder.bar_at"=true)
    (k60:PySem.W.keepIn K (.ref f60)=true)
    (a61:PySem.W.findIn K (.ref C) "stretch"=some (some (.ref f61)))
    (i61:PySem.W.isFn K (.ref f61)=true)
    (l61:K.lookup f61=some ⟨oc61,od61,.func (PySem.W.fnOf "stretch" "Ladder.stretch" (defArgs sm_stretch) (defBody sm_stretch) (defScope sm_stretch) .none kV61 dc61 pm61 an61 cd61 ct61),sl61⟩)
    (c61:PySem.W.codeIn K cd61 "Ladder.stretch"=true)
    (k61:PySem.W.keepIn K (.ref f61)=true)
    (a62:PySem.W.findIn K (.ref C) "first_moment"=some (some (.ref f62)))
    (i62:PySem.W.isFn K (.ref f62)=true)
    (l62:K.lookup f62=some ⟨oc62,od62,.func (PySem.W.fnOf "first_moment" "Ladder.first_moment" (defArgs sm_first_moment) (defBody sm_first_moment) (defScope sm_first_moment) .none kV62 dc62 pm62 an62 cd62 ct62),sl62⟩)
    (c62:PySem.W.codeIn K cd62 "Ladder.first_moment"=true)
    (k62:PySem.W.keepIn K (.ref f62)=true)
    (a63:PySem.W.findIn K (.ref C) "lesser"=some (some (.ref f63)))
    (i63:PySem.W.isFn K (.ref f63)=true)
    (l63:K.lookup f63=some ⟨oc63,od63,.func (PySem.W.fnOf "lesser" "Ladder.lesser" (defArgs sm_lesser) (defBody sm_lesser) (defScope sm_lesser) .none kV63 dc63 pm63 an63 cd63 ct63),sl63⟩)
    (c63:PySem.W.codeIn K cd63 "Ladder.lesser"=true)
    (k63:PySem.W.keepIn K (.ref f63)=true)
    (a64:PySem.W.findIn K (.ref C) "greater"=some (some (.ref f64)))
    (i64:PySem.W.isFn K (.ref f64)=true)
    (l64:K.lookup f64=some ⟨oc64,od64,.func (PySem.W.fnOf "greater" "Ladder.greater" (defArgs sm_greater) (defBody sm_greater) (defScope sm_greater) .none kV64 dc64 pm64 an64 cd64 ct64),sl64⟩)
    (c64:PySem.W.codeIn K cd64 "Ladder.greater"=true)
    (k64:PySem.W.keepIn K (.ref f64)=true)
    (esp:PySem.W.specialIn K (.builtin "object.__class__") "__get__"=some (some (.builtin "getset_descriptor.__get__")))
    (etk:PySem.W.takesIn K (.builtin "object.__class__")=some true)
    (ea_TooMany:PySem.W.nsIn K mainGlobals "TooMany"=some (some (.ref c_TooMany)))
    (eo_TooMany:PySem.W.excIn K c_TooMany bmV "ValueError.__new__"=true)
    (eg_TooMany:PySem.W.findIn K (.ref c_TooMany) "__getattribute__"=some (some (.builtin "BaseException.__getattribute__")))
    (en_TooMany:PySem.W.findIn K (.ref c_TooMany) "__getattr__"=some none)
    (ef_TooMany:PySem.W.findIn K (.ref c_TooMany) "__class__"=some (some (.builtin "object.__class__")))
    (em_TooMany:PySem.W.mroIn K c_TooMany (.type "object")=some true)
    (es_TooMany:PySem.W.subIn K (.ref c_TooMany) (.type "BaseException")=some true)
    (ec_TooMany:PySem.W.clsIn K c_TooMany=some cd_TooMany)
    (e_TooMany_TooMany:PySem.W.exmOne K (.ref c_TooMany) (.ref c_TooMany)=some true):Txt K mg C :=
  ⟨⟨_,_,fun_mk (st:=s_empty) l1 c1 k1,PySem.W.mg_of X G a1,(fun_mk (st:=s_empty) l1 c1 k1).b0 fun _ _ _ _ _ _=>rfl⟩,
   ⟨_,_,fun_mk (st:=s_in_order) l2 c2 k2,PySem.W.mg_of X G a2,(fun_mk (st:=s_in_order) l2 c2 k2).b1 fun _ _ _ _ _ _ _=>rfl⟩,
   ⟨_,_,fun_mk (st:=s_place_of) l3 c3 k3,PySem.W.mg_of X G a3,(fun_mk (st:=s_place_of) l3 c3 k3).b1 fun _ _ _ _ _ _ _=>rfl⟩,
   ⟨_,_,fun_mk (st:=s_bar_of) l4 c4 k4,PySem.W.mg_of X G a4,(fun_mk (st:=s_bar_of) l4 c4 k4).b1 fun _ _ _ _ _ _ _=>rfl⟩,
   ⟨_,_,fun_mk (st:=s_joined) l5 c5 k5,PySem.W.mg_of X G a5,(fun_mk (st:=s_joined) l5 c5 k5).b2 fun _ _ _ _ _ _ _ _=>rfl⟩,
   ⟨_,_,fun_mk (st:=s_is_whole) l6 c6 k6,PySem.W.mg_of X G a6,(fun_mk (st:=s_is_whole) l6 c6 k6).b1 fun _ _ _ _ _ _ _=>rfl⟩,
   ⟨_,_,fun_mk (st:=s_is_whole_from) l7 c7 k7,PySem.W.mg_of X G a7,(fun_mk (st:=s_is_whole_from) l7 c7 k7).b3 fun _ _ _ _ _ _ _ _ _=>rfl⟩,
   ⟨_,_,fun_mk (st:=s_is_wide) l8 c8 k8,PySem.W.mg_of X G a8,(fun_mk (st:=s_is_wide) l8 c8 k8).b1 fun _ _ _ _ _ _ _=>rfl⟩,
   ⟨_,_,fun_mk (st:=s_is_list) l9 c9 k9,PySem.W.mg_of X G a9,(fun_mk (st:=s_is_list) l9 c9 k9).b1 fun _ _ _ _ _ _ _=>rfl⟩,
   ⟨_,_,fun_mk (st:=s_is_list_from) l10 c10 k10,PySem.W.mg_of X G a10,(fun_mk (st:=s_is_list_from) l10 c10 k10).b3 fun _ _ _ _ _ _ _ _ _=>rfl⟩,
   ⟨_,_,fun_mk (st:=s_need_moment) l11 c11 k11,PySem.W.mg_of X G a11,(fun_mk (st:=s_need_moment) l11 c11 k11).b1 fun _ _ _ _ _ _ _=>rfl⟩,
   ⟨_,_,fun_mk (st:=s_need_roll) l12 c12 k12,PySem.W.mg_of X G a12,(fun_mk (st:=s_need_roll) l12 c12 k12).b3 fun _ _ _ _ _ _ _ _ _=>rfl⟩,
   ⟨_,_,fun_mk (st:=s_need_number) l13 c13 k13,PySem.W.mg_of X G a13,(fun_mk (st:=s_need_number) l13 c13 k13).b1 fun _ _ _ _ _ _ _=>rfl⟩,
   ⟨_,_,fun_mk (st:=s_between) l14 c14 k14,PySem.W.mg_of X G a14,(fun_mk (st:=s_between) l14 c14 k14).b3 fun _ _ _ _ _ _ _ _ _=>rfl⟩,
   ⟨_,_,fun_mk (st:=s_cover) l15 c15 k15,PySem.W.mg_of X G a15,(fun_mk (st:=s_cover) l15 c15 k15).b3 fun _ _ _ _ _ _ _ _ _=>rfl⟩,
   ⟨_,_,fun_mk (st:=s_need_time) l16 c16 k16,PySem.W.mg_of X G a16,(fun_mk (st:=s_need_time) l16 c16 k16).b2 fun _ _ _ _ _ _ _ _=>rfl⟩,
   ⟨_,_,fun_mk (st:=s_first_begun) l17 c17 k17,PySem.W.mg_of X G a17,(fun_mk (st:=s_first_begun) l17 c17 k17).b2 fun _ _ _ _ _ _ _ _=>rfl⟩,
   ⟨_,_,fun_mk (st:=s_rest_between) l18 c18 k18,PySem.W.mg_of X G a18,(fun_mk (st:=s_rest_between) l18 c18 k18).b2 fun _ _ _ _ _ _ _ _=>rfl⟩,
   ⟨_,_,fun_mk (st:=s_greatest_runs) l19 c19 k19,PySem.W.mg_of X G a19,(fun_mk (st:=s_greatest_runs) l19 c19 k19).b3 fun _ _ _ _ _ _ _ _ _=>rfl⟩,
   ⟨_,_,fun_mk (st:=s_greater_within) l20 c20 k20,PySem.W.mg_of X G a20,(fun_mk (st:=s_greater_within) l20 c20 k20).b4 fun _ _ _ _ _ _ _ _ _ _=>rfl⟩,
   ⟨_,_,fun_mk (st:=s_bar_of_cover) l21 c21 k21,PySem.W.mg_of X G a21,(fun_mk (st:=s_bar_of_cover) l21 c21 k21).b3 fun _ _ _ _ _ _ _ _ _=>rfl⟩,
   ⟨_,_,fun_mk (st:=s_piece_stretch) l22 c22 k22,PySem.W.mg_of X G a22,(fun_mk (st:=s_piece_stretch) l22 c22 k22).b2 fun _ _ _ _ _ _ _ _=>rfl⟩,
   ⟨_,_,fun_mk (st:=s_first_of) l23 c23 k23,PySem.W.mg_of X G a23,(fun_mk (st:=s_first_of) l23 c23 k23).b3 fun _ _ _ _ _ _ _ _ _=>rfl⟩,
   ⟨_,_,fun_mk (st:=s_size_of) l24 c24 k24,PySem.W.mg_of X G a24,(fun_mk (st:=s_size_of) l24 c24 k24).b2 fun _ _ _ _ _ _ _ _=>rfl⟩,
   ⟨_,_,fun_mk (st:=s_number_of) l25 c25 k25,PySem.W.mg_of X G a25,(fun_mk (st:=s_number_of) l25 c25 k25).b3 fun _ _ _ _ _ _ _ _ _=>rfl⟩,
   ⟨_,_,fun_mk (st:=s_is_part) l26 c26 k26,PySem.W.mg_of X G a26,(fun_mk (st:=s_is_part) l26 c26 k26).b1 fun _ _ _ _ _ _ _=>rfl⟩,
   ⟨_,_,fun_mk (st:=s_are_parts) l27 c27 k27,PySem.W.mg_of X G a27,(fun_mk (st:=s_are_parts) l27 c27 k27).b1 fun _ _ _ _ _ _ _=>rfl⟩,
   ⟨_,_,fun_mk (st:=s_are_sizes) l28 c28 k28,PySem.W.mg_of X G a28,(fun_mk (st:=s_are_sizes) l28 c28 k28).b1 fun _ _ _ _ _ _ _=>rfl⟩,
   ⟨_,_,fun_mk (st:=s_is_row) l29 c29 k29,PySem.W.mg_of X G a29,(fun_mk (st:=s_is_row) l29 c29 k29).b1 fun _ _ _ _ _ _ _=>rfl⟩,
   ⟨_,_,fun_mk (st:=s_are_rows) l30 c30 k30,PySem.W.mg_of X G a30,(fun_mk (st:=s_are_rows) l30 c30 k30).b1 fun _ _ _ _ _ _ _=>rfl⟩,
   ⟨_,_,fun_mk (st:=s_bar_lengths) l31 c31 k31,PySem.W.mg_of X G a31,(fun_mk (st:=s_bar_lengths) l31 c31 k31).b1 fun _ _ _ _ _ _ _=>rfl⟩,
   ⟨_,_,fun_mk (st:=s_law_pot) l32 c32 k32,PySem.W.mg_of X G a32,(fun_mk (st:=s_law_pot) l32 c32 k32).b2 fun _ _ _ _ _ _ _ _=>rfl⟩,
   ⟨_,_,fun_mk (st:=s_law_digit) l33 c33 k33,PySem.W.mg_of X G a33,(fun_mk (st:=s_law_digit) l33 c33 k33).b2 fun _ _ _ _ _ _ _ _=>rfl⟩,
   ⟨_,_,fun_mk (st:=s_law_wide) l34 c34 k34,PySem.W.mg_of X G a34,(fun_mk (st:=s_law_wide) l34 c34 k34).b1 fun _ _ _ _ _ _ _=>rfl⟩,
   ⟨_,_,fun_mk (st:=s_law_part) l35 c35 k35,PySem.W.mg_of X G a35,(fun_mk (st:=s_law_part) l35 c35 k35).b2 fun _ _ _ _ _ _ _ _=>rfl⟩,
   ⟨_,_,fun_mk (st:=s_law_sizes) l36 c36 k36,PySem.W.mg_of X G a36,(fun_mk (st:=s_law_sizes) l36 c36 k36).b1 fun _ _ _ _ _ _ _=>rfl⟩,
   ⟨_,_,fun_mk (st:=s_law_drawn) l37 c37 k37,PySem.W.mg_of X G a37,(fun_mk (st:=s_law_drawn) l37 c37 k37).b1 fun _ _ _ _ _ _ _=>rfl⟩,
   ⟨_,_,fun_mk (st:=s_law_turn) l38 c38 k38,PySem.W.mg_of X G a38,(fun_mk (st:=s_law_turn) l38 c38 k38).b1 fun _ _ _ _ _ _ _=>rfl⟩,
   ⟨_,_,fun_mk (st:=s_law_starts) l39 c39 k39,PySem.W.mg_of X G a39,(fun_mk (st:=s_law_starts) l39 c39 k39).b1 fun _ _ _ _ _ _ _=>rfl⟩,
   ⟨_,_,fun_mk (st:=s_law_lowest) l40 c40 k40,PySem.W.mg_of X G a40,(fun_mk (st:=s_law_lowest) l40 c40 k40).b2 fun _ _ _ _ _ _ _ _=>rfl⟩,
   ⟨_,_,fun_mk (st:=s_law_raised) l41 c41 k41,PySem.W.mg_of X G a41,(fun_mk (st:=s_law_raised) l41 c41 k41).b2 fun _ _ _ _ _ _ _ _=>rfl⟩,
   ⟨_,_,fun_mk (st:=s_law_lowered) l42 c42 k42,PySem.W.mg_of X G a42,(fun_mk (st:=s_law_lowered) l42 c42 k42).b2 fun _ _ _ _ _ _ _ _=>rfl⟩,
   ⟨_,_,fun_mk (st:=s_law_begins) l43 c43 k43,PySem.W.mg_of X G a43,(fun_mk (st:=s_law_begins) l43 c43 k43).b3 fun _ _ _ _ _ _ _ _ _=>rfl⟩,
   ⟨_,_,fun_mk (st:=s_law_moment) l44 c44 k44,PySem.W.mg_of X G a44,(fun_mk (st:=s_law_moment) l44 c44 k44).b2 fun _ _ _ _ _ _ _ _=>rfl⟩,
   ⟨_,_,fun_mk (st:=s_law_key) l45 c45 k45,PySem.W.mg_of X G a45,(fun_mk (st:=s_law_key) l45 c45 k45).b2 fun _ _ _ _ _ _ _ _=>rfl⟩,
   ⟨_,_,fun_mk (st:=s_law_entries) l46 c46 k46,PySem.W.mg_of X G a46,(fun_mk (st:=s_law_entries) l46 c46 k46).b3 fun _ _ _ _ _ _ _ _ _=>rfl⟩,
   ⟨_,_,fun_mk (st:=s_law_bar) l47 c47 k47,PySem.W.mg_of X G a47,(fun_mk (st:=s_law_bar) l47 c47 k47).b1 fun _ _ _ _ _ _ _=>rfl⟩,
   ⟨_,_,fun_mk (st:=s_law_time) l48 c48 k48,PySem.W.mg_of X G a48,(fun_mk (st:=s_law_time) l48 c48 k48).b2 fun _ _ _ _ _ _ _ _=>rfl⟩,
   ⟨_,_,fun_mk (st:=s_law_within) l49 c49 k49,PySem.W.mg_of X G a49,(fun_mk (st:=s_law_within) l49 c49 k49).b3 fun _ _ _ _ _ _ _ _ _=>rfl⟩,
   ⟨_,_,fun_mk (st:=s_law_handed) l50 c50 k50,PySem.W.mg_of X G a50,(fun_mk (st:=s_law_handed) l50 c50 k50).b2 fun _ _ _ _ _ _ _ _=>rfl⟩,
   ⟨_,_,fun_mk (st:=s_law_cover) l51 c51 k51,PySem.W.mg_of X G a51,(fun_mk (st:=s_law_cover) l51 c51 k51).b3 fun _ _ _ _ _ _ _ _ _=>rfl⟩,
   ⟨_,_,fun_mk (st:=s_law_cover_right) l52 c52 k52,PySem.W.mg_of X G a52,(fun_mk (st:=s_law_cover_right) l52 c52 k52).b5 fun _ _ _ _ _ _ _ _ _ _ _=>rfl⟩,
   ⟨_,_,fun_mk (st:=s_law_right) l53 c53 k53,PySem.W.mg_of X G a53,(fun_mk (st:=s_law_right) l53 c53 k53).b4 fun _ _ _ _ _ _ _ _ _ _=>rfl⟩,
   ⟨_,_,fun_mk (st:=s_law) l54 c54 k54,PySem.W.mg_of X G a54,(fun_mk (st:=s_law) l54 c54 k54).b1 fun _ _ _ _ _ _ _=>rfl⟩,
   ⟨_,PySem.W.mg_of X G c_WIDE_END⟩,
   ⟨_,PySem.W.mg_of X G c_NUMBER_END⟩,
   ⟨_,PySem.W.mg_of X G c_MOST_PIECES⟩,
   ⟨_,PySem.W.mg_of X G c_MOST_PARTS⟩,
   ⟨_,PySem.W.mg_of X G c_MOST_LENGTH⟩,
   ⟨_,PySem.W.mg_of X G c_MOST_ROWS⟩,
   ⟨_,PySem.W.mg_of X G c_MOST_SIZES⟩,
   ⟨_,PySem.W.mg_of X G c_MOST_SIZE⟩,
   PySem.W.mg_none_of X G b_ValueError,
   PySem.W.mg_none_of X G b_abs,
   PySem.W.mg_none_of X G b_all,
   PySem.W.mg_none_of X G b_bool,
   PySem.W.mg_none_of X G b_divmod,
   PySem.W.mg_none_of X G b_int,
   PySem.W.mg_none_of X G b_isinstance,
   PySem.W.mg_none_of X G b_len,
   PySem.W.mg_none_of X G b_list,
   PySem.W.mg_none_of X G b_max,
   PySem.W.mg_none_of X G b_min,
   PySem.W.mg_none_of X G b_range,
   PySem.W.mg_none_of X G b_repr,
   PySem.W.mg_none_of X G b_reversed,
   PySem.W.mg_none_of X G b_sorted,
   PySem.W.mg_none_of X G b_str,
   PySem.W.mg_none_of X G b_sum,
   PySem.W.mg_none_of X G b_tuple,
   ⟨pg,hd,po,sa⟩,
   PySem.W.mg_of X G aC,
   n_open_lengths,
   n_part_lengths,
   n_steps,
   ⟨_,_,(fun_mk (st:=sm_init) l55 c55 k55),⟨mk,a55,i55,kc⟩,(fun_mk (st:=sm_init) l55 c55 k55).b4 fun _ _ _ _ _ _ _ _ _ _=>rfl⟩,
   ⟨_,_,(fun_mk (st:=sm_begin) l56 c56 k56),⟨a56,i56,k56⟩,(fun_mk (st:=sm_begin) l56 c56 k56).b1 fun _ _ _ _ _ _ _=>rfl⟩,
   ⟨_,_,(fun_mk (st:=sm_parts) l57 c57 k57),⟨a57,i57,k57⟩,(fun_mk (st:=sm_parts) l57 c57 k57).b1 fun _ _ _ _ _ _ _=>rfl⟩,
   ⟨_,_,(fun_mk (st:=sm_rows) l58 c58 k58),⟨a58,i58,k58⟩,(fun_mk (st:=sm_rows) l58 c58 k58).b1 fun _ _ _ _ _ _ _=>rfl⟩,
   ⟨_,_,(fun_mk (st:=sm_rolls) l59 c59 k59),⟨a59,i59,k59⟩,(fun_mk (st:=sm_rolls) l59 c59 k59).b1 fun _ _ _ _ _ _ _=>rfl⟩,
   ⟨_,_,(fun_mk (st:=sm_bar_at) l60 c60 k60),⟨a60,i60,k60⟩,(fun_mk (st:=sm_bar_at) l60 c60 k60).b3 fun _ _ _ _ _ _ _ _ _=>rfl⟩,
   ⟨_,_,(fun_mk (st:=sm_stretch) l61 c61 k61),⟨a61,i61,k61⟩,(fun_mk (st:=sm_stretch) l61 c61 k61).b3 fun _ _ _ _ _ _ _ _ _=>rfl⟩,
   ⟨_,_,(fun_mk (st:=sm_first_moment) l62 c62 k62),⟨a62,i62,k62⟩,(fun_mk (st:=sm_first_moment) l62 c62 k62).b3 fun _ _ _ _ _ _ _ _ _=>rfl⟩,
   ⟨_,_,(fun_mk (st:=sm_lesser) l63 c63 k63),⟨a63,i63,k63⟩,(fun_mk (st:=sm_lesser) l63 c63 k63).b3 fun _ _ _ _ _ _ _ _ _=>rfl⟩,
   ⟨_,_,(fun_mk (st:=sm_greater) l64 c64 k64),⟨a64,i64,k64⟩,(fun_mk (st:=sm_greater) l64 c64 k64).b3 fun _ _ _ _ _ _ _ _ _=>rfl⟩,
   xc_mk (PySem.W.mg_of X G ea_TooMany) eo_TooMany eg_TooMany en_TooMany ef_TooMany esp etk em_TooMany es_TooMany ec_TooMany,
   (by rw [cOf_eq (PySem.W.mg_of X G ea_TooMany)]; exact e_TooMany_TooMany)⟩
end Pr
open PySem PySem.W PyProof.Rows
def PySem.W.Fast.tw10258873121960336067 : Nat := 0
def PySem.W.Fast.tw10295913840692754127 : Nat := 0
def PySem.W.Fast.tw10368827614151553891 : Nat := 0
def PySem.W.Fast.tw10510019762269167821 : Nat := 0
def PySem.W.Fast.tw10698057553749749337 : Nat := 0
def PySem.W.Fast.tw10778862844796284456 : Nat := 0
def PySem.W.Fast.tw10826640976665885199 : Nat := 0
def PySem.W.Fast.tw10888863842102328177 : Nat := 0
def PySem.W.Fast.tw10988312798546598065 : Nat := 0
def PySem.W.Fast.tw11033627544408312984 : Nat := 0
def PySem.W.Fast.tw11284616107681220019 : Nat := 0
def PySem.W.Fast.tw11485923223005469204 : Nat := 0
def PySem.W.Fast.tw11513857634932158529 : Nat := 0
def PySem.W.Fast.tw11925974296885277660 : Nat := 0
def PySem.W.Fast.tw1205604411410820431 : Nat := 0
def PySem.W.Fast.tw1207101557538958131 : Nat := 0
def PySem.W.Fast.tw12103309309050226592 : Nat := 0
def PySem.W.Fast.tw12188032599808994241 : Nat := 0
def PySem.W.Fast.tw12314708539913122752 : Nat := 0
def PySem.W.Fast.tw12320846421978348468 : Nat := 0
def PySem.W.Fast.tw12330612334027959195 : Nat := 0
def PySem.W.Fast.tw12431713363859531893 : Nat := 0
def PySem.W.Fast.tw12459912946257978736 : Nat := 0
def PySem.W.Fast.tw1251388686125282213 : Nat := 0
def PySem.W.Fast.tw12534955797733760435 : Nat := 0
def PySem.W.Fast.tw12740759652641322565 : Nat := 0
def PySem.W.Fast.tw13053770412826190925 : Nat := 0
def PySem.W.Fast.tw13265978090383273239 : Nat := 0
def PySem.W.Fast.tw13394580363473044415 : Nat := 0
def PySem.W.Fast.tw13674586047789940208 : Nat := 0
def PySem.W.Fast.tw13812277999558781770 : Nat := 0
def PySem.W.Fast.tw13831308528885131752 : Nat := 0
def PySem.W.Fast.tw1401067106901849026 : Nat := 0
def PySem.W.Fast.tw14074196154385387334 : Nat := 0
def PySem.W.Fast.tw14154597600763967237 : Nat := 0
def PySem.W.Fast.tw14226173905949225808 : Nat := 0
def PySem.W.Fast.tw14387916025512776202 : Nat := 0
def PySem.W.Fast.tw14404928986312190071 : Nat := 0
def PySem.W.Fast.tw14424681132571578402 : Nat := 0
def PySem.W.Fast.tw14594121865129679737 : Nat := 0
def PySem.W.Fast.tw14678943786356421948 : Nat := 0
def PySem.W.Fast.tw14689541978594310382 : Nat := 0
def PySem.W.Fast.tw14859695947638507448 : Nat := 0
def PySem.W.Fast.tw1495895850433845275 : Nat := 0
def PySem.W.Fast.tw14961746396406840608 : Nat := 0
def PySem.W.Fast.tw15142666989864626641 : Nat := 0
def PySem.W.Fast.tw15214748959534726111 : Nat := 0
def PySem.W.Fast.tw15235614512728720 : Nat := 0
def PySem.W.Fast.tw15240619367488684849 : Nat := 0
def PySem.W.Fast.tw15685335758407661847 : Nat := 0
def PySem.W.Fast.tw15752536640612570366 : Nat := 0
def PySem.W.Fast.tw15895094517606616290 : Nat := 0
def PySem.W.Fast.tw15916013147842562308 : Nat := 0
def PySem.W.Fast.tw159827433476910486 : Nat := 0
def PySem.W.Fast.tw16003985067176294414 : Nat := 0
def PySem.W.Fast.tw16203965252921439515 : Nat := 0
def PySem.W.Fast.tw16217903435359918192 : Nat := 0
def PySem.W.Fast.tw16229202489276428455 : Nat := 0
def PySem.W.Fast.tw16248296213531012650 : Nat := 0
def PySem.W.Fast.tw16506471722634982818 : Nat := 0
def PySem.W.Fast.tw16721508838639397229 : Nat := 0
def PySem.W.Fast.tw16753820520455620202 : Nat := 0
def PySem.W.Fast.tw16822532161544500889 : Nat := 0
def PySem.W.Fast.tw16937879542928416138 : Nat := 0
def PySem.W.Fast.tw1717767836212652739 : Nat := 0
def PySem.W.Fast.tw17213954423114199821 : Nat := 0
def PySem.W.Fast.tw17260811203177919210 : Nat := 0
def PySem.W.Fast.tw17348111734160510231 : Nat := 0
def PySem.W.Fast.tw17691633702590694504 : Nat := 0
def PySem.W.Fast.tw17852080271459398996 : Nat := 0
def PySem.W.Fast.tw17963105932079019327 : Nat := 0
def PySem.W.Fast.tw18146532975450069615 : Nat := 0
def PySem.W.Fast.tw18237906538492839801 : Nat := 0
def PySem.W.Fast.tw18367749455379333440 : Nat := 0
def PySem.W.Fast.tw1922157984580058403 : Nat := 0
def PySem.W.Fast.tw1937721966566455358 : Nat := 0
def PySem.W.Fast.tw1950803216711332702 : Nat := 0
def PySem.W.Fast.tw2237833844302104130 : Nat := 0
def PySem.W.Fast.tw2305414408130554292 : Nat := 0
def PySem.W.Fast.tw2358075552688931204 : Nat := 0
def PySem.W.Fast.tw247591363613054380 : Nat := 0
def PySem.W.Fast.tw2483420100392427323 : Nat := 0
def PySem.W.Fast.tw256976265262469064 : Nat := 0
def PySem.W.Fast.tw2694234056635809718 : Nat := 0
def PySem.W.Fast.tw2741014181512449073 : Nat := 0
def PySem.W.Fast.tw2827255003249426055 : Nat := 0
def PySem.W.Fast.tw2875624504187281209 : Nat := 0
def PySem.W.Fast.tw3049343062529576306 : Nat := 0
def PySem.W.Fast.tw3110587219445414310 : Nat := 0
def PySem.W.Fast.tw3328698262378449831 : Nat := 0
def PySem.W.Fast.tw3365755272349913518 : Nat := 0
def PySem.W.Fast.tw354308444213283272 : Nat := 0
def PySem.W.Fast.tw3713540243193553862 : Nat := 0
def PySem.W.Fast.tw3778530596728393105 : Nat := 0
def PySem.W.Fast.tw3916924956782111165 : Nat := 0
def PySem.W.Fast.tw3919386906821981792 : Nat := 0
def PySem.W.Fast.tw4334401890000744311 : Nat := 0
def PySem.W.Fast.tw4667185482029572820 : Nat := 0
def PySem.W.Fast.tw4699756791338806529 : Nat := 0
def PySem.W.Fast.tw5072417060200589145 : Nat := 0
def PySem.W.Fast.tw5501259433348887635 : Nat := 0
def PySem.W.Fast.tw5660693792873045834 : Nat := 0
def PySem.W.Fast.tw6060609690816243450 : Nat := 0
def PySem.W.Fast.tw6154823086004874393 : Nat := 0
def PySem.W.Fast.tw6248682570935725439 : Nat := 0
def PySem.W.Fast.tw6420159726195949164 : Nat := 0
def PySem.W.Fast.tw6522051377940421278 : Nat := 0
def PySem.W.Fast.tw6542358382571353910 : Nat := 0
def PySem.W.Fast.tw6594970650091316094 : Nat := 0
def PySem.W.Fast.tw6782663255696616371 : Nat := 0
def PySem.W.Fast.tw7001957589650049515 : Nat := 0
def PySem.W.Fast.tw730961619353400375 : Nat := 0
def PySem.W.Fast.tw7480016910919988345 : Nat := 0
def PySem.W.Fast.tw7774113678449685934 : Nat := 0
def PySem.W.Fast.tw8002303944043701648 : Nat := 0
def PySem.W.Fast.tw8222940686941784037 : Nat := 0
def PySem.W.Fast.tw8318101203651539667 : Nat := 0
def PySem.W.Fast.tw8331849164307833061 : Nat := 0
def PySem.W.Fast.tw8422229294311615681 : Nat := 0
def PySem.W.Fast.tw8546443801280560121 : Nat := 0
def PySem.W.Fast.tw861502493610598483 : Nat := 0
def PySem.W.Fast.tw890339118813698166 : Nat := 0
def PySem.W.Fast.tw8966131664815694762 : Nat := 0
def PySem.W.Fast.tw8997383693586321770 : Nat := 0
def PySem.W.Fast.tw9113380124883318265 : Nat := 0
def PySem.W.Fast.tw9266374589662076923 : Nat := 0
def PySem.W.Fast.tw9461742886902052208 : Nat := 0
def PySem.W.Fast.tw9510108024173832781 : Nat := 0
def PySem.W.Fast.tw9542682197918810714 : Nat := 0
def PySem.W.Fast.tw9628386662896749208 : Nat := 0
def PySem.W.Fast.tw9692319085095946327 : Nat := 0
def PySem.W.Fast.tw9705477135408329381 : Nat := 0
set_option maxHeartbeats 0 in
open_top hd for PySem.Challenge.rw_peakroll_k43_whole_bars_of_covers
set_option maxHeartbeats 0 in
theorem PySem.Challenge.cw_peakroll_k43_whole_bars_of_covers_holds : PySem.Challenge.rw_peakroll_k43_whole_bars_of_covers.Holds := by
  refine hd ?_
  k_fill
  refine Pr.walk (l := PySem.Challenge.rw_peakroll_k43_whole_bars_of_covers) rfl rfl (fun w h Y => PySem.W.kIn_of Y) ?F
  case F =>
    intro w mg fa h KX G hmg
    have T : ∃ C, Pr.Txt (L2.KOf KX) mg C := by
      dsimp only [L2.KOf]
      refine' ⟨_, Pr.txt_mk KX G ?aC ?a1 ?l1 ?c1 ?k1 ?a2 ?l2 ?c2 ?k2 ?a3 ?l3 ?c3 ?k3 ?a4 ?l4 ?c4 ?k4 ?a5 ?l5 ?c5 ?k5 ?a6 ?l6 ?c6 ?k6 ?a7 ?l7 ?c7 ?k7 ?a8 ?l8 ?c8 ?k8 ?a9 ?l9 ?c9 ?k9 ?a10 ?l10 ?c10 ?k10 ?a11 ?l11 ?c11 ?k11 ?a12 ?l12 ?c12 ?k12 ?a13 ?l13 ?c13 ?k13 ?a14 ?l14 ?c14 ?k14 ?a15 ?l15 ?c15 ?k15 ?a16 ?l16 ?c16 ?k16 ?a17 ?l17 ?c17 ?k17 ?a18 ?l18 ?c18 ?k18 ?a19 ?l19 ?c19 ?k19 ?a20 ?l20 ?c20 ?k20 ?a21 ?l21 ?c21 ?k21 ?a22 ?l22 ?c22 ?k22 ?a23 ?l23 ?c23 ?k23 ?a24 ?l24 ?c24 ?k24 ?a25 ?l25 ?c25 ?k25 ?a26 ?l26 ?c26 ?k26 ?a27 ?l27 ?c27 ?k27 ?a28 ?l28 ?c28 ?k28 ?a29 ?l29 ?c29 ?k29 ?a30 ?l30 ?c30 ?k30 ?a31 ?l31 ?c31 ?k31 ?a32 ?l32 ?c32 ?k32 ?a33 ?l33 ?c33 ?k33 ?a34 ?l34 ?c34 ?k34 ?a35 ?l35 ?c35 ?k35 ?a36 ?l36 ?c36 ?k36 ?a37 ?l37 ?c37 ?k37 ?a38 ?l38 ?c38 ?k38 ?a39 ?l39 ?c39 ?k39 ?a40 ?l40 ?c40 ?k40 ?a41 ?l41 ?c41 ?k41 ?a42 ?l42 ?c42 ?k42 ?a43 ?l43 ?c43 ?k43 ?a44 ?l44 ?c44 ?k44 ?a45 ?l45 ?c45 ?k45 ?a46 ?l46 ?c46 ?k46 ?a47 ?l47 ?c47 ?k47 ?a48 ?l48 ?c48 ?k48 ?a49 ?l49 ?c49 ?k49 ?a50 ?l50 ?c50 ?k50 ?a51 ?l51 ?c51 ?k51 ?a52 ?l52 ?c52 ?k52 ?a53 ?l53 ?c53 ?k53 ?a54 ?l54 ?c54 ?k54 ?c_WIDE_END ?c_NUMBER_END ?c_MOST_PIECES ?c_MOST_PARTS ?c_MOST_LENGTH ?c_MOST_ROWS ?c_MOST_SIZES ?c_MOST_SIZE ?b_ValueError ?b_abs ?b_all ?b_bool ?b_divmod ?b_int ?b_isinstance ?b_len ?b_list ?b_max ?b_min ?b_range ?b_repr ?b_reversed ?b_sorted ?b_str ?b_sum ?b_tuple ?pg ?hd ?po ?sa ?mk ?kc ?n_open_lengths ?n_part_lengths ?n_steps ?a55 ?i55 ?l55 ?c55 ?k55 ?a56 ?i56 ?l56 ?c56 ?k56 ?a57 ?i57 ?l57 ?c57 ?k57 ?a58 ?i58 ?l58 ?c58 ?k58 ?a59 ?i59 ?l59 ?c59 ?k59 ?a60 ?i60 ?l60 ?c60 ?k60 ?a61 ?i61 ?l61 ?c61 ?k61 ?a62 ?i62 ?l62 ?c62 ?k62 ?a63 ?i63 ?l63 ?c63 ?k63 ?a64 ?i64 ?l64 ?c64 ?k64 ?esp ?etk ?ea_TooMany ?eo_TooMany ?eg_TooMany ?en_TooMany ?ef_TooMany ?em_TooMany ?es_TooMany ?ec_TooMany ?e_TooMany_TooMany⟩
      (case aC => k_is)
      (case a1 => k_is)
      (case l1 => k_is)
      (case c1 => k_is)
      (case k1 => k_is)
      (case a2 => k_is)
      (case l2 => k_is)
      (case c2 => k_is)
      (case k2 => k_is)
      (case a3 => k_is)
      (case l3 => k_is)
      (case c3 => k_is)
      (case k3 => k_is)
      (case a4 => k_is)
      (case l4 => k_is)
      (case c4 => k_is)
      (case k4 => k_is)
      (case a5 => k_is)
      (case l5 => k_is)
      (case c5 => k_is)
      (case k5 => k_is)
      (case a6 => k_is)
      (case l6 => k_is)
      (case c6 => k_is)
      (case k6 => k_is)
      (case a7 => k_is)
      (case l7 => k_is)
      (case c7 => k_is)
      (case k7 => k_is)
      (case a8 => k_is)
      (case l8 => k_is)
      (case c8 => k_is)
      (case k8 => k_is)
      (case a9 => k_is)
      (case l9 => k_is)
      (case c9 => k_is)
      (case k9 => k_is)
      (case a10 => k_is)
      (case l10 => k_is)
      (case c10 => k_is)
      (case k10 => k_is)
      (case a11 => k_is)
      (case l11 => k_is)
      (case c11 => k_is)
      (case k11 => k_is)
      (case a12 => k_is)
      (case l12 => k_is)
      (case c12 => k_is)
      (case k12 => k_is)
      (case a13 => k_is)
      (case l13 => k_is)
      (case c13 => k_is)
      (case k13 => k_is)
      (case a14 => k_is)
      (case l14 => k_is)
      (case c14 => k_is)
      (case k14 => k_is)
      (case a15 => k_is)
      (case l15 => k_is)
      (case c15 => k_is)
      (case k15 => k_is)
      (case a16 => k_is)
      (case l16 => k_is)
      (case c16 => k_is)
      (case k16 => k_is)
      (case a17 => k_is)
      (case l17 => k_is)
      (case c17 => k_is)
      (case k17 => k_is)
      (case a18 => k_is)
      (case l18 => k_is)
      (case c18 => k_is)
      (case k18 => k_is)
      (case a19 => k_is)
      (case l19 => k_is)
      (case c19 => k_is)
      (case k19 => k_is)
      (case a20 => k_is)
      (case l20 => k_is)
      (case c20 => k_is)
      (case k20 => k_is)
      (case a21 => k_is)
      (case l21 => k_is)
      (case c21 => k_is)
      (case k21 => k_is)
      (case a22 => k_is)
      (case l22 => k_is)
      (case c22 => k_is)
      (case k22 => k_is)
      (case a23 => k_is)
      (case l23 => k_is)
      (case c23 => k_is)
      (case k23 => k_is)
      (case a24 => k_is)
      (case l24 => k_is)
      (case c24 => k_is)
      (case k24 => k_is)
      (case a25 => k_is)
      (case l25 => k_is)
      (case c25 => k_is)
      (case k25 => k_is)
      (case a26 => k_is)
      (case l26 => k_is)
      (case c26 => k_is)
      (case k26 => k_is)
      (case a27 => k_is)
      (case l27 => k_is)
      (case c27 => k_is)
      (case k27 => k_is)
      (case a28 => k_is)
      (case l28 => k_is)
      (case c28 => k_is)
      (case k28 => k_is)
      (case a29 => k_is)
      (case l29 => k_is)
      (case c29 => k_is)
      (case k29 => k_is)
      (case a30 => k_is)
      (case l30 => k_is)
      (case c30 => k_is)
      (case k30 => k_is)
      (case a31 => k_is)
      (case l31 => k_is)
      (case c31 => k_is)
      (case k31 => k_is)
      (case a32 => k_is)
      (case l32 => k_is)
      (case c32 => k_is)
      (case k32 => k_is)
      (case a33 => k_is)
      (case l33 => k_is)
      (case c33 => k_is)
      (case k33 => k_is)
      (case a34 => k_is)
      (case l34 => k_is)
      (case c34 => k_is)
      (case k34 => k_is)
      (case a35 => k_is)
      (case l35 => k_is)
      (case c35 => k_is)
      (case k35 => k_is)
      (case a36 => k_is)
      (case l36 => k_is)
      (case c36 => k_is)
      (case k36 => k_is)
      (case a37 => k_is)
      (case l37 => k_is)
      (case c37 => k_is)
      (case k37 => k_is)
      (case a38 => k_is)
      (case l38 => k_is)
      (case c38 => k_is)
      (case k38 => k_is)
      (case a39 => k_is)
      (case l39 => k_is)
      (case c39 => k_is)
      (case k39 => k_is)
      (case a40 => k_is)
      (case l40 => k_is)
      (case c40 => k_is)
      (case k40 => k_is)
      (case a41 => k_is)
      (case l41 => k_is)
      (case c41 => k_is)
      (case k41 => k_is)
      (case a42 => k_is)
      (case l42 => k_is)
      (case c42 => k_is)
      (case k42 => k_is)
      (case a43 => k_is)
      (case l43 => k_is)
      (case c43 => k_is)
      (case k43 => k_is)
      (case a44 => k_is)
      (case l44 => k_is)
      (case c44 => k_is)
      (case k44 => k_is)
      (case a45 => k_is)
      (case l45 => k_is)
      (case c45 => k_is)
      (case k45 => k_is)
      (case a46 => k_is)
      (case l46 => k_is)
      (case c46 => k_is)
      (case k46 => k_is)
      (case a47 => k_is)
      (case l47 => k_is)
      (case c47 => k_is)
      (case k47 => k_is)
      (case a48 => k_is)
      (case l48 => k_is)
      (case c48 => k_is)
      (case k48 => k_is)
      (case a49 => k_is)
      (case l49 => k_is)
      (case c49 => k_is)
      (case k49 => k_is)
      (case a50 => k_is)
      (case l50 => k_is)
      (case c50 => k_is)
      (case k50 => k_is)
      (case a51 => k_is)
      (case l51 => k_is)
      (case c51 => k_is)
      (case k51 => k_is)
      (case a52 => k_is)
      (case l52 => k_is)
      (case c52 => k_is)
      (case k52 => k_is)
      (case a53 => k_is)
      (case l53 => k_is)
      (case c53 => k_is)
      (case k53 => k_is)
      (case a54 => k_is)
      (case l54 => k_is)
      (case c54 => k_is)
      (case k54 => k_is)
      (case c_WIDE_END => k_is)
      (case c_NUMBER_END => k_is)
      (case c_MOST_PIECES => k_is)
      (case c_MOST_PARTS => k_is)
      (case c_MOST_LENGTH => k_is)
      (case c_MOST_ROWS => k_is)
      (case c_MOST_SIZES => k_is)
      (case c_MOST_SIZE => k_is)
      (case b_ValueError => k_is)
      (case b_abs => k_is)
      (case b_all => k_is)
      (case b_bool => k_is)
      (case b_divmod => k_is)
      (case b_int => k_is)
      (case b_isinstance => k_is)
      (case b_len => k_is)
      (case b_list => k_is)
      (case b_max => k_is)
      (case b_min => k_is)
      (case b_range => k_is)
      (case b_repr => k_is)
      (case b_reversed => k_is)
      (case b_sorted => k_is)
      (case b_str => k_is)
      (case b_sum => k_is)
      (case b_tuple => k_is)
      (case pg => k_is)
      (case hd => k_is)
      (case po => k_is)
      (case sa => k_is)
      (case mk => k_is)
      (case kc => k_is)
      (case n_open_lengths => k_is)
      (case n_part_lengths => k_is)
      (case n_steps => k_is)
      (case a55 => k_is)
      (case i55 => k_is)
      (case l55 => k_is)
      (case c55 => k_is)
      (case k55 => k_is)
      (case a56 => k_is)
      (case i56 => k_is)
      (case l56 => k_is)
      (case c56 => k_is)
      (case k56 => k_is)
      (case a57 => k_is)
      (case i57 => k_is)
      (case l57 => k_is)
      (case c57 => k_is)
      (case k57 => k_is)
      (case a58 => k_is)
      (case i58 => k_is)
      (case l58 => k_is)
      (case c58 => k_is)
      (case k58 => k_is)
      (case a59 => k_is)
      (case i59 => k_is)
      (case l59 => k_is)
      (case c59 => k_is)
      (case k59 => k_is)
      (case a60 => k_is)
      (case i60 => k_is)
      (case l60 => k_is)
      (case c60 => k_is)
      (case k60 => k_is)
      (case a61 => k_is)
      (case i61 => k_is)
      (case l61 => k_is)
      (case c61 => k_is)
      (case k61 => k_is)
      (case a62 => k_is)
      (case i62 => k_is)
      (case l62 => k_is)
      (case c62 => k_is)
      (case k62 => k_is)
      (case a63 => k_is)
      (case i63 => k_is)
      (case l63 => k_is)
      (case c63 => k_is)
      (case k63 => k_is)
      (case a64 => k_is)
      (case i64 => k_is)
      (case l64 => k_is)
      (case c64 => k_is)
      (case k64 => k_is)
      (case esp => k_is)
      (case etk => k_is)
      (case ea_TooMany => k_is)
      (case eo_TooMany => k_exc)
      (case eg_TooMany => k_is)
      (case en_TooMany => k_is)
      (case ef_TooMany => k_is)
      (case em_TooMany => k_is)
      (case es_TooMany => k_is)
      (case ec_TooMany => k_is)
      (case e_TooMany_TooMany => kts_exm)
    obtain ⟨C, T⟩ := T
    exact Pr.law_all T hmg
