import PyProof.Rows.All
import Wide.All
import OpenK.AllK
import Wide.FinOn
import Lean
import PyProof.EqAt
import PyProof.EqKinds
import PyProof.TupleCall
import KE.KTryMore
import PyProof.RaisesMany
import PyProof.RulesAs
import PyProof.ExcBaseAll.ValueError
import PyProof.NsDelKeeps
import KE.KIsNot
import PyProof.ExcArgs
import KE.RegKIsAll
import KE.RegKTryMore
import KE.KSortTup
import PyProof.SetRoads
import PyProof.CollectWalk
import PyProof.Walks
import PyProof.Rows.SortShell
import KE.KDictSum
import PyProof.Rows.SortWalk
import KE.KDictList
import PyProof.DictRoadsH
import KE.KSortAsk
import PyProof.TupleOfSeq
import PyProof.Rows.SetFrom
import PyProof.WalksMore
import PySem.Challenge.RW_peakroll_k52_whole_news
set_option Elab.async false
set_option linter.all false
set_option maxRecDepth 100000
open List renaming length_map→Ar,getElem?_eq_getElem→As,size_toArray→At,mem_append_right→Au,map_cons→Av,take_add_one→Aw,map_append→Ax,length_cons→Ay,getD_eq_getElem?_getD→Az,length_append→AB,length_take→AC,mem_cons_of_mem→AD,getElem?_map→AE,mem_cons_self→AF,range→AG,sum_cons→AH,take_length→AI,mem_append_left→AJ,mem_of_getElem?→AK,take_of_length_le→AL,lookup_cons→AM,toArray→AN,length_filter_le→AO,foldl_cons→AQ,append_nil→AR,filter_append→AS,map_map→AT,nodup_nil→AU,lookup→AV,length→AW,getElem_of_mem→AX,all_eq_true→AY,getElem_mem→AZ,nodup_append→A4,getElem?_append_right→A5,length_singleton→A6,eq_nil_of_length_eq_zero→A7,find?_cons→A8,mem_append→A9,filterMap_cons→Ba,take_sublist→Bb,eq_nil_or_concat→Bc,concat_eq_append→Be,take_succ_cons→Bf,getElem?_append_left→Bg,reverse_cons→Bh,map_nil→Bi,length_nil→Bj,ext_getElem?→Bk,sum_nil→Bl,foldl_append→Bm,mem_of_mem_take→Bn,mem_map→Bo,mem_cons→Bp,not_mem_nil→Bq,mem_singleton→Br,mem_filter→Bs,of_mem_zip→Bt,length_drop→Bu,ext_getElem→Bv,take_zero→Bw,getElem?_toArray→Bx,length_reverse→By,append_assoc→Bz,drop_eq_getElem_cons→BA,any_cons→BB,getElem?_eq_none→BC,filter_sublist→BD,getElem?_set_self→BE,getElem?_set_ne→BF,sum_append_int→BG,pairwise_singleton→BH,nodup_cons→BI,filter_cons_of_pos→BJ,drop_eq_nil_of_le→BK,all_map→BL,dropLast_concat_getLast→BM,dropLast_concat→BN,getLastD_concat→BO,set_append_right→BP,sum_append→BQ,flatten_cons→BR,length_pos_of_mem→BS,length_eraseIdx→BU,filter_eq_nil_iff→BV,filter_cons→BW
open PySem.Heap renaming lt_size→BX,get?_push_of_some→BY,get?_push_size→BZ,size_push→B0,get?_update_self→B1,get?_update_other→B2,get?_update_ne→B4,get?_push_ne→B5
open Nat renaming le_refl→B6,ne_of_lt→B7,lt_of_lt_of_le→B8,zero_le→B9,le_trans→Ca,lt_or_ge→Cb,ne_of_gt→Cc,le_succ→Cd,lt_irrefl→Ce,lt_succ_of_lt→Cf,lt_trans→Cg,le_of_lt→Ch,lt_succ_self→Ci,lt_of_le_of_lt→Cj,succ_ne_self→Ck,le_of_eq→Cm,eq_zero_or_pos→Cn,zero_add→Co,sub_self→Cp,succ_le_of_lt→Cq
open Array renaming length_toList→Cr,getD→Cs,getElem?_toList→Ct,getElem?_eq_none→Cu,getElem?_eq_getElem→Cv,toList→Cw
open Int renaming toNat_natCast→Cy,emod_nonneg→Cz,emod_lt_of_pos→CA,add_comm→CB,fmod_eq_emod_of_nonneg→CC,ediv_one→CD,fdiv_eq_ediv_of_nonneg→CF,add_mul_emod_self_right→CG,emod_eq_of_lt→CH,mul_ediv_add_emod→CI,mul_comm→CJ,natCast_add→CK
open Option renaming map_some→CL,getD_none→CM,none→CN,isSome_map→CO
open PySem renaming Program→CP,sizeLine→CQ,sysModules→CS,tupleKind→CT,mainGlobals→CU,bootBuiltins→CV,Shared→CW,backTo→CZ,starEach→C0,wpAny_mono→C1,compareOp→C2,behindInMarks→C3,wpAny_isTrue_Compare1→C4,wpAny_truthy_bool→C5,standAt→C6,holding→C7,wpAny_execs_nil→C8,wpAny_execs_cons→C9,swapsWith→Da,assign→Db,assignEach→Dd,wpAny_assign_Name→De,wpAny_bind→Df,wpAny_holding→Dg,wpAny_standAt→Dh,getItem→Di,wpAny_passesOwn→Dj,pyIter→Dk,wpAny_pyIter_list→Dl,wpAny_pyIter_tuple→Dm,foldedSetIterable→Do,binaryOp→Dp,sizeLine_eq→Dq,getMethod→Dr,wpAny_pure→Ds,Result→Dt,codeAny→Du,attributeBase→Dv,FuncData→Dw,BindsTo→Dy,bindArgs→Dz,codeAny_mono→DC,wpAny_Call_Name_kw→DG,backToKw→DH,keywordEach→DI,Keyword→DJ,IsPart→DN,wpAny_callSpecial?_slot→DO,wpAny_call_entry→DP,wpAny_typeOf→DQ,wpAny_newObj_type→DR,evalPart_none→DS,seqIndex_of→DW,seqIndex_neg→DX,subscripted→DY,wpAny_getItem_list_neg→D4,sliceBounds→Ea,slicePick→Eb,wpAny_getItem_list_slice→Ec,callerA→Ee,compEnvC→Ef,relabel→Eg,pyNext→Eh,letOwnedTupleGo→Ei,codeAny_loop→Ej,compTurn→Ek,noteFrame→El,theTreesLotGoes→Em,wpAny_noted→Eo,newFunctionEnv→Ep,wpAny_newFunctionEnv→Er,lookup_relabel_local→Es,codeAny_compStart_list→Et,wpAny_comprehension_free→Eu,compPost→Ev,exec_Assign_Name_used→Ew,comprehension→Ex,ExceptHandler→Ey,wpAny_rule→EC,wpAny_attempt→ED,wpAny_newList→EG,boot_len→EM,valueAt→ET,tupleKind_room_in1→EU,setsByText→EV,wpAny_askSetting→EW,unsupported→EX,setNext→EY,builtinLookup_eq_fast→EZ,isSubtype_type→E1,rawInt→E2,wpAny_pyIter_slot→E3,wpAny_of_eq→E4,wpAny_fieldsOf→E6,wpAny_setEntries_of→E7,wpAny_setField_rec→E8,firstArgMember→E9,wpAny_handled→Fa,wpAny_isInstance→Fb,isSubtype_stop→Fc,wpAny_setState_of→Fd,wpAny_setEpoch_of→Fe,wpAny_ite_split→Ff,plainId_quiet→Fg,codeAny_of_tree→Fh,compStart→Fi,theWindowsPlace→Fj,wpAny_notedAt→Fk,wpAny_dictEntries→Fl,wpAny_dictEpoch→Fo,wpAny_typeNameOfWhole_keyiter→Fp,wpAny_typeNameOf_keyiter→Fq,wpAny_isOneOf_keyiter→Fs
open PyProof.Rows renaming AllBare→CY,kindOf→DK,envOfC→DM,Subscript_→DT,subscriptTail→DU,subscriptTail_builtinR→DZ,IntsAre→Ed,seqObj→Ez,listUpdate_at→EA,get?_update_seq→EB,plain_sorted→EE,entry_sorted→EF,size_push'→EH,slot_list_sort→EI,entry_list_sort→EJ,boot_sorted→EK,boot_tuple→EL,boot_sum→EN,boot_min→EO,boot_max→EQ,boot_isinstance→ER,boot_list→ES,boot_repr→Ft
open PySem
namespace L2
open PySem PySem.Spec PyProof.Rows
abbrev aj:=Sum Int Str
def eG:aj->Value->Bool
 | .inl k,v=>Value.isInt k v
 | .inr x,v=>Value.isStrOf x v
def vZ (w:World):aj->Int
 | .inl k=>hashInt k
 | .inr x=>hashStr w x
theorem c0:∀ {k:aj}{v:Value},eG k v=true->(∃ i t,k=Sum.inl i/\v=Value.int i t)\/(∃ x t,k=Sum.inr x/\v=Value.str x t)
 | .inl i,v,h=>by
  obtain⟨t,e⟩:=Value.isInt_shape (k:=i) (v:=v) h
  exact .inl ⟨i,t,rfl,e⟩
 | .inr x,v,h=>by
  obtain⟨t,e⟩:=Value.isStrOf_shape (x:=x) (v:=v) h
  exact .inr ⟨x,t,rfl,e⟩
theorem tE (i:Int)(t:Tok):eG (.inl i) (.int i t)=true:=by simp[eG,Value.isInt]
theorem rp (x:Str)(t:Tok):eG (.inr x) (.str x t)=true:=by simp[eG,Value.isStrOf]
theorem vN (a b:Int):decide ((Sum.inl a:aj)=Sum.inl b)=(a == b):=by
 by_cases e:a=b
 ·subst e;simp
 ·have h:¬ (Sum.inl a:aj)=Sum.inl b:=fun q=>e (Sum.inl.inj q)
  rw[decide_eq_false h]
  exact(beq_eq_false_iff_ne.mpr e).symm
theorem ui (a b:Str):decide ((Sum.inr a:aj)=Sum.inr b)=decide (a=b):=by
 by_cases e:a=b
 ·subst e;simp
 ·have h:¬ (Sum.inr a:aj)=Sum.inr b:=fun q=>e (Sum.inr.inj q)
  rw[decide_eq_false h,decide_eq_false e]
theorem wQ (a:Int)(b:Str):decide ((Sum.inl a:aj)=Sum.inr b)=false:=decide_eq_false (fun q=>nomatch q)
theorem zC (a:Str)(b:Int):decide ((Sum.inr a:aj)=Sum.inl b)=false:=decide_eq_false (fun q=>nomatch q)
def bo (prog:Program) (w:World):PySem.KeyKind prog w aj where
  is:=eG
  hash:=vZ w
  inj:=fun v a b ha hb=>by
    rcases c0 ha with ⟨i,t,rfl,rfl⟩ | ⟨x,t,rfl,rfl⟩
    · rcases c0 hb with ⟨j,u,rfl,e⟩ | ⟨y,u,rfl,e⟩
      · injection e with e1 _; rw [e1]
      · exact nomatch e
    · rcases c0 hb with ⟨j,u,rfl,e⟩ | ⟨y,u,rfl,e⟩
      · exact nomatch e
      · injection e with e1 _; rw [e1]
  byValue:=fun k v h=>by
    rcases c0 h with ⟨i,t,rfl,rfl⟩ | ⟨x,t,rfl,rfl⟩ <;> rfl
  pyHash:=fun hv h=>by
    rcases c0 hv with ⟨i,t,rfl,rfl⟩ | ⟨x,t,rfl,rfl⟩
    · exact wpAny_pyHash_int h
    · exact wpAny_pyHash_str h
  eqBool:=fun hu hv h=>by
    rcases c0 hu with ⟨i,t,rfl,rfl⟩ | ⟨x,t,rfl,rfl⟩
    · rcases c0 hv with ⟨j,u,rfl,rfl⟩ | ⟨y,u,rfl,rfl⟩
      · rw [vN] at h; exact wpAny_eqBool_int h
      · rw [wQ] at h; exact SeqAt.EqAt.int_str i t y u _ _ _ _ h
    · rcases c0 hv with ⟨j,u,rfl,rfl⟩ | ⟨y,u,rfl,rfl⟩
      · rw [zC] at h; exact SeqAt.EqAt.str_int x t j u _ _ _ _ h
      · rw [ui] at h; exact wpAny_eqBool_str h
  «strs»:=fun k x t v h=>by
    rcases c0 h with ⟨i,u,rfl,e⟩ | ⟨y,u,rfl,e⟩
    · exact nomatch e
    · injection e with e1 _
      subst e1
      cases v <;> rfl
theorem t9 (prog:CP)(w:World)(i:Int)(t:Tok):(bo prog w).is (.inl i) (.int i t)=true:=tE i t
theorem zS (prog:CP)(w:World)(x:Str)(t:Tok):(bo prog w).is (.inr x) (.str x t)=true:=rp x t
end L2
namespace L2
open PySem PySem.Spec PyProof.Rows
inductive V where
 | non|bl (b:Bool)|int (i:Int)|str (x:Str)|byt (b:Array UInt8)|flt (b:UInt64)|ref (a:Addr)|ty (n:String)
 deriving DecidableEq
def aw:V->Value->Prop
 | .non,u=>u=Value.none
 | .bl b,u=>u=Value.bool b
 | .int i,u=>∃ t,u=Value.int i t
 | .str x,u=>∃ t,u=Value.str x t
 | .byt b,u=>∃ t,u=Value.bytes b t
 | .flt b,u=>∃ t,u=Value.float b t
 | .ref a,u=>u=Value.ref a
 | .ty n,u=>u=Value.type n
abbrev au:List V->List Value->Prop:=Paired aw
theorem au.length {xs:List V}{us:List Value}(r:au xs us):xs.length=us.length:=Paired.length r
theorem au.get:∀ {xs:List V}{us:List Value}{i:Nat}{x:V},au xs us->xs[i]?=some x->∃ u,us[i]?=some u/\aw x u
 | _,_,_,_,.nil,e=>by simp at e
 | _,_,0,_,.cons r _,e=>by simp at e;subst e;exact⟨_,rfl,r⟩
 | _,_,i+1,x,.cons _ t,e=>by
  obtain⟨u,h1,h2⟩:=au.get (i:=i) (x:=x) t (by simpa using e)
  exact⟨u,by simpa using h1,h2⟩
theorem au.set {x:V}{u:Value}(r:aw x u):∀ {xs:List V}{us:List Value} (i:Nat),au xs us->au (xs.set i x) (us.set i u)
 | _,_,_,.nil=>.nil
 | _,_,0,.cons _ t=>.cons r t
 | _,_,i+1,.cons q t=>.cons q (au.set r i t)
theorem au.append:∀ {xs ys:List V}{us ws:List Value},au xs us->au ys ws->au (xs++ys) (us++ws)
 | _,_,_,_,.nil,s=>s
 | _,_,_,_,.cons r t,s=>.cons r (au.append t s)
theorem au.take:∀ {xs:List V}{us:List Value} (n:Nat),au xs us->au (xs.take n) (us.take n)
 | _,_,0,_=>.nil
 | _,_,_+1,.nil=>.nil
 | _,_,n+1,.cons r t=>.cons r (au.take n t)
theorem au.drop:∀ {xs:List V}{us:List Value} (n:Nat),au xs us->au (xs.drop n) (us.drop n)
 | _,_,0,r=>r
 | _,_,_+1,.nil=>.nil
 | _,_,n+1,.cons _ t=>au.drop n t
def cg:Option V->Option Value->Prop
 | some v,some u=>aw v u
 | none,none=>True
 | _,_=>False
def KV {κ:Type}:List (κ×V)->List (κ×Value)->Prop:=Paired fun (p:κ×V) (q:κ×Value)=>p.1=q.1/\aw p.2 q.2
def kV:aj->V
 | .inl i=>.int i
 | .inr x=>.str x
inductive HO where
 | lst (xs:List V)
 | tup (xs:List V)
 | dK (kvs:List (aj×V))|dT (kvs:List (List aj×V))
 | set (S:Int->Bool) (n:Nat)
 | ins (C dx:Addr) (fs:List (Str×V))
 | own (x:Addr)
 | xd (fs:List (Str×V))
 | met (f x:Addr)
 | rng (lo hi:Int)
 | frz (o:Obj) (u:HO)
 | tbl (ps:Array Value)
 | ext (φ:Heap->Prop)
abbrev Hp:=Addr->Option HO
def upd (H:Hp)(a:Addr)(o:HO):Hp:=fun b=>if b=a then some o else H b
theorem ah {H:Hp}{a:Addr}{o:HO}:upd H a o a=some o:=by unfold upd;rw[if_pos rfl]
theorem upd_ne {H:Hp}{a b:Addr}{o:HO}(h:b≠a):upd H a o b=H b:=by unfold upd;rw[if_neg h]
theorem kY {H:Hp}{a:Addr}{o u:HO}:upd (upd H a o) a u=upd H a u:=by
 funext b;unfold upd;split <;> rfl
theorem cM {H:Hp}{a b:Addr}{o u:HO}(h:H a=some o)(h':H b=some u)(d:o≠u):a≠b:=by
 intro e;subst e;rw[h] at h';exact d (Option.some.inj h')
theorem aR {H:Hp}{a b:Addr}{o:HO}(h:H a=some o)(h':H b=none):a≠b:=by
 intro e;subst e;rw[h] at h';cases h'
section
variable (P:CP)(w:World)
def aY (H:Hp)(h:Heap)(a:Addr):HO->Prop
 | .lst xs=>xs.length<=CQ/\∃ (its:List Value) (n:Nat),au xs its/\h.get? a=some { cls:=.type "list",data:=.seq its.toArray n }
 | .tup xs=>xs.length<=CQ/\∃ its:List Value,au xs its/\IsTup h a its.toArray
 | .dK kvs=>kvs.length<=CQ/\(a == CS)=false/\∃ vs,KV kvs vs/\h.DictOf (bo P w) a vs
 | .dT kvs=>kvs.length<=CQ/\(a == CS)=false/\∃ xs:List (List aj×Addr×Value),
  Paired (fun (p:List aj×V) (q:List aj×Addr×Value)=>p.1=q.1/\H q.2.1=some (.tup (p.1.map kV))/\aw p.2 q.2.2) kvs xs /\
  ∃ o es ep,h.get? a=some o/\o.ExactDict/\o.data=.dict es ep/\es.toList=xs.map (entryOfKey (CT (bo P w)))/\(xs.map (·.1)).Nodup
 | .set S n=>h.SetOf (intKind P w) a S n
 | .ins C dx fs=>H dx=some (.own a)/\fs.length<=1000/\dx≠a/\h.get? a=some (W.instObj C dx) /\
  ∃ mA,h.Ns1 dx mA/\(∀ f,cg (fs.lookup f) (mA f))/\PySem.Within mA (fs.map (·.1))
 | .own _=>∃ o,h.get? a=some o
 | .xd fs=>∃ mA,h.Ns1 a mA/\∀ f,cg (fs.lookup f) (mA f)
 | .rng lo hi=>∃ t u v,h.get? a=some { cls:=.type "range",data:=.fields #[.int lo t,.int hi u,.int 1 v] }
 | .frz o u=>h.get? a=some o/\aY H h a u
 | .tbl ps=>h.get? a=some { cls:=.none,data:=.fields ps }
 | .met f x=>h.get? a=some (W.methodObj (.ref f) (.ref x))
 | .ext φ=>φ h/\(∃ o,h.get? a=some o)/\∀ h1 h2:Heap,φ h1->(∀ o,h1.get? a=some o->h2.get? a=some o)->φ h2
def bq (H:Hp)(h:Heap):Prop:=∀ a o,H a=some o->aY P w H h a o
end
section
variable {P:CP}{w:World}{H H':Hp}{h h':Heap}{a:Addr}{o:HO}
theorem aY.lt (x:aY P w H h a o):a<h.objs.size:=by
 cases o with
 | lst xs=>obtain⟨_,_,_,_,e⟩:=x;exact BX e
 | tup xs=>obtain⟨_,_,_,p⟩:=x;exact p.lt
 | dK kvs=>obtain⟨_,_,_,_,o,_,_,e,_⟩:=x;exact BX e
 | dT kvs=>obtain⟨_,_,_,_,o,_,_,e,_⟩:=x;exact BX e
 | set S n=>obtain⟨o,_,_,_,e,_⟩:=x;exact BX e
 | ins C dx fs=>obtain⟨_,_,_,e,_⟩:=x;exact BX e
 | own y=>obtain⟨_,e⟩:=x;exact BX e
 | xd fs=>obtain⟨_,⟨_,_,_,e,_⟩,_⟩:=x;exact BX e
 | rng lo hi=>obtain⟨_,_,_,e⟩:=x;exact BX e
 | frz ob u=>obtain⟨e,_⟩:=x;exact BX e
 | tbl ps=>exact BX (show h.get? a=some _ from x)
 | met f y=>exact BX (show h.get? a=some _ from x)
 | ext φ=>obtain⟨_,⟨_,e⟩,_⟩:=x;exact BX e
theorem Paired.mapP {α β:Type}{F G:α->β->Prop}:∀ {l₁:List α}{l₂:List β},Paired F l₁ l₂->(∀ a b,F a b->G a b)->Paired G l₁ l₂
 | _,_,.nil,_=>.nil
 | _,_,.cons r t,f=>.cons (f _ _ r) (Paired.mapP t f)
theorem aY.stay (x:aY P w H h a o)(k:∀ b u,(b=a\/H b=some (.own a))->h.get? b=some u->h'.get? b=some u)
  (ho:∀ b,H b=some (.own a)->H' b=some (.own a)) (ht:∀ b xs,H b=some (.tup xs)->H' b=some (.tup xs)):aY P w H' h' a o:=by
 induction o with
 | lst xs=>obtain⟨z,its,n,r,e⟩:=x;exact⟨z,its,n,r,k _ _ (.inl rfl) e⟩
 | tup xs=>obtain⟨z,its,r,ob,e,c⟩:=x;exact⟨z,its,r,ob,k _ _ (.inl rfl) e,c⟩
 | dK kvs=>obtain⟨z,y,vs,r,ob,es,ep,e,c⟩:=x;exact⟨z,y,vs,r,ob,es,ep,k _ _ (.inl rfl) e,c⟩
 | dT kvs =>
  obtain⟨z,y,xs,r,ob,es,ep,e,c⟩:=x
  exact⟨z,y,xs,Paired.mapP r fun p q z=>⟨z.1,ht _ _ z.2.1,z.2.2⟩,ob,es,ep,k _ _ (.inl rfl) e,c⟩
 | set S n=>obtain⟨ob,es,ep,t,e,c⟩:=x;exact⟨ob,es,ep,t,k _ _ (.inl rfl) e,c⟩
 | ins C dx fs =>
  obtain⟨d,z,ne,e,mA,⟨od,es,ep,e2,c⟩,r⟩:=x
  exact⟨ho _ d,z,ne,k _ _ (.inl rfl) e,mA,⟨od,es,ep,k _ _ (.inr d) e2,c⟩,r⟩
 | own y=>obtain⟨ob,e⟩:=x;exact⟨ob,k _ _ (.inl rfl) e⟩
 | xd fs=>obtain⟨mA,⟨od,es,ep,e,c⟩,r⟩:=x;exact⟨mA,⟨od,es,ep,k _ _ (.inl rfl) e,c⟩,r⟩
 | rng lo hi=>obtain⟨t,u,v,e⟩:=x;exact⟨t,u,v,k _ _ (.inl rfl) e⟩
 | frz ob u ih=>obtain⟨e,q⟩:=x;exact⟨k _ _ (.inl rfl) e,ih q⟩
 | tbl ps =>
  have e:h.get? a=some { cls:=.none,data:=.fields ps }:=x
  show h'.get? a=some { cls:=.none,data:=.fields ps }
  exact k a _ (.inl rfl) e
 | met f y =>
  have e:h.get? a=some (W.methodObj (.ref f) (.ref y)):=x
  show h'.get? a=some (W.methodObj (.ref f) (.ref y))
  exact k a _ (.inl rfl) e
 | ext φ=>obtain⟨p,⟨o,e⟩,st⟩:=x;exact⟨st _ _ p fun o q=>k _ _ (.inl rfl) q,⟨o,k _ _ (.inl rfl) e⟩,st⟩
theorem bq.lt (x:bq P w H h)(e:H a=some o):a<h.objs.size:=(x a o e).lt
theorem bq.fresh (x:bq P w H h)(e:h.objs.size<=a):H a=none:=by
 cases q:H a with
 | none=>rfl
 | some u=>exact absurd (B8 (x.lt q) e) (Ce _)
theorem bq.kept (x:bq P w H h)(k:∀ b u,h.get? b=some u->h'.get? b=some u):bq P w H h':=fun a o e =>
 (x a o e).stay (fun b u _ q=>k b u q) (fun _ q=>q) fun _ _ q=>q
theorem bq.laid (x:bq P w H h)(k:∀ b u,h.get? b=some u->h'.get? b=some u)(hp:h.objs.size<=a)(new:aY P w (upd H a o) h' a o):bq P w (upd H a o) h':=fun b u e=>by
 have hn:=x.fresh hp
 by_cases hb:b=a
 ·subst hb;rw[ah] at e;cases e;exact new
 ·rw[upd_ne hb] at e
  exact(x b u e).stay (fun c v _ q=>k c v q) (fun c q=>by rw[upd_ne (aR q hn)];exact q) fun c xs q=>by rw[upd_ne (aR q hn)];exact q
end
def Rd (H:Hp)(a:Addr)(u:HO):Prop:=H a=some u\/∃ o,H a=some (.frz o u)
theorem Rd.ok {P:CP}{w:World}{H:Hp}{h:Heap}{a:Addr}{u:HO}(r:Rd H a u)(x:bq P w H h):aY P w H h a u:=by
 rcases r with r|⟨o,r⟩
 ·exact x a u r
 ·obtain⟨_,q⟩:=x a _ r
  exact q
def jj:Option HO->Prop
 | some (.lst _)=>True
 | some (.dK _)=>True
 | some (.dT _)=>True
 | some (.set _ _)=>True
 | some (.ins _ _ _)=>True
 | some (.ext _)=>True
 | _=>False
section
variable {P:CP}{w:World}{H:Hp}{h h':Heap}{x e:Addr}{o':HO}
theorem bq.write (ok:bq P w H h)(mu:jj (H x))(he:e=x\/H e=some (.own x))(k:∀ b u,b≠e->h.get? b=some u->h'.get? b=some u)(heo:∃ u,h'.get? e=some u)
  (new:aY P w (upd H x o') h' x o'):bq P w (upd H x o') h':=fun b u q=>by
 have nown:∀ c y,H c=some (.own y)->c≠x:=fun c y r z=>by subst z;rw[r] at mu;exact mu
 have ntup:∀ c xs,H c=some (.tup xs)->c≠x:=fun c xs r z=>by subst z;rw[r] at mu;exact mu
 by_cases hb:b=x
 ·subst hb;rw[ah] at q;cases q;exact new
 ·rw[upd_ne hb] at q
  by_cases hbe:b=e
  ·have q':H b=some (.own x):=by
    rcases he with z|z
    ·exact absurd (hbe.trans z) hb
    ·rw[hbe];exact z
   rw[q] at q';cases q'
   obtain⟨v,hv⟩:=heo
   exact⟨v,by rw[hbe];exact hv⟩
  ·refine(ok b u q).stay (fun c v hc r=>k c v ?_ r) (fun c r=>by rw[upd_ne (nown c b r)];exact r) fun c xs r=>by rw[upd_ne (ntup c xs r)];exact r
   rcases hc with rfl|hc
   ·exact hbe
   ·rintro rfl
    rcases he with z|z
    ·exact nown c b hc z
    ·rw[hc] at z;cases z;exact hb rfl
end
structure Un (fs ex:List Addr)(H H':Hp)(h h':Heap):Prop where
 keep:∀ b o,h.get? b=some o->H b=none->b∉fs->b∉ex->h'.get? b=some o
 slot:∀ b o,h.get? b=some o->H b=none->b∈fs->b∉ex->∃ sl,h'.get? b=some { o with slots:=sl }
 free:∀ b o,h.get? b=some o->H b=none->b∉ex->H' b=none
 there:∀ b o,h.get? b=some o->b∉ex->∃ o',h'.get? b=some o'
 tups:∀ b xs,H b=some (.tup xs)->H' b=some (.tup xs)
 frzs:∀ b o u,H b=some (.frz o u)->H' b=some (.frz o u)
 tbls:∀ b ps,H b=some (.tbl ps)->∃ more,H' b=some (.tbl (ps++more))
section
variable {fs fs' ex ex':List Addr}{H H1 H2:Hp}{h h1 h2 h':Heap}{a x e:Addr}{o:HO}
theorem Un.any (u:Un fs ex H H1 h h1){b:Addr}{ob:Obj}(q:h.get? b=some ob)(n:H b=none)(hx:b∉ex):∃ sl,h1.get? b=some { ob with slots:=sl }:=by
 by_cases hb:b∈fs
 ·exact u.slot b ob q n hb hx
 ·exact⟨ob.slots,u.keep b ob q n hb hx⟩
theorem Un.kept (k:∀ b u,h.get? b=some u->h'.get? b=some u):Un fs ex H H h h' :=
 ⟨fun b ob q _ _ _=>k b ob q,fun b ob q _ _ _=>⟨ob.slots,k b ob q⟩,fun _ _ _ n _=>n,fun b ob q _=>⟨ob,k b ob q⟩,fun _ _ q=>q,fun _ _ _ q=>q,fun _ ps q=>⟨#[],by rw[q];simp⟩⟩
theorem Un.refl:Un fs ex H H h h:=Un.kept fun _ _ q=>q
theorem Un.laid (k:∀ b u,h.get? b=some u->h'.get? b=some u)(hp:h.objs.size<=a)(hn:H a=none):Un fs ex H (upd H a o) h h' where
 keep:=fun b u q _ _ _=>k b u q
 slot:=fun b u q _ _ _=>⟨u.slots,k b u q⟩
 free:=fun b u q n _=>by rw[upd_ne (B7 (B8 (BX q) hp))];exact n
 there:=fun b u q _=>⟨u,k b u q⟩
 tups:=fun b xs q=>by rw[upd_ne (aR q hn)];exact q
 frzs:=fun b u xs q=>by rw[upd_ne (aR q hn)];exact q
 tbls:=fun b ps q=>⟨#[],by rw[upd_ne (aR q hn),q];simp⟩
theorem Un.write (mu:jj (H x))(he:e=x\/H e=some (.own x))(k:∀ b u,b≠e->h.get? b=some u->h'.get? b=some u)(heo:∃ u,h'.get? e=some u):Un fs ex H (upd H x o) h h':=by
 have hx:∀ b,H b=none->b≠x:=fun b n z=>by subst z;rw[n] at mu;exact mu
 have hb:∀ b,H b=none->b≠e:=fun b n z=>by
  subst z
  rcases he with r|r
  ·exact hx b n r
  ·rw[n] at r;cases r
 have hm:∀ b u,H b=some u->¬ jj (some u)->b≠x:=fun b u q nm z=>by subst z;rw[q] at mu;exact nm mu
 refine⟨fun b u q n _ _=>k b u (hb b n) q,fun b u q n _ _=>⟨u.slots,k b u (hb b n) q⟩,fun b u q n _=>by rw[upd_ne (hx b n)];exact n,fun b u q _=>?_,
  fun b xs q=>by rw[upd_ne (hm b _ q fun z=>z)];exact q,fun b u xs q=>by rw[upd_ne (hm b _ q fun z=>z)];exact q,fun b ps q=>⟨#[],by rw[upd_ne (hm b _ q fun z=>z),q];simp⟩⟩
 by_cases hbe:b=e
 ·subst hbe;exact heo
 ·exact⟨u,k b u hbe q⟩
end
def kB (h:Heap)(H:Hp):List Addr:=(AG h.objs.size).filter fun a=>(H a).isSome
def eO (h:Heap)(H:Hp):Heap:=W.hideAll h (kB h H)
theorem wI (h:Heap)(H:Hp):(eO h H).objs.size=h.objs.size:=W.hideAll_size _ _
theorem xh {h:Heap}{H:Hp}{b:Addr}{o:Obj}(e:h.get? b=some o)(n:H b=none):(eO h H).get? b=some o :=
 W.hideAll_get _ e fun hm=>by
  have q:(H b).isSome=true:=(List.mem_filter.mp hm).2
  rw[n] at q;simp at q
theorem yP {h:Heap}{H:Hp}{b:Addr}{o:Obj}(e:(eO h H).get? b=some o):h.get? b=some o/\H b=none:=by
 have e':h.get? b=some o:=W.of_hideAll (kB h H) e
 refine⟨e',?_⟩
 cases q:H b with
 | none=>rfl
 | some x =>
  have hm:b∈kB h H:=List.mem_filter.mpr ⟨List.mem_range.mpr (BX e'),by simp[q]⟩
  have z:(eO h H).get? b=none:=W.hideAll_none (kB h H) hm
  rw[z] at e;cases e
end L2
namespace L2
open PySem PySem.Spec PyProof.Rows
structure Mod (K:W.Frag)(mg:Str->Option Value)(base:Heap):Prop where
 kin:K.In base
 glob:base.Ns CU mg
 blt:∃ mb,base.Ns builtinsNs mb/\∀ x:Str,x≠"__name__"->mb x=CV x
 nolimit:base.NoLimit
structure Cx where
 prog:CP
 w:World
 K:W.Frag
 mg:Str->Option Value
 base:Heap
 A:Around
 N:List Str
 s₀:CW
 H₀:Hp
 env:Env
 outer:List Env
 stack:List Env
 ex:List Addr
 fn:Str->Bool
 calm:Bool
 pn:List (Addr×Obj)
 xe:Value->CW->Prop
def dP (l:List Env):List Addr:=l.filterMap (·.frame)
abbrev Cx.fs (X:Cx):List Addr:=dP X.outer
def gr (sc:Scope)(x:Str):Prop:=sc.names.lookup x=some .local\/sc.names.lookup x=some .cell\/sc.names.lookup x=some .free
def jp (sc:Scope)(x:Str):Prop:=sc.names.lookup x=some .local\/sc.names.lookup x=some .cell
def xH (env:Env)(h:Heap)(m:Str->Option Value)(x:Str)(u:Value):Prop :=
 (env.kindOf x=some .local/\m x=some u)\/((env.kindOf x=some .cell\/env.kindOf x=some .free)/\∃ c,env.cells.lookup x=some c/\h.IsCell c (some u))
structure Cx.Ok (X:Cx):Prop where
 mod:Mod X.K X.mg X.base
 kind:X.env.scope.kind=.function
 glob:X.env.globals=CU
 blt:X.env.builtins=builtinsNs
 above:X.s₀.heap.objs.size<=X.env.locals
 inj:∀ x y c,X.env.cells.lookup x=some c->X.env.cells.lookup y=some c->x=y
 has:∀ x,(X.env.kindOf x=some .cell\/X.env.kindOf x=some .free)->∃ c,X.env.cells.lookup x=some c
 cab:∀ x c,X.fn x=true->X.env.cells.lookup x=some c->X.s₀.heap.objs.size<=c
 hd:X.calm=true->X.A.handled=none
 frames:X.A.frames=some X.stack
 stk:X.stack=X.outer\/(X.stack=X.env::X.outer/\X.env.frame=some X.env.locals)
 exf:∀ b∈X.ex,b≠X.env.locals/\∀ x c,X.env.cells.lookup x=some c->c≠b
 bs:∀ b o,X.base.get? b=some o->X.s₀.heap.get? b=some o/\X.H₀ b=none
 bsz:X.base.objs.size<=X.s₀.heap.objs.size
 noex:∀ b o,X.base.get? b=some o->b∉X.ex
 exfs:∀ b∈X.ex,b∉X.fs
 funs:X.s₀.heap.FunFrames X.base X.outer
 frf:∀ b∈X.fs,X.H₀ b=none
structure ac (X:Cx)(pins:List (Addr×Obj))(σ:List (Option V))(H:Hp)(s:CW):Prop where
 ok:X.Ok
 os:s.os=X.s₀.os
 bare:CY s.gens
 base:Un X.fs X.ex X.H₀ H X.s₀.heap s.heap
 loc:∃ m,s.heap.Ns X.env.locals m/\∀ (i:Nat) (x:Str) (v:V),X.N[i]?=some x->σ[i]?=some (some v)->gr X.env.scope x->∃ u,aw v u/\xH X.env s.heap m x u
 cell:∀ x c,X.env.cells.lookup x=some c->∃ v,s.heap.IsCell c v
 free:H X.env.locals=none
 freeC:∀ x c,X.env.cells.lookup x=some c->H c=none
 pin:∀ p∈X.pn++pins,s.heap.get? p.1=some p.2/\H p.1=none/\p.1≠X.env.locals/\p.1∉X.fs/\∀ v,p.2.data≠.cell v
 hok:bq X.prog X.w H s.heap
 len:σ.length=X.N.length
section
variable {X:Cx}{pins:List (Addr×Obj)}{σ:List (Option V)}{H H':Hp}{s:CW}{h':Heap}
theorem Cx.Ok.nofr (ok:X.Ok){b:Addr}{o:Obj}(e:X.base.get? b=some o):b∉X.fs:=fun hb=>by
 have:=(ok.funs.mem hb).1
 rw[e] at this;cases this
theorem ac.bs (I:ac X pins σ H s):∀ b o,X.base.get? b=some o->s.heap.get? b=some o/\H b=none:=fun b o e =>
 ⟨I.base.keep b o (I.ok.bs b o e).1 (I.ok.bs b o e).2 (I.ok.nofr e) (I.ok.noex b o e),I.base.free b o (I.ok.bs b o e).1 (I.ok.bs b o e).2 (I.ok.noex b o e)⟩
theorem ac.bk (I:ac X pins σ H s):∀ b o,X.base.get? b=some o->s.heap.get? b=some o:=fun b o e=>(I.bs b o e).1
theorem ac.mod (I:ac X pins σ H s):Mod X.K X.mg X.base:=I.ok.mod
theorem ac.kIn (I:ac X pins σ H s):X.K.In s.heap:=I.ok.mod.kin.keeps I.bk
theorem ac.lt (I:ac X pins σ H s):X.env.locals<s.heap.objs.size:=let ⟨_,hn,_⟩:=I.loc;hn.lt
theorem ac.sz (I:ac X pins σ H s):X.s₀.heap.objs.size<=s.heap.objs.size:=Ca I.ok.above (Ch I.lt)
theorem ac.nofs (I:ac X pins σ H s){a:Addr}(h:s.heap.objs.size<=a):a∉X.fs:=fun hb=>by
 obtain⟨_,o,ho,_⟩:=I.ok.funs.mem hb
 exact absurd (B8 (BX ho) (Ca I.sz h)) (Ce _)
theorem ac.cne (I:ac X pins σ H s):∀ x c,X.env.cells.lookup x=some c->c≠X.env.locals:=fun x c e z=>by
 obtain⟨v,o,ho,hd⟩:=I.cell x c e
 obtain⟨m,⟨o',es,ep,ho',hd',_⟩,_⟩:=I.loc
 rw[z,ho'] at ho;cases ho;rw[hd'] at hd;cases hd
theorem ac.funs (I:ac X pins σ H s):s.heap.FunFrames X.base X.outer:=by
 have all:∀ (l:List Env),(∀ b∈dP l,b∈X.fs)->X.s₀.heap.FunFrames X.base l->s.heap.FunFrames X.base l:=by
  intro l
  induction l with
  | nil=>intro _ _;trivial
  | cons env r ih =>
   intro hs hl
   obtain⟨hk,⟨L,o,hf,hn,ho,hd⟩,hr⟩:=hl
   have hL:L∈X.fs:=hs L (by unfold dP;rw[Ba,hf];exact AF)
   obtain⟨sl,e⟩:=I.base.slot L o ho (I.ok.frf L hL) hL fun z=>I.ok.exfs L z hL
   exact⟨hk,⟨L,_,hf,hn,e,hd⟩,ih (fun b hb=>hs b (by unfold dP;rw[Ba,hf];exact AD _ hb)) hr⟩
 exact all X.outer (fun _ hb=>hb) I.ok.funs
theorem ac.stack (I:ac X pins σ H s):s.heap.FunFrames X.base X.stack:=by
 rcases I.ok.stk with e|⟨e,hf⟩
 ·rw[e];exact I.funs
 ·rw[e]
  obtain⟨m,hn,_⟩:=I.loc
  refine .cons (by rw[I.ok.kind];decide) hf hn ?_ I.funs
  exact Heap.get?_none_of_le (Ca I.ok.bsz I.ok.above)
theorem ac.stkSub (I:ac X pins σ H s):∀ b∈dP X.stack,b∈X.env.locals::X.fs:=fun b hb=>by
 rcases I.ok.stk with e|⟨e,hf⟩
 ·rw[e] at hb;exact AD _ hb
 ·rw[e] at hb
  unfold dP at hb
  rw[Ba,hf] at hb
  exact hb
theorem ac.stkFree (I:ac X pins σ H s):∀ b∈dP X.stack,H b=none:=fun b hb=>by
 rcases List.mem_cons.mp (I.stkSub b hb) with e|hb
 ·rw[e];exact I.free
 ·obtain⟨_,o,ho,_⟩:=I.ok.funs.mem hb
  exact I.base.free b o ho (I.ok.frf b hb) fun z=>I.ok.exfs b z hb
theorem ac.step {g':Array GenState}{t':Nat}{d':Drawn}{ch:List Addr}(I:ac X pins σ H s)
  (hch:∀ b∈ch,(b∈X.ex\/X.s₀.heap.objs.size<=b)/\b≠X.env.locals/\(∀ x c,X.env.cells.lookup x=some c->c≠b)/\∀ p∈X.pn++pins,p.1≠b)
  (keep:∀ b o,b≠X.env.locals->b∉X.fs->b∉ch->s.heap.get? b=some o->H b=none->h'.get? b=some o)
  (slot:∀ b o,b≠X.env.locals->b∈X.fs->b∉ch->s.heap.get? b=some o->H b=none->∃ sl,h'.get? b=some { o with slots:=sl }) (free:∀ b o,b∉ch->s.heap.get? b=some o->H b=none->H' b=none)
  (there:∀ b o,b∉ch->s.heap.get? b=some o->∃ o',h'.get? b=some o')
  (tups:∀ b xs,H b=some (.tup xs)->H' b=some (.tup xs)) (frzs:∀ b o u,H b=some (.frz o u)->H' b=some (.frz o u)) (tbls:∀ b ps,H b=some (.tbl ps)->∃ more,H' b=some (.tbl (ps++more)))
  (ns:∀ m,s.heap.Ns X.env.locals m->h'.Ns X.env.locals m) (hok:bq X.prog X.w H' h') (hg:CY g') :
  ac X pins σ H' { s with heap:=h',gens:=g',drawn:=d',toks:=t' }:=by
 have neL:∀ b o,X.s₀.heap.get? b=some o->b≠X.env.locals:=fun b o e=>B7 (B8 (BX e) I.ok.above)
 have neC:∀ b o,X.s₀.heap.get? b=some o->b∉X.ex->b∉ch:=fun b o e hx hb=>by
  rcases (hch b hb).1 with z|z
  ·exact hx z
  ·exact absurd (B8 (BX e) z) (Ce _)
 have cellK:∀ x c,X.env.cells.lookup x=some c->∀ v,s.heap.IsCell c v->h'.IsCell c v:=fun x c e v ⟨o,ho,hd⟩=>by
  have nch:c∉ch:=fun z=>(hch c z).2.2.1 x c e rfl
  by_cases hc:c∈X.fs
  ·obtain⟨sl,q⟩:=slot c o (I.cne x c e) hc nch ho (I.freeC x c e)
   exact⟨_,q,hd⟩
  ·exact⟨o,keep c o (I.cne x c e) hc nch ho (I.freeC x c e),hd⟩
 refine⟨I.ok,I.os,hg,⟨fun b o e n hb hx=>?_,fun b o e n hb hx=>?_,fun b o e n hx=>?_,fun b o e hx=>?_,fun b xs e=>tups b xs (I.base.tups b xs e),fun b o xs e=>frzs b o xs (I.base.frzs b o xs e),fun b ps e=>?_⟩,?_,fun x c e=>?_,?_,fun x c e=>?_,fun p hp=>?_,hok,I.len⟩
 ·exact keep b o (neL b o e) hb (neC b o e hx) (I.base.keep b o e n hb hx) (I.base.free b o e n hx)
 ·obtain⟨sl,e1⟩:=I.base.slot b o e n hb hx
  obtain⟨sl',e2⟩:=slot b _ (neL b o e) hb (neC b o e hx) e1 (I.base.free b o e n hx)
  exact⟨sl',e2⟩
 ·obtain⟨o',e1⟩:=I.base.there b o e hx
  exact free b o' (neC b o e hx) e1 (I.base.free b o e n hx)
 ·obtain⟨o',e1⟩:=I.base.there b o e hx
  exact there b o' (neC b o e hx) e1
 ·obtain⟨m1,e1⟩:=I.base.tbls b ps e
  obtain⟨m2,e2⟩:=tbls b _ e1
  exact⟨m1++m2,by rw[e2,Array.append_assoc]⟩
 ·obtain⟨m,hn,hl⟩:=I.loc
  refine⟨m,ns m hn,fun i x v e1 e2 e3=>?_⟩
  obtain⟨u,r,l⟩:=hl i x v e1 e2 e3
  refine⟨u,r,?_⟩
  rcases l with l|⟨k,c,e,z⟩
  ·exact .inl l
  ·exact .inr ⟨k,c,e,cellK x c e _ z⟩
 ·obtain⟨v,z⟩:=I.cell x c e
  exact⟨v,cellK x c e v z⟩
 ·obtain⟨m,⟨o,_,_,ho,_⟩,_⟩:=I.loc
  exact free _ o (fun z=>(hch _ z).2.1 rfl) ho I.free
 ·obtain⟨v,o,ho,hd⟩:=I.cell x c e
  exact free c o (fun z=>(hch c z).2.2.1 x c e rfl) ho (I.freeC x c e)
 ·obtain⟨e,n,ne,nf,d⟩:=I.pin p hp
  have nch:p.1∉ch:=fun z=>(hch p.1 z).2.2.2 p hp rfl
  exact⟨keep p.1 p.2 ne nf nch e n,free p.1 p.2 nch e n,ne,nf,d⟩
theorem ac.un {t':Nat}(I:ac X pins σ H s)(u:Un X.fs [] H H' s.heap h')(hok:bq X.prog X.w H' h'):ac X pins σ H' { s with heap:=h',toks:=t' }:=by
 obtain⟨m,⟨o,es,ep,ho,r⟩,_⟩:=id I.loc
 obtain⟨sl,hL⟩:=u.any ho I.free (by simp)
 exact I.step (g':=s.gens) (d':=s.drawn) (ch:=[]) (fun _ z=>nomatch z) (fun b o _ hb _ e n=>u.keep b o e n hb (by simp)) (fun b o _ hb _ e n=>u.slot b o e n hb (by simp)) (fun b o _ e n=>u.free b o e n (by simp)) (fun b o _ e=>u.there b o e (by simp)) u.tups u.frzs u.tbls (fun m' hm=>by
  obtain⟨o',es',ep',ho',r'⟩:=hm
  rw[ho] at ho';cases ho'
  exact⟨_,es',ep',hL,r'⟩) hok I.bare
theorem ac.call {g':Array GenState}{t':Nat}{d':Drawn}{ch:List Addr}(I:ac X pins σ H s)(u:Un (dP X.stack) ch H H' s.heap h')(hok:bq X.prog X.w H' h')(hg:CY g')
  (hch:∀ b∈ch,(b∈X.ex\/X.s₀.heap.objs.size<=b)/\b≠X.env.locals/\(∀ x c,X.env.cells.lookup x=some c->c≠b)/\∀ p∈X.pn++pins,p.1≠b) :
  ac X pins σ H' { s with heap:=h',gens:=g',drawn:=d',toks:=t' }:=by
 obtain⟨m,⟨o,es,ep,ho,r⟩,_⟩:=id I.loc
 obtain⟨sl,hL⟩:=u.any ho I.free fun z=>(hch _ z).2.1 rfl
 exact I.step (ch:=ch) hch (fun b o hL hb hc e n=>u.keep b o e n (fun z=>(List.mem_cons.mp (I.stkSub b z)).elim hL hb) hc) (fun b o _ _ hc e n=>u.any e n hc) (fun b o hc e n=>u.free b o e n hc) (fun b o hc e=>u.there b o e hc) u.tups u.frzs u.tbls (fun m' hm=>by
  obtain⟨o',es',ep',ho',r'⟩:=hm
  rw[ho] at ho';cases ho'
  exact⟨_,es',ep',hL,r'⟩) hok hg
theorem ac.turned {t':Nat}{it:Addr}(I:ac X pins σ H s)(k:∀ b o,b≠it->s.heap.get? b=some o->h'.get? b=some o)(hn:H it=none)(hL:it≠X.env.locals)
  (h1:it∈X.ex\/X.s₀.heap.objs.size<=it) (h2:∀ x c,X.env.cells.lookup x=some c->c≠it) (h3:∀ p∈X.pn++pins,p.1≠it):ac X pins σ H { s with heap:=h',toks:=t' }:=by
 have nit:∀ b u,H b=some u->b≠it:=fun b u e z=>by rw[z,hn] at e;cases e
 refine I.step (g':=s.gens) (d':=s.drawn) (ch:=[it]) (fun b hb=>?_) (fun b o _ _ hc e _=>k b o (fun z=>hc (by simp[z])) e) (fun b o _ _ hc e _=>⟨o.slots,k b o (fun z=>hc (by simp[z])) e⟩) (fun _ _ _ _ n=>n)
  (fun b o hc e=>⟨o,k b o (fun z=>hc (by simp[z])) e⟩) (fun _ _ e=>e) (fun _ _ _ e=>e) (fun b ps e=>⟨#[],by rw[e];simp⟩) (fun m hm=>?_) (fun b u e=>?_) I.bare
 ·have e:b=it:=by simpa using hb
  subst e
  exact⟨h1,hL,h2,h3⟩
 ·obtain⟨o,es,ep,ho,r⟩:=hm
  exact⟨o,es,ep,k _ o (Ne.symm hL) ho,r⟩
 ·refine(I.hok b u e).stay (fun c v hc q=>k c v ?_ q) (fun _ q=>q) fun _ _ q=>q
  rcases hc with z|z
  ·rw[z];exact nit b u e
  ·exact nit c _ z
theorem ac.tok (I:ac X pins σ H s)(t:Nat):ac X pins σ H { s with toks:=t }:=I.un (h':=s.heap) (t':=t) Un.refl I.hok
theorem ac.kept {t':Nat}(I:ac X pins σ H s)(k:∀ b u,s.heap.get? b=some u->h'.get? b=some u):ac X pins σ H { s with heap:=h',toks:=t' }:=I.un (Un.kept k) (I.hok.kept k)
theorem ac.laid {a:Addr}{o:HO}{t':Nat}(I:ac X pins σ H s)(k:∀ b u,s.heap.get? b=some u->h'.get? b=some u)(hp:s.heap.objs.size<=a)(new:aY X.prog X.w (upd H a o) h' a o) :
 ac X pins σ (upd H a o) { s with heap:=h',toks:=t' }:=I.un (Un.laid k hp (I.hok.fresh hp)) (I.hok.laid k hp new)
theorem ac.write {x e:Addr}{o:HO}{t':Nat}(I:ac X pins σ H s)(mu:jj (H x))(he:e=x\/H e=some (.own x))(k:∀ b u,b≠e->s.heap.get? b=some u->h'.get? b=some u)(heo:∃ u,h'.get? e=some u)
 (new:aY X.prog X.w (upd H x o) h' x o):ac X pins σ (upd H x o) { s with heap:=h',toks:=t' }:=I.un (Un.write mu he k heo) (I.hok.write mu he k heo new)
theorem ac.pins_of {pins':List (Addr×Obj)}(I:ac X pins σ H s)(h:∀ p∈pins',s.heap.get? p.1=some p.2/\H p.1=none/\p.1≠X.env.locals/\p.1∉X.fs/\∀ v,p.2.data≠.cell v):ac X pins' σ H s :=
 ⟨I.ok,I.os,I.bare,I.base,I.loc,I.cell,I.free,I.freeC,fun p hp=>(List.mem_append.mp hp).elim (fun z=>I.pin p (AJ _ z)) (h p),I.hok,I.len⟩
theorem nA {N:List Str}(hN:N.Nodup){i j:Nat}{x:Str}(a:N[i]?=some x)(b:N[j]?=some x):i=j:=by
 obtain⟨h1,e1⟩:=List.getElem?_eq_some_iff.mp a
 obtain⟨h2,e2⟩:=List.getElem?_eq_some_iff.mp b
 exact(List.getElem_inj hN).mp (e1.trans e2.symm)
theorem mi {M:Model}{A:Around}{E:Value->CW->Prop}{i:Nat}{x:Str}{v:V}{u:Value}{Q:Unit->CW->Prop}(I:ac X pins σ H s)(hN:X.N.Nodup)(hi:X.N[i]?=some x)(hx:jp X.env.scope x)(r:aw v u)
  (h:∀ s',ac X pins (σ.set i (some v)) H s'->(∃ a,Heap.SameBut a s.heap s'.heap/\(a=X.env.locals\/X.env.cells.lookup x=some a))->Q () s') (hf:X.fn x=true\/X.env.scope.names.lookup x=some .local:=by first|exact .inl rfl|exact .inr rfl|assumption):wpAny M A (storeName X.env x u) Q E s:=by
 obtain⟨m,hn,hl⟩:=id I.loc
 have hcls:(X.env.scope.kind == .class || (X.env.scope.kind == .module && X.env.locals != X.env.globals))=false:=by rw[I.ok.kind];rfl
 have hiσ:i<σ.length:=by rw[I.len];exact(List.getElem?_eq_some_iff.mp hi).1
 have cne:=I.cne
 have tracked:∀ {a:Addr}{h':Heap},(∃ o,s.heap.get? a=some o/\H a=none)->Heap.SameBut a s.heap h'->bq X.prog X.w H h':=fun {a h'} ha hs b ob e=>by
  obtain⟨_,_,hfree⟩:=ha
  refine(I.hok b ob e).stay (fun c w' hc q=>(hs.2 c ?_).trans q) (fun _ q=>q) fun _ _ q=>q
  rintro rfl
  rcases hc with rfl|hc
  ·rw[hfree] at e;cases e
  ·rw[hfree] at hc;cases hc
 rcases hx with hk|hk
 ·refine wpAny_storeName_local hk hn (fun h' hn' hs=>?_) hcls
  obtain⟨oL,_,_,hoL,_⟩:=id hn
  refine h _ ⟨I.ok,I.os,I.bare,⟨fun b o e n hb hx=>?_,fun b o e n hb hx=>?_,I.base.free,fun b o e hx=>?_,I.base.tups,I.base.frzs,I.base.tbls⟩,⟨_,hn',fun j y v' e1 e2 e3=>?_⟩,fun y c e=>?_,I.free,I.freeC,fun p hp=>?_,tracked ⟨oL,hoL,I.free⟩ hs,by simpa using I.len⟩ ⟨_,hs,.inl rfl⟩
  ·exact(hs.2 b (B7 (B8 (BX e) I.ok.above))).trans (I.base.keep b o e n hb hx)
  ·obtain⟨sl,e1⟩:=I.base.slot b o e n hb hx
   exact⟨sl,(hs.2 b (B7 (B8 (BX e) I.ok.above))).trans e1⟩
  ·obtain⟨o',e1⟩:=I.base.there b o e hx
   exact⟨o',(hs.2 b (B7 (B8 (BX e) I.ok.above))).trans e1⟩
  ·by_cases hj:j=i
   ·subst hj
    rw[hi] at e1;cases e1
    rw[BE hiσ] at e2
    cases e2
    exact⟨u,r,.inl ⟨hk,by simp⟩⟩
   ·rw[BF (Ne.symm hj)] at e2
    obtain⟨u',r',q⟩:=hl j y v' e1 e2 e3
    refine⟨u',r',?_⟩
    rcases q with⟨k,e⟩|⟨k,c,e,z⟩
    ·refine .inl ⟨k,?_⟩
     have:y≠x:=fun e=>hj (nA hN e1 (e▸hi))
     simp[this,e]
    ·exact .inr ⟨k,c,e,z.sameBut hs (cne y c e)⟩
  ·obtain⟨w',z⟩:=I.cell y c e
   exact⟨w',z.sameBut hs (cne y c e)⟩
  ·obtain⟨e,n,ne,nf,d⟩:=I.pin p hp
   exact⟨(hs.2 p.1 ne).trans e,n,ne,nf,d⟩
 ·have hfn:X.fn x=true:=by
   rcases hf with z|z
   ·exact z
   ·rw[z] at hk;cases hk
  obtain⟨c,hc⟩:=I.ok.has x (.inl hk)
  obtain⟨w',z⟩:=I.cell x c hc
  refine wpAny_storeName_cell I.ok.kind hk hc z (fun h' hc' hs=>?_)
  obtain⟨oc,hoc,hocd⟩:=id z
  refine h { s with heap:=h' } ⟨I.ok,I.os,I.bare,⟨fun b o e n hb hx=>?_,fun b o e n hb hx=>?_,I.base.free,fun b o e hx=>?_,I.base.tups,I.base.frzs,I.base.tbls⟩,⟨m,hn.sameBut hs (Ne.symm (cne x c hc)),fun j y v' e1 e2 e3=>?_⟩,fun y c' e=>?_,I.free,I.freeC,fun p hp=>?_,tracked ⟨oc,hoc,I.freeC x c hc⟩ hs,by simpa using I.len⟩ ⟨c,hs,.inr hc⟩
  ·exact(hs.2 b (B7 (B8 (BX e) (I.ok.cab x c hfn hc)))).trans (I.base.keep b o e n hb hx)
  ·obtain⟨sl,e1⟩:=I.base.slot b o e n hb hx
   exact⟨sl,(hs.2 b (B7 (B8 (BX e) (I.ok.cab x c hfn hc)))).trans e1⟩
  ·obtain⟨o',e1⟩:=I.base.there b o e hx
   exact⟨o',(hs.2 b (B7 (B8 (BX e) (I.ok.cab x c hfn hc)))).trans e1⟩
  ·by_cases hj:j=i
   ·subst hj
    rw[hi] at e1;cases e1
    rw[BE hiσ] at e2
    cases e2
    exact⟨u,r,.inr ⟨.inl hk,c,hc,hc'⟩⟩
   ·rw[BF (Ne.symm hj)] at e2
    obtain⟨u',r',q⟩:=hl j y v' e1 e2 e3
    refine⟨u',r',?_⟩
    rcases q with q|⟨k,c',e,z'⟩
    ·exact .inl q
    ·refine .inr ⟨k,c',e,z'.sameBut hs ?_⟩
     rintro rfl
     exact hj (nA hN e1 (I.ok.inj _ _ _ e hc▸hi))
  ·by_cases hcc:c'=c
   ·subst hcc;exact⟨_,hc'⟩
   ·obtain⟨w2,z2⟩:=I.cell y c' e
    exact⟨w2,z2.sameBut hs hcc⟩
  ·obtain⟨e,n,ne,nf,d⟩:=I.pin p hp
   refine⟨(hs.2 p.1 ?_).trans e,n,ne,nf,d⟩
   intro q
   rw[q,hoc] at e
   have q':oc=p.2:=Option.some.inj e
   exact d w' (by rw[<-q'];exact hocd)
theorem lc {M:Model}{A:Around}{E:Value->CW->Prop}{i:Nat}{x:Str}{v:V}{u:Value}{Q:Unit->CW->Prop}(I:ac X pins σ H s)(hN:X.N.Nodup)(hi:X.N[i]?=some x)(hx:jp X.env.scope x)(r:aw v u)
  (h:∀ s',ac X pins (σ.set i (some v)) H s'->Q () s') (hf:X.fn x=true\/X.env.scope.names.lookup x=some .local:=by first|exact .inl rfl|exact .inr rfl|assumption):wpAny M A (storeName X.env x u) Q E s :=
 mi I hN hi hx r (fun s' I' _=>h s' I') hf
theorem ac.call' {s':CW}{ch:List Addr}(I:ac X pins σ H s)(ho:s'.os=s.os)(u:Un (dP X.stack) ch H H' s.heap s'.heap)(hok:bq X.prog X.w H' s'.heap)(hg:CY s'.gens)
  (hch:∀ b∈ch,(b∈X.ex\/X.s₀.heap.objs.size<=b)/\b≠X.env.locals/\(∀ x c,X.env.cells.lookup x=some c->c≠b)/\∀ p∈X.pn++pins,p.1≠b):ac X pins σ H' s':=by
 obtain⟨h',g',d',t',o'⟩:=s'
 have e:o'=s.os:=ho
 subst e
 exact I.call (g':=g') (t':=t') (d':=d') u hok hg hch
end
abbrev XK:=Value->Option Addr->Hp->Prop
abbrev St:=List (Option V)
abbrev VK:=V->Hp->Prop
abbrev TE:=St->Hp->VK->Prop
abbrev TT:=St->Hp->(Bool->Hp->Prop)->Prop
abbrev TA:=St->Hp->(List V->Hp->Prop)->Prop
structure dy where
 nx:St->Hp->Prop
 rt:VK
 bk:St->Hp->Prop:=fun _ _=>False
 ct:St->Hp->Prop:=fun _ _=>False
abbrev TS:=dy->St->Hp->Prop
def EP (X:Cx)(pins:List (Addr×Obj))(σ:St)(Q:VK)(u:Value)(s':CW):Prop:=∃ v H',ac X pins σ H' s'/\aw v u/\Q v H'
def TP (X:Cx)(pins:List (Addr×Obj))(σ:St)(Q:Bool->Hp->Prop)(b:Bool)(s':CW):Prop:=∃ H',ac X pins σ H' s'/\Q b H'
def AP (X:Cx)(pins:List (Addr×Obj))(σ:St)(Q:List V->Hp->Prop)(us:List Value)(s':CW):Prop:=∃ vs H',ac X pins σ H' s'/\au vs us/\Q vs H'
def SP (X:Cx)(pins:List (Addr×Obj))(D:dy)(f:Flow)(s':CW):Prop :=
 match f with
 | .next=>∃ σ' H',ac X pins σ' H' s'/\D.nx σ' H'
 | .brk=>∃ σ' H',ac X pins σ' H' s'/\D.bk σ' H'
 | .cont=>∃ σ' H',ac X pins σ' H' s'/\D.ct σ' H'
 | .ret u=>∃ v σ' H',ac X pins σ' H' s'/\aw v u/\D.rt v H'
structure PE (X:Cx)(e:Expr)(t:TE):Prop where
 go:∀ (pins:List (Addr×Obj)) (s:CW) (σ:St) (H:Hp) (Q:VK),ac X pins σ H s->t σ H Q->wpAny (model X.prog X.w) X.A (eval e X.env) (EP X pins σ Q) X.xe s
instance {X:Cx}{e:Expr}{t:TE}:CoeFun (PE X e t) (fun _=>∀ (pins:List (Addr×Obj)) (s:CW) (σ:St) (H:Hp) (Q:VK),ac X pins σ H s->t σ H Q->wpAny (model X.prog X.w) X.A (eval e X.env) (EP X pins σ Q) X.xe s):=⟨PE.go⟩
structure PT (X:Cx)(e:Expr)(t:TT):Prop where
 go:∀ (pins:List (Addr×Obj)) (s:CW) (σ:St) (H:Hp) (Q:Bool->Hp->Prop),ac X pins σ H s->t σ H Q->wpAny (model X.prog X.w) X.A (isTrue e X.env (eval e X.env)) (TP X pins σ Q) X.xe s
instance {X:Cx}{e:Expr}{t:TT}:CoeFun (PT X e t) (fun _=>∀ (pins:List (Addr×Obj)) (s:CW) (σ:St) (H:Hp) (Q:Bool->Hp->Prop),ac X pins σ H s->t σ H Q->wpAny (model X.prog X.w) X.A (isTrue e X.env (eval e X.env)) (TP X pins σ Q) X.xe s):=⟨PT.go⟩
structure PW (X:Cx)(e:Expr)(t:TT):Prop where
 go:∀ (whole:Sem Value) (pins:List (Addr×Obj)) (s:CW) (σ:St) (H:Hp) (Q:Bool->Hp->Prop),ac X pins σ H s->t σ H Q->wpAny (model X.prog X.w) X.A (isTrue e X.env whole) (TP X pins σ Q) X.xe s
instance {X:Cx}{e:Expr}{t:TT}:CoeFun (PW X e t) (fun _=>∀ (whole:Sem Value) (pins:List (Addr×Obj)) (s:CW) (σ:St) (H:Hp) (Q:Bool->Hp->Prop),ac X pins σ H s->t σ H Q->wpAny (model X.prog X.w) X.A (isTrue e X.env whole) (TP X pins σ Q) X.xe s):=⟨PW.go⟩
theorem PW.pt {X:Cx}{e:Expr}{t:TT}(h:PW X e t):PT X e t:=.mk (h _)
structure PA (X:Cx)(es:List Expr)(t:TA):Prop where
 go:∀ (pos:Pos) (pins:List (Addr×Obj)) (s:CW) (σ:St) (H:Hp) (Q:List V->Hp->Prop),ac X pins σ H s->t σ H Q->wpAny (model X.prog X.w) X.A (spliced (CZ pos (C0 es X.env))) (AP X pins σ Q) X.xe s
instance {X:Cx}{es:List Expr}{t:TA}:CoeFun (PA X es t) (fun _=>∀ (pos:Pos) (pins:List (Addr×Obj)) (s:CW) (σ:St) (H:Hp) (Q:List V->Hp->Prop),ac X pins σ H s->t σ H Q->wpAny (model X.prog X.w) X.A (spliced (CZ pos (C0 es X.env))) (AP X pins σ Q) X.xe s):=⟨PA.go⟩
structure PS (X:Cx)(st:Stmt)(t:TS):Prop where
 go:∀ (pins:List (Addr×Obj)) (s:CW) (σ:St) (H:Hp) (D:dy),ac X pins σ H s->t D σ H->wpAny (model X.prog X.w) X.A (exec st X.env) (SP X pins D) X.xe s
instance {X:Cx}{st:Stmt}{t:TS}:CoeFun (PS X st t) (fun _=>∀ (pins:List (Addr×Obj)) (s:CW) (σ:St) (H:Hp) (D:dy),ac X pins σ H s->t D σ H->wpAny (model X.prog X.w) X.A (exec st X.env) (SP X pins D) X.xe s):=⟨PS.go⟩
structure bW (X:Cx)(st:List Stmt)(t:TS):Prop where
 go:∀ (pins:List (Addr×Obj)) (s:CW) (σ:St) (H:Hp) (D:dy),ac X pins σ H s->t D σ H->wpAny (model X.prog X.w) X.A (execs st X.env) (SP X pins D) X.xe s
instance {X:Cx}{st:List Stmt}{t:TS}:CoeFun (bW X st t) (fun _=>∀ (pins:List (Addr×Obj)) (s:CW) (σ:St) (H:Hp) (D:dy),ac X pins σ H s->t D σ H->wpAny (model X.prog X.w) X.A (execs st X.env) (SP X pins D) X.xe s):=⟨bW.go⟩
theorem ai {α:Type}{t:Sem α}{Q Q':α->CW->Prop}{M:Model}{A:Around}{E:Value->CW->Prop}{s:CW}(h:wpAny M A t Q E s)(hQ:∀ a s,Q a s->Q' a s):wpAny M A t Q' E s:=C1 h hQ fun _ _ x=>x
end L2
namespace L2
open PySem PySem.Spec PyProof.Rows
section
variable {X:Cx}
inductive iN (i:Nat)(σ:St)(H:Hp)(Q:VK):Prop
 | mk (v:V)(e:σ[i]?=some (some v))(q:Q v H):iN i σ H Q
abbrev tC (v:V):TE:=fun _ H Q=>Q v H
theorem yQ {i:Nat}{x:Str}{pos:Pos}(hN:X.N[i]?=some x)(hv:gr X.env.scope x)(hd:(x == ("__debug__" : Str))=false:=by decide)(hcd:(x == ("__classdict__" : Str))=false:=by decide):PE X (.Name x pos) (iN i):=by
 refine⟨?_⟩
 intro pins s σ H Q I h
 obtain⟨v,e,h⟩:=h
 obtain⟨m,hn,hl⟩:=I.loc
 obtain⟨u,r,l⟩:=hl i x v hN e hv
 have fin:EP X pins σ Q u s:=⟨v,H,I,r,h⟩
 rcases l with⟨hk,hm⟩|⟨hk,c,hc,hcell⟩
 ·exact wpAny_Name (wpAny_loadName_local I.ok.kind hk hn hm fin) hd
 ·rcases hk with hk|hk
  ·exact wpAny_Name (wpAny_loadName_cell I.ok.kind hk hc hcell fin) hd
  ·exact wpAny_Name (wpAny_loadName_free I.ok.kind hk hc hcell fin hcd) hd
theorem ag {i j pos}:PE X (.Constant (.int i) j pos) (tC (.int i)):=.mk fun _ _ _ H _ I h=>wpAny_Constant_int ⟨.int i,H,I.tok _,⟨_,rfl⟩,h⟩
theorem qh {b j pos}:PE X (.Constant (.bool b) j pos) (tC (.bl b)):=.mk fun _ _ _ H _ I h=>Constant_bool ⟨.bl b,H,I,rfl,h⟩
theorem cq {j pos}:PE X (.Constant .none j pos) (tC .non):=.mk fun _ _ _ H _ I h=>Constant_none ⟨.non,H,I,rfl,h⟩
theorem sL {x j pos}:PE X (.Constant (.str x) j pos) (tC (.str x)):=.mk fun _ _ _ H _ I h=>Calls.Constant_str ⟨.str x,H,I.tok _,⟨_,rfl⟩,h⟩
def Gl (X:Cx)(x:Str):Prop:=X.env.kindOf x=some .globalImplicit
theorem j5 {E:Value->CW->Prop}{pins:List (Addr×Obj)}{s:CW}{σ:St}{H:Hp}{x:Str}{u:Value}{pos:Pos}{Q:Value->CW->Prop}(I:ac X pins σ H s)(hg:Gl X x)(hm:X.mg x=some u)(h:Q u s)
  (hd:(x == ("__debug__" : Str))=false:=by decide):wpAny (model X.prog X.w) X.A (eval (.Name x pos) X.env) Q E s :=
 Calls.Name_function_global I.ok.kind hg (Calls.loadGlobal_global (by rw[I.ok.glob];exact I.mod.glob.keeps I.bk) hm h) hd
theorem iK {E:Value->CW->Prop}{pins:List (Addr×Obj)}{s:CW}{σ:St}{H:Hp}{x:Str}{u:Value}{pos:Pos}{Q:Value->CW->Prop}(I:ac X pins σ H s)(hg:Gl X x)(hm:X.mg x=none)(hv:CV x=some u)(h:Q u s)
  (hn:x≠"__name__":=by decide) (hd:(x == ("__debug__" : Str))=false:=by decide):wpAny (model X.prog X.w) X.A (eval (.Name x pos) X.env) Q E s:=by
 obtain⟨mb,h1,h2⟩:=I.mod.blt
 exact Calls.Name_function_global I.ok.kind hg (Calls.loadGlobal_builtin (by rw[I.ok.glob];exact I.mod.glob.keeps I.bk) hm (by rw[I.ok.blt];exact h1.keeps I.bk) ((h2 x hn).trans hv) h) hd
theorem nU {x:Str}{v:V}{u:Value}{pos:Pos}(hg:Gl X x)(hm:X.mg x=some u)(r:aw v u)(hd:(x == ("__debug__" : Str))=false:=by decide):PE X (.Name x pos) (tC v):=.mk
 fun _ _ _ H _ I h=>j5 I hg hm ⟨v,H,I,r,h⟩ hd
theorem wS {x:Str}{v:V}{u:Value}{pos:Pos}(hg:Gl X x)(hm:X.mg x=none)(hv:CV x=some u)(r:aw v u)(hn:x≠"__name__":=by decide)(hd:(x == ("__debug__" : Str))=false:=by decide):PE X (.Name x pos) (tC v):=.mk
 fun _ _ _ H _ I h=>iK I hg hm hv ⟨v,H,I,r,h⟩ hn hd
variable {a b:Expr}{ta tb:TE}{pos:Pos}
def PC (X:Cx)(op:CmpOp)(a b:Expr)(t:TE):Prop :=
 ∀ (pins:List (Addr×Obj)) (s:CW) (σ:St) (H:Hp) (Q:VK),ac X pins σ H s->t σ H Q ->
  wpAny (model X.prog X.w) X.A (eval a X.env) (fun v s₁=>wpAny (model X.prog X.w) X.A (eval b X.env) (fun u s₂=>wpAny (model X.prog X.w) X.A (C2 op v u) (EP X pins σ Q) X.xe s₂) X.xe s₁) X.xe s
inductive su (x:V)(H1:Hp)(Q:Bool->Hp->Prop):Prop
 | mk (c:Bool)(e:x=.bl c)(q:Q c H1):su x H1 Q
def tB (t:TE):TT:=fun σ H Q=>t σ H fun x H1=>su x H1 Q
theorem pC {op:CmpOp}{t:TE}(h:PC X op a b t)(h1:C3 op b=false:=by first|exact nobehind _ (by decide) (by decide)|rfl):PT X (.Compare a [op] [b] pos) (tB t):=by
 refine⟨?_⟩
 intro pins s σ H Q I hw
 refine C4 (ai (h pins s σ H _ I hw) fun v s1 h1=>ai h1 fun u s2 h2=>ai h2 fun c s3 ⟨x,H1,I1,r1,q1⟩=>?_) h1
 obtain⟨d,rfl,q⟩:=q1
 cases r1
 exact C5 ⟨H1,I1,q⟩
theorem dY {e:Expr}{t:TE}(h:PE X e t)(he:∀ whole,isTrue e X.env whole=(do let v <-whole;C6 e.pos;C7 [v] (truthy v)):=by intro _;rfl):PT X e (tB t):=by
 refine⟨?_⟩
 intro pins s σ H Q I hw
 refine isTrue_plain (ai (h pins s σ H _ I hw) fun v s1 ⟨x,H1,I1,r1,q1⟩=>?_) (he _)
 obtain⟨d,rfl,q⟩:=q1
 cases r1
 exact C5 ⟨H1,I1,q⟩
variable {tA tB':TT}{rest:List Expr}
def uA (t u:TT):TT:=fun σ H Q=>t σ H fun c H1=>if c=true then u σ H1 Q else Q false H1
def y4 (t u:TT):TT:=fun σ H Q=>t σ H fun c H1=>if c=true then Q true H1 else u σ H1 Q
def wx (t:TT):TT:=fun σ H Q=>t σ H fun c H1=>Q (!c) H1
theorem tT (ha:PT X a tA):PW X (.BoolOp .And [a] pos) tA:=by
 refine⟨?_⟩
 intro wh pins s σ H Q I h
 refine isTrue_and (ai (ha pins s σ H Q I h) fun c s1 e=>?_)
 cases c with
 | true=>exact isTrue_and_nil e
 | false=>exact e
theorem wP (ha:PT X a tA):PW X (.BoolOp .Or [a] pos) tA:=by
 refine⟨?_⟩
 intro wh pins s σ H Q I h
 refine isTrue_or (ai (ha pins s σ H Q I h) fun c s1 e=>?_)
 cases c with
 | false=>exact isTrue_or_nil e
 | true=>exact e
theorem lP (ha:PT X a tA)(hb:PW X (.BoolOp .And (b::rest) pos) tB'):PW X (.BoolOp .And (a::b::rest) pos) (uA tA tB'):=by
 refine⟨?_⟩
 intro wh pins s σ H Q I h
 refine isTrue_and (ai (ha pins s σ H _ I h) fun c s1 ⟨H1,I1,q1⟩=>?_)
 cases c with
 | true=>exact hb wh pins s1 σ H1 Q I1 q1
 | false=>exact⟨H1,I1,q1⟩
theorem yJ (ha:PT X a tA)(hb:PW X (.BoolOp .Or (b::rest) pos) tB'):PW X (.BoolOp .Or (a::b::rest) pos) (y4 tA tB'):=by
 refine⟨?_⟩
 intro wh pins s σ H Q I h
 refine isTrue_or (ai (ha pins s σ H _ I h) fun c s1 ⟨H1,I1,q1⟩=>?_)
 cases c with
 | true=>exact⟨H1,I1,q1⟩
 | false=>exact hb wh pins s1 σ H1 Q I1 q1
theorem fw (ha:PT X a tA):PT X (.UnaryOp .Not a pos) (wx tA):=by
 refine⟨?_⟩
 intro pins s σ H Q I h
 exact isTrue_not (ha pins s σ H (fun c H1=>Q (!c) H1) I h)
inductive p0 (tb:TE)(σ:St)(x:V)(H1:Hp)(Q:VK):Prop
 | mk (c:Bool)(e:x=.bl c)(q:if c=true then tb σ H1 Q else Q (.bl false) H1):p0 tb σ x H1 Q
def yK (ta tb:TE):TE:=fun σ H Q=>ta σ H fun x H1=>p0 tb σ x H1 Q
def zr (ta:TE):TE:=fun σ H Q=>ta σ H fun x H1=>∃ c,x=.bl c/\Q (.bl (!c)) H1
theorem dD {op}{t:TE}(h:PE X a t):PE X (.BoolOp op [a] pos) t:=.mk fun pins s σ H Q I hw=>BoolOp_one (h pins s σ H Q I hw)
theorem cT (ha:PE X a ta)(hb:PE X (.BoolOp .And (b::rest) pos) tb):PE X (.BoolOp .And (a::b::rest) pos) (yK ta tb):=by
 refine⟨?_⟩
 intro pins s σ H Q I h
 refine BoolOp_and (ai (ha pins s σ H _ I h) fun v s1 ⟨x,H1,I1,r1,q1⟩=>?_)
 obtain⟨c,rfl,q1⟩:=q1
 cases r1
 refine C5 ?_
 cases c with
 | true=>exact hb pins s1 σ H1 Q I1 q1
 | false=>exact⟨.bl false,H1,I1,rfl,q1⟩
theorem zE (ha:PE X a ta):PE X (.UnaryOp .Not a pos) (zr ta):=by
 refine⟨?_⟩
 intro pins s σ H Q I h
 refine UnaryOp_ (ai (ha pins s σ H _ I h) fun v s1 ⟨x,H1,I1,r1,q1⟩=>?_)
 obtain⟨c,rfl,q1⟩:=q1
 cases r1
 exact not_of (C5 ⟨.bl (!c),H1,I1,rfl,q1⟩)
end
end L2
namespace L2
open PySem PySem.Spec PyProof.Rows
def aS (K:W.Frag)(H:Hp)(a:Addr)(xs:List V):Prop :=
 Rd H a (.lst xs) \/
  ∃ (o:Obj) (its:Array Value) (n:Nat),K.lookup a=some o/\o.cls=.type "list"/\o.dict=none/\o.data=.seq its n/\its.size<=CQ/\au xs its.toList
def bj (K:W.Frag)(H:Hp)(a:Addr)(xs:List V):Prop :=
 Rd H a (.tup xs) \/
  ∃ (o:Obj) (its:Array Value) (n:Nat),K.lookup a=some o/\o.cls=.type "tuple"/\o.data=.seq its n/\its.size<=CQ/\au xs its.toList
def uQ:Value->Option V
 | .none=>some .non
 | .bool b=>some (.bl b)
 | .int i _=>some (.int i)
 | .str x _=>some (.str x)
 | .bytes b _=>some (.byt b)
 | .float b _=>some (.flt b)
 | .ref a=>some (.ref a)
 | .type n=>some (.ty n)
 | _=>none
theorem aw.abs {x:V}{u:Value}(r:aw x u):uQ u=some x:=by
 cases x with
 | non=>cases r;rfl
 | bl _=>cases r;rfl
 | int _=>obtain⟨t,rfl⟩:=r;rfl
 | str _=>obtain⟨t,rfl⟩:=r;rfl
 | byt _=>obtain⟨t,rfl⟩:=r;rfl
 | flt _=>obtain⟨t,rfl⟩:=r;rfl
 | ref _=>cases r;rfl
 | ty _=>cases r;rfl
theorem aw.inj {x y:V}{u:Value}(r:aw x u)(q:aw y u):x=y:=Option.some.inj (r.abs.symm.trans q.abs)
theorem au.inj:∀ {xs ys:List V}{us:List Value},au xs us->au ys us->xs=ys
 | _,_,_,.nil,.nil=>rfl
 | _,_,_,.cons r t,.cons r' t'=>by rw[r.inj r',au.inj t t']
section
variable {X:Cx}{pins:List (Addr×Obj)}{σ:St}{H:Hp}{s:CW}{a:Addr}{xs ys:List V}
theorem aS.of {K:W.Frag}(h:H a=some (.lst xs)):aS K H a xs:=.inl (.inl h)
theorem bj.of {K:W.Frag}(h:H a=some (.tup xs)):bj K H a xs:=.inl (.inl h)
theorem ac.list (I:ac X pins σ H s)(h:aS X.K H a xs):∃ its:List Value,au xs its/\PlainL s.heap a its.toArray/\xs.length<=CQ:=by
 rcases h with h|⟨o,its,n,hk,hc,hd,hs,hz,r⟩
 ·obtain⟨z,its,n,r,e⟩:=h.ok I.hok
  exact⟨its,r,⟨_,n,e,rfl,rfl,rfl⟩,z⟩
 ·refine⟨its.toList,r,⟨o,n,I.kIn a o hk,hc,hd,by simpa using hs⟩,?_⟩
  have e:=r.length
  simp only[Cr] at e
  omega
theorem ac.tuple (I:ac X pins σ H s)(h:bj X.K H a xs):∃ its:List Value,au xs its/\IsTup s.heap a its.toArray/\xs.length<=CQ:=by
 rcases h with h|⟨o,its,n,hk,hc,hs,hz,r⟩
 ·obtain⟨z,its,r,p⟩:=h.ok I.hok
  exact⟨its,r,p,z⟩
 ·refine⟨its.toList,r,⟨o,I.kIn a o hk,hc,n,by simpa using hs⟩,?_⟩
  have e:=r.length
  simp only[Cr] at e
  omega
theorem ac.list_inj (I:ac X pins σ H s)(h:aS X.K H a xs)(h':aS X.K H a ys):xs=ys:=by
 obtain⟨its,r,⟨o,n,e,_,_,d⟩,_⟩:=I.list h
 obtain⟨its',r',⟨o',n',e',_,_,d'⟩,_⟩:=I.list h'
 rw[e] at e';cases e'
 rw[d] at d'
 injection d' with d1 _
 have:its=its':=by simpa using congrArg Cw d1
 subst this
 exact r.inj r'
theorem ac.tuple_inj (I:ac X pins σ H s)(h:bj X.K H a xs)(h':bj X.K H a ys):xs=ys:=by
 obtain⟨its,r,⟨o,e,_,n,d⟩,_⟩:=I.tuple h
 obtain⟨its',r',⟨o',e',_,n',d'⟩,_⟩:=I.tuple h'
 rw[e] at e';cases e'
 rw[d] at d'
 injection d' with d1 _
 have:its=its':=by simpa using congrArg Cw d1
 subst this
 exact r.inj r'
end
abbrev Cx.wish (X:Cx)(E:Value->CW->Prop):Cx:={ X with xe:=E }
abbrev Cx.nox (X:Cx):Cx:=X.wish fun _ _=>False
theorem Cx.Ok.wish {X:Cx}(ok:X.Ok)(E:Value->CW->Prop):(X.wish E).Ok :=
 ⟨ok.mod,ok.kind,ok.glob,ok.blt,ok.above,ok.inj,ok.has,ok.cab,ok.hd,ok.frames,ok.stk,ok.exf,ok.bs,ok.bsz,ok.noex,ok.exfs,ok.funs,ok.frf⟩
theorem Cx.Ok.unwish {X:Cx}{E:Value->CW->Prop}(ok:(X.wish E).Ok):X.Ok :=
 ⟨ok.mod,ok.kind,ok.glob,ok.blt,ok.above,ok.inj,ok.has,ok.cab,ok.hd,ok.frames,ok.stk,ok.exf,ok.bs,ok.bsz,ok.noex,ok.exfs,ok.funs,ok.frf⟩
section
variable {X:Cx}{pins:List (Addr×Obj)}{σ:St}{H:Hp}{s:CW}{E:Value->CW->Prop}
theorem ac.wish (I:ac X pins σ H s)(E:Value->CW->Prop):ac (X.wish E) pins σ H s:=⟨I.ok.wish E,I.os,I.bare,I.base,I.loc,I.cell,I.free,I.freeC,I.pin,I.hok,I.len⟩
theorem ac.unwish (I:ac (X.wish E) pins σ H s):ac X pins σ H s:=⟨I.ok.unwish,I.os,I.bare,I.base,I.loc,I.cell,I.free,I.freeC,I.pin,I.hok,I.len⟩
theorem SP.unwish {D:dy}{f:Flow}{s':CW}(h:SP (X.wish E) pins D f s'):SP X pins D f s':=by
 cases f with
 | next=>obtain⟨σ',H',I,q⟩:=h;exact⟨σ',H',I.unwish,q⟩
 | brk=>obtain⟨σ',H',I,q⟩:=h;exact⟨σ',H',I.unwish,q⟩
 | cont=>obtain⟨σ',H',I,q⟩:=h;exact⟨σ',H',I.unwish,q⟩
 | ret u=>obtain⟨v,σ',H',I,r,q⟩:=h;exact⟨v,σ',H',I.unwish,r,q⟩
theorem bW.nox {st:List Stmt}{t:TS}(h:bW X.nox st t):bW X st t:=.mk fun pins s σ H D I hw =>
 C1 (h pins s σ H D (I.wish _) hw) (fun _ _ q=>q.unwish) fun _ _ z=>False.elim z
end
section
variable {X:Cx}{st:Stmt}{rest:List Stmt}{t u:TS}{e:Expr}{te:TE}{pos:Pos}
def wc:TS:=fun D σ H=>D.nx σ H
def wR (t u:TS):TS:=fun D σ H=>t { D with nx:=u D } σ H
theorem bE:bW X [] wc:=.mk fun _ _ σ H _ I h=>C8 ⟨σ,H,I,h⟩
theorem al (h1:PS X st t)(h2:bW X rest u):bW X (st::rest) (wR t u):=by
 refine⟨?_⟩
 intro pins s σ H D I h
 refine C9 (ai (h1 pins s σ H { D with nx:=u D } I h) fun f s1 q=>?_)
 cases f with
 | next =>
  obtain⟨σ',H',I',q⟩:=q
  exact h2 pins s1 σ' H' D I' q
 | ret v=>exact q
 | brk=>exact q
 | cont=>exact q
theorem ar (h1:PS X st t):bW X [st] t:=by
 refine⟨?_⟩
 intro pins s σ H D I h
 refine C9 (ai (h1 pins s σ H D I h) fun f s1 q=>?_)
 cases f with
 | next=>exact C8 q
 | ret v=>exact q
 | brk=>exact q
 | cont=>exact q
theorem ac.quiet {pins:List (Addr×Obj)}{σ:St}{H:Hp}{s:CW}(I:ac X pins σ H s):interactive X.env=false:=by simp[interactive,I.ok.kind]
def xw (te:TE):TS:=fun D σ H=>te σ H fun _ H1=>D.nx σ H1
theorem cK (he:PE X e te)(hs:Da e none pos.line X.env=pure false:=by rfl):PS X (.Expr e pos) (xw te):=by
 refine⟨?_⟩
 intro pins s σ H D I h
 exact wpAny_Expr_any (ai (he pins s σ H _ I h) fun v s1 ⟨x,H1,I1,r1,q1⟩=>⟨σ,H1,I1,q1⟩) I.quiet hs
def xc (te:TE):TS:=fun D σ H=>te σ H D.rt
theorem aF (he:PE X e te):PS X (.Return (some e) pos) (xc te):=by
 refine⟨?_⟩
 intro pins s σ H D I h
 exact wpAny_Return_some (ai (he pins s σ H _ I h) fun v s1 ⟨x,H1,I1,r1,q1⟩=>⟨x,σ,H1,I1,r1,q1⟩)
def vh (c:TT)(t u:TS):TS:=fun D σ H=>c σ H fun b H1=>if b=true then t D σ H1 else u D σ H1
theorem bA {c:Expr}{a b:List Stmt}{tc:TT}(hc:PT X c tc)(ha:bW X a t)(hb:bW X b u):PS X (.If c a b pos) (vh tc t u):=by
 refine⟨?_⟩
 intro pins s σ H D I h
 refine wpAny_If (ai (hc pins s σ H _ I h) fun d s1 ⟨H1,I1,q1⟩=>?_)
 cases d with
 | true=>exact ha pins s1 σ H1 D I1 q1
 | false=>exact hb pins s1 σ H1 D I1 q1
def uk:TS:=fun _ _ _=>False
theorem ju {sts:List Stmt}:bW X sts uk:=.mk fun _ _ _ _ _ _ h=>h.elim
end
abbrev TG:=V->St->Hp->(St->Hp->Prop)->Prop
abbrev gP:=List V->St->Hp->(St->Hp->Prop)->Prop
def PG (X:Cx)(target:Expr)(t:TG):Prop :=
 ∀ (pins:List (Addr×Obj)) (s:CW) (σ:St) (H:Hp) (v:V) (u:Value) (Q:St->Hp->Prop),ac X pins σ H s->aw v u->t v σ H Q ->
  wpAny (model X.prog X.w) X.A (Db target X.env u) (fun _ s'=>∃ σ' H',ac X pins σ' H' s'/\Q σ' H') X.xe s
def i7 (X:Cx)(ts:List Expr)(t:gP):Prop :=
 ∀ (pins:List (Addr×Obj)) (s:CW) (σ:St) (H:Hp) (vs:List V) (us:List Value) (Q:St->Hp->Prop),ac X pins σ H s->au vs us->t vs σ H Q ->
  wpAny (model X.prog X.w) X.A (assignInOrder ((Dd ts X.env).map (·.2)) us) (fun _ s'=>∃ σ' H',ac X pins σ' H' s'/\Q σ' H') X.xe s
abbrev jx:=V->V->V->Hp->(Hp->Prop)->Prop
def lS (X:Cx)(t:jx):Prop :=
 ∀ (pins:List (Addr×Obj)) (s:CW) (σ:St) (H:Hp) (o i v:V) (ov iv u:Value) (Q:Hp->Prop),ac X pins σ H s->aw o ov->aw i iv->aw v u->t o i v H Q ->
  wpAny (model X.prog X.w) X.A (setItem ov iv u) (fun _ s'=>∃ H',ac X pins σ H' s'/\Q H') X.xe s
abbrev iW:=V->V->Hp->VK->Prop
def jX (X:Cx)(op:Operator)(t:iW):Prop :=
 ∀ (pins:List (Addr×Obj)) (s:CW) (σ:St) (H:Hp) (x y:V) (v u:Value) (Q:VK),ac X pins σ H s->aw x v->aw y u->t x y H Q ->
  wpAny (model X.prog X.w) X.A (inplaceOp op v u) (EP X pins σ Q) X.xe s
section
variable {X:Cx}{pos:Pos}
def cY (i:Nat):TG:=fun v σ H Q=>Q (σ.set i (some v)) H
theorem br {i:Nat}{x:Str}(hN:X.N.Nodup)(hi:X.N[i]?=some x)(hx:jp X.env.scope x)(hf:X.fn x=true\/X.env.scope.names.lookup x=some .local:=by first|exact .inl rfl|exact .inr rfl|assumption):PG X (.Name x pos) (cY i):=by
 intro pins s σ H v u Q I r h
 exact De (lc I hN hi hx r (fun s' I'=>⟨_,H,I',h⟩) hf)
def sd:gP:=fun vs σ H Q=>vs=[]/\Q σ H
inductive ko (t:TG)(u:gP)(vs:List V)(σ:St)(H:Hp)(Q:St->Hp->Prop):Prop
 | mk (v:V)(r:List V)(e:vs=v::r)(q:t v σ H fun σ' H'=>u r σ' H' Q):ko t u vs σ H Q
theorem gi:i7 X [] sd:=by
 intro pins s σ H vs us Q I r h
 obtain⟨e,h⟩:=h
 subst e
 cases r
 exact assignInOrder_nil ⟨σ,H,I,h⟩
theorem cF {e:Expr}{es:List Expr}{t:TG}{u:gP}(h1:PG X e t)(h2:i7 X es u)
  (hs:(Dd (e::es) X.env).map (·.2)=Db e X.env::(Dd es X.env).map (·.2):=by rfl):i7 X (e::es) (ko t u):=by
 intro pins s σ H vs us Q I r h
 obtain⟨v,vr,e1,h⟩:=h
 subst e1
 cases r with
 | cons r rr =>
  rw[hs]
  refine assignInOrder_cons (ai (h1 pins s σ H _ _ _ I r h) fun _ s1 ⟨σ1,H1,I1,q1⟩=>?_)
  exact h2 pins s1 σ1 H1 _ _ Q I1 rr q1
inductive kN (K:W.Frag)(n:Nat)(t:gP)(v:V)(σ:St)(H:Hp)(Q:St->Hp->Prop):Prop
 | mk (a:Addr)(xs:List V)(e:v=.ref a)(h:bj K H a xs)(l:xs.length=n)(q:t xs σ H Q):kN K n t v σ H Q
theorem kz {es:List Expr}{k:Nat}{t:gP}{n:Nat}(hc:X.calm=true)(h:i7 X es t)
  (hn:(Dd es X.env).length=n:=by rfl) (hst:(Dd es X.env).findIdx? (·.1)=none:=by rfl):PG X (.Tuple es k pos) (kN X.K n t):=by
 intro pins s σ H v u Q I r hw
 obtain⟨a,xs,e1,hq,hl,hw⟩:=hw
 subst e1
 cases r
 obtain⟨its,rv,ht,hz⟩:=I.tuple hq
 refine assign_Tuple_tuple (I.ok.hd hc) ht (by simp[hn,<-hl,rv.length]) hst fun h' hx=>?_
 have I1:ac X pins σ H { s with heap:=h' }:=I.kept (t':=s.toks) fun b o e=>hx b o (B7 (BX e)) e
 exact h pins _ σ H xs _ Q I1 (by simpa using rv) hw
def Ai (to ti:TE)(t:jx):TG:=fun v σ H Q=>to σ H fun o H1=>ti σ H1 fun i H2=>t o i v H2 fun H3=>Q σ H3
theorem jR {o i:Expr}{to ti:TE}{t:jx}(ho:PE X o to)(hi:PE X i ti)(hs:lS X t)
  (ha:∀ v,Db (.Subscript o i pos) X.env v=(do
   let ov <-C7 [v] (eval o X.env)
   let iv <-C7 [v,ov] (eval i X.env)
   C6 pos
   C7 [v,ov,iv] (setItem ov iv v)
   release [v,ov,iv] []):=by intro _;rfl):PG X (.Subscript o i pos) (Ai to ti t):=by
 intro pins s σ H v u Q I r h
 rw[ha]
 refine Df (Dg (ai (ho pins s σ H _ I h) fun ov s1 ⟨x,H1,I1,r1,q1⟩=>?_))
 refine Df (Dg (ai (hi pins s1 σ H1 _ I1 q1) fun iv s2 ⟨y,H2,I2,r2,q2⟩=>?_))
 refine Df (Dh (Df (Dg (ai (hs pins s2 σ H2 x y v ov iv u _ I2 r1 r2 r q2) fun _ s3 ⟨H3,I3,q3⟩=>?_))))
 exact wpAny_release ⟨σ,H3,I3,q3⟩
def j9 (te:TE)(g:TG):TS:=fun D σ H=>te σ H fun x H1=>g x σ H1 D.nx
theorem iB {tg e:Expr}{te:TE}{g:TG}(he:PE X e te)(hg:PG X tg g)(hs:swapsWithSole [tg] e pos.line X.env=pure false:=by rfl)(hw:swappedStores [tg] e X.env=pure none:=by rfl)
  (h1:(Dd [tg] X.env).map (·.2)=[Db tg X.env]:=by rfl):PS X (.Assign [tg] e pos) (j9 te g):=by
 refine⟨?_⟩
 intro pins s σ H D I h
 refine wpAny_Assign_stores (ai (he pins s σ H _ I h) fun v s1 ⟨x,H1,I1,r1,q1⟩=>?_) hs hw
 rw[h1]
 exact ai (hg pins s1 σ H1 x v _ I1 r1 q1) fun _ s2 q=>q
theorem aB {i:Nat}{x:Str}{e:Expr}{te:TE}{pos':Pos}(hN:X.N.Nodup)(hi:X.N[i]?=some x)(hx:jp X.env.scope x)(he:PE X e te)(hs:Da e (some (.Name x pos')) pos.line X.env=pure false:=by rfl)(hf:X.fn x=true\/X.env.scope.names.lookup x=some .local:=by first|exact .inl rfl|exact .inr rfl|assumption) :
  PS X (.Assign [.Name x pos'] e pos) (j9 te (cY i)):=by
 refine⟨?_⟩
 intro pins s σ H D I h
 refine wpAny_Assign_Name (ai (he pins s σ H _ I h) fun v s1 ⟨y,H1,I1,r1,q1⟩=>?_) hs
 exact lc I1 hN hi hx r1 (fun s2 I2=>⟨_,H1,I2,q1⟩) hf
def zn (i:Nat)(te:TE)(ti:iW):TS:=fun D σ H=>∃ x,σ[i]?=some (some x)/\te σ H fun y H1=>ti x y H1 fun z H2=>D.nx (σ.set i (some z)) H2
theorem oZ {i:Nat}{x:Str}{e:Expr}{te:TE}{op:Operator}{ti:iW}{pos':Pos}(hN:X.N.Nodup)(hi:X.N[i]?=some x)(hx:jp X.env.scope x)(he:PE X e te)(ho:jX X op ti)(hf:X.fn x=true\/X.env.scope.names.lookup x=some .local:=by first|exact .inl rfl|exact .inr rfl|assumption) :
  PS X (.AugAssign (.Name x pos') op e pos) (zn i te ti):=by
 refine⟨?_⟩
 intro pins s σ H D I h
 obtain⟨v,e1,h⟩:=h
 obtain⟨m,hn,hl⟩:=I.loc
 have vis:gr X.env.scope x:=by rcases hx with k|k;exact .inl k;exact .inr (.inl k)
 obtain⟨u,r,l⟩:=hl i x v hi e1 vis
 refine wpAny_AugAssign_Name ?_
 have go:wpAny (model X.prog X.w) X.A (eval e X.env) (fun w s₂=>wpAny (model X.prog X.w) X.A (inplaceOp op u w) (fun r s₃=>wpAny (model X.prog X.w) X.A (storeName X.env x r) (fun _=>SP X pins D .next) X.xe s₃) X.xe s₂) X.xe s:=by
  refine ai (he pins s σ H _ I h) fun w s1 ⟨y,H1,I1,r1,q1⟩=>?_
  refine ai (ho pins s1 σ H1 v y u w _ I1 r r1 q1) fun z s2 ⟨zv,H2,I2,r2,q2⟩=>?_
  exact lc I2 hN hi hx r2 (fun s3 I3=>⟨_,H2,I3,q2⟩) hf
 rcases l with⟨hk,hm⟩|⟨hk,c,hc,hcell⟩
 ·exact wpAny_loadName_local I.ok.kind hk hn hm go
 ·rcases hk with hk|hk
  ·exact wpAny_loadName_cell I.ok.kind hk hc hcell go
  ·rcases hx with k|k
   ·have:X.env.scope.names.lookup x=some .free:=hk
    rw[k] at this;cases this
   ·have:X.env.scope.names.lookup x=some .free:=hk
    rw[k] at this;cases this
def yE (to ti te:TE)(tget:V->V->Hp->VK->Prop)(tip:iW)(tset:jx):TS:=fun D σ H=>to σ H fun o H1=>ti σ H1 fun i H2=>tget o i H2 fun x H3=>te σ H3 fun y H4=>tip x y H4 fun z H5=>tset o i z H5 fun H6=>D.nx σ H6
def nX (X:Cx)(t:V->V->Hp->VK->Prop):Prop :=
 ∀ (pins:List (Addr×Obj)) (s:CW) (σ:St) (H:Hp) (o i:V) (ov iv:Value) (Q:VK),ac X pins σ H s->aw o ov->aw i iv->t o i H Q ->
  wpAny (model X.prog X.w) X.A (Di ov iv) (EP X pins σ Q) X.xe s
theorem uY {o i e:Expr}{to ti te:TE}{tget:V->V->Hp->VK->Prop}{tip:iW}{tset:jx}{op:Operator}{tpos:Pos}(ho:PE X o to)(hi:PE X i ti)(hg:nX X tget)(he:PE X e te)(hp:jX X op tip)(hs:lS X tset)
  (ha:∀ ov iv new,augStore i ov iv new=(do C7 [new,ov,iv] (setItem ov iv new);release [new,ov,iv] [];pure .next):=by intros;rfl):PS X (.AugAssign (.Subscript o i tpos) op e pos) (yE to ti te tget tip tset):=by
 refine⟨?_⟩
 intro pins s σ H D I h
 refine wpAny_AugAssign_SubscriptAny (ai (ho pins s σ H _ I h) fun ov s1 ⟨x1,H1,I1,r1,q1⟩=>?_) ha
 refine ai (hi pins s1 σ H1 _ I1 q1) fun iv s2 ⟨x2,H2,I2,r2,q2⟩=>?_
 refine ai (hg pins s2 σ H2 x1 x2 ov iv _ I2 r1 r2 q2) fun old s3 ⟨x3,H3,I3,r3,q3⟩=>?_
 refine ai (he pins s3 σ H3 _ I3 q3) fun v s4 ⟨x4,H4,I4,r4,q4⟩=>?_
 refine ai (hp pins s4 σ H4 x3 x4 old v _ I4 r3 r4 q4) fun new s5 ⟨x5,H5,I5,r5,q5⟩=>?_
 exact ai (hs pins s5 σ H5 x1 x2 x5 ov iv new _ I5 r1 r2 r5 q5) fun _ s6 ⟨H6,I6,q6⟩=>⟨σ,H6,I6,q6⟩
def pI (f:Int->Int->Int):iW:=fun x y H Q=>∃ i j,x=.int i/\y=.int j/\Q (.int (f i j)) H
theorem vp:jX X .Add (pI fun i j=>i+j):=by
 intro pins s σ H x y v u Q I r1 r2 h
 obtain⟨i,j,e1,e2,q⟩:=h
 subst e1;subst e2
 obtain⟨t,rfl⟩:=r1
 obtain⟨t',rfl⟩:=r2
 exact iadd_int ⟨.int _,H,I.tok _,⟨_,rfl⟩,q⟩
theorem sk:jX X .Sub (pI fun i j=>i-j):=by
 intro pins s σ H x y v u Q I r1 r2 h
 obtain⟨i,j,e1,e2,q⟩:=h
 subst e1;subst e2
 obtain⟨t,rfl⟩:=r1
 obtain⟨t',rfl⟩:=r2
 exact isub_int ⟨.int _,H,I.tok _,⟨_,rfl⟩,q⟩
end
section
variable {X:Cx}{pos:Pos}
def v6 (c:TT)(tb:TS):TS:=fun D σ H=>∃ W:Nat->St->Hp->Prop,(∃ m,W m σ H)/\∀ m σ H,W m σ H ->
 c σ H fun b H1=>if b=true then ∃ N:St->Hp->Prop,(∀ σ' H',N σ' H'->∃ m',m'<m/\W m' σ' H')/\tb { D with nx:=N,ct:=N,bk:=D.nx } σ H1 else D.nx σ H1
theorem rA {c:Expr}{body:List Stmt}{tc:TT}{tb:TS}(hp:PassesOwn (model X.prog X.w) X.A X.env X.xe)(hc:PT X c tc)(hb:bW X body tb):PS X (.While c body [] pos) (v6 tc tb):=by
 refine⟨?_⟩
 intro pins s σ H D I h
 obtain⟨W,⟨m0,w0⟩,turn⟩:=h
 refine wpAny_While (codeAny_whileLoop (fun n s'=>∃ σ' H',ac X pins σ' H' s'/\W n σ' H') ?_ m0 ⟨σ,H,I,w0⟩)
 rintro n s1 ⟨σ1,H1,I1,w1⟩
 refine Dj hp (ai (hc pins s1 σ1 H1 _ I1 (turn n σ1 H1 w1)) fun b s2 ⟨H2,I2,q2⟩=>?_)
 cases b with
 | true =>
  obtain⟨N,hN,q2⟩:=q2
  rw[if_pos rfl]
  refine Dj hp (ai (hb pins s2 σ1 H2 _ I2 q2) fun f s3 q3=>?_)
  cases f with
  | next =>
   obtain⟨σ3,H3,I3,n3⟩:=q3
   obtain⟨m',hm,w3⟩:=hN σ3 H3 n3
   exact⟨m',hm,σ3,H3,I3,w3⟩
  | cont =>
   obtain⟨σ3,H3,I3,n3⟩:=q3
   obtain⟨m',hm,w3⟩:=hN σ3 H3 n3
   exact⟨m',hm,σ3,H3,I3,w3⟩
  | brk=>exact q3
  | ret v=>exact q3
 | false =>
  rw[if_neg Bool.false_ne_true]
  exact C8 ⟨σ1,H2,I2,q2⟩
end
structure It where
 go:Nat->Hp->Prop
 yld:Nat->Hp->V->Hp->Prop
 stop:Nat->Hp->Prop
def a0 (X:Cx)(pins:List (Addr×Obj))(H:Hp)(b:Addr):Prop :=
 H b=none/\b≠X.env.locals/\b∉X.fs/\(b∈X.ex\/X.s₀.heap.objs.size<=b)/\(∀ x c,X.env.cells.lookup x=some c->c≠b)/\∀ p∈X.pn++pins,p.1≠b
theorem ac.fpOk {X:Cx}{pins:List (Addr×Obj)}{σ:St}{H H':Hp}{s:CW}{b:Addr}(I:ac X pins σ H s)(hb:s.heap.objs.size<=b)(hn:H' b=none):a0 X pins H' b:=by
 refine⟨hn,Cc (B8 I.lt hb),I.nofs hb,.inr (Ca I.sz hb),fun x c e z=>?_,fun p hp z=>?_⟩
 ·obtain⟨v,q⟩:=I.cell x c e
  exact absurd (B8 q.lt (by rw[z];exact hb)) (Ce _)
 ·exact absurd (B8 (BX (I.pin p hp).1) (by rw[z];exact hb)) (Ce _)
structure eQ (P:Program) (w:World) (K:PySem.W.Frag) (tg:Expr) (J:It) (fp:List Addr) (it:Addr) (tn:Nat→Heap→Prop):Prop where
  mem:it ∈ fp
  obj:∀ i h,tn i h→∀ b ∈ fp,∃ o,h.get? b=some o∧∀ v,o.data≠.cell v
  keep:∀ i h h',tn i h→(∀ b ∈ fp,∀ o,h.get? b=some o→h'.get? b=some o)→tn i h'
  item:∀ (X:Cx),X.prog=P→X.w=w→X.K=K→X.calm=true→∀ (i:Nat) (pins:List (Addr × Obj)) (s:Shared) (σ:St) (H:Hp) (E:Value→Shared→Prop),ac X pins σ H s→(∀ b ∈ fp,a0 X pins H b)→tn i s.heap→J.go i H →
    wpAny (model P w) X.A (pyNext (.ref it)) (fun r s1=>∃ u,r=some u ∧
      wpAny (model P w) X.A (letOwnedTupleGo tg (.ref it) u) (fun _ s2=>∃ x H',ac X pins σ H' s2∧aw x u∧J.yld i H x H'∧tn (i + 1) s2.heap∧∀ b ∈ fp,H' b=none) E s1) E s
  done:∀ (X:Cx),X.prog=P→X.w=w→X.K=K→X.calm=true→∀ (i:Nat) (pins:List (Addr × Obj)) (s:Shared) (σ:St) (H:Hp) (E:Value→Shared→Prop),ac X pins σ H s→(∀ b ∈ fp,a0 X pins H b)→tn i s.heap→J.stop i H →
    wpAny (model P w) X.A (pyNext (.ref it)) (fun r s1=>r=none∧ac X pins σ H s1) E s
  self:∀ (A:Around) (i:Nat) (s:Shared) (Q:Value→Shared→Prop) (E:Value→Shared→Prop),tn i s.heap→Q (.ref it) s→wpAny (model P w) A (pyIter (.ref it)) Q E s
abbrev TI:=St->Hp->(It->Hp->Prop)->Prop
def oR (X:Cx)(pins:List (Addr×Obj))(σ:St)(tg:Expr)(R:It->Hp->Prop)(itv:Value)(s2:CW):Prop :=
 ∃ (it:Addr) (fp:List Addr) (tn:Nat->Heap->Prop) (J:It) (H':Hp),itv=.ref it/\ac X pins σ H' s2/\eQ X.prog X.w X.K tg J fp it tn/\tn 0 s2.heap/\(∀ b∈fp,a0 X pins H' b)/\R J H'
def PI (X:Cx)(tg iter:Expr)(wi:TI):Prop :=
 ∀ (pins:List (Addr×Obj)) (s:CW) (σ:St) (H:Hp) (R:It->Hp->Prop),ac X pins σ H s->wi σ H R ->
  wpAny (model X.prog X.w) X.A (eval iter X.env) (fun v s1=>wpAny (model X.prog X.w) X.A (Dk v) (oR X pins σ tg R) X.xe s1) X.xe s
theorem kO {M:Model} {A:Around} {E:Value→Shared→Prop} {s:Shared} {tg:Expr} {it:Addr} {u:Value} {o:Obj} {n:String} {vs:Array Value} {Q:Unit→Shared→Prop} (ho:s.heap.get? it=some o) (hc:o.cls=.type n) (hd:o.data=.fields vs)
    (hn:["enumerate","zip","dict_itemiterator","dict_reverseitemiterator","odict_iterator","itertools.zip_longest","itertools.pairwise"].contains n=false) (hQ:Q () s):wpAny M A (letOwnedTupleGo tg (.ref it) u) Q E s:=by
  unfold letOwnedTupleGo
  cases tg <;> first
    | exact wpAny_pure hQ
    | (cases u <;> first
        | exact wpAny_pure hQ
        | (refine wpAny_bind (wpAny_load ho ?_)
           rw [hc,hd]
           show wpAny M A (if (["enumerate","zip","dict_itemiterator","dict_reverseitemiterator","odict_iterator","itertools.zip_longest","itertools.pairwise"].contains n && vs[0]? == some (rawInt _))=true then _ else _) Q E s
           rw [if_neg (by intro h; rw [hn,Bool.false_and] at h; cases h)]
           exact wpAny_pure hQ))
def dS (K:W.Frag)(a:Addr):It :=
 ⟨fun i H=>∃ xs x,aS K H a xs/\xs[i]?=some x,fun i H x H'=>H'=H/\∀ xs,aS K H a xs->xs[i]?=some x,fun i H=>∃ xs,aS K H a xs/\xs.length<=i⟩
def fx (K:W.Frag)(a:Addr):It :=
 ⟨fun i H=>∃ xs x,bj K H a xs/\xs[i]?=some x,fun i H x H'=>H'=H/\∀ xs,bj K H a xs->xs[i]?=some x,fun i H=>∃ xs,bj K H a xs/\xs.length<=i⟩
def fC (lo:Int)(n:Nat):It:=⟨fun i _=>i<n,fun i H x H'=>H'=H/\x=.int (lo+i),fun i _=>n<=i⟩
theorem tJ {P:Program} {w:World} {K:PySem.W.Frag} {tg:Expr} (a it:Addr):eQ P w K tg (dS K a) [it] it (fun i h=>h.IsListIter it a i) where
  mem:=by simp
  obj:=fun i h st b hb=>by
    have e:b=it:=by simpa using hb
    subst e
    obtain ⟨o,e,c,d⟩:=st
    exact ⟨o,e,fun v z=>by rw [d] at z; cases z⟩
  keep:=fun i h h' st k=>st.at fun o e=>k it (by simp) o e
  item:=by
    intro X hP hw hK hc i pins s σ H E I hf st hg
    subst hP hw hK
    obtain ⟨xs,x,hq,hx⟩:=hg
    obtain ⟨its,rv,p,hz⟩:=I.list hq
    obtain ⟨u,hu,ru⟩:=rv.get hx
    obtain ⟨f0,f1,f2,f3,f4,f5⟩:=hf it (by simp)
    refine wpAny_pyNext_list_item st p.isList (x:=u) (by simpa using hu) fun h' st' sb=>?_
    have I1:ac X pins σ H { s with heap:=h' }:=I.turned (t':=s.toks) (fun b o hb e=>(sb.2 b hb).trans e) f0 f1 f3 f4 f5
    obtain ⟨o,e,c,d⟩:=id st'
    exact ⟨u,rfl,kO (s:={ s with heap:=h' }) e c d (by decide) ⟨x,H,I1,ru,⟨rfl,fun ys hy=>by rw [I.list_inj hy hq]; exact hx⟩,st',fun b hb=>(hf b hb).1⟩⟩
  done:=by
    intro X hP hw hK hc i pins s σ H E I hf st hg
    subst hP hw hK
    obtain ⟨xs,hq,hx⟩:=hg
    obtain ⟨its,rv,p,hz⟩:=I.list hq
    obtain ⟨f0,f1,f2,f3,f4,f5⟩:=hf it (by simp)
    have hl:=rv.length
    exact wpAny_pyNext_list_end (I.ok.hd hc) st p.isList (by simp; omega) fun h' eb=>⟨rfl,I.turned (t':=s.toks) (fun b o hb e=>eb b o hb e) f0 f1 f3 f4 f5⟩
  self:=fun _ _ _ _ _ st h=>wpAny_pyIter_listiter st h
theorem o8 {P:Program} {w:World} {K:PySem.W.Frag} {tg:Expr} (a it:Addr):eQ P w K tg (fx K a) [it] it (fun i h=>h.IsTupleIter it a i) where
  mem:=by simp
  obj:=fun i h st b hb=>by
    have e:b=it:=by simpa using hb
    subst e
    obtain ⟨o,e,c,d⟩:=st
    exact ⟨o,e,fun v z=>by rw [d] at z; cases z⟩
  keep:=fun i h h' st k=>st.at fun o e=>k it (by simp) o e
  item:=by
    intro X hP hw hK hc i pins s σ H E I hf st hg
    subst hP hw hK
    obtain ⟨xs,x,hq,hx⟩:=hg
    obtain ⟨its,rv,p,hz⟩:=I.tuple hq
    obtain ⟨u,hu,ru⟩:=rv.get hx
    obtain ⟨f0,f1,f2,f3,f4,f5⟩:=hf it (by simp)
    refine wpAny_pyNext_tuple_item st (show s.heap.IsTuple a its.toArray from p) (x:=u) (by simpa using hu) fun h' st' sb=>?_
    have I1:ac X pins σ H { s with heap:=h' }:=I.turned (t':=s.toks) (fun b o hb e=>(sb.2 b hb).trans e) f0 f1 f3 f4 f5
    obtain ⟨o,e,c,d⟩:=id st'
    exact ⟨u,rfl,kO (s:={ s with heap:=h' }) e c d (by decide) ⟨x,H,I1,ru,⟨rfl,fun ys hy=>by rw [I.tuple_inj hy hq]; exact hx⟩,st',fun b hb=>(hf b hb).1⟩⟩
  done:=by
    intro X hP hw hK hc i pins s σ H E I hf st hg
    subst hP hw hK
    obtain ⟨xs,hq,hx⟩:=hg
    obtain ⟨its,rv,p,hz⟩:=I.tuple hq
    obtain ⟨f0,f1,f2,f3,f4,f5⟩:=hf it (by simp)
    have hl:=rv.length
    exact wpAny_pyNext_tuple_end (I.ok.hd hc) st (show s.heap.IsTuple a its.toArray from p) (by simp; omega) fun h' eb=>⟨rfl,I.turned (t':=s.toks) (fun b o hb e=>eb b o hb e) f0 f1 f3 f4 f5⟩
  self:=fun _ _ _ _ _ st h=>wpAny_pyIter_tupleiter st h
theorem Aa {P:Program} {w:World} {K:PySem.W.Frag} {tg:Expr} (it:Addr) (lo:Int) (n:Nat):eQ P w K tg (fC lo n) [it] it (fun i h=>IsRangeIter h it (lo + (i:Nat) * 1) ((n:Int) - (i:Nat)) 1) where
  mem:=by simp
  obj:=fun i h st b hb=>by
    have e:b=it:=by simpa using hb
    subst e
    exact ⟨_,st,fun v z=>by
      have z':Data.fields _=Data.cell v:=z
      cases z'⟩
  keep:=fun i h h' st k=>k it (by simp) _ st
  item:=by
    intro X hP hw hK hc i pins s σ H E I hf st hg
    subst hP hw hK
    obtain ⟨f0,f1,f2,f3,f4,f5⟩:=hf it (by simp)
    have W:=Walks.range (prog:=X.prog) (w:=X.w) (I.ok.hd hc) it lo 1 n
    refine W.item i s _ _ hg st fun v h' tk hv st' kk=>?_
    obtain ⟨t,rfl⟩:=hv
    have I1:ac X pins σ H { s with heap:=h',toks:=tk }:=I.turned (fun b o hb e=>kk b o (by simpa using hb) e) f0 f1 f3 f4 f5
    refine ⟨_,rfl,kO (s:={ s with heap:=h',toks:=tk }) (n:="range_iterator") st' rfl rfl (by decide) ⟨.int (lo + i),H,I1,⟨t,?_⟩,⟨rfl,rfl⟩,st',fun b hb=>(hf b hb).1⟩⟩
    rw [Int.mul_one]
  done:=by
    intro X hP hw hK hc i pins s σ H E I hf st hg
    subst hP hw hK
    obtain ⟨f0,f1,f2,f3,f4,f5⟩:=hf it (by simp)
    exact wpAny_pyNext_range_end (I.ok.hd hc) st (by have:n≤i:=hg; omega) fun h' eb=>⟨rfl,I.turned (t':=s.toks) (fun b o hb e=>eb b o hb e) f0 f1 f3 f4 f5⟩
  self:=fun _ _ _ _ _ st h=>wpAny_pyIter_rangeiter st h
end L2
namespace L2
open PySem PySem.Spec PyProof.Rows
section
variable {X:Cx}{tg:Expr}
inductive sQ (K:W.Frag)(R:It->Hp->Prop)(x:V)(H1:Hp):Prop
 | mk (a:Addr)(e:x=.ref a)(h:∃ xs,aS K H1 a xs)(q:R (dS K a) H1):sQ K R x H1
def qG (K:W.Frag)(tl:TE):TI:=fun σ H R=>tl σ H fun x H1=>sQ K R x H1
def tP (K:W.Frag)(tl:TE):TI:=fun σ H R=>tl σ H fun x H1=>∃ a,x=.ref a/\(∃ xs,bj K H1 a xs)/\R (fx K a) H1
theorem vJ {l:Expr}{tl:TE}(hl:PE X l tl):PI X tg l (qG X.K tl):=by
 intro pins s σ H R I h
 refine ai (hl pins s σ H _ I h) fun v s1 ⟨x,H1,I1,r1,q1⟩=>?_
 obtain⟨a,e,⟨xs,hq⟩,q⟩:=q1
 subst e
 cases r1
 obtain⟨its,rv,p,hz⟩:=I1.list hq
 refine Dl p.isList ?_
 refine⟨s1.heap.objs.size,[s1.heap.objs.size],_,_,H1,rfl,I1.kept (t':=s1.toks) fun b o e=>BY _ e,tJ a _,⟨_,BZ _ rfl,rfl,rfl⟩,fun b hb=>?_,q⟩
 have e:b=s1.heap.objs.size:=by simpa using hb
 subst e
 exact I1.fpOk (B6 _) (I1.hok.fresh (B6 _))
theorem si {l:Expr}{tl:TE}(hl:PE X l tl):PI X tg l (tP X.K tl):=by
 intro pins s σ H R I h
 refine ai (hl pins s σ H _ I h) fun v s1 ⟨x,H1,I1,r1,q1⟩=>?_
 obtain⟨a,e,⟨xs,hq⟩,q⟩:=q1
 subst e
 cases r1
 obtain⟨its,rv,p,hz⟩:=I1.tuple hq
 refine Dm (show s1.heap.IsTuple a its.toArray from p) ?_
 refine⟨s1.heap.objs.size,[s1.heap.objs.size],_,_,H1,rfl,I1.kept (t':=s1.toks) fun b o e=>BY _ e,o8 a _,⟨_,BZ _ rfl,rfl,rfl⟩,fun b hb=>?_,q⟩
 have e:b=s1.heap.objs.size:=by simpa using hb
 subst e
 exact I1.fpOk (B6 _) (I1.hok.fresh (B6 _))
theorem nB {pins:List (Addr×Obj)}{σ:St}{H:Hp}{s:CW}{R:It->Hp->Prop}{E:Value->CW->Prop}{lo hi:Int}{t u v:Tok}{tk:Nat}(I:ac X pins σ H s)(h1 : -(2 ^ 62)<=lo)(h2:lo<2 ^ 62)(h3 : -(2 ^ 62)<=hi)(h4:hi<2 ^ 62)
  (q:R (fC lo (hi-lo).toNat) H):wpAny (model X.prog X.w) X.A (Dk (.ref s.heap.objs.size)) (oR X pins σ tg R) E { s with heap:=s.heap.push { cls:=.type "range",data:=.fields #[.int lo t,.int hi u,.int 1 v] },toks:=tk }:=by
 refine wpAny_pyIter_range (IsRange.new ..) (small_one h1 h2 h3 h4) ?_
 have I1:ac X pins σ H { s with heap:=s.heap.push { cls:=.type "range",data:=.fields #[.int lo t,.int hi u,.int 1 v] },toks:=tk }:=I.kept fun b o e=>BY _ e
 refine⟨(s.heap.push { cls:=.type "range",data:=.fields #[.int lo t,.int hi u,.int 1 v] }).objs.size,[(s.heap.push { cls:=.type "range",data:=.fields #[.int lo t,.int hi u,.int 1 v] }).objs.size],_,_,H,rfl,
  I1.kept (t':=tk) fun b o e=>BY _ e,Aa _ lo (hi-lo).toNat,?_,fun b hb=>?_,q⟩
 ·have e1:lo+((0:Nat):Int)*1=lo:=by simp
  have e2:(((hi-lo).toNat:Nat):Int)-((0:Nat):Int)=Builtin.Range.rangeSize lo hi 1:=by rw[rangeSize_one];split <;> omega
  show IsRangeIter _ _ (lo+((0:Nat):Int)*1) ((((hi-lo).toNat:Nat):Int)-((0:Nat):Int)) 1
  rw[e1,e2]
  exact BZ _ rfl
 ·have e:b=(s.heap.push { cls:=.type "range",data:=.fields #[.int lo t,.int hi u,.int 1 v] }).objs.size:=by simpa using hb
  subst e
  exact I1.fpOk (B6 _) (I1.hok.fresh (B6 _))
inductive qO (R:It->Hp->Prop)(vs:List V)(H1:Hp):Prop
 | mk (j:Int)(e:vs=[.int j])(h1 : -(2 ^ 62)<=j)(h2:j<2 ^ 62)(q:R (fC 0 j.toNat) H1):qO R vs H1
def Ac (ta:TA):TI:=fun σ H R=>ta σ H fun vs H1=>qO R vs H1
def uj (ta:TA):TI:=fun σ H R=>ta σ H fun vs H1=>∃ i j:Int,vs=[.int i,.int j]/\(-(2 ^ 62)<=i/\i<2 ^ 62/\-(2 ^ 62)<=j/\j<2 ^ 62)/\R (fC i (j-i).toNat) H1
theorem j8 {a:Expr}{ta:TA}{p pos:Pos}(hg:Gl X "range")(hm:X.mg "range"=none)(ha:PA X [a] ta)(hs:C0 [a] X.env=[(false,eval a X.env)]:=by rfl):PI X tg (.Call (.Name "range" p) [a] [] pos) (Ac ta):=by
 intro pins s σ H R I h
 refine Call_ (iK I hg hm boot_range (PyProof.Rows.callWith_type1 (ai (ha pos pins s σ H _ I h) fun us s1 ⟨vs,H1,I1,r1,q1⟩=>?_) hs rfl))
 obtain⟨j,e,q1,q2,q⟩:=q1
 subst e
 cases r1 with
 | cons r rr =>
  cases rr
  obtain⟨t,rfl⟩:=r
  exact call_range_1 (nB I1 (by omega) (by omega) q1 q2 (by simpa using q))
theorem zB {a b:Expr}{ta:TA}{p pos:Pos}(hg:Gl X "range")(hm:X.mg "range"=none)(ha:PA X [a,b] ta)(hs:C0 [a,b] X.env=[(false,eval a X.env),(false,eval b X.env)]:=by rfl)(hs2:C0 [b] X.env=[(false,eval b X.env)]:=by rfl) :
  PI X tg (.Call (.Name "range" p) [a,b] [] pos) (uj ta):=by
 intro pins s σ H R I h
 refine Call_ (iK I hg hm boot_range (PyProof.Rows.callWith_type1 (ai (ha pos pins s σ H _ I h) fun us s1 ⟨vs,H1,I1,r1,q1⟩=>?_) (by rw[hs,hs2]) (by rw[hs2];rfl)))
 obtain⟨i,j,e,⟨q1,q2,q3,q4⟩,q⟩:=q1
 subst e
 cases r1 with
 | cons r rr =>
  cases rr with
  | cons r' rr =>
   cases rr
   obtain⟨t,rfl⟩:=r
   obtain⟨t',rfl⟩:=r'
   exact call_range_2 (nB I1 q1 q2 q3 q4 q)
def wE (wi:TI)(g:TG)(tb:TS):TS:=fun D σ H=>wi σ H fun J H1=>∃ W:Nat->Nat->St->Hp->Prop,(∃ m,W 0 m σ H1)/\∀ i m σ H,W i m σ H ->
 (J.stop i H/\D.nx σ H)\/(J.go i H/\∃ N:St->Hp->Prop,(∀ σ' H',N σ' H'->∃ m',m'<m/\W (i+1) m' σ' H')/\∀ x H',J.yld i H x H'->g x σ H' fun σ2 H2=>tb { D with nx:=N,ct:=N,bk:=D.nx } σ2 H2)
def cX (fp:List Addr)(h:Heap):List (Addr×Obj):=fp.filterMap fun b=>(h.get? b).map fun o=>(b,o)
theorem dh {fp:List Addr}{h:Heap}{b:Addr}{o:Obj}(hb:b∈fp)(e:h.get? b=some o):(b,o)∈cX fp h:=List.mem_filterMap.mpr ⟨b,hb,by rw[e];rfl⟩
theorem yI {fp:List Addr}{h:Heap}{p:Addr×Obj}(hp:p∈cX fp h):p.1∈fp/\h.get? p.1=some p.2:=by
 obtain⟨b,hb,e⟩:=List.mem_filterMap.mp hp
 cases q:h.get? b with
 | none=>rw[q] at e;cases e
 | some o =>
  rw[q] at e
  have e':(b,o)=p:=Option.some.inj e
  subst e'
  exact⟨hb,q⟩
theorem ac.pinned {pins:List (Addr×Obj)}{σ:St}{H:Hp}{s:CW}{fp:List Addr}(I:ac X pins σ H s)(hf:∀ b∈fp,a0 X pins H b)(ho:∀ b∈fp,∃ o,s.heap.get? b=some o/\∀ v,o.data≠.cell v):ac X (pins++cX fp s.heap) σ H s :=
 I.pins_of fun p hp=>(List.mem_append.mp hp).elim (fun z=>I.pin p (Au _ z)) fun z=>by
  obtain⟨hb,e⟩:=yI z
  obtain⟨f0,f1,f2,_⟩:=hf p.1 hb
  obtain⟨o,e',d⟩:=ho p.1 hb
  rw[e] at e';cases e'
  exact⟨e,f0,f1,f2,d⟩
theorem ac.unpinned {pins pl:List (Addr×Obj)}{σ:St}{H:Hp}{s:CW}(I:ac X (pins++pl) σ H s):ac X pins σ H s:=I.pins_of fun p hp=>I.pin p (Au _ (AJ _ hp))
theorem cH {iter:Expr}{body:List Stmt}{wi:TI}{g:TG}{tb:TS}{pos:Pos}(hp:PassesOwn (model X.prog X.w) X.A X.env X.xe)(hc:X.calm=true)(hi:PI X tg iter wi)(hg:PG X tg g)(hb:bW X body tb)
  (hs:∀ x,Do iter X.env x=pure x:=by intro _;rfl):PS X (.For tg iter body [] pos) (wE wi g tb):=by
 refine⟨?_⟩
 intro pins s σ H D I h
 refine wpAny_For (ai (hi pins s σ H _ I h) fun v s1 h1=>ai h1 fun itv s2 h2=>?_) hs
 obtain⟨it,fp,tn,J,H2,e,I2,T,st2,f2,W,⟨m0,w0⟩,turn⟩:=h2
 subst e
 have stat:∀ {H':Hp},(∀ b∈fp,H' b=none)->∀ b∈fp,a0 X pins H' b:=fun hn b hb=>⟨hn b hb,(f2 b hb).2⟩
 refine codeAny_forLoop_any (fun n s'=>∃ i σ' H',ac X pins σ' H' s'/\tn i s'.heap/\(∀ b∈fp,H' b=none)/\W i n σ' H') ?_ m0 ⟨0,σ,H2,I2,st2,fun b hb=>(f2 b hb).1,w0⟩
 rintro n s3 ⟨i,σ3,H3,I3,st3,fr3,w3⟩
 rcases turn i n σ3 H3 w3 with⟨stop,qn⟩|⟨go,N,hN,step⟩
 ·refine Dj hp (ai (T.done X rfl rfl rfl hc i pins s3 σ3 H3 X.xe I3 (stat fr3) st3 stop) fun r s4 ⟨hr,I4⟩=>?_)
  subst hr
  exact C8 ⟨σ3,H3,I4,qn⟩
 ·refine Dj hp (ai (T.item X rfl rfl rfl hc i pins s3 σ3 H3 X.xe I3 (stat fr3) st3 go) fun r s4 ⟨u,hr,h4⟩=>?_)
  subst hr
  refine Dj hp (ai h4 fun _ s5 ⟨x,H5,I5,r5,y5,st5,fr5⟩=>?_)
  have I5':=I5.pinned (stat fr5) (T.obj _ _ st5)
  refine Dj hp (ai (hg _ s5 σ3 H5 x u _ I5' r5 (step x H5 y5)) fun _ s6 ⟨σ6,H6,I6,q6⟩=>?_)
  refine Dj hp (ai (hb _ s6 σ6 H6 _ I6 q6) fun f s7 q7=>?_)
  have again:∀ {σ7:St}{H7:Hp},ac X (pins++cX fp s5.heap) σ7 H7 s7->N σ7 H7->∃ m,m<n/\∃ i σ' H',ac X pins σ' H' s7/\tn i s7.heap/\(∀ b∈fp,H' b=none)/\W i m σ' H':=fun {σ7 H7} I7 n7=>by
   obtain⟨m',hm,w7⟩:=hN σ7 H7 n7
   refine⟨m',hm,i+1,σ7,H7,I7.unpinned,T.keep _ _ _ st5 fun b hb o e=>(I7.pin (b,o) (Au _ (Au _ (dh hb e)))).1,fun b hb=>?_,w7⟩
   obtain⟨o,e,d⟩:=T.obj _ _ st5 b hb
   exact(I7.pin (b,o) (Au _ (Au _ (dh hb e)))).2.1
  cases f with
  | next=>obtain⟨σ7,H7,I7,n7⟩:=q7;exact again I7 n7
  | cont=>obtain⟨σ7,H7,I7,n7⟩:=q7;exact again I7 n7
  | brk=>obtain⟨σ7,H7,I7,q7⟩:=q7;exact⟨σ7,H7,I7.unpinned,q7⟩
  | ret v=>obtain⟨x7,σ7,H7,I7,r7,q7⟩:=q7;exact⟨x7,σ7,H7,I7.unpinned,r7,q7⟩
end
theorem eo {K:W.Frag}{a:Addr}{xs:List V}{g:TG}{tb:TS}{D:dy}{σ:St}{H:Hp}(Pv:Nat->St->Hp->Prop)(h0:Pv 0 σ H)(hl:∀ i σ H,i<=xs.length->Pv i σ H->aS K H a xs)
  (hs:∀ i x σ H,xs[i]?=some x->Pv i σ H->g x σ H fun σ2 H2=>tb { D with nx:=Pv (i+1),ct:=Pv (i+1),bk:=D.nx } σ2 H2) (hd:∀ σ H,Pv xs.length σ H->D.nx σ H) :
  ∃ W:Nat->Nat->St->Hp->Prop,(∃ m,W 0 m σ H)/\∀ i m σ H,W i m σ H ->
   ((dS K a).stop i H/\D.nx σ H)\/((dS K a).go i H/\∃ N:St->Hp->Prop,(∀ σ' H',N σ' H'->∃ m',m'<m/\W (i+1) m' σ' H')/\∀ x H',(dS K a).yld i H x H'->g x σ H' fun σ2 H2=>tb { D with nx:=N,ct:=N,bk:=D.nx } σ2 H2):=by
 refine⟨fun i m σ H=>m=xs.length-i/\i<=xs.length/\Pv i σ H,⟨xs.length,by simp,B9 _,h0⟩,?_⟩
 rintro i m σ H ⟨rfl,hi,p⟩
 have q:=hl i σ H hi p
 by_cases hlt:i<xs.length
 ·refine .inr ⟨⟨xs,xs[i],q,by simp[hlt]⟩,Pv (i+1),fun σ' H' p'=>⟨xs.length-(i+1),by omega,rfl,hlt,p'⟩,fun x H' y=>?_⟩
  obtain⟨e,y⟩:=y
  subst e
  exact hs i x σ _ (y xs q) p
 ·have e:i=xs.length:=by omega
  subst e
  exact .inl ⟨⟨xs,q,B6 _⟩,hd σ H p⟩
theorem yg {K:W.Frag}{a:Addr}{xs:List V}{g:TG}{tb:TS}{D:dy}{σ:St}{H:Hp}(Pv:Nat->St->Hp->Prop)(h0:Pv 0 σ H)(hl:∀ i σ H,i<=xs.length->Pv i σ H->bj K H a xs)
  (hs:∀ i x σ H,xs[i]?=some x->Pv i σ H->g x σ H fun σ2 H2=>tb { D with nx:=Pv (i+1),ct:=Pv (i+1),bk:=D.nx } σ2 H2) (hd:∀ σ H,Pv xs.length σ H->D.nx σ H) :
  ∃ W:Nat->Nat->St->Hp->Prop,(∃ m,W 0 m σ H)/\∀ i m σ H,W i m σ H ->
   ((fx K a).stop i H/\D.nx σ H)\/((fx K a).go i H/\∃ N:St->Hp->Prop,(∀ σ' H',N σ' H'->∃ m',m'<m/\W (i+1) m' σ' H')/\∀ x H',(fx K a).yld i H x H'->g x σ H' fun σ2 H2=>tb { D with nx:=N,ct:=N,bk:=D.nx } σ2 H2):=by
 refine⟨fun i m σ H=>m=xs.length-i/\i<=xs.length/\Pv i σ H,⟨xs.length,by simp,B9 _,h0⟩,?_⟩
 rintro i m σ H ⟨rfl,hi,p⟩
 have q:=hl i σ H hi p
 by_cases hlt:i<xs.length
 ·refine .inr ⟨⟨xs,xs[i],q,by simp[hlt]⟩,Pv (i+1),fun σ' H' p'=>⟨xs.length-(i+1),by omega,rfl,hlt,p'⟩,fun x H' y=>?_⟩
  obtain⟨e,y⟩:=y
  subst e
  exact hs i x σ _ (y xs q) p
 ·have e:i=xs.length:=by omega
  subst e
  exact .inl ⟨⟨xs,q,B6 _⟩,hd σ H p⟩
theorem lA {lo:Int}{n:Nat}{g:TG}{tb:TS}{D:dy}{σ:St}{H:Hp}(Pv:Nat->St->Hp->Prop)(h0:Pv 0 σ H)
  (hs:∀ i σ H,i<n->Pv i σ H->g (.int (lo+i)) σ H fun σ2 H2=>tb { D with nx:=Pv (i+1),ct:=Pv (i+1),bk:=D.nx } σ2 H2) (hd:∀ σ H,Pv n σ H->D.nx σ H) :
  ∃ W:Nat->Nat->St->Hp->Prop,(∃ m,W 0 m σ H)/\∀ i m σ H,W i m σ H ->
   ((fC lo n).stop i H/\D.nx σ H)\/((fC lo n).go i H/\∃ N:St->Hp->Prop,(∀ σ' H',N σ' H'->∃ m',m'<m/\W (i+1) m' σ' H')/\∀ x H',(fC lo n).yld i H x H'->g x σ H' fun σ2 H2=>tb { D with nx:=N,ct:=N,bk:=D.nx } σ2 H2):=by
 refine⟨fun i m σ H=>m=n-i/\i<=n/\Pv i σ H,⟨n,by simp,B9 _,h0⟩,?_⟩
 rintro i m σ H ⟨rfl,hi,p⟩
 by_cases hlt:i<n
 ·refine .inr ⟨hlt,Pv (i+1),fun σ' H' p'=>⟨n-(i+1),by omega,rfl,hlt,p'⟩,fun x H' y=>?_⟩
  obtain⟨e,y⟩:=y
  subst e y
  exact hs i σ _ hlt p
 ·have e:i=n:=by omega
  subst e
  exact .inl ⟨B6 _,hd σ H p⟩
end L2
namespace L2
open PySem PySem.Spec PyProof.Rows
abbrev R2:=V->V->Hp->VK->Prop
def bC (X:Cx)(f:Value->Value->Sem Value)(r:R2):Prop :=
 ∀ (pins:List (Addr×Obj)) (s:CW) (σ:St) (H:Hp) (x y:V) (v u:Value) (Q:VK),ac X pins σ H s->aw x v->aw y u->r x y H Q ->
  wpAny (model X.prog X.w) X.A (f v u) (EP X pins σ Q) X.xe s
def kX (X:Cx)(f:Value->Sem Value)(r:V->Hp->VK->Prop):Prop :=
 ∀ (pins:List (Addr×Obj)) (s:CW) (σ:St) (H:Hp) (x:V) (v:Value) (Q:VK),ac X pins σ H s->aw x v->r x H Q ->
  wpAny (model X.prog X.w) X.A (f v) (EP X pins σ Q) X.xe s
def bB (X:Cx)(f:Value)(r:List V->Hp->VK->Prop):Prop :=
 ∀ (pins:List (Addr×Obj)) (s:CW) (σ:St) (H:Hp) (xs:List V) (us:List Value) (Q:VK),ac X pins σ H s->au xs us->r xs H Q ->
  wpAny (model X.prog X.w) X.A (call f us) (EP X pins σ Q) X.xe s
def tZ (X:Cx)(r:V->Hp->(Bool->Hp->Prop)->Prop):Prop :=
 ∀ (pins:List (Addr×Obj)) (s:CW) (σ:St) (H:Hp) (x:V) (v:Value) (Q:Bool->Hp->Prop),ac X pins σ H s->aw x v->r x H Q ->
  wpAny (model X.prog X.w) X.A (truthy v) (TP X pins σ Q) X.xe s
def jk (r:R2)(ta tb:TE):TE:=fun σ H Q=>ta σ H fun x H1=>tb σ H1 fun y H2=>r x y H2 Q
def uC (r:V->Hp->VK->Prop)(ta:TE):TE:=fun σ H Q=>ta σ H fun x H1=>r x H1 Q
inductive rI (C:Int->Int->Prop)(g:Int->Int->V)(x y:V)(H:Hp)(Q:VK):Prop
 | mk (i j:Int)(e1:x=.int i)(e2:y=.int j)(c:C i j)(q:Q (g i j) H):rI C g x y H Q
inductive eI (g:Int->Int->V)(x y:V)(H:Hp)(Q:VK):Prop
 | mk (i j:Int)(e1:x=.int i)(e2:y=.int j)(q:Q (g i j) H):eI g x y H Q
def rU (g:Int->V):V->Hp->VK->Prop:=fun x H Q=>∃ i,x=.int i/\Q (g i) H
section
variable {X:Cx}{a b c:Expr}{ta tb tc:TE}{pos:Pos}
theorem mR (ha:PE X a ta)(hb:PE X b tb){pins:List (Addr×Obj)}{s:CW}{σ:St}{H:Hp}{R:V->V->Hp->Prop}(I:ac X pins σ H s)
  (h:ta σ H fun x H1=>tb σ H1 fun y H2=>R x y H2){Q:Value->CW->Prop}{f:Value->Value->Sem Value}
  (hf:∀ v u s2 x y H2,ac X pins σ H2 s2->aw x v->aw y u->R x y H2->wpAny (model X.prog X.w) X.A (f v u) Q X.xe s2) :
  wpAny (model X.prog X.w) X.A (eval a X.env) (fun v s₁=>wpAny (model X.prog X.w) X.A (eval b X.env) (fun u s₂=>wpAny (model X.prog X.w) X.A (f v u) Q X.xe s₂) X.xe s₁) X.xe s:=by
 refine ai (ha pins s σ H _ I h) fun v s1 ⟨x,H1,I1,r1,q1⟩=>?_
 refine ai (hb pins s1 σ H1 _ I1 q1) fun u s2 ⟨y,H2,I2,r2,q2⟩=>?_
 exact hf v u s2 x y H2 I2 r1 r2 q2
theorem ax {op:Operator}{r:R2}(ho:bC X (Dp op) r)(ha:PE X a ta)(hb:PE X b tb):PE X (.BinOp a op b pos) (jk r ta tb):=by
 refine⟨?_⟩
 intro pins s σ H Q I h
 exact wpAny_BinOp (mR ha hb I h fun v u s2 x y H2 I2 rx ry q=>ho pins s2 σ H2 x y v u Q I2 rx ry q)
theorem dI {op:UnaryOp}{r:V->Hp->VK->Prop}(ho:kX X (unaryOp op) r)(ha:PE X a ta):PE X (.UnaryOp op a pos) (uC r ta):=by
 refine⟨?_⟩
 intro pins s σ H Q I h
 exact UnaryOp_ (ai (ha pins s σ H _ I h) fun v s1 ⟨x,H1,I1,r1,q1⟩=>ho pins s1 σ H1 x v Q I1 r1 q1)
theorem kJ {f:Value->Value->Sem Value}{C:Int->Int->Prop}{g:Int->Int->Int}
  (rule:∀ (i j:Int) (t u:Tok) (s:CW) (Q:Value->CW->Prop) (E:Value->CW->Prop),C i j->Q (.int (g i j) s.toks) { s with toks:=s.toks+1 }->wpAny (model X.prog X.w) X.A (f (.int i t) (.int j u)) Q E s) :
  bC X f (rI C fun i j=>.int (g i j)):=by
 intro pins s σ H x y v u Q I rx ry h
 obtain⟨i,j,rfl,rfl,hc,q⟩:=h
 obtain⟨t,rfl⟩:=rx
 obtain⟨t',rfl⟩:=ry
 exact rule i j t t' s _ _ hc ⟨.int (g i j),H,I.tok _,⟨_,rfl⟩,q⟩
theorem pX {f:Value->Value->Sem Value}{g:Int->Int->Int}
  (rule:∀ (i j:Int) (t u:Tok) (s:CW) (Q:Value->CW->Prop) (E:Value->CW->Prop),Q (.int (g i j) s.toks) { s with toks:=s.toks+1 }->wpAny (model X.prog X.w) X.A (f (.int i t) (.int j u)) Q E s) :
  bC X f (eI fun i j=>.int (g i j)):=by
 intro pins s σ H x y v u Q I rx ry h
 obtain⟨i,j,rfl,rfl,q⟩:=h
 obtain⟨t,rfl⟩:=rx
 obtain⟨t',rfl⟩:=ry
 exact rule i j t t' s _ _ ⟨.int (g i j),H,I.tok _,⟨_,rfl⟩,q⟩
theorem kD {f:Value->Value->Sem Value}{g:Int->Int->Bool}
  (rule:∀ (i j:Int) (t u:Tok) (s:CW) (Q:Value->CW->Prop) (E:Value->CW->Prop),Q (.bool (g i j)) s->wpAny (model X.prog X.w) X.A (f (.int i t) (.int j u)) Q E s) :
  bC X f (eI fun i j=>.bl (g i j)):=by
 intro pins s σ H x y v u Q I rx ry h
 obtain⟨i,j,rfl,rfl,q⟩:=h
 obtain⟨t,rfl⟩:=rx
 obtain⟨t',rfl⟩:=ry
 exact rule i j t t' s _ _ ⟨.bl (g i j),H,I,rfl,q⟩
def yn (i j:Int):Prop:=0<=j/\j<=1000000/\i.natAbs<2 ^ 64
def lT (i j:Int):Prop:=(-(2 ^ 64)<i/\i<2 ^ 64)\/(-(2 ^ 64)<j/\j<2 ^ 64)
theorem lT.ok {i j:Int}(h:lT i j):IntMulOk i j:=by
 rcases h with⟨h1,h2⟩|⟨h1,h2⟩
 ·exact .of_left (intBits_le_64 h1 h2)
 ·exact .of_right (intBits_le_64 h1 h2)
theorem bU:bC X (Dp .Add) (eI fun i j=>.int (i+j)):=pX fun _ _ _ _ _ _ _ q=>add_int q
theorem bM:bC X (Dp .Sub) (eI fun i j=>.int (i-j)):=pX fun _ _ _ _ _ _ _ q=>sub_int q
theorem dX:bC X (Dp .Mult) (rI lT fun i j=>.int (i*j)):=kJ fun _ _ _ _ _ _ _ hc q=>mul_int q hc.ok
theorem jq:bC X (Dp .Mod) (rI (fun _ j=>0<j) fun i j=>.int (i % j)):=kJ fun i j _ _ _ _ _ hc q=>by
 have h1:(0:Int)<j:=hc
 exact mod_int' (by omega) (by rw[CC i (by omega)];exact q)
theorem dk:bC X (Dp .Pow) (rI yn fun i j=>.int (i ^ j.toNat)):=kJ fun _ _ _ _ _ _ _ hc q=>pow_int_small hc.1 hc.2.1 hc.2.2 q
theorem ym {f:Value->Sem Value}{g:Int->Int}
  (rule:∀ (i:Int) (t:Tok) (s:CW) (Q:Value->CW->Prop) (E:Value->CW->Prop),Q (.int (g i) s.toks) { s with toks:=s.toks+1 }->wpAny (model X.prog X.w) X.A (f (.int i t)) Q E s) :
  kX X f (rU fun i=>.int (g i)):=by
 intro pins s σ H x v Q I rx h
 obtain⟨i,rfl,q⟩:=h
 obtain⟨t,rfl⟩:=rx
 exact rule i t s _ _ ⟨.int (g i),H,I.tok _,⟨_,rfl⟩,q⟩
theorem dN:kX X (unaryOp .USub) (rU fun i=>.int (-i)):=ym fun _ _ _ _ _ q=>neg_int q
end
def oM:V->V->Bool
 | .non,.non=>true|.non,.int _=>true|.int _,.non=>true|.non,.bl _=>true|.bl _,.non=>true|.non,.str _=>true|.str _,.non=>true
 | .int _,.int _=>true|.bl _,.bl _=>true|.str _,.str _=>true|.byt _,.byt _=>true
 | .int _,.str _=>true|.str _,.int _=>true|.bl _,.str _=>true|.str _,.bl _=>true
 | _,_=>false
def ux:R2:=fun x y H Q=>oM x y=true/\Q (.bl (decide (x=y))) H
def vT:R2:=fun x y H Q=>oM x y=true/\Q (.bl (!decide (x=y))) H
theorem lH {i j:Int}:decide (V.int i=V.int j)=(i == j):=by
 rw[Bool.eq_iff_iff]
 simp
theorem ph {i j:Bool}:decide (V.bl i=V.bl j)=(i == j):=by
 rw[Bool.eq_iff_iff]
 simp
theorem rO {i j:Str}:decide (V.str i=V.str j)=(i == j):=by
 rw[Bool.eq_iff_iff]
 simp
theorem rm {i j:Array UInt8}:decide (V.byt i=V.byt j)=(i.toList == j.toList):=by
 rw[Bool.eq_iff_iff]
 cases i
 cases j
 simp
section
variable {X:Cx}{a b c:Expr}{ta tb tc:TE}{pos:Pos}
theorem bh {pins:List (Addr×Obj)}{σ:St}{H:Hp}{s:CW}{Q:VK}{k k':Bool}(I:ac X pins σ H s)(q:Q (.bl k) H)(e:k=k'):EP X pins σ Q (.bool k') s:=by
 subst e
 exact⟨.bl k,H,I,rfl,q⟩
theorem eR:bC X (C2 .Eq) ux:=by
 intro pins s σ H x y v u Q I rx ry h
 obtain⟨hs,q⟩:=h
 cases x with
 | non =>
  cases rx
  cases y with
  | non=>cases ry;exact PySem.EqNone.eq_none_none (bh I q (by simp))
  | bl j=>cases ry;exact PySem.EqNone.eq_none_bool (bh I q (by simp))
  | int j=>obtain⟨t',rfl⟩:=ry;exact PySem.EqNone.eq_none_int (bh I q (by simp))
  | str j=>obtain⟨t',rfl⟩:=ry;exact PySem.EqNone.eq_none_str (bh I q (by simp))
  | _=>exact absurd (show false=true from hs) Bool.false_ne_true
 | bl i =>
  cases rx
  cases y with
  | non=>cases ry;exact PySem.EqNone.eq_bool_none (bh I q (by simp))
  | bl j=>cases ry;exact eq_bool (bh I q ph)
  | str j=>obtain⟨t',rfl⟩:=ry;exact PySem.EqMixed.eq_bool_str (bh I q (by simp))
  | _=>exact absurd (show false=true from hs) Bool.false_ne_true
 | int i =>
  obtain⟨t,rfl⟩:=rx
  cases y with
  | non=>cases ry;exact PySem.EqNone.eq_int_none (bh I q (by simp))
  | int j=>obtain⟨t',rfl⟩:=ry;exact eq_int (bh I q lH)
  | str j=>obtain⟨t',rfl⟩:=ry;exact PySem.EqMixed.eq_int_str (bh I q (by simp))
  | _=>exact absurd (show false=true from hs) Bool.false_ne_true
 | str i =>
  obtain⟨t,rfl⟩:=rx
  cases y with
  | non=>cases ry;exact PySem.EqNone.eq_str_none (bh I q (by simp))
  | bl j=>cases ry;exact PySem.EqMixed.eq_str_bool (bh I q (by simp))
  | int j=>obtain⟨t',rfl⟩:=ry;exact PySem.EqMixed.eq_str_int (bh I q (by simp))
  | str j=>obtain⟨t',rfl⟩:=ry;exact eq_str (bh I q rO)
  | _=>exact absurd (show false=true from hs) Bool.false_ne_true
 | byt i =>
  obtain⟨t,rfl⟩:=rx
  cases y with
  | byt j=>obtain⟨t',rfl⟩:=ry;exact W.eq_bytes (bh I q rm)
  | _=>exact absurd (show false=true from hs) Bool.false_ne_true
 | _=>cases y <;> exact absurd (show false=true from hs) Bool.false_ne_true
theorem mJ:bC X (C2 .NotEq) vT:=by
 intro pins s σ H x y v u Q I rx ry h
 obtain⟨hs,q⟩:=h
 cases x with
 | non =>
  cases rx
  cases y with
  | non=>cases ry;exact PySem.EqNone.ne_none_none (bh I q (by simp))
  | bl j=>cases ry;exact PySem.EqNone.ne_none_bool (bh I q (by simp))
  | int j=>obtain⟨t',rfl⟩:=ry;exact PySem.EqNone.ne_none_int (bh I q (by simp))
  | str j=>obtain⟨t',rfl⟩:=ry;exact PySem.EqNone.ne_none_str (bh I q (by simp))
  | _=>exact absurd (show false=true from hs) Bool.false_ne_true
 | bl i =>
  cases rx
  cases y with
  | non=>cases ry;exact PySem.EqNone.ne_bool_none (bh I q (by simp))
  | bl j=>cases ry;exact ne_bool (bh I q (congrArg not ph))
  | str j=>obtain⟨t',rfl⟩:=ry;exact PySem.EqMixed.ne_bool_str (bh I q (by simp))
  | _=>exact absurd (show false=true from hs) Bool.false_ne_true
 | int i =>
  obtain⟨t,rfl⟩:=rx
  cases y with
  | non=>cases ry;exact PySem.EqNone.ne_int_none (bh I q (by simp))
  | int j=>obtain⟨t',rfl⟩:=ry;exact ne_int (bh I q (congrArg not lH))
  | str j=>obtain⟨t',rfl⟩:=ry;exact PySem.EqMixed.ne_int_str (bh I q (by simp))
  | _=>exact absurd (show false=true from hs) Bool.false_ne_true
 | str i =>
  obtain⟨t,rfl⟩:=rx
  cases y with
  | non=>cases ry;exact PySem.EqNone.ne_str_none (bh I q (by simp))
  | bl j=>cases ry;exact PySem.EqMixed.ne_str_bool (bh I q (by simp))
  | int j=>obtain⟨t',rfl⟩:=ry;exact PySem.EqMixed.ne_str_int (bh I q (by simp))
  | str j=>obtain⟨t',rfl⟩:=ry;exact ne_str (bh I q (congrArg not rO))
  | _=>exact absurd (show false=true from hs) Bool.false_ne_true
 | byt i =>
  obtain⟨t,rfl⟩:=rx
  cases y with
  | byt j=>obtain⟨t',rfl⟩:=ry;exact W.ne_bytes (bh I q (congrArg not rm))
  | _=>exact absurd (show false=true from hs) Bool.false_ne_true
 | _=>cases y <;> exact absurd (show false=true from hs) Bool.false_ne_true
theorem fP:bC X (C2 .Lt) (eI fun i j=>.bl (decide (i<j))):=kD fun _ _ _ _ _ _ _ q=>lt_int q
theorem gk:bC X (C2 .LtE) (eI fun i j=>.bl (decide (i<=j))):=kD fun _ _ _ _ _ _ _ q=>le_int q
theorem iL:bC X (C2 .Gt) (eI fun i j=>.bl (decide (j<i))):=kD fun _ _ _ _ _ _ _ q=>gt_int q
theorem nG:bC X (C2 .GtE) (eI fun i j=>.bl (decide (j<=i))):=kD fun _ _ _ _ _ _ _ q=>ge_int q
theorem yU:bC X (C2 .Lt) (fun x y H Q=>∃ i j,x=.str i/\y=.str j/\Q (.bl (decide (i.cps.toList<j.cps.toList))) H):=by
 intro pins s σ H x y v u Q I rx ry h
 obtain⟨i,j,rfl,rfl,q⟩:=h
 obtain⟨t,rfl⟩:=rx
 obtain⟨t',rfl⟩:=ry
 exact lt_str (bh I q rfl)
theorem bu (b:Expr){op:CmpOp}(h:op≠.In:=by decide)(h2:op≠.NotIn:=by decide):C3 op b=false:=by
 have e1:(op == CmpOp.In)=false:=by cases op <;> first|rfl|exact absurd rfl h
 have e2:(op == CmpOp.NotIn)=false:=by cases op <;> first|rfl|exact absurd rfl h2
 cases b <;> simp[C3,e1,e2]
theorem fV {op:CmpOp}{r:R2}(ho:bC X (C2 op) r)(ha:PE X a ta)(hb:PE X b tb)(hm:C3 op b=false):PE X (.Compare a [op] [b] pos) (jk r ta tb):=by
 refine⟨?_⟩
 intro pins s σ H Q I h
 exact wpAny_Compare1 (mR ha hb I h fun v u s2 x y H2 I2 rx ry q=>ho pins s2 σ H2 x y v u Q I2 rx ry q) hm
def tf (t:TE):TT:=fun σ H Q=>t σ H fun x H'=>∃ k,x=.bl k/\Q k H'
theorem bO {op:CmpOp}{r:R2}(ho:bC X (C2 op) r)(ha:PE X a ta)(hb:PE X b tb)(hm:C3 op b=false):PT X (.Compare a [op] [b] pos) (tf (jk r ta tb)):=by
 refine⟨?_⟩
 intro pins s σ H Q I h
 refine C4 (ai (ha pins s σ H _ I h) fun v s1 ⟨x,H1,I1,r1,q1⟩=>ai (hb pins s1 σ H1 _ I1 q1) fun u s2 ⟨y,H2,I2,r2,q2⟩ =>
  ai (ho pins s2 σ H2 x y v u _ I2 r1 r2 q2) fun c s3 ⟨z,H3,I3,r3,k,e,q3⟩=>?_) hm
 subst e
 cases r3
 exact C5 ⟨H3,I3,q3⟩
def rc (r r':R2)(ta tb tc:TE):TE:=fun σ H Q=>ta σ H fun x H1=>tb σ H1 fun y H2=>r x y H2 fun z H3=>∃ k,z=.bl k /\
 (if k=true then tc σ H3 fun w' H4=>r' y w' H4 Q else Q (.bl false) H3)
theorem lM {op op':CmpOp}{r r':R2}(ho:bC X (C2 op) r)(ho':bC X (C2 op') r')(ha:PE X a ta)(hb:PE X b tb)(hc:PE X c tc)
  (hm:lastMarks [op,op'] [b,c]=false:=by with_unfolding_all rfl):PE X (.Compare a [op,op'] [b,c] pos) (rc r r' ta tb tc):=by
 refine⟨?_⟩
 intro pins s σ H Q I h
 refine Compare_chain (ai (ha pins s σ H _ I h) fun v s1 ⟨x,H1,I1,r1,q1⟩=>chain_link (ai (hb pins s1 σ H1 _ I1 q1) fun u s2 ⟨y,H2,I2,r2,q2⟩ =>
  ai (ho pins s2 σ H2 x y v u _ I2 r1 r2 q2) fun d s3 ⟨z,H3,I3,r3,k,e,q3⟩=>?_)) hm
 subst e
 cases r3
 refine C5 ?_
 cases k with
 | false=>exact ite_ff ⟨.bl false,H3,I3,rfl,q3⟩
 | true=>exact ite_tt (chain_last (ai (hc pins s3 σ H3 _ I3 q3) fun w' s4 ⟨z',H4,I4,r4,q4⟩=>ho' pins s4 σ H4 y z' u w' Q I4 r2 r4 q4))
theorem lG {op op':CmpOp}{r r':R2}(ho:bC X (C2 op) r)(ho':bC X (C2 op') r')(ha:PE X a ta)(hb:PE X b tb)(hc:PE X c tc)
  (hm:lastMarks [op,op'] [b,c]=false:=by with_unfolding_all rfl):PT X (.Compare a [op,op'] [b,c] pos) (tf (rc r r' ta tb tc)):=by
 refine⟨?_⟩
 intro pins s σ H Q I h
 refine isTrue_chain (ai (ha pins s σ H _ I h) fun v s1 ⟨x,H1,I1,r1,q1⟩=>test_link (ai (hb pins s1 σ H1 _ I1 q1) fun u s2 ⟨y,H2,I2,r2,q2⟩ =>
  ai (ho pins s2 σ H2 x y v u _ I2 r1 r2 q2) fun d s3 ⟨z,H3,I3,r3,k,e,q3⟩=>?_)) hm
 subst e
 cases r3
 refine C5 ?_
 cases k with
 | false =>
  obtain⟨k',e',q'⟩:=q3
  cases e'
  exact ite_ff ⟨H3,I3,q'⟩
 | true =>
  refine ite_tt (test_last (ai (hc pins s3 σ H3 _ I3 q3) fun w' s4 ⟨z',H4,I4,r4,q4⟩=>ai (ho' pins s4 σ H4 y z' u w' _ I4 r2 r4 q4) fun d' s5 ⟨z2,H5,I5,r5,k2,e2,q5⟩=>?_))
  subst e2
  cases r5
  exact C5 ⟨H5,I5,q5⟩
def tM (K:W.Frag)(x:V)(H:Hp)(k:Bool):Prop :=
 match x with
 | .non=>k=false
 | .bl b=>k=b
 | .int i=>k=(i != 0)
 | .str y=>y.length<=CQ/\k=((y.length:Int) != 0)
 | .byt y=>y.size<=CQ/\k=((y.size:Int) != 0)
 | .ref p=>(∃ xs,aS K H p xs/\k=!xs.isEmpty)\/(∃ xs,bj K H p xs/\k=!xs.isEmpty)\/∃ kvs,H p=some (.dK kvs)/\k=!kvs.isEmpty
 | _=>False
theorem xR {κ:Type}{kvs:List (κ×V)}{vs:List (κ×Value)}(r:KV kvs vs):(!vs.isEmpty)=!kvs.isEmpty:=by
 cases r <;> rfl
theorem sm {xs:List V}{its:List Value}(r:au xs its):(!its.toArray.isEmpty)=!xs.isEmpty:=by
 cases r <;> simp
theorem gA:(CQ:Nat)<2 ^ 63:=by rw[Dq];decide
theorem vC:tZ X (fun x H Q=>∃ k,tM X.K x H k/\Q k H):=by
 intro pins s σ H x v Q I rx h
 obtain⟨k,e,q⟩:=h
 have hl:=gA
 have hs:CQ=16777216:=Dq
 cases x with
 | non =>
  cases rx
  have e':k=false:=e
  subst e'
  exact truthy_none ⟨H,I,q⟩
 | bl b =>
  cases rx
  have e':k=b:=e
  subst e'
  exact C5 ⟨H,I,q⟩
 | int i =>
  obtain⟨t,rfl⟩:=rx
  have e':k=(i != 0):=e
  subst e'
  exact PySem.P.truthy_int ⟨H,I,q⟩
 | str y =>
  obtain⟨t,rfl⟩:=rx
  obtain⟨hy,e'⟩:y.length<=CQ/\k=((y.length:Int) != 0):=e
  subst e'
  exact PySem.P.truthy_str (by omega) ⟨H,I.tok _,q⟩
 | byt y =>
  obtain⟨t,rfl⟩:=rx
  obtain⟨hy,e'⟩:y.size<=CQ/\k=((y.size:Int) != 0):=e
  subst e'
  exact W.truthy_bytes (by omega) ⟨H,I.tok _,q⟩
 | ref p =>
  cases rx
  have e':(∃ xs,aS X.K H p xs/\k=!xs.isEmpty)\/(∃ xs,bj X.K H p xs/\k=!xs.isEmpty)\/∃ kvs,H p=some (.dK kvs)/\k=!kvs.isEmpty:=e
  rcases e' with⟨xs,hx,e'⟩|⟨xs,hx,e'⟩|⟨kvs,hx,e'⟩
  ·subst e'
   obtain⟨its,r,pl,hz⟩:=I.list hx
   have hlen:=r.length
   exact wpAny_truthy_list pl.isList (by simp only[At];omega) ⟨H,I.tok _,by rw[sm r];exact q⟩
  ·subst e'
   obtain⟨its,r,pl,hz⟩:=I.tuple hx
   have hlen:=r.length
   exact truthy_tuple pl (by simp only[At];omega) ⟨H,I.tok _,by rw[sm r];exact q⟩
  ·subst e'
   obtain⟨hz,hS,vs,r,m⟩:kvs.length<=CQ/\(p == CS)=false/\∃ vs,KV kvs vs/\s.heap.DictOf (bo X.prog X.w) p vs:=I.hok p _ hx
   have hlen:kvs.length=vs.length:=Paired.length r
   exact wpAny_truthy_dict hS m (by omega) ⟨H,I.tok _,by rw[xR r];exact q⟩
 | _=>exact(show False from e).elim
theorem pB (ha:PE X a ta)(he:∀ whole,isTrue a X.env whole=(do let v <-whole;C6 a.pos;C7 [v] (truthy v))) :
  PT X a (fun σ H Q=>ta σ H fun x H'=>∃ k,tM X.K x H' k/\Q k H'):=by
 refine⟨?_⟩
 intro pins s σ H Q I h
 exact isTrue_plain (ai (ha pins s σ H _ I h) fun v s1 ⟨x,H1,I1,r1,q1⟩=>vC pins s1 σ H1 x v Q I1 r1 q1) (he _)
theorem cv {x:V}{us:List Value}(r:au [x] us):∃ u,us=[u]/\aw x u:=by
 cases r with
 | cons r1 r2=>cases r2;exact⟨_,rfl,r1⟩
theorem gO {x y:V}{us:List Value}(r:au [x,y] us):∃ u w',us=[u,w']/\aw x u/\aw y w':=by
 cases r with
 | cons r1 r2 =>
  cases r2 with
  | cons r3 r4=>cases r4;exact⟨_,_,rfl,r1,r3⟩
theorem pV:bB X (.builtin "abs") (fun xs H Q=>∃ i,xs=[.int i]/\Q (.int (if i<0 then -i else i)) H):=by
 intro pins s σ H xs us Q I r h
 obtain⟨i,rfl,q⟩:=h
 obtain⟨u,rfl,t,rfl⟩:=cv r
 exact call_abs_int fun u tk=>⟨.int (if i<0 then -i else i),H,I.tok _,⟨_,rfl⟩,q⟩
theorem mH (hc:X.calm=true):bB X (.builtin "max") (fun xs H Q=>∃ i j,xs=[.int i,.int j]/\Q (.int (if j>i then j else i)) H):=by
 intro pins s σ H xs us Q I r h
 obtain⟨i,j,rfl,q⟩:=h
 obtain⟨u,w',rfl,⟨t,rfl⟩,⟨t',rfl⟩⟩:=gO r
 refine max_two_ints (I.ok.hd hc) fun h' tk k=>⟨_,H,I.kept k,?_,q⟩
 by_cases hj:j>i
 ·rw[if_pos hj,if_pos hj];exact⟨_,rfl⟩
 ·rw[if_neg hj,if_neg hj];exact⟨_,rfl⟩
theorem qV (hc:X.calm=true):bB X (.builtin "min") (fun xs H Q=>∃ i j,xs=[.int i,.int j]/\Q (.int (if j<i then j else i)) H):=by
 intro pins s σ H xs us Q I r h
 obtain⟨i,j,rfl,q⟩:=h
 obtain⟨u,w',rfl,⟨t,rfl⟩,⟨t',rfl⟩⟩:=gO r
 refine min_two_ints (I.ok.hd hc) fun h' tk k=>⟨_,H,I.kept k,?_,q⟩
 by_cases hj:j<i
 ·rw[if_pos hj,if_pos hj];exact⟨_,rfl⟩
 ·rw[if_neg hj,if_neg hj];exact⟨_,rfl⟩
end
end L2
namespace L2
open PySem PySem.Spec PyProof.Rows
structure gR (h:Heap)(x dx C:Addr)(mA:Str->Option Value):Prop where
 obj:h.get? x=some (W.instObj C dx)
 ns:h.Ns1 dx mA
 ne:dx≠x
theorem yN {h:Heap}{dx:Addr}{mA:Str->Option Value}(n:h.Ns1 dx mA):∃ od,h.get? dx=some od/\∀ name,W.lookIn name od=some (mA name):=by
 obtain⟨o,es,ep,ho,hd,hk,_,hm⟩:=n
 refine⟨o,ho,fun name=>?_⟩
 have e:=hm name
 unfold nsFind findBy at e
 rw[<-Array.find?_toList] at e
 unfold W.lookIn
 rw[hd]
 dsimp only
 split
 ·rename_i y q
  rw[q] at e
  exact congrArg some e
 ·rename_i q
  rw[q] at e
  have a:es.toList.any (·.refKey)=false:=by
   rw[List.any_eq_false]
   intro y hy
   obtain⟨z,t,hkey⟩:=hk y (Array.mem_toList_iff.mp hy)
   simp[DictEntry.refKey,hkey]
  have a':¬ es.toList.any (·.refKey)=true:=by rw[a];exact Bool.false_ne_true
  rw[if_neg a']
  exact congrArg some e
theorem gR.look {h:Heap}{x dx C:Addr}{mA:Str->Option Value}(I:gR h x dx C mA):∃ od,W.InstAt h x (W.instObj C dx) C (some od)/\∀ name,W.lookIn name od=some (mA name) :=
 let ⟨od,ho,hl⟩:=yN I.ns
 ⟨od,⟨I.obj,rfl,rfl,ho⟩,hl⟩
section
variable {prog:CP}{w:World}{A:Around}{E:Value->CW->Prop}{s:CW}{K:W.Frag}{x dx C f:Addr}{mA:Str->Option Value}{name:Str}{v:Value}
theorem uP {expr:Bool}{Q:Value->CW->Prop}(X:K.In s.heap)(I:gR s.heap x dx C mA)(hg:W.plainGet K C name=true)(hh:W.hasDictIn K C=true)
  (ha:W.findIn K (.ref C) name=some none) (hv:mA name=some v) (hv':W.handedIn v=true) (h:Q v { s with toks:=s.toks+1 }) :
  wpAny (model prog w) A (getAttr (.ref x) name expr) Q E s:=by
 obtain⟨od,J,hl⟩:=I.look
 exact W.get_value X J (W.plainGet_of hg).1 (W.findObj_own hh ha rfl (by rw[hl,hv])) hv' h
theorem Ao {pl:Sem Bool}{Q:Value×List Value->CW->Prop}(X:K.In s.heap)(I:gR s.heap x dx C mA)(hg:W.plainGet K C name=true)
  (hf:W.findIn K (.ref C) name=some (some (.ref f))) (ht:W.isFn K (.ref f)=true) (hv:mA name=none) (h:Q (.ref f,[.ref x]) s) :
  wpAny (model prog w) A (Dr (.ref x) name pl) Q E s:=by
 obtain⟨od,J,hl⟩:=I.look
 exact W.method_fn X J (W.plainGet_of hg).1 (W.plainGet_of hg).2 hf (beq_iff_eq.mp ht) (by show (W.lookIn name od).map (·.isSome)=some false;rw[hl,hv];rfl) h
theorem uy {ns:List Str}{Q:Unit->CW->Prop}(X:K.In s.heap)(I:gR s.heap x dx C mA)
  (hs:W.findIn K (.ref C) "__setattr__"=some (some (.builtin "object.__setattr__"))) (hp:W.plainOver K C=true) (ht:W.takerIn K C name=some none) (hh:W.hasDictIn K C=true)
  (hw:PySem.Within mA ns) (hsz:ns.length<=CQ)
  (h:∀ h',gR h' x dx C (fun y=>if y=name then some v else mA y)->Heap.SameBut dx s.heap h'->Q () { s with heap:=h',toks:=s.toks+2 }) :
  wpAny (model prog w) A (setAttr (.ref x) name v) Q E s:=by
 obtain⟨od,J,hl⟩:=I.look
 refine W.set_plain X J hs (W.osa_open (s:={ s with toks:=s.toks+1 }) (r:=none) X J hp ht fun b=>?_)
 obtain⟨cd,hc,hd'⟩:=W.any_some hh
 have hx:s.heap.get? x=some ⟨.ref C,some dx,.plain,#[]⟩:=I.obj
 refine Df (Ds (Df (Df (wpAny_loadPart hx (Df (W.Looks.here (s:={ s with toks:=s.toks+1 }) (W.looks_clsIn X hc) ?_))))))
 rw[hd']
 refine Ds (a:=some dx) (Df (Ds (Df ?_)))
 refine wpAny_nsSet1 (s:={ s with toks:=s.toks+1 }) I.ns fun h' hn2 hs2=>?_
 obtain⟨oD,esD,epD,hoD,hdD,hcD⟩:=hn2.count (PySem.Within.cons name v hw)
 refine Df (wpAny_lookBehind hoD (by rw[hdD];exact pastItsLine_dict (Ca hcD (by rw[Ay];omega))) ?_)
 exact Ds (h _ ⟨(hs2.2 _ (Ne.symm I.ne)).trans I.obj,hn2,I.ne⟩ hs2)
theorem zF {R:Dt->CW->Prop}{vs:List Value}{kw:List (Str×Value)}(X:K.In s.heap)(hm:W.makesIn K C=true)
  (hi:W.findIn K (.ref C) "__init__"=some (some (.ref f))) (hf:W.typeIn K (.ref f)=some (.type "function"))
  (h:Du (model prog w) (A.under (.builtin "type.__call__" ⟨.ref C::vs,kw⟩)) (.call (.ref f) ⟨.ref (s.heap.objs.size+1)::vs,kw⟩) (W.InitBack (s.heap.objs.size+1) R)
   { s with heap:=(s.heap.push W.emptyDict).push (W.instObj C s.heap.objs.size) }) :
  Du (model prog w) A (.call (.ref C) ⟨vs,kw⟩) R s:=by
 obtain⟨hh,g,d,t,os⟩:=s
 exact W.make_core (W.makes_of X hm) (W.looks_findIn X hi) (fun self=>W.bind_fn X self hf) (.inl rfl) h
end
def bt (f:Str)(v:V):List (Str×V)->List (Str×V)
 | []=>[(f,v)]
 | (g,x)::r=>if g=f then (g,v)::r else (g,x)::bt f v r
theorem bm (f g:Str)(v:V):∀ fs:List (Str×V),(bt f v fs).lookup g=if g=f then some v else fs.lookup g
 | []=>by
  show AV g [(f,v)]=_
  by_cases h:g=f
  ·have hb:(g == f)=true:=beq_iff_eq.mpr h
   simp only[AV,hb,if_pos h]
  ·have hb:(g == f)=false:=beq_eq_false_iff_ne.mpr h
   simp only[AV,hb,if_neg h]
 | (k,x)::r=>by
  have ih:=bm f g v r
  rw[show bt f v ((k,x)::r)=(if k=f then (k,v)::r else (k,x)::bt f v r) from rfl]
  by_cases hk:k=f
  ·rw[if_pos hk]
   by_cases h:g=k
   ·have hb:(g == k)=true:=beq_iff_eq.mpr h
    simp only[AV,hb,if_pos (h.trans hk)]
   ·have hb:(g == k)=false:=beq_eq_false_iff_ne.mpr h
    simp only[AV,hb,if_neg (fun e:g=f=>h (e.trans hk.symm))]
  ·rw[if_neg hk]
   by_cases h:g=k
   ·have hb:(g == k)=true:=beq_iff_eq.mpr h
    simp only[AV,hb,if_neg (fun e:g=f=>hk (h.symm.trans e))]
   ·have hb:(g == k)=false:=beq_eq_false_iff_ne.mpr h
    simp only[AV,hb]
    exact ih
theorem mE (f:Str)(v:V):∀ fs:List (Str×V),f∈(bt f v fs).map (·.1)/\∀ g,g∈fs.map (·.1)->g∈(bt f v fs).map (·.1)
 | []=>⟨by simp[bt],fun g h=>by simp at h⟩
 | (k,x)::r=>by
  obtain⟨i1,i2⟩:=mE f v r
  rw[show bt f v ((k,x)::r)=(if k=f then (k,v)::r else (k,x)::bt f v r) from rfl]
  by_cases hk:k=f
  ·rw[if_pos hk]
   subst hk
   exact⟨by simp,fun g h=>by simpa using h⟩
  ·rw[if_neg hk]
   refine⟨?_,fun g h=>?_⟩
   ·rw[Av]
    exact AD _ i1
   ·rw[Av] at h ⊢
    rcases List.mem_cons.mp h with e|e
    ·exact List.mem_cons.mpr (.inl e)
    ·exact AD _ (i2 g e)
theorem qZ (f:Str)(v:V):∀ fs:List (Str×V),(bt f v fs).length<=fs.length+1
 | []=>by simp[bt]
 | (k,x)::r=>by
  have ih:=qZ f v r
  rw[show bt f v ((k,x)::r)=(if k=f then (k,v)::r else (k,x)::bt f v r) from rfl]
  by_cases hk:k=f
  ·rw[if_pos hk,Ay,Ay];omega
  ·rw[if_neg hk,Ay,Ay];omega
theorem cg.some_of {v:V}{o:Option Value}(r:cg (some v) o):∃ u,o=some u/\aw v u:=by
 cases o with
 | none=>exact(show False from r).elim
 | some u=>exact⟨u,rfl,r⟩
theorem cg.none_of {o:Option Value}(r:cg none o):o=none:=by
 cases o with
 | none=>rfl
 | some u=>exact(show False from r).elim
theorem xC {v:V}{u:Value}(r:aw v u):W.handedIn u=true:=by
 cases v with
 | non=>cases (show u=Value.none from r);rfl
 | bl b=>cases (show u=Value.bool b from r);rfl
 | int i=>obtain⟨t,e⟩:=(show ∃ t,u=Value.int i t from r);cases e;rfl
 | str x=>obtain⟨t,e⟩:=(show ∃ t,u=Value.str x t from r);cases e;rfl
 | byt b=>obtain⟨t,e⟩:=(show ∃ t,u=Value.bytes b t from r);cases e;rfl
 | flt b=>obtain⟨t,e⟩:=(show ∃ t,u=Value.float b t from r);cases e;rfl
 | ref a=>cases (show u=Value.ref a from r);rfl
 | ty n=>cases (show u=Value.type n from r);rfl
section
variable {P:CP}{w:World}{H H':Hp}{h h':Heap}{a C dx:Addr}{fs fs':List (Str×V)}
theorem ni (hok:bq P w H h)(e:H a=some (.ins C dx fs)):∃ mA,gR h a dx C mA/\(∀ f,cg (fs.lookup f) (mA f))/\PySem.Within mA (fs.map (·.1))/\fs.length<=1000/\H dx=some (.own a):=by
 obtain⟨d,z,ne,ob,mA,n,r,q⟩:=(show aY P w H h a (.ins C dx fs) from hok a _ e)
 exact⟨mA,⟨ob,n,ne⟩,r,q,z,d⟩
end
structure de (K:W.Frag)(C:Addr):Prop where
 pg:W.plainGet K C Str.empty=true
 hd:W.hasDictIn K C=true
 po:W.plainOver K C=true
 sa:W.findIn K (.ref C) "__setattr__"=some (some (.builtin "object.__setattr__"))
theorem de.get {K:W.Frag}{C:Addr}(c:de K C)(f:Str):W.plainGet K C f=true:=c.pg
def cP (K:W.Frag)(C:Addr)(f:Str):Prop:=W.findIn K (.ref C) f=some none
theorem cP.taker {K:W.Frag}{C:Addr}{f:Str}(n:cP K C f):W.takerIn K C f=some none:=by
 unfold W.takerIn
 rw[show W.findIn K (.ref C) f=some none from n]
 rfl
structure jB (K:W.Frag)(C:Addr)(m:Str)(f:Addr):Prop where
 at_:W.findIn K (.ref C) m=some (some (.ref f))
 fn:W.isFn K (.ref f)=true
 kp:W.keepIn K (.ref f)=true
section
variable {X:Cx}{pins:List (Addr×Obj)}{σ:St}{H:Hp}{s:CW}{a C dx:Addr}{fs:List (Str×V)}{f:Str}{v:V}{A:Around}{E:Value->CW->Prop}
theorem uZ {b:Bool}{Q:Value->CW->Prop}(I:ac X pins σ H s)(e:H a=some (.ins C dx fs))(c:de X.K C)(n:cP X.K C f)(l:fs.lookup f=some v)
  (h:∀ u s',ac X pins σ H s'->aw v u->Q u s'):wpAny (model X.prog X.w) A (getAttr (.ref a) f b) Q E s:=by
 obtain⟨mA,O,r,_,_,_⟩:=ni I.hok e
 obtain⟨u,hu,ru⟩:=cg.some_of (v:=v) (o:=mA f) (by rw[<-l];exact r f)
 exact uP I.kIn O (c.get f) c.hd n hu (xC ru) (h u _ (I.tok _) ru)
theorem qH {m:Str}{g:Addr}{pl:Sem Bool}{Q:Value×List Value->CW->Prop}(I:ac X pins σ H s)(e:H a=some (.ins C dx fs))(c:de X.K C)(k:jB X.K C m g)(l:fs.lookup m=none)
  (h:Q (.ref g,[.ref a]) s):wpAny (model X.prog X.w) A (Dr (.ref a) m pl) Q E s:=by
 obtain⟨mA,O,r,_,_,_⟩:=ni I.hok e
 have hn:mA m=none:=cg.none_of (by rw[<-l];exact r m)
 exact Ao I.kIn O (c.get m) k.at_ k.fn hn h
theorem yD {y:V}{u:Value}{Q:Unit->CW->Prop}(I:ac X pins σ H s)(e:H a=some (.ins C dx fs))(c:de X.K C)(n:cP X.K C f)(hl:fs.length<1000)(ry:aw y u)
  (h:∀ s',ac X pins σ (upd H a (.ins C dx (bt f y fs))) s'->Q () s'):wpAny (model X.prog X.w) A (setAttr (.ref a) f u) Q E s:=by
 obtain⟨mA,O,r,wi,_,ho⟩:=ni I.hok e
 have hz:(fs.map (·.1)).length<=CQ:=by rw[Ar,Dq];omega
 refine uy I.kIn O c.sa c.po n.taker c.hd wi hz fun h' O' sb=>h _ ?_
 have hd:∃ o,h'.get? dx=some o:=let ⟨o,_,_,e',_⟩:=O'.ns;⟨o,e'⟩
 refine I.write (x:=a) (e:=dx) (by rw[e];exact True.intro) (.inr ho) (fun b q hb z=>(sb.2 b hb).trans z) hd ?_
 refine⟨by rw[upd_ne O.ne];exact ho,?_,O.ne,O'.obj,_,O'.ns,fun g=>?_,fun g hg=>?_⟩
 ·have:=qZ f y fs;omega
 ·show cg ((bt f y fs).lookup g) (if g=f then some u else mA g)
  rw[bm]
  by_cases q:g=f
  ·rw[if_pos q,if_pos q];exact ry
  ·rw[if_neg q,if_neg q];exact r g
 ·by_cases q:g=f
  ·rw[q];exact(mE f y fs).1
  ·refine(mE f y fs).2 g (wi g fun z=>hg ?_)
   show (if g=f then some u else mA g)=none
   rw[if_neg q];exact z
theorem ac.made (I:ac X pins σ H s):ac X pins σ (upd (upd H s.heap.objs.size (.own (s.heap.objs.size+1))) (s.heap.objs.size+1) (.ins C s.heap.objs.size []))
  { s with heap:=(s.heap.push W.emptyDict).push (W.instObj C s.heap.objs.size) }:=by
 have e1:(s.heap.push W.emptyDict).get? s.heap.objs.size=some W.emptyDict:=BZ s.heap rfl
 have e2:((s.heap.push W.emptyDict).push (W.instObj C s.heap.objs.size)).get? (s.heap.objs.size+1)=some (W.instObj C s.heap.objs.size):=by
  have:=BZ (s.heap.push W.emptyDict) (o:=W.instObj C s.heap.objs.size) rfl
  rwa [B0] at this
 have e3:(s.heap.push W.emptyDict).Ns s.heap.objs.size (fun _=>none):=⟨W.emptyDict,#[],_,e1,rfl,(fun e he=>absurd he (by simp)),fun _=>rfl⟩
 have I1:=I.laid (a:=s.heap.objs.size) (o:=.own (s.heap.objs.size+1)) (h':=s.heap.push W.emptyDict) (t':=s.toks) (fun b u q=>BY _ q) (B6 _) ⟨_,e1⟩
 refine I1.laid (a:=s.heap.objs.size+1) (o:=.ins C s.heap.objs.size []) (t':=s.toks) (fun b u q=>BY _ q) (Cm (B0 _ _)) ?_
 have ne:s.heap.objs.size≠s.heap.objs.size+1:=B7 (Ci _)
 refine⟨by rw[upd_ne ne,ah],B9 _,ne,e2,fun _=>none,(Heap.Ns1.of_empty e3).at fun o q=>BY _ q,fun _=>True.intro,fun y hy=>absurd rfl hy⟩
theorem uc {prog:CP}{w:World}{env:Env}{e:Expr}{f:Str}{pos:Pos}{s:CW}{Q:Value->CW->Prop}(hb:Dv e f env (eval e env)=eval e env)
  (h:wpAny (model prog w) A (eval e env) (fun o s₁=>wpAny (model prog w) A (getAttr o f true) Q E s₁) E s):wpAny (model prog w) A (eval (.Attribute e f pos) env) Q E s :=
 Attribute_any_ h (by rw[arm_eval_Attribute,hb])
end
inductive qm (K:W.Frag)(f:Str)(x:V)(H1:Hp)(Q:VK):Prop
 | mk (a C dx:Addr)(fs:List (Str×V))(v:V)(e:x=.ref a)(h:H1 a=some (.ins C dx fs))(c:de K C)(n:cP K C f)(l:fs.lookup f=some v)(q:Q v H1):qm K f x H1 Q
def tY (K:W.Frag)(ta:TE)(f:Str):TE:=fun σ H Q=>ta σ H fun x H1=>qm K f x H1 Q
def yz (K:W.Frag)(ta tv:TE)(f:Str):TS:=fun D σ H=>tv σ H fun y H1=>ta σ H1 fun x H2=>∃ a C dx fs,x=.ref a/\H2 a=some (.ins C dx fs)/\de K C/\cP K C f/\fs.length<1000 /\
 D.nx σ (upd H2 a (.ins C dx (bt f y fs)))
section
variable {X:Cx}{o e value:Expr}{f:Str}{pos pos' tpos:Pos}{ta tv:TE}
theorem mh (he:PE X e ta)(hb:Dv e f X.env (eval e X.env)=eval e X.env):PE X (.Attribute e f pos) (tY X.K ta f):=by
 refine⟨?_⟩
 intro pins s σ H Q I h
 refine uc hb (ai (he pins s σ H _ I h) fun u s1 ⟨x,H1,I1,rx,a,C,dx,fs,v,ex,ea,c,n,l,q⟩=>?_)
 subst ex
 obtain rfl:u=Value.ref a:=rx
 exact uZ I1 ea c n l fun u' s2 I2 ru=>⟨v,H1,I2,ru,q⟩
theorem eJ (ha:PE X o ta)(hv:PE X value tv)(hs:Da value (some (.Attribute o f pos')) pos.line X.env=pure false):PS X (.Assign [.Attribute o f pos'] value pos) (yz X.K ta tv f):=by
 refine⟨?_⟩
 intro pins s σ H D I h
 refine plainObj_wpAny_Assign_Attribute (ai (hv pins s σ H _ I h) fun u s1 ⟨y,H1,I1,ry,q⟩=>ai (ha pins s1 σ H1 _ I1 q) fun ov s2 ⟨x,H2,I2,rx,a,C,dx,fs,ex,ea,c,n,l,q2⟩=>?_) hs
 subst ex
 obtain rfl:ov=Value.ref a:=rx
 exact yD I2 ea c n l ry fun s3 I3=>⟨σ,_,I3,q2⟩
end
section
variable {X:Cx}{pins:List (Addr×Obj)}{σ:St}{H:Hp}{s:CW}{A:Around}{E:Value->CW->Prop}{Q:Value->CW->Prop}{c:Value}{b:Bool}
end
end L2
namespace L2
open PySem PySem.Spec PyProof.Rows
structure aZ (k:Nat)(A:Around):Prop where
 hd:A.handled=none
 dp:A.depth+3*k+5<recursionLimit
 un:A.units+16*k+200<cLine
 gd:A.guards=some []
theorem aZ.mono {j k:Nat}{A:Around}(r:aZ k A)(h:j<=k):aZ j A:=⟨r.hd,by have:=r.dp;omega,by have:=r.un;omega,r.gd⟩
theorem aZ.deeper {k:Nat}{A:Around}(r:aZ (k+1) A)(env:Env):aZ k (A.deeper env) :=
 ⟨r.hd,by have:=r.dp;show A.depth+1+3*k+5<_;omega,by have:=r.un;show A.units+3+16*k+200<_;omega,r.gd⟩
theorem aZ.in1 {k:Nat}{A:Around}(r:aZ (k+1) A):aZ k A.in1 :=
 ⟨r.hd,by have:=r.dp;show A.depth+3*k+5<_;omega,by have:=r.un;show A.units+1+16*k+200<_;omega,r.gd⟩
theorem uv {A:Around}{C:Addr}{us:List Value}{kw:List (Str×Value)}:(A.under (.builtin "type.__call__" ⟨.ref C::us,kw⟩)).depth=A.depth+1:=by
 first|rfl|simp[Around.under,Code.weight,Code.isCreation,Code.isGuard,Code.isCaller,Code.frames,Code.isFrame,guardIds]
theorem yM {A:Around}{C:Addr}{us:List Value}{kw:List (Str×Value)}:(A.under (.builtin "type.__call__" ⟨.ref C::us,kw⟩)).units=A.units+1:=by
 first|rfl|simp[Around.under,Code.cUnits,Code.frames,Code.isFrame]
theorem yO {A:Around}{C:Addr}{us:List Value}{kw:List (Str×Value)}:(A.under (.builtin "type.__call__" ⟨.ref C::us,kw⟩)).guards=A.guards:=by
 first|rfl|simp[Around.under,Code.weight,Code.isCreation,Code.isGuard,Code.isCaller,Code.frames,Code.isFrame,guardIds]
theorem aZ.make {k:Nat}{A:Around}(r:aZ (k+1) A)(C:Addr)(us:List Value)(kw:List (Str×Value)):aZ k (A.under (.builtin "type.__call__" ⟨.ref C::us,kw⟩)) :=
 ⟨r.hd,by have:=r.dp;rw[uv];omega,by have:=r.un;rw[yM];omega,by rw[yO];exact r.gd⟩
theorem aZ.depth {k:Nat}{A:Around}(r:aZ k A):A.depth<recursionLimit:=by have:=r.dp;omega
theorem aZ.units {k:Nat}{A:Around}(r:aZ k A):A.units+64<cLine:=by have:=r.un;omega
abbrev eN:TA:=fun _ H Q=>Q [] H
abbrev fB (ta:TE)(tr:TA):TA:=fun σ H Q=>ta σ H fun x H1=>tr σ H1 fun xs H2=>Q (x::xs) H2
section
variable {X:Cx}{e:Expr}{es:List Expr}{te:TE}{t:TA}{pos:Pos}
theorem b9:PA X [] eN:=.mk fun _ _ _ _ H Q I h=>Calls.spliced_nil ⟨[],H,I,.nil,h⟩
theorem aO (ha:PE X e te)(hr:PA X es t)(hs:C0 (e::es) X.env=(false,eval e X.env)::C0 es X.env:=by rfl):PA X (e::es) (fB te t):=by
 refine⟨?_⟩
 intro pos pins s σ H Q I h
 rw[hs]
 show wpAny _ _ (spliced ((false,eval e X.env)::CZ pos (C0 es X.env))) _ _ s
 refine Calls.spliced_cons (ai (ha pins s σ H _ I h) fun u s1 ⟨x,H1,I1,r1,q1⟩=>?_)
 exact ai (hr pos pins s1 σ H1 _ I1 q1) fun us s2 ⟨xs,H2,I2,r2,q2⟩=>⟨x::xs,H2,I2,.cons r1 r2,q2⟩
def Ad (t:TA):TE:=fun σ H Q=>t σ H fun xs H1=>xs.length<=CQ/\∀ p,H1 p=none->Q (.ref p) (upd H1 p (.tup xs))
def yb (t:TA):TE:=fun σ H Q=>t σ H fun xs H1=>xs.length<=CQ/\∀ p,H1 p=none->Q (.ref p) (upd H1 p (.lst xs))
theorem bP {x1}(h:PA X es t):PE X (.Tuple es x1 pos) (Ad t):=by
 refine⟨?_⟩
 intro pins s σ H Q I hq
 refine wpAny_Tuple_spliced (ai (h pos pins s σ H _ I hq) fun us s1 ⟨xs,H1,I1,r,z,q⟩=>⟨by rw[<-r.length];exact z,?_⟩)
 have hf:H1 s1.heap.objs.size=none:=I1.hok.fresh (B6 _)
 refine⟨.ref s1.heap.objs.size,upd H1 s1.heap.objs.size (.tup xs),I1.laid (t':=s1.toks) (fun b u e=>BY _ e) (B6 _) ?_,rfl,q _ hf⟩
 exact⟨z,us,r,⟨_,BZ _ rfl,rfl,_,rfl⟩⟩
theorem bn (h:PA X es t):PE X (.List es pos) (yb t):=by
 refine⟨?_⟩
 intro pins s σ H Q I hq
 refine wpAny_List_spliced (ai (h pos pins s σ H _ I hq) fun us s1 ⟨xs,H1,I1,r,z,q⟩=>⟨by rw[<-r.length];exact z,?_⟩)
 have hf:H1 s1.heap.objs.size=none:=I1.hok.fresh (B6 _)
 refine⟨.ref s1.heap.objs.size,upd H1 s1.heap.objs.size (.lst xs),I1.laid (t':=s1.toks) (fun b u e=>BY _ e) (B6 _) ?_,rfl,q _ hf⟩
 exact⟨z,us,0,r,BZ _ rfl⟩
end
abbrev Sp:=List V->Hp->VK->XK->Prop
abbrev dA:=List Env->Hp->CW->XK->Value->CW->Prop
structure gw (P:CP)(w:World)(K:W.Frag)(mg:Str->Option Value)(base:Heap)(A:Around)(outer:List Env)(s:CW)(H:Hp):Prop where
 frames:A.frames=some outer
 mod:Mod K mg base
 bs:∀ b o,base.get? b=some o->s.heap.get? b=some o/\H b=none
 bsz:base.objs.size<=s.heap.objs.size
 funs:s.heap.FunFrames base outer
 frf:∀ b∈dP outer,H b=none
 hok:bq P w H s.heap
 bare:CY s.gens
def CE (outer:List Env)(P:CP)(w:World)(H:Hp)(s:CW)(Q:VK)(u:Value)(s':CW):Prop :=
 ∃ v H',s'.os=s.os/\CY s'.gens/\Un (dP outer) [] H H' s.heap s'.heap/\bq P w H' s'.heap/\aw v u/\Q v H'
def CR (CX:dA)(outer:List Env)(P:CP)(w:World)(H:Hp)(s:CW)(Q:VK)(E:XK)(r:Dt)(s':CW):Prop :=
 match r with
 | .ok (.ret u)=>CE outer P w H s Q u s'
 | .ok _=>False
 | .error e=>CX outer H s E e s'
structure ce (P:CP)(w:World)(K:W.Frag)(mg:Str->Option Value)(base:Heap)(CX:dA)(k:Nat)(f:Addr)(fd:Dw)(ps:List Str)(sp:Sp):Prop where
 len:∀ vs H Q E,sp vs H Q E->vs.length=ps.length
 run:∀ (A:Around) (outer:List Env) (s:CW) (H:Hp) (args:Args) (us:List Value) (vs:List V) (Q:VK) (E:XK),aZ k A->gw P w K mg base A outer s H->Dy s fd args (ps.zip us)->au vs us->sp vs H Q E ->
  Du (model P w) A (.call (.ref f) args) (CR CX outer P w H s Q E) s
theorem gw.make {P:CP}{w:World}{K:W.Frag}{mg:Str->Option Value}{base:Heap}{A:Around}{outer:List Env}{s:CW}{H:Hp}(e:gw P w K mg base A outer s H)(C:Addr)(us:List Value)(kw:List (Str×Value)) :
 gw P w K mg base (A.under (.builtin "type.__call__" ⟨.ref C::us,kw⟩)) outer s H:=⟨by first|exact e.frames|(simpa [Around.under,Code.envs,Code.isFrame,pushEnvs] using e.frames),e.mod,e.bs,e.bsz,e.funs,e.frf,e.hok,e.bare⟩
section
variable {X:Cx}{pins:List (Addr×Obj)}{σ:St}{H:Hp}{s s':CW}
theorem ac.env0 (I:ac X pins σ H s):gw X.prog X.w X.K X.mg X.base X.A X.stack s H :=
 ⟨I.ok.frames,I.ok.mod,I.bs,Ca I.ok.bsz I.sz,I.stack,I.stkFree,I.hok,I.bare⟩
theorem ac.after {Q:VK}{u:Value}(I:ac X pins σ H s)(h:CE X.stack X.prog X.w H s Q u s'):EP X pins σ Q u s':=by
 obtain⟨v,H',os,bare,un,hok,r,q⟩:=h
 obtain⟨hh,g,d,t,os'⟩:=s'
 obtain rfl:os'=s.os:=os
 exact⟨v,H',I.call (h':=hh) (g':=g) (d':=d) (t':=t) (ch:=[]) un hok bare (fun b z=>absurd z (by simp)),r,q⟩
end
abbrev ku (sp:Sp)(dvs:List V)(E:XK)(t:TA):TE:=fun σ H Q=>t σ H fun vs H1=>sp (vs++dvs) H1 Q E
inductive qc (C:Addr)(m:Str)(x:V)(H1:Hp)(R:Prop):Prop
 | mk (a dx:Addr)(fs:List (Str×V))(e:x=.ref a)(h:H1 a=some (.ins C dx fs))(l:fs.lookup m=none)(q:R):qc C m x H1 R
def kE (C:Addr)(m:Str)(sp:Sp)(dvs:List V)(E:XK)(ta:TE)(t:TA):TE:=fun σ H Q=>ta σ H fun x H1=>qc C m x H1 (t σ H1 fun vs H2=>sp (x::(vs++dvs)) H2 Q E)
def An (C:Addr)(sp:Sp)(dvs:List V)(E:XK)(t:TA):TE:=fun σ H Q=>t σ H fun vs H1=>∀ x dx,H1 x=none->H1 dx=none->dx≠x ->
 sp (.ref x::(vs++dvs)) (upd (upd H1 dx (.own x)) x (.ins C dx [])) (fun v H2=>v=.non/\Q (.ref x) H2) E
def bJ (K:W.Frag)(fd:Dw)(ps:List Str)(ds:List Value):Prop :=
 ∀ (s:CW) (us:List Value),K.In s.heap->(us++ds).length=ps.length->Dy s fd ⟨us,[]⟩ (ps.zip (us++ds))
theorem bJ.all {K:W.Frag}{fd:Dw}{ps:List Str}(h:∀ us:List Value,us.length=ps.length->Dz fd ⟨us,[]⟩=pure (ps.zip us)):bJ K fd ps []:=fun s us _ hl=>by
 rw[AR] at hl ⊢
 exact .of_eq (h us hl)
def fG (CX:dA)(X:Cx)(E:XK):Prop:=∀ (pins:List (Addr×Obj)) (σ:St) (H:Hp) (s:CW) (e:Value) (s':CW),ac X pins σ H s->CX X.stack H s E e s'->X.xe e s'
section
variable {X:Cx}{CX:dA}{k:Nat}{f C:Addr}{fd:Dw}{ps:List Str}{sp:Sp}{dvs:List V}{ds:List Value}{E:XK}{x m:Str}{p pos apos:Pos}{e o:Expr}{es:List Expr}{ta:TE}{t:TA}
theorem jD {pins:List (Addr×Obj)}{σ:St}{H:Hp}{s:CW}{Q:VK}{us:List Value}{vs:List V}(F:ce X.prog X.w X.K X.mg X.base CX k f fd ps sp)(hr:aZ k X.A)(hb:bJ X.K fd ps ds)(hd:au dvs ds)(hx:fG CX X E)
  (I:ac X pins σ H s) (r:au vs us) (h:sp (vs++dvs) H Q E):wpAny (model X.prog X.w) X.A (call (.ref f) us) (EP X pins σ Q) X.xe s:=by
 have r2:au (vs++dvs) (us++ds):=r.append hd
 have hl:(us++ds).length=ps.length:=by rw[<-r2.length];exact F.len _ _ _ _ h
 refine wpAny_call (DC (F.run X.A X.stack s H ⟨us,[]⟩ (us++ds) (vs++dvs) Q E hr I.env0 (hb s us I.kIn hl) r2 h) fun r s' hq=>?_)
 cases r with
 | error e=>exact hx pins σ H s e s' I hq
 | ok fl =>
  cases fl with
  | ret u=>exact I.after hq
  | next=>exact False.elim hq
  | brk=>exact False.elim hq
  | cont=>exact False.elim hq
theorem wZ (F:ce X.prog X.w X.K X.mg X.base CX k f fd ps sp)(hr:aZ k X.A)(hg:Gl X x)(hm:X.mg x=some (.ref f))(hk:W.keepIn X.K (.ref f)=true)(hb:bJ X.K fd ps ds)(hd:au dvs ds)(hx:fG CX X E)
  (ha:PA X (e::es) t) (hdb:(x == ("__debug__" : Str))=false:=by decide) (he:C0 (e::es) X.env=(false,eval e X.env)::C0 es X.env:=by rfl) (hpl:(CZ pos (C0 es X.env)).any (·.1)=false:=by rfl) :
  PE X (.Call (.Name x p) (e::es) [] pos) (ku sp dvs E t):=by
 refine⟨?_⟩
 intro pins s σ H Q I h
 refine DG (j5 I hg hm ?_ hdb)
 refine W.callWith_K (h₀:=X.base) I.ok.mod.kin hk (ai (ha pos pins s σ H _ I h) fun us s1 ⟨vs,H1,I1,r,q⟩=>⟨I1.kIn,?_⟩) he hpl
 exact jD F hr hb hd hx I1 r q
theorem xN (F:ce X.prog X.w X.K X.mg X.base CX k f fd ps sp)(hr:aZ k X.A)(hg:Gl X x)(hm:X.mg x=some (.ref f))(hk:W.keepIn X.K (.ref f)=true)(hb:bJ X.K fd ps ds)(hd:au dvs ds)(hx:fG CX X E)
  (hdb:(x == ("__debug__" : Str))=false:=by decide):PE X (.Call (.Name x p) [] [] pos) (ku sp dvs E eN):=by
 refine⟨?_⟩
 intro pins s σ H Q I h
 refine DG (j5 I hg hm ?_ hdb)
 exact W.callWith_K0 I.kIn hk (jD (us:=[]) F hr hb hd hx I .nil h)
theorem zg {pl:Sem Bool}(he:PE X o ta)(c:de X.K C)(hm:jB X.K C m f)(F:ce X.prog X.w X.K X.mg X.base CX k f fd ps sp)(hr:aZ k X.A)(hb:bJ X.K fd ps ds)(hd:au dvs ds)(hx:fG CX X E)(ha:PA X (e::es) t)
  (hst:C0 (e::es) X.env=(false,eval e X.env)::C0 es X.env:=by rfl) (hpl:(CZ pos (C0 es X.env)).any (·.1)=false:=by rfl)
  (ht:eval (.Call (.Attribute o m apos) (e::es) [] pos) X.env=(do
   let ov <-eval o X.env
   C6 apos.atName
   let (f,first) <-C7 [ov] (Dr ov m pl)
   callWith pos f first (CZ pos (C0 (e::es) X.env)) (DH pos (DI [] X.env))):=by rfl) :
  PE X (.Call (.Attribute o m apos) (e::es) [] pos) (kE C m sp dvs E ta t):=by
 refine⟨?_⟩
 intro pins s σ H Q I h
 refine W.methodCall_KW (pl:=pl) (ai (he pins s σ H _ I h) fun u s1 ⟨x,H1,I1,rx,a,dx,fs,ex,ea,l,q⟩=>?_) ht
 subst ex
 obtain rfl:u=Value.ref a:=rx
 refine qH I1 ea c hm l ?_
 refine W.callWith_K (first:=[.ref a]) (h₀:=X.base) I.ok.mod.kin hm.kp (ai (ha pos pins s1 σ H1 _ I1 q) fun us s2 ⟨vs,H2,I2,r,q2⟩=>⟨I2.kIn,?_⟩) hst hpl
 exact jD (us:=.ref a::us) (vs:=.ref a::vs) F hr hb hd hx I2 (.cons rfl r) q2
theorem xT {pl:Sem Bool}(he:PE X o ta)(c:de X.K C)(hm:jB X.K C m f)(F:ce X.prog X.w X.K X.mg X.base CX k f fd ps sp)(hr:aZ k X.A)(hb:bJ X.K fd ps ds)(hd:au dvs ds)(hx:fG CX X E)
  (ht:eval (.Call (.Attribute o m apos) [] [] pos) X.env=(do
   let ov <-eval o X.env
   C6 apos.atName
   let (f,first) <-C7 [ov] (Dr ov m pl)
   callWith pos f first (CZ pos (C0 [] X.env)) (DH pos (DI [] X.env))):=by rfl) :
  PE X (.Call (.Attribute o m apos) [] [] pos) (kE C m sp dvs E ta eN):=by
 refine⟨?_⟩
 intro pins s σ H Q I h
 refine W.methodCall_KW (pl:=pl) (ai (he pins s σ H _ I h) fun u s1 ⟨x,H1,I1,rx,a,dx,fs,ex,ea,l,q⟩=>?_) ht
 subst ex
 obtain rfl:u=Value.ref a:=rx
 refine qH I1 ea c hm l ?_
 exact W.callWith_K0 (first:=[.ref a]) I1.kIn hm.kp (jD (us:=[.ref a]) (vs:=[.ref a]) F hr hb hd hx I1 (.cons rfl .nil) q)
structure Mk (K:W.Frag)(C f:Addr):Prop where
 makes:W.makesIn K C=true
 init:W.findIn K (.ref C) "__init__"=some (some (.ref f))
 fn:W.isFn K (.ref f)=true
 kp:W.keepIn K (.ref C)=true
theorem uq {pins:List (Addr×Obj)}{σ:St}{H:Hp}{s:CW}{Q:VK}{us:List Value}{vs:List V}(M:Mk X.K C f)(F:ce X.prog X.w X.K X.mg X.base CX k f fd ps sp)(hr:aZ (k+1) X.A)(hb:bJ X.K fd ps ds)(hd:au dvs ds)
  (hx:fG CX X E) (I:ac X pins σ H s) (r:au vs us)
  (h:∀ x dx,H x=none->H dx=none->dx≠x->sp (.ref x::(vs++dvs)) (upd (upd H dx (.own x)) x (.ins C dx [])) (fun v H2=>v=.non/\Q (.ref x) H2) E) :
  wpAny (model X.prog X.w) X.A (call (.ref C) us) (EP X pins σ Q) X.xe s:=by
 have hq:=h (s.heap.objs.size+1) s.heap.objs.size (I.hok.fresh (Cd _)) (I.hok.fresh (B6 _)) (B7 (Ci _))
 have I2:=ac.made (C:=C) I
 have r2:au (V.ref (s.heap.objs.size+1)::(vs++dvs)) (Value.ref (s.heap.objs.size+1)::(us++ds)):=.cons rfl (r.append hd)
 have hl:(Value.ref (s.heap.objs.size+1)::us++ds).length=ps.length:=by
  have e:=r2.length
  rw[F.len _ _ _ _ hq] at e
  exact e.symm
 refine wpAny_call (zF (f:=f) I.kIn M.makes M.init (beq_iff_eq.mp M.fn) (DC (F.run _ X.stack _ _ ⟨Value.ref (s.heap.objs.size+1)::us,[]⟩ (Value.ref (s.heap.objs.size+1)::(us++ds)) _ _ E (hr.make C us [])
  (I2.env0.make C us []) (hb _ (Value.ref (s.heap.objs.size+1)::us) I2.kIn hl) r2 hq) fun r s' hq'=>?_))
 cases r with
 | error e=>exact hx pins σ _ _ e s' I2 hq'
 | ok fl =>
  cases fl with
  | ret u =>
   obtain⟨v,H',I3,rv,ev,q3⟩:=I2.after hq'
   subst ev
   exact⟨rv,⟨V.ref (s.heap.objs.size+1),H',I3,rfl,q3⟩⟩
  | next=>exact False.elim hq'
  | brk=>exact False.elim hq'
  | cont=>exact False.elim hq'
theorem oX (M:Mk X.K C f)(F:ce X.prog X.w X.K X.mg X.base CX k f fd ps sp)(hr:aZ (k+1) X.A)(hg:Gl X x)(hm:X.mg x=some (.ref C))(hb:bJ X.K fd ps ds)(hd:au dvs ds)(hx:fG CX X E)
  (ha:PA X (e::es) t) (hdb:(x == ("__debug__" : Str))=false:=by decide) (he:C0 (e::es) X.env=(false,eval e X.env)::C0 es X.env:=by rfl) (hpl:(CZ pos (C0 es X.env)).any (·.1)=false:=by rfl) :
  PE X (.Call (.Name x p) (e::es) [] pos) (An C sp dvs E t):=by
 refine⟨?_⟩
 intro pins s σ H Q I h
 refine DG (j5 I hg hm ?_ hdb)
 refine W.callWith_K (h₀:=X.base) I.ok.mod.kin M.kp (ai (ha pos pins s σ H _ I h) fun us s1 ⟨vs,H1,I1,r,q⟩=>⟨I1.kIn,?_⟩) he hpl
 exact uq M F hr hb hd hx I1 r q
end
def PK (X:Cx)(kws:List DJ)(t:TA):Prop :=
 ∀ (pos:Pos) (pins:List (Addr×Obj)) (s:CW) (σ:St) (H:Hp) (Q:List V->Hp->Prop),ac X pins σ H s->t σ H Q->wpAny (model X.prog X.w) X.A (evalAll ((DH pos (DI kws X.env)).map (·.2))) (AP X pins σ Q) X.xe s
section
variable {X:Cx}{CX:dA}{k:Nat}{f C:Addr}{fd:Dw}{ps ks:List Str}{sp:Sp}{E:XK}{x m:Str}{p pos apos kpos:Pos}{e o:Expr}{es:List Expr}{kws:List DJ}{te ta:TE}{t tk:TA}{nm:Option Str}
theorem yZ:PK X [] eN:=fun _ _ _ _ H Q I h=>wpAny_evalAll_nil ⟨[],H,I,.nil,h⟩
theorem zD (ha:PE X e te)(hr:PK X kws t):PK X (⟨nm,e,kpos⟩::kws) (fB te t):=by
 intro pos pins s σ H Q I h
 show wpAny _ _ (evalAll ((do let v <-eval e X.env;C6 pos;pure v)::(DH pos (DI kws X.env)).map (·.2))) _ _ s
 refine wpAny_evalAll_cons (Df (ai (ha pins s σ H _ I h) fun u s1 ⟨x,H1,I1,r1,q1⟩=>Df (Dh (Ds ?_))))
 exact ai (hr pos pins s1 σ H1 _ I1 q1) fun us s2 ⟨xs,H2,I2,r2,q2⟩=>⟨x::xs,H2,I2,.cons r1 r2,q2⟩
variable {g:List Value->List Value->List Value}{gV:List V->List V->List V}
end
structure aI (N P:List Str)(sc:Scope):Prop where
 kind:sc.kind=.function
 co:sc.isCoroutine=false
 gen:sc.isGenerator=false
 nd:N.Nodup
 pre:N.take P.length=P
 par:∀ x∈P,sc.names.lookup x=some .local\/sc.names.lookup x=some .cell
 nofree:∀ y∈sc.names,y.2≠.free
theorem aN {N P:List Str}{sc:Scope}(a:sc.kind=.function:=by rfl)(b:sc.isCoroutine=false:=by rfl)(c:sc.isGenerator=false:=by rfl)(d:N.Nodup:=by decide +kernel)(e:N.take P.length=P:=by rfl)(f:∀ x∈P,sc.names.lookup x=some .local\/sc.names.lookup x=some .cell:=by decide +kernel)(g:∀ y∈sc.names,y.2≠.free:=by decide +kernel):aI N P sc:=⟨a,b,c,d,e,f,g⟩
theorem pG {DK:Str->Option NameKind}{x:Str}:∀ {binds:List (Str×Value)}{m:Str->Option Value},(∀ v,(x,v)∉binds)->bindL DK binds m x=m x
 | [],_,_=>rfl
 | (n,v)::r,m,h=>by
  unfold bindL
  rw[pG fun w hw=>h w (AD _ hw)]
  split
  ·have:x≠n:=by rintro rfl;exact h v AF
   simp[this]
  ·rfl
theorem qf {DK:Str->Option NameKind}{x:Str}:∀ {binds:List (Str×Value)}{m:Str->Option Value},(∀ v,(x,v)∉binds)->bindC DK binds m x=m x
 | [],_,_=>rfl
 | (n,v)::r,m,h=>by
  unfold bindC
  rw[qf fun w hw=>h w (AD _ hw)]
  split
  ·rfl
  ·have:x≠n:=by rintro rfl;exact h v AF
   simp[this]
theorem sY {DK:Str->Option NameKind}{x:Str}{v:Value}:∀ {P:List Str}{vs:List Value}{i:Nat}{m:Str->Option Value},P.Nodup->P[i]?=some x->vs[i]?=some v->DK x=some .local ->
  bindL DK (P.zip vs) m x=some v
 | [],_,_,_,_,h,_,_=>by simp at h
 | _::_,[],_,_,_,_,h,_=>by simp at h
 | p::P,w::vs,0,m,nd,h1,h2,hk=>by
  simp at h1 h2;subst h1;subst h2
  show bindL DK ((p,w)::P.zip vs) m p=_
  unfold bindL
  rw[pG fun v hv=>(List.nodup_cons.mp nd).1 (Bt hv).1,if_pos hk]
  simp
 | p::P,w::vs,i+1,m,nd,h1,h2,hk=>by
  show bindL DK ((p,w)::P.zip vs) m x=_
  unfold bindL
  exact sY (i:=i) (List.nodup_cons.mp nd).2 (by simpa using h1) (by simpa using h2) hk
theorem nH {DK:Str->Option NameKind}{x:Str}{v:Value}:∀ {P:List Str}{vs:List Value}{i:Nat}{m:Str->Option Value},P.Nodup->P[i]?=some x->vs[i]?=some v->DK x≠some .local ->
  bindC DK (P.zip vs) m x=some v
 | [],_,_,_,_,h,_,_=>by simp at h
 | _::_,[],_,_,_,_,h,_=>by simp at h
 | p::P,w::vs,0,m,nd,h1,h2,hk=>by
  simp at h1 h2;subst h1;subst h2
  show bindC DK ((p,w)::P.zip vs) m p=_
  unfold bindC
  rw[qf fun v hv=>(List.nodup_cons.mp nd).1 (Bt hv).1,if_neg hk]
  simp
 | p::P,w::vs,i+1,m,nd,h1,h2,hk=>by
  show bindC DK ((p,w)::P.zip vs) m x=_
  unfold bindC
  exact nH (i:=i) (List.nodup_cons.mp nd).2 (by simpa using h1) (by simpa using h2) hk
def eh (N:List Str)(vs:List V):St:=vs.map some++List.replicate (N.length-vs.length) none
def fF (CX:dA)(P:CP)(w:World)(K:W.Frag)(mg:Str->Option Value)(base:Heap)(N:List Str)(qual:Str)(scope:Scope)(f:Addr)(cd:Value)(A:Around)(outer:List Env)(s:CW)(H:Hp)(E:XK):Cx where
 prog:=P
 w:=w
 K:=K
 mg:=mg
 base:=base
 A:=A.deeper (DM qual scope s.heap.objs.size f cd)
 N:=N
 s₀:=s
 H₀:=H
 env:=DM qual scope s.heap.objs.size f cd
 outer:=outer
 stack:=DM qual scope s.heap.objs.size f cd::outer
 ex:=[]
 calm:=true
 fn:=fun _=>true
 pn:=[]
 xe:=fun e s'=>wpAny (model P w) (A.deeper (DM qual scope s.heap.objs.size f cd)) (leaving (DM qual scope s.heap.objs.size f cd) e) (fun _ s''=>CX outer H s E e s'') (fun e' s''=>CX outer H s E e' s'') s'
theorem tI {sc:Scope}{n:Nat}{x:Str}(h:sc.names.lookup x=some .cell):∃ c,(cellsFrom n sc.names []).lookup x=some c:=by
 have q:=W.cellsFrom_some sc.names n [] (.inl h)
 exact Option.isSome_iff_exists.mp q
theorem wC {CX:dA}{P:CP}{w:World}{K:W.Frag}{mg:Str->Option Value}{base:Heap}{N ps:List Str}{qual:Str}{scope:Scope}{f:Addr}{cd:Value}{A:Around}{outer:List Env}{s s1:CW}{H:Hp}{E:XK}{us:List Value}{vs:List V}
  (S:aI N ps scope) (hd:A.handled=none) (e0:gw P w K mg base A outer s H) (hl:vs.length=ps.length) (r:au vs us)
  (x:InCallC s s.heap.objs.size (bindL (DM qual scope s.heap.objs.size f cd).kindOf (ps.zip us) fun _=>none) (cellsFrom (s.heap.objs.size+1) scope.names []) (bindC (DM qual scope s.heap.objs.size f cd).kindOf (ps.zip us) fun _=>none) s1) :
  ac (fF CX P w K mg base N qual scope f cd A outer s H E) [] (eh N vs) H s1:=by
 have hpl:ps.length<=N.length:=by have:=congrArg AW S.pre;rw[AC] at this;omega
 obtain⟨h1,tk,rfl,hk⟩:=x.done
 have noA:∀ b:Addr,b∉(fF CX P w K mg base N qual scope f cd A outer s H E).ex:=fun b z=>absurd (show b∈([]:List Addr) from z) (by simp)
 refine⟨⟨e0.mod,S.kind,rfl,rfl,B6 _,fun y z c h1 h2=>?_,fun y hy=>?_,fun y c _ h=>?_,fun _=>hd,Around.frames_deeper e0.frames,.inr ⟨rfl,rfl⟩,fun b z=>absurd z (noA b),e0.bs,e0.bsz,fun b _ _=>noA b,fun b z=>absurd z (noA b),e0.funs,e0.frf⟩,
  rfl,e0.bare,Un.kept hk,⟨_,x.toInCall.ns,fun i y v h1 h2 h3=>?_⟩,fun y c h=>⟨_,x.cell y c h⟩,e0.hok.fresh (B6 _),fun y c h=>?_,fun p hp=>absurd (show p∈([]:List (Addr×Obj)) from hp) (by simp),e0.hok.kept hk,?_⟩
 ·exact name_of_addr x.apart (PySem.mem_of_lookup h1) (PySem.mem_of_lookup h2)
 ·have hy:scope.names.lookup y=some .cell\/scope.names.lookup y=some .free:=hy
  rcases hy with hy|hy
  ·exact tI hy
  ·exact absurd rfl (S.nofree _ (PySem.mem_of_lookup hy))
 ·exact Ch (x.above y c (PySem.mem_of_lookup h))
 ·have hi:i<vs.length:=by
   unfold eh at h2
   by_cases hi:i<vs.length
   ·exact hi
   ·rw[A5 (by simpa using hi)] at h2
    rw[List.getElem?_replicate] at h2
    split at h2 <;> cases h2
  have ha:vs[i]?=some v:=by
   unfold eh at h2
   rw[Bg (by simpa using hi),AE] at h2
   cases e:vs[i]? with
   | none=>rw[e] at h2;cases h2
   | some a=>rw[e] at h2;cases h2;rfl
  obtain⟨u,hu,rv⟩:=r.get ha
  have hp:ps[i]?=some y:=by
   rw[<-S.pre,List.getElem?_take_of_lt (by omega)];exact h1
  have ndP:ps.Nodup:=by rw[<-S.pre];exact S.nd.sublist (Bb _ _)
  refine⟨u,rv,?_⟩
  rcases S.par y (AK hp) with k|k
  ·exact .inl ⟨k,sY ndP hp hu k⟩
  ·obtain⟨c,e⟩:=tI (n:=s.heap.objs.size+1) k
   refine .inr ⟨.inl k,c,e,?_⟩
   have q:=x.cell y c e
   rw[nH ndP hp hu (by show scope.names.lookup y≠_;rw[k];decide)] at q
   exact q
 ·exact e0.hok.fresh (Ch (x.above y c (PySem.mem_of_lookup h)))
 ·unfold eh
  show _=N.length
  rw[AB,Ar,List.length_replicate]
  omega
theorem zp {CX:dA}{P:CP}{w:World}{K:W.Frag}{mg:Str->Option Value}{base:Heap}{k:Nat}{f:Addr}{name qual:Str}{params:Arguments}{body:List Stmt}{scope:Scope}{dV kV doc pm cdv ct oc:Value}{an od:Option Addr}
  {osl:Array (Option Value)}{N ps:List Str}{sp:Sp} (lk:K.lookup f=some ⟨oc,od,.func (W.fnOf name qual params body scope dV kV doc pm an cdv ct),osl⟩) (hcd:W.codeIn K cdv qual=true) (S:aI N ps scope)
  (len:∀ vs H Q E,sp vs H Q E->vs.length=ps.length)
  (hbody:∀ (A:Around) (outer:List Env) (s:CW) (H:Hp) (vs:List V) (Q:VK) (E:XK),aZ k (A.deeper (DM qual scope s.heap.objs.size f cdv))->sp vs H Q E ->
   ∃ t,bW (fF CX P w K mg base N qual scope f cdv A outer s H E) body t/\t { nx:=fun _ H'=>Q .non H',rt:=Q } (eh N vs) H) :
  ce P w K mg base CX (k+1) f (W.fnOf name qual params body scope dV kV doc pm an cdv ct) ps sp:=by
 refine⟨len,fun A outer s H args us vs Q E hr e0 hb r hsp=>?_⟩
 have hl:=len _ _ _ _ hsp
 have KX:K.In s.heap:=e0.mod.kin.keeps fun b o e=>(e0.bs b o e).1
 have lim:s.heap.NoLimit:=e0.mod.nolimit.keeps fun b o e=>(e0.bs b o e).1
 have hkind:∀ y∈ps.zip us,scope.names.lookup y.1=some .local\/(scope.names.lookup y.1=some .cell/\((cellsFrom (s.heap.objs.size+1) scope.names []).lookup y.1).isSome=true):=fun⟨n,v⟩ hy=>by
  rcases S.par n (Bt hy).1 with q|q
  ·exact .inl q
  ·exact .inr ⟨q,W.cellsFrom_some _ _ _ (.inl q)⟩
 refine codeAny_call_function hr.depth (KX _ _ lk) rfl S.co S.gen rfl (W.codeRec_of KX hcd) (hb _ _ _ _ ?_)
 refine wpAny_newFunctionEnv_cells S.kind hkind fun env he s1 x=>?_
 subst he
 refine⟨lim.keeps x.toInCall.keep,codeAny_func ?_⟩
 obtain⟨t,ht,hq⟩:=hbody A outer s H vs Q E (hr.deeper _) hsp
 have I:ac (fF CX P w K mg base N qual scope f cdv A outer s H E) [] (eh N vs) H s1:=wC S hr.hd e0 hl r x
 refine C1 (ht [] s1 (eh N vs) H _ I hq) (fun fl s' hs=>?_) fun e s' hs=>hs
 have fin:∀ {σ':St}{H':Hp}{v:V}{u:Value},ac (fF CX P w K mg base N qual scope f cdv A outer s H E) [] σ' H' s'->aw v u->Q v H'->CE outer P w H s Q u s' :=
  fun {σ' H' v u} J rv q=>⟨v,H',J.os,J.bare,J.base,J.hok,rv,q⟩
 cases fl with
 | ret u =>
  obtain⟨v,σ',H',J,rv,q⟩:=hs
  exact fin J rv q
 | next =>
  obtain⟨σ',H',J,q⟩:=hs
  exact fin (v:=V.non) (u:=Value.none) J rfl q
 | brk =>
  obtain⟨_,_,_,q⟩:=hs
  exact False.elim q
 | cont =>
  obtain⟨_,_,_,q⟩:=hs
  exact False.elim q
end L2
namespace L2
open PySem PySem.Spec PyProof.Rows
section
variable {X:Cx}{x:Str}{p pos:Pos}{e:Expr}{es:List Expr}{t:TA}{id T:String}{r:List V->Hp->VK->Prop}
def jH (r:List V->Hp->VK->Prop)(t:TA):TE:=fun σ H Q=>t σ H fun vs H1=>r vs H1 Q
theorem uD (hc:bB X (.builtin id) r)(hg:Gl X x)(hm:X.mg x=none)(hv:CV x=some (.builtin id))(ha:PA X (e::es) t)(hn:x≠"__name__":=by decide)(hdb:(x == ("__debug__" : Str))=false:=by decide)
  (he:C0 (e::es) X.env=(false,eval e X.env)::C0 es X.env:=by rfl) (hpl:(CZ pos (C0 es X.env)).any (·.1)=false:=by rfl):PE X (.Call (.Name x p) (e::es) [] pos) (jH r t):=by
 refine⟨?_⟩
 intro pins s σ H Q I h
 refine DG (iK I hg hm hv ?_ hn hdb)
 exact PyProof.Rows.callWith_builtin1 (ai (ha pos pins s σ H _ I h) fun us s1 ⟨vs,H1,I1,r1,q1⟩=>hc pins s1 σ H1 vs us Q I1 r1 q1) he hpl
theorem z6 (hc:bB X (.type T) r)(hg:Gl X x)(hm:X.mg x=none)(hv:CV x=some (.type T))(ha:PA X (e::es) t)(hn:x≠"__name__":=by decide)(hdb:(x == ("__debug__" : Str))=false:=by decide)
  (he:C0 (e::es) X.env=(false,eval e X.env)::C0 es X.env:=by rfl) (hpl:(CZ pos (C0 es X.env)).any (·.1)=false:=by rfl):PE X (.Call (.Name x p) (e::es) [] pos) (jH r t):=by
 refine⟨?_⟩
 intro pins s σ H Q I h
 refine DG (iK I hg hm hv ?_ hn hdb)
 exact PyProof.Rows.callWith_type1 (ai (ha pos pins s σ H _ I h) fun us s1 ⟨vs,H1,I1,r1,q1⟩=>hc pins s1 σ H1 vs us Q I1 r1 q1) he hpl
end
end L2
namespace HT
open PySem PyProof.Rows
section
open PySem.SeqAt
open PySem.AutoSeq1 (wpAny_loadPart')
open PySem.MeetsSeq PySem.MeetsSeq2 PySem.MeetsSeq3
end
section
variable {prog:CP}{w:World}{A:Around}{E:Value->CW->Prop}{s:CW}
def sIx (n d:Nat):Option Int->Nat
 | none=>d
 | some v=>if v<0 then (v+(n:Int)).toNat else min v.toNat n
theorem sIx_none (n d:Nat):sIx n d none=d:=rfl
theorem sIx_nat (n d k:Nat):sIx n d (some (k:Int))=min k n:=by
 show (if (k:Int)<0 then ((k:Int)+(n:Int)).toNat else min (k:Int).toNat n)=min k n
 rw[if_neg (by omega),Cy]
theorem ud (n d:Nat)(hd:d<=n)(o:Option Int):sIx n d o<=n:=by
 cases o with
 | none=>exact hd
 | some v =>
  show (if v<0 then (v+(n:Int)).toNat else min v.toNat n)<=n
  by_cases hv:v<0
  ·rw[if_pos hv];omega
  ·rw[if_neg hv];exact Nat.min_le_right _ _
theorem nt (v:Int)(n d:Nat):(if v<0 then max (v+(n:Int)) 0 else min v (n:Int))=((sIx n d (some v):Nat):Int):=by
 show (if v<0 then max (v+(n:Int)) 0 else min v (n:Int))=(((if v<0 then (v+(n:Int)).toNat else min v.toNat n):Nat):Int)
 by_cases hv:v<0
 ·simp only[if_pos hv];omega
 ·simp only[if_neg hv];omega
theorem zV (lo hi:Option Int)(n:Nat):Builtin.Slice.sliceAdjust lo hi 1 (n:Int)=(((sIx n 0 lo:Nat):Int),((sIx n n hi:Nat):Int)):=by
 have h1:¬ ((1:Int)<0):=by omega
 unfold Builtin.Slice.sliceAdjust
 simp only[h1,if_false]
 refine Prod.ext ?_ ?_
 ·cases lo with
  | none=>rfl
  | some v=>exact nt v n 0
 ·cases hi with
  | none=>rfl
  | some v=>exact nt v n n
theorem vt (i j:Nat):Builtin.Slice.slicePlaces (i:Int) (j:Int) 1=j-i:=by
 unfold Builtin.Slice.slicePlaces
 have h1:(1:Int)>0:=by omega
 simp only[h1,if_true,CD]
 split <;> omega
theorem rJ {v:Value}{o:Option Int}{Q:Option Int->CW->Prop}(p:DN v o)(h:Q o s):wpAny (model prog w) A (Builtin.Slice.slicePartIndex v) Q E s:=by
 cases p with
 | none=>exact slicePart_none h
 | int i t=>exact slicePart_int h
theorem pR {sl:Addr}{vl vu:Value}{lo hi:Option Int}{n:Nat}{Q:Int×Int×Nat->CW->Prop}(hs:s.heap.IsSliceOf sl vl vu .none)(pl:DN vl lo)(pu:DN vu hi)
  (h:Q (((sIx n 0 lo:Nat):Int),1,sIx n n hi-sIx n 0 lo) s):wpAny (model prog w) A (Builtin.Slice.sliceApplied (.ref sl) (pure (n:Int))) Q E s:=by
 obtain⟨os,hos,hcs,hds⟩:=id hs
 unfold Builtin.Slice.sliceApplied Builtin.Slice.sliceFields
 refine Df (Df (wpAny_field hos hds (x:=vl) rfl (Df (wpAny_field hos hds (x:=vu) rfl (Df (wpAny_field hos hds (x:=.none) rfl (Ds ?_)))))))
 refine Df (slicePart_none ?_)
 show wpAny _ _ (if ((1:Int) == 0)=true then _ else _) _ _ s
 rw[if_neg (by decide)]
 refine Df (rJ pl (Df (rJ pu (Df (Ds ?_)))))
 show wpAny _ _ (match Builtin.Slice.sliceAdjust lo hi 1 (n:Int) with|(lo,hi)=>pure (lo,(1:Int),Builtin.Slice.slicePlaces lo hi 1)) _ _ s
 rw[zV lo hi n]
 show wpAny _ _ (pure (((sIx n 0 lo:Nat):Int),(1:Int),Builtin.Slice.slicePlaces ((sIx n 0 lo:Nat):Int) ((sIx n n hi:Nat):Int) 1)) _ _ s
 rw[vt]
 exact Ds h
theorem xX (xs:Array Value)(i k:Nat):((AG k).filterMap fun (m:Nat)=>xs[((i:Int)+(m:Int)*1).toNat]?).toArray=((xs.toList.drop i).take k).toArray:=by
 have e:(fun (m:Nat)=>xs[((i:Int)+(m:Int)*1).toNat]?)=fun m=>xs[i+m]?:=by
  funext m
  have:((i:Int)+(m:Int)*1).toNat=i+m:=by omega
  rw[this]
 rw[e]
 have:=pick_run xs i k
 rw[List.filterMap_map] at this
 have e2:((fun x=>xs[x]?)∘fun x=>i+x)=fun m=>xs[i+m]?:=rfl
 rw[e2] at this
 rw[this]
theorem getItem_tuple_cut {t sl:Addr}{items:Array Value}{vl vu:Value}{lo hi:Option Int}{Q:Value->CW->Prop}(ht:IsTup s.heap t items)(hs:s.heap.IsSliceOf sl vl vu .none)(pl:DN vl lo)(pu:DN vu hi)
  (hw:¬ (sIx items.size 0 lo=0/\sIx items.size items.size hi=items.size))
  (h:Q (.ref s.heap.objs.size) { s with heap:=s.heap.push { cls:=.type "tuple",data:=.seq ((items.toList.drop (sIx items.size 0 lo)).take (sIx items.size items.size hi-sIx items.size 0 lo)).toArray } })
  (hsz:items.size<=CQ):wpAny (model prog w) A (Di (.ref t) (.ref sl)) Q E s:=by
 have htake:sizeOk (.seq ((items.toList.drop (sIx items.size 0 lo)).take (sIx items.size items.size hi-sIx items.size 0 lo)).toArray):=by
  show ((items.toList.drop (sIx items.size 0 lo)).take (sIx items.size items.size hi-sIx items.size 0 lo)).toArray.size<=CQ
  rw[At,AC,Bu,Cr]
  omega
 have hj:sIx items.size items.size hi<=items.size:=ud _ _ (B6 _) hi
 obtain⟨os,hos,hcs,hds⟩:=id hs
 have hTs:s.TypeIs (.ref sl) "slice":=⟨os,hos,hcs⟩
 unfold Di
 try with_reducible refine Dg ?_
 first|refine Df (Ds ?_)|skip
 refine Df (wpAny_sequenceKey ht.typeIs (by decide) ?_)
 refine Df (DO (name:=Str.ofString "__getitem__") ht.typeIs PyProof.Rows.slot_tuple_getitem
  (DP PyProof.Rows.slot_tuple_getitem ht.typeIs entry_tuple_getitem ?_ (args_tuple_getitem _ _)))
 show wpAny _ _ (Builtin.Tuple.tupleItemsOf (.ref t) >>= _) _ _ s
 refine Df (tupleItemsOf_ ht ?_)
 refine Df (DQ hTs ?_)
 rw[if_pos (by decide)]
 refine Df (pR hs pl pu ?_)
 have hno:¬ ((((sIx items.size 0 lo:Nat):Int) == 0 && (1:Int) == 1 && (sIx items.size items.size hi-sIx items.size 0 lo) == items.size)=true):=by
  intro q
  rw[Bool.and_eq_true,Bool.and_eq_true] at q
  have q1:((sIx items.size 0 lo:Nat):Int)=0:=eq_of_beq q.1.1
  have q2:sIx items.size items.size hi-sIx items.size 0 lo=items.size:=eq_of_beq q.2
  exact hw ⟨by omega,by omega⟩
 show wpAny _ _ (if (((sIx items.size 0 lo:Nat):Int) == 0 && (1:Int) == 1 && (sIx items.size items.size hi-sIx items.size 0 lo) == items.size)=true then _ else _) _ _ s
 rw[if_neg hno,xX]
 first
  | exact Df (m:=Builtin.Tuple.tupleExact _) (DR (Ds ⟨_,rfl,Ds h⟩) htake)
  | exact Df (m:=Builtin.Tuple.tupleExact _) (DR (Df (Ds (Ds ⟨_,rfl,Ds h⟩))) htake)
  | exact Df (Df (m:=Builtin.Tuple.tupleExact _) (DR (Ds (Ds ⟨_,rfl,Ds h⟩)) htake))
  | exact Df (Df (m:=Builtin.Tuple.tupleExact _) (DR (Ds ⟨_,rfl,Ds h⟩) htake))
end
end HT
namespace L2
open PySem PySem.Spec PyProof.Rows
abbrev TO:=St->Hp->(Option Int->Hp->Prop)->Prop
def PO (X:Cx)(e:Option Expr)(t:TO):Prop :=
 ∀ (pins:List (Addr×Obj)) (s:CW) (σ:St) (H:Hp) (Q:Option Int->Hp->Prop),ac X pins σ H s->t σ H Q ->
  wpAny (model X.prog X.w) X.A (evalPart e X.env) (fun u s'=>∃ o H',ac X pins σ H' s'/\DN u o/\Q o H') X.xe s
def uK:TO:=fun _ H Q=>Q none H
def zR (t:TE):TO:=fun σ H Q=>t σ H fun x H1=>∃ i,x=.int i/\Q (some i) H1
section
variable {X:Cx}{e:Expr}{te:TE}{lo hi:Option Expr}{tl th:TO}{pos p2:Pos}
theorem sf:PO X none uK:=by
 intro pins s σ H Q I h
 rw[DS]
 exact Ds ⟨none,H,I,.none,h⟩
theorem tD (h:PE X e te):PO X (some e) (zR te):=by
 intro pins s σ H Q I hw
 rw[evalPart_some]
 refine ai (h pins s σ H _ I hw) fun u s1 ⟨x,H1,I1,r1,q1⟩=>?_
 obtain⟨i,rfl,q⟩:=q1
 obtain⟨t,rfl⟩:=r1
 exact⟨some i,H1,I1,.int i t,q⟩
def gc (X:Cx)(r:V->Option Int->Option Int->Hp->VK->Prop):Prop :=
 ∀ (pins:List (Addr×Obj)) (s:CW) (σ:St) (H:Hp) (x:V) (v vl vu:Value) (lo hi:Option Int) (sl:Addr) (Q:VK),ac X pins σ H s->aw x v->s.heap.IsSliceOf sl vl vu .none->DN vl lo->DN vu hi->r x lo hi H Q ->
  ∃ T id,typeLookup (.type T) "__getitem__"=pure (some (.builtin id))/\s.TypeIs v T/\wpAny (model X.prog X.w) X.A (Di v (.ref sl)) (EP X pins σ Q) X.xe s
def xk (r:V->Option Int->Option Int->Hp->VK->Prop)(te:TE)(tl th:TO):TE:=fun σ H Q=>te σ H fun x H1=>tl σ H1 fun l H2=>th σ H2 fun u H3=>r x l u H3 Q
theorem nI {r:V->Option Int->Option Int->Hp->VK->Prop}(hr:gc X r)(he:PE X e te)(hl:PO X lo tl)(hu:PO X hi th):PE X (.Subscript e (.Slice lo hi none p2) pos) (xk r te tl th):=by
 refine⟨?_⟩
 intro pins s σ H Q I h
 refine DT (ai (he pins s σ H _ I h) fun v s1 ⟨x,H1,I1,r1,q1⟩=>?_)
 refine wpAny_Slice (ai (hl pins s1 σ H1 _ I1 q1) fun vl s2 ⟨l,H2,I2,pl,q2⟩=>ai (hu pins s2 σ H2 _ I2 q2) fun vu s3 ⟨u,H3,I3,pu,q3⟩=>?_)
 rw[DS]
 refine Ds ?_
 have I4:ac X pins σ H3 { s3 with heap:=s3.heap.push { cls:=.type "slice",data:=.fields #[vl,vu,.none] } }:=I3.kept (t':=s3.toks) fun b ob q=>BY _ q
 obtain⟨T,id,hT,ht,hg⟩:=hr pins { s3 with heap:=s3.heap.push { cls:=.type "slice",data:=.fields #[vl,vu,.none] } } σ H3 x v vl vu l u s3.heap.objs.size Q I4 r1 (Heap.IsSliceOf.new ..) pl pu q3
 show wpAny (model X.prog X.w) X.A (DU e (.Slice lo hi none p2) v (.ref s3.heap.objs.size)) (EP X pins σ Q) X.xe { s3 with heap:=s3.heap.push { cls:=.type "slice",data:=.fields #[vl,vu,.none] } }
 exact tail_any (ops:=[.ref s3.heap.objs.size,v]) ht hT hg (by with_unfolding_all rfl)
def eB (xs:List V)(lo hi:Option Int):List V:=(xs.drop (HT.sIx xs.length 0 lo)).take (HT.sIx xs.length xs.length hi-HT.sIx xs.length 0 lo)
theorem o7 (xs:List V)(lo hi:Option Int):(eB xs lo hi).length<=xs.length:=by
 unfold eB
 rw[AC,Bu]
 omega
def zq (K:W.Frag):V->Option Int->Option Int->Hp->VK->Prop:=fun x lo hi H Q=>∃ a xs,x=.ref a/\bj K H a xs /\
 ¬ (HT.sIx xs.length 0 lo=0/\HT.sIx xs.length xs.length hi=xs.length)/\∀ p,H p=none->Q (.ref p) (upd H p (.tup (eB xs lo hi)))
theorem Am:gc X (zq X.K):=by
 intro pins s σ H x v vl vu lo hi sl Q I rx hs pl pu h
 obtain⟨a,xs,rfl,hx,hw,q⟩:=h
 cases rx
 obtain⟨its,r,ht,hz⟩:=I.tuple hx
 have hlen:its.toArray.size=xs.length:=by rw[At];exact r.length.symm
 refine⟨"tuple",_,PyProof.Rows.slot_tuple_getitem.lookup,ht.typeIs,?_⟩
 refine HT.getItem_tuple_cut ht hs pl pu (by rw[hlen];exact hw) ?_ (by rw[hlen];exact hz)
 rw[hlen]
 refine⟨.ref s.heap.objs.size,_,I.laid (t':=s.toks) (o:=.tup (eB xs lo hi)) (fun b ob q=>BY _ q) (B6 _) ?_,rfl,q _ (I.hok.fresh (B6 _))⟩
 exact⟨Ca (o7 xs lo hi) hz,_,(r.drop (HT.sIx xs.length 0 lo)).take (HT.sIx xs.length xs.length hi-HT.sIx xs.length 0 lo),IsTup.new _ _⟩
end
end L2
namespace L2
open PySem PySem.Spec PyProof.Rows
def cS (n:Nat)(i:Int):Option Nat:=if 0<=i then (if i<n then some i.toNat else none) else if -(n:Int)<=i then some (i+n).toNat else none
def bX {α:Type}(xs:List α)(i:Int):Option α:=(cS xs.length i).bind fun j=>xs[j]?
theorem pW {n:Nat}{i:Int}{j:Nat}(h:cS n i=some j):seqIndex? i n=some j/\j<n/\-(n:Int)<=i/\i<n:=by
 unfold cS at h
 by_cases h0:0<=i
 ·rw[if_pos h0] at h
  by_cases h1:i<n
  ·rw[if_pos h1] at h
   have e:i.toNat=j:=Option.some.inj h
   exact⟨by rw[DW h0 h1,e],by omega,by omega,h1⟩
  ·rw[if_neg h1] at h;cases h
 ·rw[if_neg h0] at h
  by_cases h1 : -(n:Int)<=i
  ·rw[if_pos h1] at h
   have e:(i+n).toNat=j:=Option.some.inj h
   exact⟨by rw[DX (by omega) h1,e],by omega,h1,by omega⟩
  ·rw[if_neg h1] at h;cases h
theorem kM {α:Type}{xs:List α}{i:Int}{v:α}(h:bX xs i=some v):∃ j,seqIndex? i xs.length=some j/\xs[j]?=some v/\j<xs.length/\-(xs.length:Int)<=i/\i<xs.length:=by
 unfold bX at h
 cases e:cS xs.length i with
 | none=>rw[e] at h;cases h
 | some j =>
  rw[e] at h
  obtain⟨h1,h2,h3,h4⟩:=pW e
  exact⟨j,h1,h,h2,h3,h4⟩
theorem bz {α:Type}{xs:List α}{j:Nat}{v:α}(h:xs[j]?=some v):bX xs (j:Int)=some v:=by
 have hj:j<xs.length:=(List.getElem?_eq_some_iff.mp h).1
 have e:cS xs.length (j:Int)=some j:=by
  unfold cS
  rw[if_pos (by omega),if_pos (by omega)];simp
 unfold bX;rw[e];exact h
theorem jT {α:Type}(xs:List α)(v:α):bX (xs++[v]) (-1)=some v:=by
 have hl:(xs++[v]).length=xs.length+1:=by simp
 have e:cS (xs++[v]).length (-1)=some xs.length:=by
  unfold cS
  rw[hl,if_neg (by decide),if_pos (by omega)]
  congr 1
  omega
 unfold bX
 rw[e]
 show (xs++[v])[xs.length]?=some v
 simp
def vo (b:Expr):Prop:=∀ o i,DY b false o i=operate [o,i] (Di o i)
def fH (X:Cx)(r:R2):Prop :=
 ∀ (value slice:Expr) (pins:List (Addr×Obj)) (s:CW) (σ:St) (H:Hp) (x y:V) (v u:Value) (Q:VK),ac X pins σ H s->aw x v->aw y u->r x y H Q ->
  DY slice false v u=operate [v,u] (Di v u)->wpAny (model X.prog X.w) X.A (DU value slice v u) (EP X pins σ Q) X.xe s
def kK (X:Cx)(id:String)(r:V->List V->Hp->VK->Prop):Prop :=
 ∀ (pins:List (Addr×Obj)) (s:CW) (σ:St) (H:Hp) (x:V) (xs:List V) (v:Value) (us:List Value) (Q:VK),ac X pins σ H s->aw x v->au xs us->r x xs H Q ->
  wpAny (model X.prog X.w) X.A (call (.builtin id) (v::us)) (EP X pins σ Q) X.xe s
section
variable {X:Cx}{a b:Expr}{ta tb:TE}{pos:Pos}
theorem av {r:R2}(hr:fH X r)(ha:PE X a ta)(hb:PE X b tb)(hs:vo b):PE X (.Subscript a b pos) (jk r ta tb):=by
 refine⟨?_⟩
 intro pins s σ H Q I h
 exact DT (mR ha hb I h fun v u s2 x y H2 I2 rx ry q=>hr a b pins s2 σ H2 x y v u Q I2 rx ry q (hs _ _))
inductive kQ (K:W.Frag)(x y:V)(H:Hp)(Q:VK):Prop
 | mk (p:Addr)(xs:List V)(i:Int)(v:V)(e1:x=.ref p)(e2:y=.int i)(h:aS K H p xs)(e:bX xs i=some v)(q:Q v H):kQ K x y H Q
inductive mP (K:W.Frag)(x y:V)(H:Hp)(Q:VK):Prop
 | mk (p:Addr)(xs:List V)(i:Int)(v:V)(e1:x=.ref p)(e2:y=.int i)(h:bj K H p xs)(e:bX xs i=some v)(q:Q v H):mP K x y H Q
def ye:R2:=fun x y H Q=>∃ z i c,x=.str z/\y=.int i/\z.length<=CQ/\bX z.cps.toList i=some c/\Q (.str ⟨#[c]⟩) H
theorem oP:fH X (kQ X.K):=by
 intro value slice pins s σ H x y v u Q I rx ry h hs
 obtain⟨p,xs,i,z,rfl,rfl,hq,he,q⟩:=h
 cases rx
 obtain⟨t,rfl⟩:=ry
 obtain⟨its,r,pl,hz⟩:=I.list hq
 obtain⟨j,h1,h2,h3,h4,h5⟩:=kM he
 obtain⟨w,ew,rw'⟩:=r.get h2
 have hl:=r.length
 have hn:=gA
 have fin:EP X pins σ Q w s:=⟨z,H,I,rw',q⟩
 by_cases h0:0<=i
 ·have hj:i.toNat=j:=by
   rw[DW h0 h5] at h1
   exact Option.some.inj h1
  exact item_listR pl.isList h0 (by omega) (by rw[hj];simpa using ew) fin hs
 ·have hj:(i+(its.toArray.size:Int)).toNat=j:=by
   rw[DX (by omega) h4] at h1
   rw[At,<-hl]
   exact Option.some.inj h1
  exact DZ (x:=w) pl.isList.typeIs slot_list_getitem.lookup
   (D4 (Q:=fun r s'=>r=w/\EP X pins σ Q r s') pl.isList (by omega) (by rw[At] <;> omega) (by omega) (by rw[hj];simpa using ew) ⟨rfl,fin⟩) hs
theorem kG:fH X (mP X.K):=by
 intro value slice pins s σ H x y v u Q I rx ry h hs
 obtain⟨p,xs,i,z,rfl,rfl,hq,he,q⟩:=h
 cases rx
 obtain⟨t,rfl⟩:=ry
 obtain⟨its,r,pl,hz⟩:=I.tuple hq
 obtain⟨j,h1,h2,h3,h4,h5⟩:=kM he
 obtain⟨w,ew,rw'⟩:=r.get h2
 have hl:=r.length
 have hn:=gA
 have fin:EP X pins σ Q w s:=⟨z,H,I,rw',q⟩
 exact DZ (x:=w) pl.typeIs slot_tuple_getitem.lookup
  (getItem_tuple (j:=j) (Q:=fun r s'=>r=w/\EP X pins σ Q r s') pl (by omega) (by omega) (by rw[At,<-hl];exact h1) (by simpa using ew) ⟨rfl,fin⟩) hs
theorem ze:fH X ye:=by
 intro value slice pins s σ H x y v u Q I rx ry h hs
 obtain⟨z,i,c,rfl,rfl,hz,he,q⟩:=h
 obtain⟨t,rfl⟩:=rx
 obtain⟨t',rfl⟩:=ry
 obtain⟨j,h1,h2,h3,h4,h5⟩:=kM he
 have hl:z.cps.toList.length=z.length:=by simp[Str.length]
 rw[hl] at h1 h4 h5
 have hn:=gA
 exact tail_any (typeIs_str s z t) slot_str_getitem.lookup (getItem_str (c:=c) (by
  have e1:decide (i < -(2 ^ 63:Int))=false:=decide_eq_false (by omega)
  have e2:decide (i >= 2 ^ 63)=false:=decide_eq_false (by omega)
  rw[e1,e2,Bool.or_false]) (by rw[h1];simpa using h2) ⟨.str ⟨#[c]⟩,H,I.tok _,⟨_,rfl⟩,q⟩) hs
theorem zO (its:List Value)(n j:Nat)(u:Value):Obj.mapSeq (·.setIfInBounds j u) { cls:=.type "list",data:=.seq its.toArray n }={ cls:=.type "list",data:=.seq (its.set j u).toArray n }:=by
 simp[Obj.mapSeq]
theorem ac.lst {pins:List (Addr×Obj)}{σ:St}{H:Hp}{s:CW}{p:Addr}{xs:List V}(I:ac X pins σ H s)(h:H p=some (.lst xs)) :
  ∃ (its:List Value) (n:Nat),au xs its/\s.heap.get? p=some { cls:=.type "list",data:=.seq its.toArray n }/\xs.length<=CQ:=by
 obtain⟨z,its,n,r,e⟩:=I.hok p _ h
 exact⟨its,n,r,e,z⟩
theorem ac.lstUpd {pins:List (Addr×Obj)}{σ:St}{H:Hp}{s:CW}{p:Addr}{xs ys:List V}{its its':List Value}{n n':Nat}{f:Obj->Obj}(I:ac X pins σ H s)(h:H p=some (.lst xs))
  (ho:s.heap.get? p=some { cls:=.type "list",data:=.seq its.toArray n }) (hf:f { cls:=.type "list",data:=.seq its.toArray n }={ cls:=.type "list",data:=.seq its'.toArray n' }) (r:au ys its') (hz:ys.length<=CQ) (t:Nat) :
  ac X pins σ (upd H p (.lst ys)) { s with heap:=s.heap.update p f,toks:=t }:=by
 have e:(s.heap.update p f).get? p=some { cls:=.type "list",data:=.seq its'.toArray n' }:=by
  rw[B1 f ho (by rw[hf] <;> rfl),hf]
 refine I.write (x:=p) (e:=p) (by rw[h];trivial) (.inl rfl) (fun b u hb q=>(B2 _ _ (Ne.symm hb)).trans q) ⟨_,e⟩ ?_
 exact⟨hz,its',n',r,e⟩
def wH:V->V->V->Hp->(Hp->Prop)->Prop:=fun o i v H Q=>∃ p xs k j,o=.ref p/\i=.int k/\H p=some (.lst xs)/\cS xs.length k=some j/\Q (upd H p (.lst (xs.set j v)))
theorem jd:lS X wH:=by
 intro pins s σ H o i v ov iv u Q I ro ri rv h
 obtain⟨p,xs,k,j,rfl,rfl,hp,hj,q⟩:=h
 cases ro
 obtain⟨t,rfl⟩:=ri
 obtain⟨its,n,r,ho,hz⟩:=I.lst hp
 obtain⟨h1,h2,h3,h4⟩:=pW hj
 have hl:=r.length
 have hn:=gA
 have I':ac X pins σ (upd H p (.lst (xs.set j v))) { s with heap:=s.heap.update p (Obj.mapSeq (·.setIfInBounds j u)) } :=
  I.lstUpd hp ho (zO its n j u) (r.set rv j) (by rw[List.length_set];exact hz) s.toks
 by_cases h0:0<=k
 ·have hk:k.toNat=j:=by
   rw[DW h0 h4] at h1
   exact Option.some.inj h1
  exact W.ki_setAt ho h0 (by omega) (by rw[At,<-hl];exact h4) (by rw[hk];exact⟨_,I',q⟩)
 ·have hk:(k+(its.toArray.size:Int)).toNat=j:=by
   rw[DX (by omega) h3] at h1
   rw[At,<-hl]
   exact Option.some.inj h1
  exact W.ki_setBack ho (by omega) (by rw[At,<-hl];exact h3) (by omega) (by rw[hk];exact⟨_,I',q⟩)
theorem vg (lo hi:Option Int)(n:Nat):(Ea lo hi none n).1=((HT.sIx n 0 lo:Nat):Int)/\(Ea lo hi none n).2.1=((HT.sIx n n hi:Nat):Int)/\(Ea lo hi none n).2.2=1:=by
 refine⟨?_,?_,rfl⟩
 ·cases lo with
  | none=>simp[Ea,HT.sIx]
  | some i =>
   simp only[Ea,HT.sIx,CM,show (1:Int)>0 by decide,if_true]
   by_cases h:i<0
   ·simp only[h,if_true] <;> omega
   ·simp only[h,if_false] <;> omega
 ·cases hi with
  | none=>simp[Ea,HT.sIx]
  | some i =>
   simp only[Ea,HT.sIx,CM,show (1:Int)>0 by decide,if_true]
   by_cases h:i<0
   ·simp only[h,if_true] <;> omega
   ·simp only[h,if_false] <;> omega
theorem vF (its:List Value)(lo hi:Option Int):Eb its.toArray lo hi none=((its.drop (HT.sIx its.length 0 lo)).take (HT.sIx its.length its.length hi-HT.sIx its.length 0 lo)).toArray:=by
 obtain⟨h1,h2,h3⟩:=vg lo hi its.toArray.size
 unfold Eb
 rw[h1,h2,h3]
 simp only[sliceRange_one,pick_run,At] <;> rfl
def nw (K:W.Frag):V->Option Int->Option Int->Hp->VK->Prop:=fun x lo hi H Q=>∃ a xs,x=.ref a/\aS K H a xs/\∀ p,H p=none->Q (.ref p) (upd H p (.lst (eB xs lo hi)))
theorem xn:gc X (nw X.K):=by
 intro pins s σ H x v vl vu lo hi sl Q I rx hs pl pu h
 obtain⟨a,xs,rfl,hx,q⟩:=h
 cases rx
 obtain⟨its,r,ht,hz⟩:=I.list hx
 have hlen:=r.length
 refine⟨"list",_,slot_list_getitem.lookup,ht.isList.typeIs,?_⟩
 refine Ec ht.isList hs pl pu .none (by simp) ?_ (by rw[At] <;> omega)
 rw[vF,<-hlen]
 refine⟨.ref s.heap.objs.size,_,I.laid (t':=s.toks) (o:=.lst (eB xs lo hi)) (fun b ob q=>BY _ q) (B6 _) ?_,rfl,q _ (I.hok.fresh (B6 _))⟩
 exact⟨Ca (o7 xs lo hi) hz,_,0,(r.drop (HT.sIx xs.length 0 lo)).take (HT.sIx xs.length xs.length hi-HT.sIx xs.length 0 lo),BZ _ rfl⟩
theorem j4:bB X (.builtin "len") (fun xs H Q=>∃ p ys,xs=[.ref p]/\(aS X.K H p ys\/bj X.K H p ys)/\Q (.int ys.length) H):=by
 intro pins s σ H xs us Q I r h
 obtain⟨p,ys,rfl,hq,q⟩:=h
 obtain⟨u,rfl,rx⟩:=cv r
 cases rx
 have hn:=gA
 rcases hq with hq|hq
 ·obtain⟨its,r',pl,hz⟩:=I.list hq
  have hlen:=r'.length
  exact Calls.call_len_list pl.isList (by simp only[At] <;> omega) ⟨.int ys.length,H,I.tok _,⟨s.toks+1,by rw[At,hlen]⟩,q⟩
 ·obtain⟨its,r',pl,hz⟩:=I.tuple hq
  have hlen:=r'.length
  exact len_tuple pl (by simp only[At] <;> omega) ⟨.int ys.length,H,I.tok _,⟨s.toks+1,by rw[At,hlen]⟩,q⟩
theorem y6:bB X (.type "list") (fun xs H Q=>∃ p ys,xs=[.ref p]/\(aS X.K H p ys\/bj X.K H p ys)/\∀ l,H l=none->Q (.ref l) (upd H l (.lst ys))):=by
 intro pins s σ H xs us Q I r h
 obtain⟨p,ys,rfl,hq,q⟩:=h
 obtain⟨u,rfl,rx⟩:=cv r
 cases rx
 have fin:∀ (its:List Value),au ys its->ys.length<=CQ->∀ (h':Heap) (c':Nat),(∀ b o',s.heap.get? b=some o'->h'.get? b=some o') ->
   h'.get? s.heap.objs.size=some { cls:=.type "list",dict:=none,data:=.seq its.toArray c',slots:=#[] }->EP X pins σ Q (.ref s.heap.objs.size) { s with heap:=h' }:=fun its r' hz h' c' kp e =>
  ⟨.ref s.heap.objs.size,_,I.laid (t':=s.toks) kp (B6 _) (show aY X.prog X.w _ h' _ (.lst ys) from⟨hz,its,c',r',e⟩),rfl,q _ (I.hok.fresh (B6 _))⟩
 rcases hq with hq|hq
 ·obtain⟨its,r',pl,hz⟩:=I.list hq
  have hlen:=r'.length
  obtain⟨o,ho,hc,n,hd⟩:=pl.isList
  exact call_list_seq p (.inl rfl) ho hc hd (fun h' c' kp e=>fin its r' hz h' c' kp e) (by simp only[At] <;> omega)
 ·obtain⟨its,r',pl,hz⟩:=I.tuple hq
  have hlen:=r'.length
  obtain⟨o,ho,hc,n,hd⟩:=pl
  exact call_list_seq p (.inr rfl) ho hc hd (fun h' c' kp e=>fin its r' hz h' c' kp e) (by simp only[At] <;> omega)
theorem zY:bB X (.type "tuple") (fun xs H Q=>∃ p ys,xs=[.ref p]/\((aS X.K H p ys/\∀ l,H l=none->Q (.ref l) (upd H l (.tup ys)))\/(bj X.K H p ys/\Q (.ref p) H))):=by
 intro pins s σ H xs us Q I r h
 obtain⟨p,ys,rfl,h⟩:=h
 obtain⟨u,rfl,rx⟩:=cv r
 cases rx
 rcases h with⟨hq,q⟩|⟨hq,q⟩
 ·obtain⟨its,r',pl,hz⟩:=I.list hq
  have hlen:=r'.length
  refine call_tuple_list pl.isList (fun h' kp=>?_) (by simp only[At] <;> omega)
  have I1:ac X pins σ H { s with heap:=h' }:=I.kept (t':=s.toks) kp
  have I2:ac X pins σ (upd H h'.objs.size (.tup ys)) { s with heap:=h'.push { cls:=.type "tuple",data:=.seq its.toArray } } :=
   I1.laid (t':=s.toks) (fun b o e=>BY _ e) (B6 _) (show aY X.prog X.w _ _ _ (.tup ys) from⟨hz,its,r',IsTup.new _ _⟩)
  exact⟨.ref h'.objs.size,_,I2,rfl,q _ (I1.hok.fresh (B6 _))⟩
 ·obtain⟨its,r',pl,hz⟩:=I.tuple hq
  exact call_tuple_same pl ⟨.ref p,H,I,rfl,q⟩
def mY (K:W.Frag)(T:String)(x:V)(H:Hp):Prop:=match x with
 | .str _=>T="str"
 | .int _=>T="int"
 | .ref p=>(T="list"/\∃ xs,aS K H p xs)\/(T="tuple"/\∃ o,K.lookup p=some o/\o.cls=.type "tuple"/\o.dict=none) \/
  (T="dict"/\((∃ kvs,H p=some (.dK kvs))\/∃ kvs,H p=some (.dT kvs)))\/(T="set"/\∃ S n,H p=some (.set S n))
 | _=>False
theorem rY {pins:List (Addr×Obj)}{σ:St}{H:Hp}{s:CW}{T:String}{x:V}{v:Value}(I:ac X pins σ H s)(r:aw x v)(ty:mY X.K T x H) :
  s.TypeIs v T/\∀ a,v=.ref a->∃ ob,s.heap.get? a=some ob/\ob.dict=none:=by
 cases x with
 | str z =>
  obtain⟨t,rfl⟩:=r
  cases (show T="str" from ty)
  exact⟨typeIs_str s z t,fun _ e=>nomatch e⟩
 | int i =>
  obtain⟨t,rfl⟩:=r
  cases (show T="int" from ty)
  exact⟨typeIs_int s i t,fun _ e=>nomatch e⟩
 | ref p =>
  cases r
  rcases ty with⟨rfl,xs,hq⟩|⟨rfl,o,hk,hc,hd⟩|⟨rfl,hk⟩|⟨rfl,S,n,hk⟩
  ·obtain⟨its,_,pl,_⟩:=I.list hq
   refine⟨pl.isList.typeIs,fun a e=>?_⟩
   cases e
   obtain⟨o,n,e,c,hd,_⟩:=pl
   exact⟨o,e,hd⟩
  ·refine⟨⟨o,I.kIn p o hk,hc⟩,fun a e=>?_⟩
   cases e
   exact⟨o,I.kIn _ o hk,hd⟩
  ·have z:∃ o,s.heap.get? p=some o/\o.ExactDict:=by
    rcases hk with⟨kvs,hk⟩|⟨kvs,hk⟩
    ·obtain⟨_,_,_,_,o,_,_,e,ex,_⟩:=I.hok p _ hk
     exact⟨o,e,ex⟩
    ·obtain⟨_,_,_,_,o,_,_,e,ex,_⟩:=I.hok p _ hk
     exact⟨o,e,ex⟩
   obtain⟨o,e,ex⟩:=z
   refine⟨⟨o,e,ex.1⟩,fun a e2=>?_⟩
   cases e2
   exact⟨o,e,ex.2.1⟩
  ·obtain⟨o,_,_,_,e,ex,_⟩:=I.hok p _ hk
   refine⟨⟨o,e,ex.1⟩,fun a e2=>?_⟩
   cases e2
   exact⟨o,e,ex.2.1⟩
 | _=>exact False.elim ty
def zM (K:W.Frag)(T:String)(r:V->List V->Hp->VK->Prop)(to:TE):TE:=fun σ H Q=>to σ H fun x H1=>mY K T x H1/\r x [] H1 Q
def nT (K:W.Frag)(T:String)(r:V->List V->Hp->VK->Prop)(to:TE)(t:TA):TE:=fun σ H Q=>to σ H fun x H1=>mY K T x H1/\t σ H1 fun xs H2=>r x xs H2 Q
variable {o e:Expr}{es:List Expr}{to:TE}{t:TA}{name:Str}{apos cpos:Pos}{T id:String}{r:V->List V->Hp->VK->Prop}
theorem uL (pa:PlainAttrs T)(slot:Slot T name id)(hty:typeOf (.builtin id)=pure (.type "method_descriptor"))(hm:kK X id r)(ho:PE X o to)
  (hbase:Dv o name X.env (eval o X.env)=eval o X.env:=by rfl) (hline:(apos.endLine == cpos.line)=true:=by rfl):PE X (.Call (.Attribute o name apos) [] [] cpos) (zM X.K T r to):=by
 refine⟨?_⟩
 intro pins s σ H Q I h
 refine wpAny_Call_method0_late hbase hline (ai (ho pins s σ H _ I h) fun v s1 ⟨x,H1,I1,r1,ty,q1⟩=>?_)
 obtain⟨h1,h2⟩:=rY I1 r1 ty
 exact⟨T,id,pa,slot,hty,h1,h2,Calls.callWith_builtin rfl (PySem.evalArgs_none (hm pins s1 σ H1 x [] v [] Q I1 r1 .nil q1))⟩
theorem tV (pa:PlainAttrs T)(slot:Slot T name id)(hty:typeOf (.builtin id)=pure (.type "method_descriptor"))(hm:kK X id r)(ho:PE X o to)(ha:PA X (e::es) t)
  (hbase:Dv o name X.env (eval o X.env)=eval o X.env:=by rfl)
  (hfew:((CZ cpos (C0 (e::es) X.env)).all (fun x=>!x.1) && (DH cpos (DI [] X.env)).all (fun x=>x.1.isSome)
   && decide ((e::es).length+([]:List DJ).length+(if ([]:List DJ).isEmpty then 0 else 1)<30))=true:=by rfl)
  (hline:(apos.endLine == cpos.line)=true:=by rfl) (hs:C0 (e::es) X.env=(false,eval e X.env)::C0 es X.env:=by rfl) (hplain:(CZ cpos (C0 es X.env)).any (·.1)=false:=by rfl) :
  PE X (.Call (.Attribute o name apos) (e::es) [] cpos) (nT X.K T r to t):=by
 refine⟨?_⟩
 intro pins s σ H Q I h
 refine wpAny_Call_method_late hbase hfew hline rfl (ai (ho pins s σ H _ I h) fun v s1 ⟨x,H1,I1,r1,ty,q1⟩=>?_)
 obtain⟨h1,h2⟩:=rY I1 r1 ty
 refine⟨T,id,pa,slot,hty,h1,h2,?_⟩
 have hA:=ha cpos pins s1 σ H1 _ I1 q1
 rw[hs] at hA ⊢
 refine Calls.callWith_builtin (by show (false || (CZ cpos (C0 es X.env)).any (·.1))=false;rw[hplain] <;> rfl) (Calls.evalArgs_plain ?_)
 exact ai hA fun us s2 ⟨vs,H2,I2,r2,q2⟩=>hm pins s2 σ H2 x vs v us Q I2 r1 r2 q2
end
end L2
namespace L2
open PySem PySem.Spec PyProof.Rows
def qi (X:Cx)(id:String)(r:V->List V->Hp->VK->Prop):Prop :=
 ∀ (pins:List (Addr×Obj)) (s:CW) (σ:St) (H:Hp) (x:V) (xs:List V) (v:Value) (us:List Value) (Q:VK),ac X pins σ H s->aw x v->au xs us->r x xs H Q ->
  wpAny (model X.prog X.w) X.A (call (.builtin id) (v::us)) (EP X pins σ Q) X.xe s
theorem au.one:∀ {x:V}{us:List Value},au [x] us->∃ u,us=[u]/\aw x u
 | _,_,.cons r .nil=>⟨_,rfl,r⟩
theorem au.two:∀ {x y:V}{us:List Value},au [x,y] us->∃ u v,us=[u,v]/\aw x u/\aw y v
 | _,_,_,.cons r (.cons q .nil)=>⟨_,_,rfl,r,q⟩
theorem au.zero:∀ {us:List Value},au [] us->us=[]
 | _,.nil=>rfl
theorem au.reverse {xs:List V}{us:List Value}(h:au xs us):au xs.reverse us.reverse:=by
 induction h with
 | nil=>exact .nil
 | cons r t ih=>rw[Bh,Bh];exact au.append ih (.cons r .nil)
section
variable {X:Cx}{pins:List (Addr×Obj)}{σ:St}{H:Hp}{s:CW}{l b:Addr}{xs ys zs:List V}
theorem ac.lset {its its':List Value}{n:Nat}{f:Array Value->Array Value}{t':Nat}(I:ac X pins σ H s)(hH:H l=some (.lst xs))
  (e:s.heap.get? l=some { cls:=.type "list",data:=.seq its.toArray n }) (hf:f its.toArray=its'.toArray) (hv:au ys its') (hz:ys.length<=CQ) :
  ac X pins σ (upd H l (.lst ys)) { s with heap:=s.heap.update l (Obj.mapSeq f),toks:=t' }:=by
 have q:=PySem.IsL.update e f
 rw[hf] at q
 refine I.write (x:=l) (e:=l) (by rw[hH];exact trivial) (.inl rfl) (fun b' u hb hu=>(B2 s.heap (Obj.mapSeq f) (Ne.symm hb)).trans hu) ⟨_,q⟩ ?_
 exact⟨hz,its',_,hv,q⟩
theorem ac.lnew {its:List Value}{t':Nat}(I:ac X pins σ H s)(hv:au ys its)(hz:ys.length<=CQ) :
  ac X pins σ (upd H s.heap.objs.size (.lst ys)) { s with heap:=s.heap.push { cls:=.type "list",data:=.seq its.toArray },toks:=t' } :=
 I.laid (fun _ _ q=>BY _ q) (B6 _) ⟨hz,its,0,hv,BZ _ rfl⟩
theorem ac.fresh (I:ac X pins σ H s):H s.heap.objs.size=none:=I.hok.fresh (B6 _)
theorem ac.lstM (I:ac X pins σ H s)(hH:H l=some (.lst xs)):xs.length<=CQ/\∃ (its:List Value) (n:Nat),au xs its/\xs.length=its.length/\s.heap.get? l=some { cls:=.type "list",data:=.seq its.toArray n }:=by
 obtain⟨z,its,n,r,e⟩:=I.hok l _ hH
 exact⟨z,its,n,r,r.length,e⟩
end
section
variable {X:Cx}
def xj:V->List V->Hp->VK->Prop:=fun x vs H Q=>∃ l xs y,x=.ref l/\vs=[y]/\H l=some (.lst xs)/\xs.length<CQ/\Q .non (upd H l (.lst (xs++[y])))
theorem dU:qi X "list.append" xj:=by
 intro pins s σ H x vs v us Q I rx rv h
 obtain⟨l,xs,y,rfl,rfl,hH,hz,q⟩:=h
 cases rx
 obtain⟨u,rfl,ru⟩:=rv.one
 obtain⟨z,its,n,r,hl,e⟩:=I.lstM hH
 refine call_meets F.slot_list_append ⟨_,e,rfl⟩ F.entry_list_append (F.args_list_append_2 _ _) (PySem.list_append l its.toArray n u (by rw[At];omega)) ⟨e,?_⟩
 refine⟨.non,_,I.lset (its':=its++[u]) hH e (by simp) (r.append (.cons ru .nil)) ?_,rfl,q⟩
 rw[AB,A6]
 omega
def vH:V->List V->Hp->VK->Prop:=fun x vs H Q=>∃ l xs,x=.ref l/\vs=[]/\H l=some (.lst xs)/\Q .non (upd H l (.lst []))
theorem wK:qi X "list.clear" vH:=by
 intro pins s σ H x vs v us Q I rx rv h
 obtain⟨l,xs,rfl,rfl,hH,q⟩:=h
 cases rx
 have hus:=rv.zero
 subst hus
 obtain⟨z,its,n,r,hl,e⟩:=I.lstM hH
 refine call_meets F.slot_list_clear ⟨_,e,rfl⟩ F.entry_list_clear (F.args_list_clear_1 _) (AutoSeq1.list_clear_list_0 l its.toArray n (by rw[At];omega)) ⟨e,?_⟩
 exact⟨.non,_,I.lset (its':=[]) (ys:=[]) hH e rfl .nil (B9 _),rfl,q⟩
def vy:R2:=fun x y H Q=>∃ l b xs zs,x=.ref l/\y=.ref b/\H l=some (.lst xs)/\H b=some (.lst zs)/\xs.length+zs.length<=CQ/\∀ p,H p=none->Q (.ref p) (upd H p (.lst (xs++zs)))
theorem jU:bC X (Dp .Add) vy:=by
 intro pins s σ H x y v u Q I rx ry h
 obtain⟨l,b,xs,zs,rfl,rfl,hH,hB,hz,q⟩:=h
 cases rx
 cases ry
 obtain⟨z,its,n,r,hl,e⟩:=I.lstM hH
 obtain⟨z2,its2,n2,r2,hl2,e2⟩:=I.lstM hB
 refine PySem.P.add_list e e2 ?_ (by rw[At,At];omega)
 have ea:its.toArray++its2.toArray=(its++its2).toArray:=by simp
 rw[ea]
 exact⟨.ref _,_,I.lnew (t':=s.toks) (r.append r2) (by rw[AB];omega),rfl,q _ I.fresh⟩
end
section
variable {prog:CP}{w:World}{A:Around}{E:Value->CW->Prop}{s:CW}
end
section
variable {X:Cx}
end
end L2
namespace Att
open PySem PySem.W PySem.Calls PyProof.Rows
theorem uh {P:Params}{h:Heap}:∀ (ns:List Int) (vs:List Value),WellAll P h vs (ns.map WData.int)->Ed vs ns:=by
 intro ns
 induction ns with
 | nil =>
  intro vs w
  rw[Bi] at w
  cases w
  exact .nil
 | cons n ns ih =>
  intro vs w
  rw[Av] at w
  cases w with
  | cons a b =>
   cases a
   exact .cons _ _ (ih _ b)
theorem zK {l:OpenLaw}{n:Nat}(hn:l.most=some n){P:Params}{h:Heap}{args:List WData}{aK:List Value}
  (hpre:l.row.toRowW.claim.pre args=true) (hwl:WellAll P h aK args) :
  ∃ a vs ns,aK=[Value.ref a]/\args=[WData.list (ns.map WData.int)]/\h.get? a=some { cls:=.type "list",data:=.seq vs.toArray }/\Ed vs ns/\ns.length<=n:=by
 have hsh:WShape.hasAll [] args [.list .int]=true:=(pre_splitW hpre).1
 have hc:l.pre.holds [] { args:=args }=true:=(pre_splitW hpre).2
 obtain⟨d,r,rfl,h1,h2⟩:=hasAllW_cons hsh
 obtain rfl:=hasAllW_nil h2
 obtain⟨xs,rfl,h3⟩:=hasW_list h1
 obtain⟨ns,rfl⟩:=items_int h3
 have hlen:ns.length<=n:=by
  unfold OpenLaw.pre at hc
  have h4:(WTm.not (.lt (.lit (.int (n:Int))) (.len (.arg 0)))).holds [] { args:=[.list (ns.map .int)] }=true:=by
   have h4:=(holds_andW hc).1
   rw[hn] at h4
   exact h4
  have h5:=condW_of h4 (w_not (w_lt w_lit (w_len_list (w_arg rfl))))
  rw[Ar] at h5
  refine Nat.le_of_not_lt fun q=>?_
  have q':(n:Int)<((ns.length:Nat):Int):=by omega
  first
   | (rw[decide_eq_true q'] at h5;exact absurd h5 (by decide))
   | (simp at h5;omega)
 cases hwl with
 | cons w1 w2 =>
  cases w2
  cases w1 with
  | list ho hall=>exact⟨_,_,ns,rfl,rfl,ho,uh ns _ hall,hlen⟩
theorem uE (l:OpenLaw)(args:List WData):l.row.toRowW.claim.post args (.bool true) args=true :=
 postW_of (r:=l.row.toRowW) (X:=(true == true))
  (show WShape.has [] (.bool true) .bool=true by first|rfl|decide|simp[WShape.has,WShape.arms,WShape.armsAll])
  (show (WTm.eq .res (.lit (.bool true))).value [] { args:=args,res:=some (.bool true),after:=args }=some (.bool (true == true)) from w_eq_bool (w_res rfl) w_lit) rfl
theorem attach_call {l:OpenLaw}{n:Nat}{q:CP}{loose:List Str}{XP:(Str->Option Value)->Heap->Prop}{YP:World->Heap->Prop}{d:DefRec}
  (hn:l.most=some n) (hdf:d.params.defaults=[])
  (call:∀ (w:World) (s₀ s₁:CW) (mg mb:Str->Option Value) (fa:Addr) (o:Obj) (pm cd doc:Value) (a:Addr) (vs:List Value) (ns:List Int),
   Ground q loose [] XP w s₀ mg mb s₁.heap->YP w s₁.heap ->
   s₁.heap.get? fa=some o->o.data=.func (docDef d.name d.params d.body d.scope pm cd doc)->s₁.heap.CodeRec cd d.name->mg d.name=some (.ref fa) ->
   s₁.heap.get? a=some { cls:=.type "list",data:=.seq vs.toArray }->Ed vs ns->ns.length<=n->s₁.gens=#[] ->
   Du (model l.prog w) Ee (.call (.ref fa) ⟨[.ref a],[]⟩) (fun r s'=>r=.ok (.ret (.bool true))/\OldK s₁.heap s'.heap/\s'.os=s₁.os/\CY s'.gens) s₁) :
  WalkO q loose XP YP l.row.toRowW d [] (fun f vs=>PySem.call f vs):=by
 intro w s₀ s₁ mg mb G Y fa o pm cd doc dV kV ho hd hcd hD hmg hg args aK as hpre hlay hrd hwl hlo
 obtain rfl:dV=.none:=Dflts.none hD hdf
 obtain rfl:kV=.none:=Dflts.noKw hD
 obtain⟨a,vs,ns,rfl,rfl,hobj,hints,hlen⟩:=zK hn hpre hwl
 refine enter_call (DC (call w s₀ s₁ mg mb fa o pm cd doc a vs ns G Y ho (fd_plain hd) hcd hmg hobj hints hlen hg) fun r s' hq=>?_)
 obtain⟨rfl,h2,h3,h4⟩:=hq
 exact⟨.inl ⟨.bool true,.bool true,[],rfl,fun _=>rfl,.bool true,uE l _,fun _=>⟨List.Pairwise.nil,fun _ hm=>(nomatch hm)⟩⟩,h2,h3,h4⟩
section
variable {prog:CP}{w:World}{A:Around}{E:Value->CW->Prop}{s:CW}{K:Frag}
end
end Att
namespace L2
open PySem PySem.Spec PyProof.Rows
theorem rg:∀ {vs:List Value}{ns:List Int},Ed vs ns->au (ns.map V.int) vs
 | _,_,.nil=>.nil
 | _,_,.cons n t h=>.cons ⟨t,rfl⟩ (rg h)
def lO (H:Hp):Prop:=∀ b,H b=none\/∃ o xs,H b=some (.frz o (.lst xs))
theorem zN {P:CP}{w:World}{K:W.Frag}{mg mb:Str->Option Value}{CX:dA}{k:Nat}{fa a:Addr}{fd:Dw}{x:Str}{sp:Sp}{s₁:CW}{vs:List Value}{ns:List Int}
  (KX:K.In s₁.heap) (hns:s₁.heap.Ns CU mg) (hb:s₁.heap.Ns builtinsNs mb) (hbb:∀ x:Str,x≠"__name__"->mb x=CV x) (hlim:s₁.heap.NoLimit) (hg:s₁.gens=#[])
  (ha:s₁.heap.get? a=some { cls:=.type "list",data:=.seq vs.toArray }) (hi:Ed vs ns) (hl:ns.length<=CQ) (hr:aZ k Ee)
  (F:∀ base:Heap,K.In base->base.Ns CU mg->ce P w K mg base CX k fa fd [x] sp) (hbind:∀ (s:CW) (u:Value),Dy s fd ⟨[u],[]⟩ [(x,u)])
  (hsp:∀ H:Hp,lO H->aS K H a (ns.map V.int)->sp [.ref a] H (fun v _=>v=.bl true) fun _ _ _=>False)
  (hCX:∀ H e s',CX [] H s₁ (fun _ _ _=>False) e s'->False) :
  Du (model P w) Ee (.call (.ref fa) ⟨[.ref a],[]⟩) (fun r s'=>r=.ok (.ret (.bool true))/\OldK s₁.heap s'.heap/\s'.os=s₁.os/\CY s'.gens) s₁:=by
 have rv:=rg hi
 have lenV:=hi.length
 have core:∀ H:Hp,lO H->aS K H a (ns.map V.int)->bq P w H s₁.heap->(∀ b,H b≠none->b=a)->(H a≠none->K.lookup a=none) ->
   Du (model P w) Ee (.call (.ref fa) ⟨[.ref a],[]⟩) (fun r s'=>r=.ok (.ret (.bool true))/\OldK s₁.heap s'.heap/\s'.os=s₁.os/\CY s'.gens) s₁:=by
  intro H hO hS hok hA hK
  have base_of:∀ {b:Addr}{o:Obj},s₁.heap.get? b=some o->H b=none->(eO s₁.heap H).get? b=some o:=fun e n=>xh e n
  have noA:∀ {b:Addr}{o:Obj}{es:Array DictEntry}{ep:Nat},s₁.heap.get? b=some o->o.data=.dict es ep->H b=none:=fun {b o es ep} e d=>by
   cases q:H b with
   | none=>rfl
   | some u =>
    have e':b=a:=hA b (by rw[q];simp)
    subst e'
    rw[ha] at e;cases e
    have d':Data.seq vs.toArray _=Data.dict es ep:=d
    cases d'
  have nsK:∀ {b:Addr}{m:Str->Option Value},s₁.heap.Ns b m->(eO s₁.heap H).Ns b m:=fun {b m} ⟨o,es,ep,e,d,r⟩=>⟨o,es,ep,base_of e (noA e d),d,r⟩
  have hKb:K.In (eO s₁.heap H):=fun b o e=>base_of (KX b o e) (by
   cases q:H b with
   | none=>rfl
   | some u =>
    have e':b=a:=hA b (by rw[q];simp)
    subst e'
    rw[hK (by rw[q];simp)] at e;cases e)
  have hM:Mod K mg (eO s₁.heap H):=⟨hKb,nsK hns,⟨mb,nsK hb,hbb⟩,let ⟨mc,h1,h2⟩:=hlim;⟨mc,nsK h1,h2⟩⟩
  have e0:gw P w K mg (eO s₁.heap H) Ee [] s₁ H:=⟨rfl,hM,fun b o e=>yP e,Cm (wI _ _),trivial,fun b hb=>absurd (show b∈([]:List Addr) from hb) (by simp),hok,.of_eq hg⟩
  refine DC ((F _ hKb (nsK hns)).run Ee [] s₁ H ⟨[.ref a],[]⟩ [.ref a] [.ref a] _ _ hr e0 (hbind s₁ (.ref a)) (.cons rfl .nil) (hsp H hO hS)) fun r s' h=>?_
  cases r with
  | error e=>exact(hCX H e s' h).elim
  | ok fl =>
   cases fl with
   | next=>exact False.elim h
   | brk=>exact False.elim h
   | cont=>exact False.elim h
   | ret u =>
    obtain⟨v,H',os,bare,un,hok',r',q⟩:=h
    have q':v=.bl true:=q
    subst q'
    obtain rfl:u=Value.bool true:=r'
    refine⟨rfl,OldK.of_keep fun b o e=>?_,os,bare⟩
    cases q:H b with
    | none=>exact un.keep b o e q (by intro z;exact absurd (show b∈([]:List Addr) from z) (by simp)) (by simp)
    | some u =>
     rcases hO b with z|⟨ob,xs,z⟩
     ·rw[q] at z;cases z
     ·have z2:=un.frzs b ob _ z
      obtain⟨e1,_⟩:=hok b _ z
      obtain⟨e2,_⟩:=hok' b _ z2
      rw[e] at e1;cases e1
      exact e2
 cases hk:K.lookup a with
 | some o =>
  have e:=KX a o hk
  rw[ha] at e
  cases e
  refine core (fun _=>none) (fun _=>.inl rfl) (.inr ⟨_,vs.toArray,_,hk,rfl,rfl,rfl,by rw[At,lenV];exact hl,by simpa using rv⟩) (fun b u z=>by have z':(none:Option HO)=some u:=z;cases z') (fun b z=>absurd rfl z) fun z=>absurd rfl z
 | none =>
  refine core (fun b=>if b=a then some (.frz { cls:=.type "list",data:=.seq vs.toArray } (.lst (ns.map V.int))) else none) (fun b=>?_) (.inl (.inr ⟨{ cls:=.type "list",data:=.seq vs.toArray },if_pos rfl⟩)) (fun b u z=>?_) (fun b z=>?_) fun _=>hk
  ·by_cases hb:b=a
   ·exact .inr ⟨_,_,if_pos hb⟩
   ·exact .inl (if_neg hb)
  ·by_cases hb:b=a
   ·have z':=(if_pos hb).symm.trans z
    cases z'
    subst hb
    exact⟨ha,by rw[Ar];exact hl,vs,_,rv,ha⟩
   ·have z':=(if_neg hb).symm.trans z
    cases z'
  ·by_cases hb:b=a
   ·exact hb
   ·exact absurd (if_neg hb) z
end L2
namespace L2
open PySem PySem.Spec PyProof.Rows
abbrev KOf {K:W.Frag}{h:Heap}(_:K.In h):W.Frag:=K
theorem walk_of {l:W.OpenLaw}{n k:Nat}{q:CP}{loose:List Str}{XP:(Str->Option Value)->Heap->Prop}{YP:World->Heap->Prop}{d:DefRec}{K:Params->W.Frag}{CX:World->dA}{sp:World->Sp}{x:Str}
  (hn:l.most=some n) (hn2:n<=CQ) (hdf:d.params.defaults=[]) (hr:aZ k Ee)
  (hY:∀ (w:World) (h:Heap),YP w h->(K w.params).In h)
  (F:∀ (w:World) (mg:Str->Option Value) (fa:Addr) (h:Heap),(K w.params).In h->h.Ns CU mg->mg d.name=some (.ref fa) ->
   ∃ fd:Dw,(∀ (s:CW) (u:Value),Dy s fd ⟨[u],[]⟩ [(x,u)]) /\
    ∀ base:Heap,(K w.params).In base->base.Ns CU mg->ce l.prog w (K w.params) mg base (CX w) k fa fd [x] (sp w))
  (hsp:∀ (w:World) (H:Hp) (a:Addr) (ns:List Int),ns.length<=n->lO H->aS (K w.params) H a (ns.map V.int)->sp w [.ref a] H (fun v _=>v=.bl true) fun _ _ _=>False)
  (hCX:∀ (w:World) (H:Hp) (s:CW) (e:Value) (s':CW),CX w [] H s (fun _ _ _=>False) e s'->False) :
  W.WalkO q loose XP YP l.row.toRowW d [] (fun f vs=>PySem.call f vs):=by
 refine Att.attach_call hn hdf fun w s₀ s₁ mg mb fa o pm cd doc a vs ns G Y ho hd hcd hmg hobj hints hlen hg=>?_
 have KX:=hY w _ Y
 obtain⟨fd,hb,hF⟩:=F w mg fa _ KX G.T.g hmg
 exact zN KX G.T.g G.T.b G.T.builtins G.T.nolimit hg hobj hints (Ca hlen hn2) hr hF hb (fun H hO hS=>hsp w H a ns hlen hO hS) fun H e s'=>hCX w H s₁ e s'
end L2
namespace L2
open PySem PySem.Spec PyProof.Rows
def fE (s:Stmt)(j:Nat):Stmt:=match s with
 | .ClassDef _ _ _ body _ _ _ _ _ _ _=>body.getD j (.Pass ⟨0,0,0,0⟩)
 | _=>.Pass ⟨0,0,0,0⟩
def aH (s:Stmt):Arguments:=match s with
 | .FunctionDef _ a _ _ _ _ _ _ _ _=>a
 | _=>{ posonlyargs:=[],args:=[],vararg:=none,kwonlyargs:=[],kw_defaults:=[],kwarg:=none,defaults:=[] }
def aE (s:Stmt):List Stmt:=match s with
 | .FunctionDef _ _ b _ _ _ _ _ _ _=>b
 | _=>[]
def ak (s:Stmt):Scope:=match s with
 | .FunctionDef _ _ _ _ _ _ sc _ _ _=>sc
 | _=>{ kind:=.function,names:=[],isGenerator:=false,isCoroutine:=false }
abbrev cD:dA:=fun _ _ _ _ _ _=>False
abbrev E0:XK:=fun _ _ _=>False
theorem iq {X:Cx}:fG cD X E0:=fun _ _ _ _ _ _ _ h=>h.elim
structure bI (K:W.Frag)(x qual:Str)(st:Stmt)(f:Addr)(fd:Dw):Prop where
 ex:∃ (oc:Value) (od:Option Addr) (kV doc pm:Value) (an:Option Addr) (cdv ct:Value) (osl:Array (Option Value)),
  fd=W.fnOf x qual (aH st) (aE st) (ak st) .none kV doc pm an cdv ct/\K.lookup f=some ⟨oc,od,.func fd,osl⟩/\W.codeIn K cdv qual=true
 kp:W.keepIn K (.ref f)=true
section
variable {P:CP}{w:World}{K:W.Frag}{mg:Str->Option Value}{base:Heap}
theorem bI.ok {x qual:Str}{st:Stmt}{f:Addr}{fd:Dw}{N ps:List Str}{k:Nat}{sp:Sp}(F:bI K x qual st f fd)(S:aI N ps (ak st))(len:∀ vs H Q E,sp vs H Q E->vs.length=ps.length)
  (hbody:∀ (cdv:Value) (A:Around) (outer:List Env) (s:CW) (H:Hp) (vs:List V) (Q:VK) (E:XK),aZ k (A.deeper (DM qual (ak st) s.heap.objs.size f cdv))->sp vs H Q E ->
   ∃ t,bW (fF cD P w K mg base N qual (ak st) f cdv A outer s H E).nox (aE st) t/\t { nx:=fun _ H'=>Q .non H',rt:=Q } (eh N vs) H):ce P w K mg base cD (k+1) f fd ps sp:=by
 obtain⟨oc,od,kV,doc,pm,an,cdv,ct,osl,rfl,lk,hcd⟩:=F.ex
 refine zp lk hcd S len fun A outer s H vs Q E hr hsp=>?_
 obtain⟨t,h,q⟩:=hbody cdv A outer s H vs Q E hr hsp
 exact⟨t,h.nox,q⟩
theorem bI.binds {x qual:Str}{st:Stmt}{f:Addr}{fd:Dw}{ps:List Str}(F:bI K x qual st f fd)
  (h:∀ (kV doc pm:Value) (an:Option Addr) (cdv ct:Value) (us:List Value),us.length=ps.length->Dz (W.fnOf x qual (aH st) (aE st) (ak st) .none kV doc pm an cdv ct) ⟨us,[]⟩=pure (ps.zip us)):bJ K fd ps []:=by
 obtain⟨oc,od,kV,doc,pm,an,cdv,ct,osl,rfl,lk,hcd⟩:=F.ex
 exact .all (h kV doc pm an cdv ct)
theorem ao {x qual:Str}{st:Stmt}{f:Addr}{oc:Value}{od an:Option Addr}{osl:Array (Option Value)}{kV doc pm cdv ct:Value}(l:K.lookup f=some ⟨oc,od,.func (W.fnOf x qual (aH st) (aE st) (ak st) .none kV doc pm an cdv ct),osl⟩)
 (c:W.codeIn K cdv qual=true) (k:W.keepIn K (.ref f)=true):bI K x qual st f (W.fnOf x qual (aH st) (aE st) (ak st) .none kV doc pm an cdv ct):=⟨⟨oc,od,kV,doc,pm,an,cdv,ct,osl,rfl,l,c⟩,k⟩
end
theorem cR {n:Nat}(h:n<=1000):n<CQ:=Cj h (by decide)
section
variable {X:Cx}
theorem pv (i:Nat){x:Str}{pos:Pos}(hN:X.N[i]?=some x:=by rfl)(hv:gr X.env.scope x:=by first|exact Or.inl rfl|exact Or.inr (Or.inl rfl)|exact Or.inr (Or.inr rfl))(hd:(x == ("__debug__" : Str))=false:=by decide)
 (hcd:(x == ("__classdict__" : Str))=false:=by decide):PE X (.Name x pos) (iN i):=yQ hN hv hd hcd
end
theorem cm {A B:Prop}(h:B):if false=true then A else B:=by
 rw[if_neg Bool.false_ne_true]
 exact h
theorem bV {A B:Prop}(h:A):if true=true then A else B:=by
 rw[if_pos rfl]
 exact h
theorem cE {c A B:Prop}[Decidable c](h1:c->A)(h2:¬ c->B):if c then A else B:=by
 by_cases h:c
 ·rw[if_pos h]
  exact h1 h
 ·rw[if_neg h]
  exact h2 h
def aa (H H':Hp):Prop:=∀ b o,H b=some o->H' b=some o
theorem aa.refl (H:Hp):aa H H:=fun _ _ h=>h
theorem aa.trans {H H1 H2:Hp}(a:aa H H1)(b:aa H1 H2):aa H H2:=fun c o h=>b c o (a c o h)
theorem aa.free {H H':Hp}(e:aa H H'){l:Addr}(h:H' l=CN):H l=CN:=by
 cases q:H l with
 | none=>rfl
 | some o =>
  rw[e l o q] at h
  cases h
theorem aa.seq {K:W.Frag}{H H':Hp}{a:Addr}{xs:List V}(e:aa H H')(h:aS K H a xs):aS K H' a xs:=by
 rcases h with (h|⟨o,h⟩)|h
 ·exact .inl (.inl (e _ _ h))
 ·exact .inl (.inr ⟨o,e _ _ h⟩)
 ·exact .inr h
end L2
namespace L2
open PySem PySem.Spec PyProof.Rows
theorem sR {x y:Int}(h:y.natAbs<2 ^ 300):Builtin.divisionGoesByPylong x y=false:=by
 refine PyProof.noPylong_of_log2 ?_
 by_cases h0:y.natAbs=0
 ·rw[h0];decide +kernel
 ·have h30:y.natAbs.log2<300:=(Nat.log2_lt h0).mpr h
  omega
def rK (_i j:Int):Prop:=0<j/\j<2 ^ 300
section
variable {X:Cx}{a b:Expr}{ta tb:TE}{pos:Pos}
theorem tu:bC X (Dp .FloorDiv) (rI rK fun i j=>.int (i / j)):=kJ fun i j _ _ _ _ _ hc q=>by
 obtain⟨h1,h2⟩:=hc
 refine floordiv_int (by omega) ?_ (.inl (sR (by omega)))
 rw[CF i (by omega)]
 exact q
inductive sy (xs:List V)(H:Hp)(Q:VK):Prop
 | mk (i j:Int)(e:xs=[.int i,.int j])(c:rK i j)(q:∀ p,H p=none->Q (.ref p) (upd H p (.tup [.int (i / j),.int (i % j)]))):sy xs H Q
theorem sK:bB X (.builtin "divmod") sy:=by
 intro pins s σ H xs us Q I r h
 obtain⟨i,j,rfl,⟨h1,h2⟩,q⟩:=h
 obtain⟨u,w',rfl,⟨t,rfl⟩,⟨t',rfl⟩⟩:=gO r
 refine divmod_int (by omega) ?_ (.inl (sR (by omega)))
 rw[CF i (by omega),CC i (by omega)]
 have hn:H s.heap.objs.size=none:=I.hok.fresh (B6 _)
 refine⟨.ref s.heap.objs.size,_,?_,rfl,q _ hn⟩
 refine I.laid (fun b o e=>BY _ e) (B6 _) ⟨by simp only[Ay,Bj];rw[Dq];decide,[.int (i / j) s.toks,.int (i % j) (s.toks+1)],.cons ⟨_,rfl⟩ (.cons ⟨_,rfl⟩ .nil),?_⟩
 exact⟨_,BZ s.heap rfl,rfl,0,rfl⟩
theorem xv (ns:List Int):∀ k,preSum (fun i=>ns.getD i 0) k=(ns.take k).sum:=by
 intro k
 induction k with
 | zero=>rfl
 | succ k ih =>
  show preSum (fun i=>ns.getD i 0) k+ns.getD k 0=_
  rw[ih,Aw,BG]
  cases e:ns[k]? with
  | none=>simp[Az,e]
  | some v=>simp[Az,e]
theorem nu {ns:List Int}{its:List Value}(rv:au (ns.map V.int) its){i:Nat}{v:Value}(e:its[i]?=some v):∃ t,v=.int (ns.getD i 0) t:=by
 have hl:=rv.length
 rw[Ar] at hl
 have hi:i<its.length:=(List.getElem?_eq_some_iff.mp e).1
 have hn:ns[i]?=some (ns[i]'(by omega)):=As (by omega)
 obtain⟨u,hu,ru⟩:=rv.get (i:=i) (x:=V.int (ns[i]'(by omega))) (by rw[AE,hn];rfl)
 rw[e] at hu
 cases hu
 obtain⟨t,rfl⟩:=ru
 exact⟨t,by rw[Az,hn];rfl⟩
theorem qA (hc:X.calm=true):bB X (.builtin "sum") (fun xs H Q=>∃ (p:Addr) (ns:List Int),xs=[.ref p]/\(aS X.K H p (ns.map V.int)\/bj X.K H p (ns.map V.int))/\Q (.int ns.sum) H):=by
 intro pins s σ H xs us Q I r h
 obtain⟨p,ns,rfl,hq,q⟩:=h
 obtain⟨u,rfl,rx⟩:=cv r
 cases rx
 have hh:X.A.in1.handled=none:=I.ok.hd hc
 have fin:∀ (its:List Value) (h':Heap) (o:Obj) (tk:Nat) (t':Tok),au (ns.map V.int) its->(∀ b ob,b∉[s.heap.objs.size]->(s.heap.push o).get? b=some ob->h'.get? b=some ob)->EP X pins σ Q (.int (preSum (fun i=>ns.getD i 0) its.toArray.size) t') { s with heap:=h',toks:=tk }:=fun its h' o tk t' rv k=>by
  have hl:=rv.length
  rw[Ar] at hl
  have e:preSum (fun i=>ns.getD i 0) its.toArray.size=ns.sum:=by
   rw[xv,At,<-hl,AI]
  rw[e]
  exact⟨.int ns.sum,H,I.kept fun b ob e=>k b ob (by simp;exact B7 (BX e)) (BY _ e),⟨_,rfl⟩,q⟩
 rcases hq with hq|hq
 ·obtain⟨its,rv,pl,hz⟩:=I.list hq
  have hp:p<s.heap.objs.size:=by obtain⟨o,e,_⟩:=pl.isList;exact BX e
  refine call_sum_walkG (Dl pl.isList ?_)
  refine⟨s.heap.objs.size,[s.heap.objs.size,p],[s.heap.objs.size],_,_,_,fun i=>ns.getD i 0,rfl,Walks.list hh _ p (B7 hp) its.toArray,⟨⟨_,BZ _ rfl,rfl,rfl⟩,pl.isList.at fun o e=>BY _ e⟩,?_,?_,?_⟩
  ·intro b hb
   show b<(s.heap.push _).objs.size
   rw[B0]
   rcases List.mem_cons.mp hb with e|hb
   ·rw[e];exact Ci _
   ·have e:b=p:=by simpa using hb
    rw[e];exact Cf hp
  ·intro i v e
   exact nu rv (by simpa using e)
  ·intro h' tk t' k
   exact fin its h' _ tk t' rv k
 ·obtain⟨its,rv,pl,hz⟩:=I.tuple hq
  have pl':s.heap.IsTuple p its.toArray:=pl
  have hp:p<s.heap.objs.size:=by obtain⟨o,e,_⟩:=pl;exact BX e
  refine call_sum_walkG (Dm pl' ?_)
  refine⟨s.heap.objs.size,[s.heap.objs.size,p],[s.heap.objs.size],_,_,_,fun i=>ns.getD i 0,rfl,Walks.tuple hh _ p (B7 hp) its.toArray,⟨⟨_,BZ _ rfl,rfl,rfl⟩,pl'.push _⟩,?_,?_,?_⟩
  ·intro b hb
   show b<(s.heap.push _).objs.size
   rw[B0]
   rcases List.mem_cons.mp hb with e|hb
   ·rw[e];exact Ci _
   ·have e:b=p:=by simpa using hb
    rw[e];exact Cf hp
  ·intro i v e
   exact nu rv (by simpa using e)
  ·intro h' tk t' k
   exact fin its h' _ tk t' rv k
theorem zI {bs:List Bool}{its:List Value}(rv:au (bs.map V.bl) its){i:Nat}{v:Value}(e:its[i]?=some v):v=.bool (bs.getD i true):=by
 have hl:=rv.length
 rw[Ar] at hl
 have hi:i<its.length:=(List.getElem?_eq_some_iff.mp e).1
 have hn:bs[i]?=some (bs[i]'(by omega)):=As (by omega)
 obtain⟨u,hu,ru⟩:=rv.get (i:=i) (x:=V.bl (bs[i]'(by omega))) (by rw[AE,hn];rfl)
 rw[e] at hu
 cases hu
 rw[Az,hn]
 exact ru
theorem yT (bs:List Bool):((AG bs.length).all fun i=>bs.getD i true)=bs.all id:=by
 rw[Bool.eq_iff_iff,AY,AY]
 constructor
 ·intro h b hb
  obtain⟨i,hi,e⟩:=AX hb
  have:=h i (List.mem_range.mpr hi)
  rw[Az,As hi,e] at this
  exact this
 ·intro h i hi
  have hi':=List.mem_range.mp hi
  rw[Az,As hi']
  exact h _ (AZ hi')
theorem mW (hc:X.calm=true):bB X (.builtin "all") (fun xs H Q=>∃ (p:Addr) (bs:List Bool),xs=[.ref p]/\aS X.K H p (bs.map V.bl)/\Q (.bl (bs.all id)) H):=by
 intro pins s σ H xs us Q I r h
 obtain⟨p,bs,rfl,hq,q⟩:=h
 obtain⟨u,rfl,rx⟩:=cv r
 cases rx
 have hh:X.A.in1.handled=none:=I.ok.hd hc
 obtain⟨its,rv,pl,hz⟩:=I.list hq
 have hp:p<s.heap.objs.size:=by obtain⟨o,e,_⟩:=pl.isList;exact BX e
 have hl:=rv.length
 rw[Ar] at hl
 refine call_all_walk (Dl pl.isList ?_)
 refine⟨s.heap.objs.size,[s.heap.objs.size,p],[s.heap.objs.size],_,_,_,fun i=>bs.getD i true,rfl,Walks.list hh _ p (B7 hp) its.toArray,⟨⟨_,BZ _ rfl,rfl,rfl⟩,pl.isList.at fun o e=>BY _ e⟩,?_,?_⟩
 ·intro i v s' Q' E' e q'
  have e':its[i]?=some v:=by simpa using e
  rw[zI rv e']
  exact Ds q'
 ·intro h' tk k
  have e:((AG its.toArray.size).all fun i=>bs.getD i true)=bs.all id:=by rw[At,<-hl];exact yT bs
  rw[e]
  exact⟨.bl (bs.all id),H,I.kept fun b ob e=>k b ob (by simp;exact B7 (BX e)) (BY _ e),rfl,q⟩
inductive fI (H:Hp):V->Value->Prop
 | bl (y:Bool):fI H (.bl y) (.type "bool")
 | int (i:Int):fI H (.int i) (.type "int")
 | lst {a:Addr}{xs:List V} (ea:H a=some (.lst xs)):fI H (.ref a) (.type "list")
 | tup {a:Addr}{xs:List V} (ea:H a=some (.tup xs)):fI H (.ref a) (.type "tuple")
theorem mj {pins:List (Addr×Obj)}{σ:St}{H:Hp}{s:CW}{x:V}{u t:Value}(I:ac X pins σ H s)(rx:aw x u)(ty:fI H x t):∃ Hx:Heap->Prop,W.KitX X.K u t Hx/\Hx s.heap/\u≠.builtin "__main__.__loader__#opaque":=by
 cases ty with
 | bl y=>cases (show u=Value.bool y from rx);exact⟨_,W.kitx_bool,True.intro,fun z=>nomatch z⟩
 | int i=>obtain⟨t,q⟩:=(show ∃ t,u=Value.int i t from rx);cases q;exact⟨_,W.kitx_int,True.intro,fun z=>nomatch z⟩
 | @lst a xs ea =>
  cases (show u=Value.ref a from rx)
  obtain⟨_,_,n,_,h1⟩:=(show aY X.prog X.w H s.heap a (.lst xs) from I.hok a _ ea)
  exact⟨_,W.kitx_list,⟨_,h1,rfl⟩,fun z=>nomatch z⟩
 | @tup a xs ea =>
  cases (show u=Value.ref a from rx)
  obtain⟨_,_,_,p⟩:=(show aY X.prog X.w H s.heap a (.tup xs) from I.hok a _ ea)
  obtain⟨o,h1,h2,_⟩:=p
  exact⟨_,W.kitx_tuple,⟨o,h1,h2⟩,fun z=>nomatch z⟩
theorem rP:bB X (.builtin "isinstance") (fun xs H Q=>∃ x t T b,xs=[x,.ty T]/\fI H x t/\W.kitOne X.K t (.type T)=some b/\Q (.bl b) H):=by
 intro pins s σ H xs us Q I r h
 obtain⟨x,t,T,b,rfl,ty,e,q⟩:=h
 obtain⟨u,w',rfl,rx,rt⟩:=gO r
 cases rt
 obtain⟨Hx,Z,p,hx⟩:=mj I rx ty
 exact W.kia_one Z I.kIn p e hx fun tk=>⟨.bl b,H,I.tok tk,rfl,q⟩
theorem yG:bB X (.builtin "isinstance") (fun xs H Q=>∃ x t p T U b,xs=[x,.ref p]/\bj X.K H p [.ty T,.ty U]/\fI H x t/\W.kitAny X.K t [.type T,.type U]=some b/\Q (.bl b) H):=by
 intro pins s σ H xs us Q I r h
 obtain⟨x,t,tp,T,U,b,rfl,hq,ty,e,q⟩:=h
 obtain⟨u,w',rfl,rx,rt⟩:=gO r
 cases rt
 obtain⟨Hx,Z,p,hx⟩:=mj I rx ty
 obtain⟨its,rv,pl,hz⟩:=I.tuple hq
 obtain⟨u1,u2,rfl,r1,r2⟩:=rv.two
 cases r1
 cases r2
 obtain⟨o,ho,hc,n,hd⟩:=pl
 obtain⟨oc,odd,odt,osl⟩:=o
 dsimp only at hc hd
 subst hc hd
 exact W.kia_tup Z I.kIn p ho e hx fun tk=>⟨.bl b,H,I.tok tk,rfl,q⟩
theorem ji {x:Str}{T:String}(hg:Gl X x)(hm:X.mg x=none)(hv:CV x=some (.type T))(hn:x≠"__name__":=by decide)(hd:(x == ("__debug__" : Str))=false:=by decide):PE X (.Name x pos) (tC (.ty T)):=wS hg hm hv rfl hn hd
theorem wf:nX X (kQ X.K):=by
 intro pins s σ H x y v u Q I rx ry h
 obtain⟨p,xs,i,z,rfl,rfl,hq,he,q⟩:=h
 cases rx
 obtain⟨t,rfl⟩:=ry
 obtain⟨its,r,pl,hz⟩:=I.list hq
 obtain⟨j,h1,h2,h3,h4,h5⟩:=kM he
 obtain⟨w,ew,rw'⟩:=r.get h2
 have hl:=r.length
 have hn:=gA
 have fin:EP X pins σ Q w s:=⟨z,H,I,rw',q⟩
 by_cases h0:0<=i
 ·have hj:i.toNat=j:=by
   rw[DW h0 h5] at h1
   exact Option.some.inj h1
  exact wpAny_getItem_list pl.isList h0 (by omega) (by rw[hj];simpa using ew) fin
 ·have hj:(i+(its.toArray.size:Int)).toNat=j:=by
   rw[DX (by omega) h4] at h1
   rw[At,<-hl]
   exact Option.some.inj h1
  exact D4 pl.isList (by omega) (by rw[At] <;> omega) (by omega) (by rw[hj];simpa using ew) fin
end
example (K:W.Frag):W.kitOne K (.type "bool") (.type "int")=some true:=by rfl
example (K:W.Frag):W.kitOne K (.type "int") (.type "bool")=some false:=by rfl
example (K:W.Frag):W.kitAny K (.type "tuple") [.type "list",.type "tuple"]=some true:=by rfl
example (K:W.Frag):W.kitAny K (.type "str") [.type "list",.type "tuple"]=some false:=by rfl
end L2
namespace L2
open PySem PySem.Spec PyProof.Rows
namespace RF
end RF
section
variable {prog:CP}{w:World}{A:Around}{E:Value->CW->Prop}{s:CW}
end
section
variable {X:Cx}{tg:Expr}
end
end L2
namespace L2
open PySem PySem.Spec PyProof.Rows
def du (cells:List (Str×Addr))(cs:List (Str×Addr))(p:Str×NameKind):List (Str×Addr) :=
 if (p.2 == NameKind.free)=true then (match cells.lookup p.1 with|some a=>(p.1,a)::cs|none=>cs) else cs
def b7 (sc:Scope)(cells:List (Str×Addr)):List (Str×Addr):=sc.names.foldl (du cells) []
theorem jm {sc:Scope}{env:Env}(h:∀ p∈sc.names,p.2=.free->∃ a,env.cells.lookup p.1=some a):closureFor sc env=pure (b7 sc env.cells):=by
 have key:∀ (l:List (Str×NameKind)) (cs:List (Str×Addr)),(∀ p∈l,p.2=.free->∃ a,env.cells.lookup p.1=some a) ->
   (forIn l cs fun (x:Str×NameKind) (r:List (Str×Addr))=>match x with
    | (name,kind)=>if (kind == NameKind.free)=true then (do let a <-cellOf env name;pure (ForInStep.yield ((name,a)::r))) else (pure (ForInStep.yield r):Sem (ForInStep (List (Str×Addr)))))=(pure (l.foldl (du env.cells) cs):Sem (List (Str×Addr))):=by
  intro l
  induction l with
  | nil=>intro cs _;rfl
  | cons p r ih =>
   intro cs hp
   obtain⟨n,k⟩:=p
   rw[List.forIn_cons,AQ]
   by_cases hk:(k == NameKind.free)=true
   ·obtain⟨a,ea⟩:=hp (n,k) AF (by simpa using hk)
    have e1:du env.cells cs (n,k)=(n,a)::cs:=by unfold du;rw[if_pos hk];dsimp only;dsimp only at ea;rw[ea]
    rw[e1]
    dsimp only at ea ⊢
    rw[if_pos hk]
    unfold cellOf
    rw[ea]
    simp only[pure_bind]
    exact ih _ fun q hq=>hp q (AD _ hq)
   ·have e1:du env.cells cs (n,k)=cs:=by unfold du;rw[if_neg hk]
    rw[e1]
    dsimp only
    rw[if_neg hk]
    simp only[pure_bind]
    exact ih _ fun q hq=>hp q (AD _ hq)
 unfold closureFor b7
 rw[<-key sc.names [] h]
 simp only[bind_pure]
theorem bS (sc:Scope)(cells:List (Str×Addr)){y:Str}{c:Addr}:(b7 sc cells).lookup y=some c->cells.lookup y=some c:=by
 have key:∀ (l:List (Str×NameKind)) (cs:List (Str×Addr)),(∀ y c,cs.lookup y=some c->cells.lookup y=some c)->∀ y c,(l.foldl (du cells) cs).lookup y=some c->cells.lookup y=some c:=by
  intro l
  induction l with
  | nil=>intro cs h;exact h
  | cons p r ih =>
   intro cs h
   rw[AQ]
   refine ih _ ?_
   intro y c e
   unfold du at e
   split at e
   ·split at e
    ·rename_i a ea
     rw[AM] at e
     cases q:y == p.1 with
     | true =>
      rw[q] at e
      cases e
      rw[eq_of_beq q];exact ea
     | false=>rw[q] at e;exact h y c e
    ·exact h y c e
   ·exact h y c e
 exact key sc.names [] (fun _ _ h=>by cases h) y c
theorem jC (sc:Scope)(cells:List (Str×Addr))(h:∀ p∈sc.names,p.2=.free->∃ a,cells.lookup p.1=some a){y:Str}(hy:(y,NameKind.free)∈sc.names):∃ c,(b7 sc cells).lookup y=some c:=by
 have mono:∀ (l:List (Str×NameKind)) (cs:List (Str×Addr)),(∃ c,cs.lookup y=some c)->∃ c,(l.foldl (du cells) cs).lookup y=some c:=by
  intro l
  induction l with
  | nil=>intro cs h;exact h
  | cons p r ih =>
   intro cs hc
   rw[AQ]
   refine ih _ ?_
   unfold du
   split
   ·split
    ·rw[AM]
     cases q:y == p.1 with
     | true=>exact⟨_,rfl⟩
     | false=>exact hc
    ·exact hc
   ·exact hc
 have key:∀ (l:List (Str×NameKind)) (cs:List (Str×Addr)),(∀ p∈l,p.2=.free->∃ a,cells.lookup p.1=some a)->(y,NameKind.free)∈l->∃ c,(l.foldl (du cells) cs).lookup y=some c:=by
  intro l
  induction l with
  | nil=>intro cs _ hm;cases hm
  | cons p r ih =>
   intro cs hp hm
   rw[AQ]
   rcases List.mem_cons.mp hm with e|hm
   ·subst e
    obtain⟨a,ea⟩:=hp (y,.free) AF rfl
    refine mono r _ ⟨a,?_⟩
    unfold du
    rw[if_pos (show (NameKind.free == NameKind.free)=true by decide)]
    dsimp only at ea ⊢
    rw[ea,AM,beq_self_eq_true]
   ·exact ih _ (fun q hq=>hp q (AD _ hq)) hm
 exact key sc.names [] h hy
def cy (X:Cx)(x:Str)(scope:Scope)(C:Addr)(fp:List Addr)(s:CW)(H:Hp):Cx where
 prog:=X.prog
 w:=X.w
 K:=X.K
 mg:=X.mg
 base:=X.base
 A:=X.A
 N:=x::X.N
 s₀:=s
 H₀:=H
 env:=Ef scope (b7 scope X.env.cells) C X.env
 outer:=X.stack
 stack:=X.stack
 ex:=fp
 fn:=fun _=>false
 calm:=X.calm
 pn:=[]
 xe:=fun _ _=>False
structure fN (X:Cx)(x:Str)(sc:Scope):Prop where
 kind:sc.kind=.function
 nocell:∀ p∈sc.names,p.2≠.cell
 loc:sc.names.lookup x=some .local
 names:∀ p∈sc.names,p.2=.local->sc.names.lookup p.1=some .local
 apart:∀ y∈X.N,sc.names.lookup y≠some .local
 nd:X.N.Nodup
 free:∀ p∈sc.names,p.2=.free->X.env.kindOf p.1=some .cell\/X.env.kindOf p.1=some .free
section
variable {X:Cx}{pins:List (Addr×Obj)}{σ:St}{H:Hp}{s:CW}{x:Str}{sc:Scope}{C:Addr}{fp:List Addr}
theorem cO {env:Env}:∀ {names:List (Str×NameKind)}{y:Str}{k:NameKind},(names.map fun (n,k)=>if (k == NameKind.free && env.scope.kind == .function && env.kindOf n == some .cell) then (n,NameKind.cell) else (n,k)).lookup y=some k ->
  ∃ k',names.lookup y=some k'/\(k=k'\/(k'=.free/\k=.cell))
 | [],_,_,h=>by simp at h
 | (n,k0)::r,y,k,h=>by
  have ih:=@cO env r y k
  have h:AV y ((if (k0 == NameKind.free && env.scope.kind == .function && env.kindOf n == some .cell)=true then (n,NameKind.cell) else (n,k0))::(r.map _))=some k:=h
  cases hx:y == n with
  | true =>
   refine⟨k0,by rw[AM,hx],?_⟩
   by_cases hc:(k0 == NameKind.free && env.scope.kind == .function && env.kindOf n == some .cell)=true
   ·rw[if_pos hc,AM,hx] at h
    cases h
    simp only[Bool.and_eq_true,beq_iff_eq] at hc
    exact .inr ⟨hc.1.1,rfl⟩
   ·rw[if_neg hc,AM,hx] at h
    cases h
    exact .inl rfl
  | false =>
   by_cases hc:(k0 == NameKind.free && env.scope.kind == .function && env.kindOf n == some .cell)=true
   ·rw[if_pos hc,AM,hx] at h
    rw[AM,hx];exact ih h
   ·rw[if_neg hc,AM,hx] at h
    rw[AM,hx];exact ih h
theorem fN.cells (S:fN X x sc)(ok:X.Ok):∀ p∈sc.names,p.2=.free->∃ a,X.env.cells.lookup p.1=some a:=fun p hp e=>ok.has p.1 (S.free p hp e)
theorem ac.okLC (I:ac X pins σ H s)(S:fN X x sc)(hC:s.heap.objs.size<=C)(hf:∀ b∈fp,a0 X pins H b)(hlt:∀ b∈fp,b<s.heap.objs.size):(cy X x sc C fp s H).Ok where
 mod:=I.ok.mod
 kind:=S.kind
 glob:=I.ok.glob
 blt:=I.ok.blt
 above:=hC
 inj:=fun y z c e1 e2=>I.ok.inj y z c (bS sc X.env.cells e1) (bS sc X.env.cells e2)
 has:=fun y hy=>by
  have hy':(Eg sc X.env).names.lookup y=some .cell\/(Eg sc X.env).names.lookup y=some .free:=hy
  have fr:sc.names.lookup y=some .free:=by
   rcases hy' with h|h
   ·obtain⟨k',e,q⟩:=cO h
    rcases q with q|⟨q,_⟩
    ·subst q;exact absurd rfl (S.nocell _ (PySem.mem_of_lookup e))
    ·rw[e,q]
   ·obtain⟨k',e,q⟩:=cO h
    rcases q with q|⟨_,q⟩
    ·rw[e,<-q]
    ·cases q
  exact jC sc X.env.cells (S.cells I.ok) (PySem.mem_of_lookup fr)
 cab:=fun y c e=>by cases (show false=true from e)
 hd:=I.ok.hd
 frames:=I.ok.frames
 stk:=.inl rfl
 exf:=fun b hb=>⟨B7 (B8 (hlt b hb) hC),fun y c e=>(hf b hb).2.2.2.2.1 y c (bS sc X.env.cells e)⟩
 bs:=I.bs
 bsz:=Ca I.ok.bsz I.sz
 noex:=fun b o e hb=>by
  rcases (hf b hb).2.2.2.1 with q|q
  ·exact I.ok.noex b o e q
  ·exact absurd (B8 (BX e) (Ca I.ok.bsz q)) (Ce _)
 exfs:=fun b hb z=>by
  rcases List.mem_cons.mp (I.stkSub b z) with q|q
  ·exact(hf b hb).2.1 q
  ·exact(hf b hb).2.2.1 q
 funs:=I.stack
 frf:=I.stkFree
theorem ac.startLC {D:Addr}{h1:Heap}{m:Str->Option Value}{tk:Nat}(I:ac X pins σ H s)(S:fN X x sc)(hf:∀ b∈fp,a0 X pins H b)(hlt:∀ b∈fp,b<s.heap.objs.size)
  (hD:D=s.heap.objs.size) (hC:s.heap.objs.size<=C) (hDC:C≠D) (hk:∀ b o,s.heap.get? b=some o->h1.get? b=some o) (hn:h1.Ns C m) (hl:h1.get? D=some { cls:=.type "list",data:=.seq ([]:List Value).toArray 0 }) :
  ac (cy X x sc C fp s H) [] (none::σ) (upd H D (.lst [])) { s with heap:=h1,toks:=tk }:=by
 have hDle:s.heap.objs.size<=D:=by rw[hD];exact B6 _
 have cells:∀ y c,(b7 sc X.env.cells).lookup y=some c->c<s.heap.objs.size:=fun y c e=>by
  obtain⟨v,q⟩:=I.cell y c (bS sc X.env.cells e)
  exact q.lt
 refine⟨I.okLC S hC hf hlt,rfl,I.bare,Un.laid hk hDle (I.hok.fresh hDle),⟨m,hn,fun i y v e1 e2 e3=>?_⟩,fun y c e=>?_,?_,fun y c e=>?_,fun p hp=>absurd (show p∈([]:List (Addr×Obj)) from hp) (by simp),I.hok.laid hk hDle ⟨B9 _,[],0,.nil,hl⟩,?_⟩
 ·cases i with
  | zero=>cases (show some (none:Option V)=some (some v) from e2)
  | succ j =>
   have e1':X.N[j]?=some y:=e1
   have e2':σ[j]?=some (some v):=e2
   have e3':gr (Eg sc X.env) y:=e3
   have ny:sc.names.lookup y≠some .local:=S.apart y (AK e1')
   have fr:sc.names.lookup y=some .free/\((Eg sc X.env).names.lookup y=some .cell\/(Eg sc X.env).names.lookup y=some .free):=by
    rcases e3' with h|h|h
    ·obtain⟨k',e,q⟩:=cO h
     rcases q with q|⟨_,q⟩
     ·subst q;exact absurd e ny
     ·cases q
    ·obtain⟨k',e,q⟩:=cO h
     rcases q with q|⟨q,_⟩
     ·subst q;exact absurd rfl (S.nocell _ (PySem.mem_of_lookup e))
     ·exact⟨by rw[e,q],.inl h⟩
    ·obtain⟨k',e,q⟩:=cO h
     rcases q with q|⟨_,q⟩
     ·exact⟨by rw[e,<-q],.inr h⟩
     ·cases q
   have ok:=S.free (y,.free) (PySem.mem_of_lookup fr.1) rfl
   obtain⟨m0,hn0,hl0⟩:=I.loc
   obtain⟨u,r,l⟩:=hl0 j y v e1' e2' (.inr ok)
   refine⟨u,r,.inr ⟨fr.2,?_⟩⟩
   rcases l with⟨k,_⟩|⟨_,c,ec,z⟩
   ·rcases ok with q|q <;> (rw[show X.env.kindOf y=some .local from k] at q;cases q)
   ·obtain⟨c',ec'⟩:=jC sc X.env.cells (S.cells I.ok) (PySem.mem_of_lookup fr.1)
    have:=bS sc X.env.cells ec'
    rw[ec] at this
    cases this
    obtain⟨o,ho,hd⟩:=z
    exact⟨c,ec',o,hk _ _ ho,hd⟩
 ·obtain⟨v,o,ho,hd⟩:=I.cell y c (bS sc X.env.cells e)
  exact⟨v,o,hk _ _ ho,hd⟩
 ·show upd H D (.lst []) C=none
  rw[upd_ne hDC]
  exact I.hok.fresh hC
 ·show upd H D (.lst []) c=none
  rw[upd_ne (B7 (B8 (cells y c e) hDle))]
  exact I.freeC y c (bS sc X.env.cells e)
 ·show (none::σ).length=(x::X.N).length
  rw[Ay,Ay,I.len]
theorem ac.butC {h':Heap}(I:ac X pins σ H s)(hs:Heap.SameBut C s.heap h')(hC:X.s₀.heap.objs.size<=C)(hn:H C=none)(hL:C≠X.env.locals)(hc:∀ y c,X.env.cells.lookup y=some c->c≠C)(hp:∀ p∈X.pn++pins,p.1≠C) :
 ac X pins σ H { s with heap:=h' }:=I.turned (t':=s.toks) (fun b o hb e=>(hs.2 b hb).trans e) hn hL (.inr hC) hc hp
theorem ac.endLC {s2:CW}{H2:Hp}{st:St}{pl:List (Addr×Obj)}(I:ac X pins σ H s)(J:ac (cy X x sc C fp s H) pl st H2 s2)(hf:∀ b∈fp,a0 X pins H b):ac X pins σ H2 s2 :=
 I.call' (ch:=fp) J.os J.base J.hok J.bare fun b hb=>⟨(hf b hb).2.2.2.1,(hf b hb).2.1,(hf b hb).2.2.2.2.1,(hf b hb).2.2.2.2.2⟩
end
def dH (X:Cx)(ifs:List Expr)(t:TT):Prop :=
 ∀ (pins:List (Addr×Obj)) (s:CW) (σ:St) (H:Hp) (Q:Bool->Hp->Prop),ac X pins σ H s->t σ H Q ->
  wpAny (model X.prog X.w) X.A (forIn ifs true fun c r=>if r=true then do let ok <-isTrue c X.env (eval c X.env);pure (ForInStep.yield ok) else pure (ForInStep.yield r)) (TP X pins σ Q) X.xe s
def jY:TT:=fun _ H Q=>Q true H
theorem bZ {X:Cx}:dH X [] jY:=fun _ _ _ H _ I h=>wpAny_tests_nil ⟨H,I,h⟩
theorem iy {X:Cx}{c:Expr}{t:TT}(h:PT X c t):dH X [c] t:=fun pins s σ H Q I q=>wpAny_tests_one (h pins s σ H Q I q)
theorem qp {prog:CP}{w:World}{A:Around}{R:Dt->CW->Prop}{s:CW}{elt target iter:Expr}{ifs:List Expr}{scope:Scope}{pos:Pos}{it acc:Value}{env:Env}(I:Nat->CW->Prop)
  (turn:∀ n s,I n s->wpAny (model prog w) A (Eh it) (fun r s1=>match r with
   | none=>R (.ok .next) s1
   | some v=>wpAny (model prog w) A (Ei target it v) (fun _ s1=>wpAny (model prog w) A (Db target env v) (fun _ s2 =>
    wpAny (model prog w) A (forIn ifs true fun c r=>if r=true then do let ok <-isTrue c env (eval c env);pure (ForInStep.yield ok) else pure (ForInStep.yield r)) (fun ok s3 =>
     if ok=true then wpAny (model prog w) A (eval elt env) (fun x s4 =>
      wpAny (model prog w) A (call (.builtin "list.append") [acc,x]) (fun _ s5=>∃ m,m<n/\I m s5) (fun _ _=>False) s4) (fun _ _=>False) s3
     else ∃ m,m<n/\I m s3) (fun _ _=>False) s2) (fun _ _=>False) s1) (fun _ _=>False) s1) (fun _ _=>False) s)
  (n:Nat) (h:I n s) :
  Du (model prog w) A (.compLoop (.ListComp elt [⟨target,iter,ifs,0⟩] scope pos) 0 it acc env) R s:=by
 refine Ej rfl I (fun n s hI=>?_) n h
 show wpAny _ A ((Ek (.ListComp elt [⟨target,iter,ifs,0⟩] scope pos) 0 it acc env).onRaise (fun x=>do El x env;Em x)) _ _ s
 refine Eo ?_
 rw[compTurn_list]
 refine Df (Dh (Df (C1 (turn n s hI) (fun r s1 h1=>?_) fun _ _ h'=>h'.elim)))
 cases r with
 | none=>exact Ds h1
 | some v =>
  refine Df (C1 h1 (fun _ s1 h1=>?_) fun _ _ h'=>h'.elim)
  refine Df (C1 h1 (fun _ s2 h2=>Df (C1 h2 (fun ok s3 h3=>?_) fun _ _ h'=>h'.elim)) fun _ _ h'=>h'.elim)
  cases ok with
  | false=>exact Ds ⟨rfl,h3⟩
  | true =>
   exact Df (Df (C1 h3 (fun x s4 h4=>Df (C1 h4 (fun _ s5 h5=>Ds (Ds ⟨rfl,h5⟩)) fun _ _ h'=>h'.elim)) fun _ _ h'=>h'.elim))
def fy (tc:TT) (te:TE) (σ:St) (J:It) (D:Addr) (Fin:Hp→Prop) (H:Hp):Prop :=
  ∃ W:Nat→Nat→List V→Hp→Prop,(∃ m,W 0 m [] (upd H D (.lst [])))∧∀ i m ys H,W i m ys H→H D=some (.lst ys) ∧
    ((J.stop i H∧Fin H)∨(J.go i H∧∀ x H',J.yld i H x H'→tc (some x::σ) H' fun b H2=>if b=true then te (some x::σ) H2 fun y H3=>H3 D=some (.lst ys)∧ys.length < sizeLine∧∃ m',m' < m∧W (i + 1) m' (ys++[y]) (upd H3 D (.lst (ys++[y])))
      else ∃ m',m' < m∧W (i + 1) m' ys H2))
def oK (wi:TI)(tc:TT)(te:TE):TE:=fun σ H Q=>wi σ H fun J H1=>∀ D,H1 D=none->fy tc te σ J D (fun H2=>Q (.ref D) H2) H1
section
variable {X:Cx}{x:Str}{sc:Scope}{elt iter:Expr}{ifs:List Expr}{px pos:Pos}{wi:TI}{tc:TT}{te:TE}
theorem pj {pins:List (Addr×Obj)}{σ:St}{H:Hp}{s:CW}{it:Addr}{fp:List Addr}{tn:Nat->Heap->Prop}{J:It}{Fin:Addr->Hp->Prop}{RR:Value->Addr->Dt->CW->Prop}{E:Value->CW->Prop}
  (hc:X.calm=true) (S:fN X x sc) (I:ac X pins σ H s) (T:eQ X.prog X.w X.K (.Name x px) J fp it tn) (st:tn 0 s.heap) (hf:∀ b∈fp,a0 X pins H b)
  (ht:∀ C s0 H0,dH (cy X x sc C fp s0 H0) ifs tc) (he:∀ C s0 H0,PE (cy X x sc C fp s0 H0) elt te) (q:∀ D,H D=none->fy tc te σ J D (Fin D) H)
  (hR:∀ D C H2 s2 m,s.heap.objs.size<=C->ac X pins σ H2 s2->H2 C=none->s2.heap.Ns C m->Fin D H2->RR (.ref D) C (.ok .next) s2) :
  wpAny (model X.prog X.w) X.A (newList []) (fun acc s3=>wpAny (model X.prog X.w) X.A (Ep sc X.env.globals (b7 sc X.env.cells) [] X.env.qual none .none (some X.env)) (fun cenv s4 =>
   Du (model X.prog X.w) X.A (.compStart (.ListComp elt [⟨.Name x px,iter,ifs,0⟩] sc pos) 0 (.ref it) acc { cenv with scope:=Eg sc X.env }) (RR acc cenv.locals) s4) E s3) E s:=by
 have hlt:∀ b∈fp,b<s.heap.objs.size:=fun b hb=>by
  obtain⟨o,e,_⟩:=T.obj 0 _ st b hb
  exact BX e
 refine DR (Er S.nocell (by intro y hy;simp at hy) (fun h1 hns1 hsb1=>?_) S.kind)
 dsimp only at hns1 hsb1 ⊢
 generalize hH2:s.heap.push { cls:=.type "list",dict:=none,data:=.seq ([]:List Value).toArray }=G at hns1 hsb1 ⊢
 have hC:G.objs.size=s.heap.objs.size+1:=by rw[<-hH2,B0]
 have hCle:s.heap.objs.size<=G.objs.size:=by rw[hC];exact Cd _
 have hDC:G.objs.size≠s.heap.objs.size:=by rw[hC];exact Ck _
 have old:∀ b o,s.heap.get? b=some o->h1.get? b=some o:=fun b o e=>hsb1.extBut b o (B7 (B8 (BX e) hCle)) (BY _ (hH2▸BY _ e))
 have hacc:h1.get? s.heap.objs.size=some { cls:=.type "list",data:=.seq ([]:List Value).toArray 0 }:=hsb1.extBut _ _ (Ne.symm hDC) (BY _ (hH2▸BZ _ rfl))
 have hDn:H s.heap.objs.size=none:=I.hok.fresh (B6 _)
 obtain⟨W,⟨m0,w0⟩,turn⟩:=q s.heap.objs.size hDn
 have st1:tn 0 h1:=T.keep _ _ _ st fun b _ o e=>old b o e
 have I1:=fun tk=>I.startLC (tk:=tk) S hf hlt rfl hCle hDC old hns1 hacc
 have fr1:∀ b∈fp,upd H s.heap.objs.size (.lst []) b=none:=fun b hb=>by rw[upd_ne (B7 (hlt b hb))];exact(hf b hb).1
 have loop:∀ s3:CW,s3={ s with heap:=h1,toks:=s.toks+([]:List (Str×Value)).length } ->
   Du (model X.prog X.w) X.A (.compLoop (.ListComp elt [⟨.Name x px,iter,ifs,0⟩] sc pos) 0 (.ref it) (.ref s.heap.objs.size) (Ef sc (b7 sc X.env.cells) G.objs.size X.env))
    (RR (.ref s.heap.objs.size) G.objs.size) s3:=by
  rintro s3 rfl
  have fpk:∀ {H':Hp},(∀ b∈fp,H' b=none)->∀ b∈fp,a0 (cy X x sc G.objs.size fp s H) [] H' b:=fun hn b hb =>
   ⟨hn b hb,B7 (B8 (hlt b hb) hCle),(I.okLC (C:=G.objs.size) S hCle hf hlt).exfs b hb,.inl hb,fun y c e=>(hf b hb).2.2.2.2.1 y c (bS sc X.env.cells e),fun p hp=>absurd (show p∈([]:List (Addr×Obj)) from hp) (by simp)⟩
  refine qp (fun n s'=>∃ i w ys H',ac (cy X x sc G.objs.size fp s H) [] (w::σ) H' s'/\tn i s'.heap/\(∀ b∈fp,H' b=none)/\W i n ys H') ?_ m0 ⟨0,none,[],_,I1 _,st1,fr1,w0⟩
  rintro n s3 ⟨i,v0,ys,H3,I3,st3,fr3,w3⟩
  obtain⟨hD3,turn3⟩:=turn i n ys H3 w3
  rcases turn3 with⟨stop,fin⟩|⟨go,step⟩
  ·refine ai (T.done (cy X x sc G.objs.size fp s H) rfl rfl rfl hc i [] s3 _ H3 _ I3 (fpk fr3) st3 stop) fun r s4 ⟨hr,I4⟩=>?_
   subst hr
   obtain⟨m4,hn4,_⟩:=I4.loc
   exact hR _ _ H3 s4 m4 hCle (I.endLC I4 hf) I4.free hn4 fin
  ·refine ai (T.item (cy X x sc G.objs.size fp s H) rfl rfl rfl hc i [] s3 _ H3 _ I3 (fpk fr3) st3 go) fun r s4 ⟨u,hr,h4⟩=>?_
   subst hr
   refine ai h4 fun _ s5 ⟨y,H5,I5,r5,y5,st5,fr5⟩=>?_
   have I5':=I5.pinned (fpk fr5) (T.obj _ _ st5)
   have hN:(x::X.N).Nodup:=List.nodup_cons.mpr ⟨fun hm=>S.apart x hm S.loc,S.nd⟩
   have pg:PG (cy X x sc G.objs.size fp s H) (.Name x px) (cY 0):=br hN rfl (.inl (Es S.loc)) (.inr (Es S.loc))
   refine ai (pg _ s5 _ H5 y u (fun σ6 H6=>σ6=some y::σ/\H6=H5) I5' r5 ⟨rfl,rfl⟩) fun _ s6 ⟨σ6,H6,I6,e6,e6'⟩=>?_
   subst e6;subst e6'
   refine ai (ht G.objs.size s H _ s6 _ H6 _ I6 (step y H6 y5)) fun ok s7 ⟨H7,I7,q7⟩=>?_
   have again:∀ {H8:Hp}{s8:CW}{zs:List V},ac (cy X x sc G.objs.size fp s H) ([]++cX fp s5.heap) (some y::σ) H8 s8->(∃ m',m'<n/\W (i+1) m' zs H8)->∃ m,m<n/\∃ i w ys H',ac (cy X x sc G.objs.size fp s H) [] (w::σ) H' s8/\tn i s8.heap/\(∀ b∈fp,H' b=none)/\W i m ys H':=fun {H8 s8 zs} I8 ⟨m',hm,w8⟩=>by
    refine⟨m',hm,i+1,some y,zs,H8,I8.unpinned,T.keep _ _ _ st5 fun b hb o e=>(I8.pin (b,o) (Au _ (Au _ (dh hb e)))).1,fun b hb=>?_,w8⟩
    obtain⟨o,e,d⟩:=T.obj _ _ st5 b hb
    exact(I8.pin (b,o) (Au _ (Au _ (dh hb e)))).2.1
   cases ok with
   | false =>
    rw[if_neg Bool.false_ne_true] at q7 ⊢
    exact again I7 q7
   | true =>
    rw[if_pos rfl] at q7 ⊢
    refine ai (he G.objs.size s H _ s7 _ H7 _ I7 q7) fun z s8 ⟨zv,H8,I8,r8,hD8,hz8,w8⟩=>?_
    refine ai (dU _ s8 _ H8 (.ref s.heap.objs.size) [zv] (.ref s.heap.objs.size) [z] (fun _ H9=>∃ m',m'<n/\W (i+1) m' (ys++[zv]) H9) I8 rfl (.cons r8 .nil) ⟨_,ys,zv,rfl,rfl,hD8,hz8,w8⟩) fun _ s9 ⟨_,H9,I9,_,w9⟩=>?_
    exact again I9 w9
 exact Et (loop _ rfl) (T.self X.A 0 _ _ _ st1 (loop _ rfl))
theorem cx (hc:X.calm=true)(S:fN X x sc)(hi:PI X (.Name x px) iter wi)(ht:∀ C fp s0 H0,dH (cy X x sc C fp s0 H0) ifs tc)(he:∀ C fp s0 H0,PE (cy X x sc C fp s0 H0) elt te)
  (hs:∀ v,Do iter X.env v=pure v:=by intro _;rfl):PE X (.ListComp elt [⟨.Name x px,iter,ifs,0⟩] sc pos) (oK wi tc te):=by
 refine⟨?_⟩
 intro pins s σ H Q I h
 rw[eval_ListComp]
 refine Eu (use:=none) rfl hs (jm (S.cells I.ok)) S.kind S.names (ai (hi pins s σ H _ I h) fun v s1 h1=>ai h1 fun itv s2 h2=>?_)
 obtain⟨it,fp,tn,J,H2,e,I2,T,st2,f2,q2⟩:=h2
 subst e
 refine pj (RR:=fun acc C=>Ev (model X.prog X.w) X.A X.xe none (EP X pins σ Q) acc C) (Fin:=fun D H3=>Q (.ref D) H3) hc S I2 T st2 f2 (fun C s0 H0=>ht C fp s0 H0) (fun C s0 H0=>he C fp s0 H0) q2 ?_
 intro D C H3 s3 m hC I3 hn hN q3
 refine⟨m,hN,fun h' hs'=>⟨.ref D,H3,I3.butC hs' (Ca I2.sz hC) hn (Cc (B8 I2.lt hC)) (fun y c e=>?_) (fun p hp=>?_),rfl,q3⟩⟩
 ·obtain⟨v,z⟩:=I2.cell y c e
  exact B7 (B8 z.lt hC)
 ·exact B7 (B8 (BX (I2.pin p hp).1) hC)
theorem iZ {i:Nat}{y:Str}{py spos:Pos}(hc:X.calm=true)(hi':X.N[i]?=some y)(hy:X.env.scope.names.lookup y=some .local)(S:fN X x sc)(hi:PI X (.Name x px) iter wi)(ht:∀ C fp s0 H0,dH (cy X x sc C fp s0 H0) ifs tc)(he:∀ C fp s0 H0,PE (cy X x sc C fp s0 H0) elt te)
  (hsw:Da (.ListComp elt [⟨.Name x px,iter,ifs,0⟩] sc pos) (some (.Name y py)) spos.line X.env=pure true:=by rfl) (hs:∀ v,Do iter X.env v=pure v:=by intro _;rfl) :
  PS X (.Assign [.Name y py] (.ListComp elt [⟨.Name x px,iter,ifs,0⟩] sc pos) spos) (j9 (oK wi tc te) (cY i)):=by
 refine⟨?_⟩
 intro pins s σ H Dn I h
 rw[Ew _ _ _ _ hsw]
 refine Df (Dh (Df ?_))
 show wpAny _ X.A (do let _ <-Ex (.ListComp elt [⟨.Name x px,iter,ifs,0⟩] sc pos) sc X.env _ (newList []) false (eval iter X.env) (some (Db (.Name y py) X.env))) _ _ s
 refine Df (C1 (Eu (use:=some (Db (.Name y py) X.env)) (Q:=fun _ s'=>SP X pins Dn .next s') rfl hs (jm (S.cells I.ok)) S.kind S.names
  (ai (hi pins s σ H _ I h) fun v s1 h1=>ai h1 fun itv s2 h2=>?_)) (fun _ s' hq=>Ds (Ds hq)) fun _ _ e=>e)
 obtain⟨it,fp,tn,J,H2,e,I2,T,st2,f2,q2⟩:=h2
 subst e
 refine pj (RR:=fun acc C=>Ev (model X.prog X.w) X.A X.xe (some (Db (.Name y py) X.env)) (fun _ s'=>SP X pins Dn .next s') acc C) (Fin:=fun D H3=>cY i (.ref D) σ H3 Dn.nx) hc S I2 T st2 f2 (fun C s0 H0=>ht C fp s0 H0) (fun C s0 H0=>he C fp s0 H0) q2 ?_
 intro D C H3 s3 m hC I3 hn hN q3
 show wpAny _ _ (Db (.Name y py) X.env (.ref D)) _ _ s3
 have cne:∀ y c,X.env.cells.lookup y=some c->c≠C:=fun y c e=>by
  obtain⟨v,z⟩:=I2.cell y c e
  exact B7 (B8 z.lt hC)
 refine De (mi I3 S.nd hi' (.inl hy) (show aw (.ref D) (.ref D) from rfl) (fun s4 I4 ⟨a,hs4,ha⟩=>?_) (.inr hy))
 have haC:C≠a:=by
  rcases ha with e|e
  ·rw[e];exact Cc (B8 I2.lt hC)
  ·exact Ne.symm (cne y a e)
 refine⟨m,hN.sameBut hs4 haC,fun h' hs'=>⟨_,H3,I4.butC hs' (Ca I2.sz hC) hn (Cc (B8 I2.lt hC)) cne (fun p hp=>?_),q3⟩⟩
 exact B7 (B8 (BX (I2.pin p hp).1) hC)
end
end L2
namespace L2
open PySem PySem.Spec PyProof.Rows
structure Fn (K:W.Frag)(mg:Str->Option Value)(x:Str)(st:Stmt)(ps:List Str)(f:Addr)(fd:Dw):Prop where
 fn:bI K x x st f fd
 m:mg x=some (.ref f)
 b:bJ K fd ps []
structure Fm (K:W.Frag)(C:Addr)(x qual:Str)(st:Stmt)(ps:List Str)(f:Addr)(fd:Dw):Prop where
 fn:bI K x qual st f fd
 m:jB K C x f
 b:bJ K fd ps []
def aP (P:CP)(w:World)(K:W.Frag)(mg:Str->Option Value)(base:Heap)(k:Nat)(x:Str)(ps:List Str)(sp:Sp):Prop :=
 ∃ f fd,ce P w K mg base cD k f fd ps sp/\mg x=some (.ref f)/\W.keepIn K (.ref f)=true/\bJ K fd ps []
def iz (P:CP)(w:World)(K:W.Frag)(mg:Str->Option Value)(base:Heap)(C:Addr)(k:Nat)(x:Str)(ps:List Str)(sp:Sp):Prop :=
 ∃ f fd,ce P w K mg base cD k f fd ps sp/\jB K C x f/\bJ K fd ps []
section
variable {P:CP}{w:World}{K:W.Frag}{mg:Str->Option Value}{base:Heap}
theorem aU {x:Str}{st:Stmt}{N ps:List Str}{k:Nat}{sp:Sp}(h:∃ f fd,Fn K mg x st ps f fd)(S:aI N ps (ak st))(len:∀ vs H Q E,sp vs H Q E->vs.length=ps.length)
  (hbody:∀ (f:Addr) (cdv:Value) (A:Around) (outer:List Env) (s:CW) (H:Hp) (vs:List V) (Q:VK) (E:XK),aZ k (A.deeper (DM x (ak st) s.heap.objs.size f cdv))->sp vs H Q E ->
   ∃ t,bW (fF cD P w K mg base N x (ak st) f cdv A outer s H E).nox (aE st) t/\t { nx:=fun _ H'=>Q .non H',rt:=Q } (eh N vs) H):aP P w K mg base (k+1) x ps sp:=by
 obtain⟨f,fd,F⟩:=h
 exact⟨f,fd,F.fn.ok S len fun cdv A outer s H vs Q E hr h=>hbody f cdv A outer s H vs Q E hr h,F.m,F.fn.kp,F.b⟩
theorem mZ {C:Addr}{x qual:Str}{st:Stmt}{N ps:List Str}{k:Nat}{sp:Sp}(h:∃ f fd,Fm K C x qual st ps f fd)(S:aI N ps (ak st))(len:∀ vs H Q E,sp vs H Q E->vs.length=ps.length)
  (hbody:∀ (f:Addr) (cdv:Value) (A:Around) (outer:List Env) (s:CW) (H:Hp) (vs:List V) (Q:VK) (E:XK),aZ k (A.deeper (DM qual (ak st) s.heap.objs.size f cdv))->sp vs H Q E ->
   ∃ t,bW (fF cD P w K mg base N qual (ak st) f cdv A outer s H E).nox (aE st) t/\t { nx:=fun _ H'=>Q .non H',rt:=Q } (eh N vs) H):iz P w K mg base C (k+1) x ps sp:=by
 obtain⟨f,fd,F⟩:=h
 exact⟨f,fd,F.fn.ok S len fun cdv A outer s H vs Q E hr h=>hbody f cdv A outer s H vs Q E hr h,F.m,F.b⟩
end
section
variable {X:Cx}{k k':Nat}{x m:Str}{ps:List Str}{sp:Sp}{p pos apos:Pos}{e o:Expr}{es:List Expr}{ta:TE}{t:TA}{C:Addr}
theorem aq (h:aP X.prog X.w X.K X.mg X.base k x ps sp)(hr:aZ k' X.A)(ha:PA X (e::es) t)(hg:Gl X x:=by rfl)(hk:k<=k':=by decide)(hdb:(x == ("__debug__" : Str))=false:=by decide)
  (hs:C0 (e::es) X.env=(false,eval e X.env)::C0 es X.env:=by rfl) (hpl:(CZ pos (C0 es X.env)).any (·.1)=false:=by rfl):PE X (.Call (.Name x p) (e::es) [] pos) (ku sp [] E0 t):=by
 obtain⟨f,fd,F,hm,kp,b⟩:=h
 exact wZ F (hr.mono hk) hg hm kp b .nil iq ha hdb hs hpl
theorem lB {pl:Sem Bool}(ho:PE X o ta)(c:de X.K C)(h:iz X.prog X.w X.K X.mg X.base C k m ps sp)(hr:aZ k' X.A)(ha:PA X (e::es) t)(hk:k<=k':=by decide)
  (hst:C0 (e::es) X.env=(false,eval e X.env)::C0 es X.env:=by rfl) (hpl:(CZ pos (C0 es X.env)).any (·.1)=false:=by rfl)
  (ht:eval (.Call (.Attribute o m apos) (e::es) [] pos) X.env=(do
   let ov <-eval o X.env
   C6 apos.atName
   let (f,first) <-C7 [ov] (Dr ov m pl)
   callWith pos f first (CZ pos (C0 (e::es) X.env)) (DH pos (DI [] X.env))):=by rfl):PE X (.Call (.Attribute o m apos) (e::es) [] pos) (kE C m sp [] E0 ta t):=by
 obtain⟨f,fd,F,hm,b⟩:=h
 exact zg (pl:=pl) ho c hm F (hr.mono hk) b .nil iq ha hst hpl ht
theorem lF {pl:Sem Bool}(ho:PE X o ta)(c:de X.K C)(h:iz X.prog X.w X.K X.mg X.base C k m ps sp)(hr:aZ k' X.A)(hk:k<=k':=by decide)
  (ht:eval (.Call (.Attribute o m apos) [] [] pos) X.env=(do
   let ov <-eval o X.env
   C6 apos.atName
   let (f,first) <-C7 [ov] (Dr ov m pl)
   callWith pos f first (CZ pos (C0 [] X.env)) (DH pos (DI [] X.env))):=by rfl):PE X (.Call (.Attribute o m apos) [] [] pos) (kE C m sp [] E0 ta eN):=by
 obtain⟨f,fd,F,hm,b⟩:=h
 exact xT (pl:=pl) ho c hm F (hr.mono hk) b .nil iq ht
theorem dZ {n:Int}(h:∃ t,X.mg x=some (.int n t))(hg:Gl X x:=by rfl)(hd:(x == ("__debug__" : Str))=false:=by decide):PE X (.Name x pos) (tC (.int n)):=by
 obtain⟨t,h⟩:=h
 exact nU hg h ⟨t,rfl⟩ hd
theorem aQ {id:String}{r:List V->Hp->VK->Prop}(hc:bB X (.builtin id) r)(hm:X.mg x=none)(hv:CV x=some (.builtin id))(ha:PA X (e::es) t)(hg:Gl X x:=by rfl)(hn:x≠"__name__":=by decide)(hdb:(x == ("__debug__" : Str))=false:=by decide)
 (he:C0 (e::es) X.env=(false,eval e X.env)::C0 es X.env:=by rfl) (hpl:(CZ pos (C0 es X.env)).any (·.1)=false:=by rfl):PE X (.Call (.Name x p) (e::es) [] pos) (jH r t):=uD hc hg hm hv ha hn hdb he hpl
theorem ed {T:String}{r:List V->Hp->VK->Prop}(hc:bB X (.type T) r)(hm:X.mg x=none)(hv:CV x=some (.type T))(ha:PA X (e::es) t)(hg:Gl X x:=by rfl)(hn:x≠"__name__":=by decide)(hdb:(x == ("__debug__" : Str))=false:=by decide)
 (he:C0 (e::es) X.env=(false,eval e X.env)::C0 es X.env:=by rfl) (hpl:(CZ pos (C0 es X.env)).any (·.1)=false:=by rfl):PE X (.Call (.Name x p) (e::es) [] pos) (jH r t):=z6 hc hg hm hv ha hn hdb he hpl
theorem ap {a:Expr}{ta:TE}(ha:PE X a ta)(hs:C0 [a] X.env=(false,eval a X.env)::C0 [] X.env:=by rfl):PA X [a] (fB ta eN):=aO ha b9 hs
theorem az {a b:Expr}{ta tb:TE}(ha:PE X a ta)(hb:PE X b tb)(hs:C0 [a,b] X.env=(false,eval a X.env)::C0 [b] X.env:=by rfl)(hs2:C0 [b] X.env=(false,eval b X.env)::C0 [] X.env:=by rfl):PA X [a,b] (fB ta (fB tb eN)):=aO ha (aO hb b9 hs2) hs
theorem aW {a b c:Expr}{ta tb tc:TE}(ha:PE X a ta)(hb:PE X b tb)(hc:PE X c tc)(hs:C0 [a,b,c] X.env=(false,eval a X.env)::C0 [b,c] X.env:=by rfl)(hs1:C0 [b,c] X.env=(false,eval b X.env)::C0 [c] X.env:=by rfl)(hs2:C0 [c] X.env=(false,eval c X.env)::C0 [] X.env:=by rfl):PA X [a,b,c] (fB ta (fB tb (fB tc eN))):=aO ha (aO hb (aO hc b9 hs2) hs1) hs
end
def But (p:Addr)(H H':Hp):Prop:=∀ b o,H b=some o->b≠p->H' b=some o
theorem But.trans {p:Addr}{H H1 H2:Hp}(a:But p H H1)(b:But p H1 H2):But p H H2:=fun c o h n=>b c o (a c o h n) n
theorem aa.but {p:Addr}{H H':Hp}(a:aa H H'):But p H H':=fun b o h _=>a b o h
theorem aa.upd {H:Hp}{p:Addr}{o:HO}(h:H p=none):aa H (upd H p o):=fun b u e=>by rw[upd_ne (aR e h)];exact e
theorem aa.sqT {K:W.Frag}{H H':Hp}{a:Addr}{xs:List V}(e:aa H H')(h:bj K H a xs):bj K H' a xs:=by
 rcases h with (h|⟨o,h⟩)|h
 ·exact .inl (.inl (e _ _ h))
 ·exact .inl (.inr ⟨o,e _ _ h⟩)
 ·exact .inr h
end L2
namespace L2
open PySem PySem.Spec PyProof.Rows
theorem tQ:∀ {us:List Value},us.length=1->∃ a,us=[a]
 | [a],_=>⟨a,rfl⟩
theorem qu {us:List Value}(h:us.length=2):∃ a b,us=[a,b]:=by
 cases us with
 | nil=>cases h
 | cons a r=>obtain⟨b,rfl⟩:=tQ (Nat.succ.inj h);exact⟨a,b,rfl⟩
theorem qJ {us:List Value}(h:us.length=3):∃ a b c,us=[a,b,c]:=by
 cases us with
 | nil=>cases h
 | cons a r=>obtain⟨b,c,rfl⟩:=qu (Nat.succ.inj h);exact⟨a,b,c,rfl⟩
theorem og {us:List Value}(h:us.length=4):∃ a b c d,us=[a,b,c,d]:=by
 cases us with
 | nil=>cases h
 | cons a r=>obtain⟨b,c,d,rfl⟩:=qJ (Nat.succ.inj h);exact⟨a,b,c,d,rfl⟩
theorem yX {us:List Value}(h:us.length=5):∃ a b c d e,us=[a,b,c,d,e]:=by
 cases us with
 | nil=>cases h
 | cons a r=>obtain⟨b,c,d,e,rfl⟩:=og (Nat.succ.inj h);exact⟨a,b,c,d,e,rfl⟩
section
variable {K:W.Frag}{x qual p q r s t u:Str}{st:Stmt}{g:Addr}{fd:Dw}
abbrev i5 (x qual:Str)(st:Stmt)(kV doc pm:Value)(an:Option Addr)(cdv ct:Value):Dw:=W.fnOf x qual (aH st) (aE st) (ak st) .none kV doc pm an cdv ct
theorem bI.b0 (F:bI K x qual st g fd)(h:∀ kV doc pm an cdv ct,Dz (i5 x qual st kV doc pm an cdv ct) ⟨[],[]⟩=pure []):bJ K fd [] []:=F.binds fun kV doc pm an cdv ct us hl=>by
 obtain rfl:us=[]:=A7 hl
 exact h kV doc pm an cdv ct
theorem bI.b1 (F:bI K x qual st g fd)(h:∀ kV doc pm an cdv ct a,Dz (i5 x qual st kV doc pm an cdv ct) ⟨[a],[]⟩=pure [(p,a)]):bJ K fd [p] []:=F.binds fun kV doc pm an cdv ct us hl=>by
 obtain⟨a,rfl⟩:=tQ hl
 exact h kV doc pm an cdv ct a
theorem bI.b2 (F:bI K x qual st g fd)(h:∀ kV doc pm an cdv ct a b,Dz (i5 x qual st kV doc pm an cdv ct) ⟨[a,b],[]⟩=pure [(p,a),(q,b)]):bJ K fd [p,q] []:=F.binds fun kV doc pm an cdv ct us hl=>by
 obtain⟨a,b,rfl⟩:=qu hl
 exact h kV doc pm an cdv ct a b
theorem bI.b3 (F:bI K x qual st g fd)(h:∀ kV doc pm an cdv ct a b c,Dz (i5 x qual st kV doc pm an cdv ct) ⟨[a,b,c],[]⟩=pure [(p,a),(q,b),(r,c)]):bJ K fd [p,q,r] []:=F.binds fun kV doc pm an cdv ct us hl=>by
 obtain⟨a,b,c,rfl⟩:=qJ hl
 exact h kV doc pm an cdv ct a b c
theorem bI.b4 (F:bI K x qual st g fd)(h:∀ kV doc pm an cdv ct a b c d,Dz (i5 x qual st kV doc pm an cdv ct) ⟨[a,b,c,d],[]⟩=pure [(p,a),(q,b),(r,c),(s,d)]):bJ K fd [p,q,r,s] []:=F.binds fun kV doc pm an cdv ct us hl=>by
 obtain⟨a,b,c,d,rfl⟩:=og hl
 exact h kV doc pm an cdv ct a b c d
theorem bI.b5 (F:bI K x qual st g fd)(h:∀ kV doc pm an cdv ct a b c d e,Dz (i5 x qual st kV doc pm an cdv ct) ⟨[a,b,c,d,e],[]⟩=pure [(p,a),(q,b),(r,c),(s,d),(t,e)]):bJ K fd [p,q,r,s,t] []:=F.binds fun kV doc pm an cdv ct us hl=>by
 obtain⟨a,b,c,d,e,rfl⟩:=yX hl
 exact h kV doc pm an cdv ct a b c d e
end
end L2
namespace L2
open PySem PySem.Spec PyProof.Rows
section
variable {P:CP}{w:World}{H H':Hp}{h h':Heap}{a:Addr}{o:HO}
end
section
variable {X:Cx}{pins:List (Addr×Obj)}{σ:St}{H H':Hp}{s s₁:CW}{cls:Value}{a:Addr}{new:Bool}
end
end L2
namespace L2
open PySem PySem.Spec PyProof.Rows
section
variable {X:Cx}{E:XK}{x:Str}{C:Addr}{e₀:Expr}{rest:List Expr}{t:TA}{np cpos pos:Pos}
end
section
variable {P:CP}{w:World}{K:W.Frag}{mg:Str->Option Value}{base:Heap}
end
section
variable {X:Cx}{k k':Nat}{x:Str}{ps:List Str}{sp:Sp}{p pos:Pos}{e:Expr}{es:List Expr}{t:TA}{E:XK}
end
section
variable {X:Cx}{pins pins2:List (Addr×Obj)}{σ:St}{H:Hp}{s:CW}{xe:Value->CW->Prop}{a:Addr}
end
section
variable {X:Cx}{body:List Stmt}{h₀:Ey}{hs:List Ey}{t:XK->TS}{th:Value->TS}{pos:Pos}
end
end L2
namespace L2
open PySem PySem.Spec PyProof.Rows
section
variable {X:Cx}{x n:Str}{C:Addr}{b₀:Stmt}{suite:List Stmt}{rest:List Ey}{pos np:Pos}{th:Value->TS}
end
end L2
namespace L2
open PySem PySem.Spec PySem.W PyProof.Rows
section
variable {prog:CP}{w:World}{A:Around}{E:Value->CW->Prop}{s:CW}{K:Frag}{a C:Addr}{oe:Obj}
end
end L2
namespace L2
open PySem PySem.Spec PyProof.Rows
end L2
namespace L2
open PySem PySem.Spec PyProof.Rows
section
variable {X:Cx}{CX:dA}{k:Nat}{f C:Addr}{fd:Dw}{ps:List Str}{sp:Sp}{dvs:List V}{ds:List Value}{E:XK}{x m:Str}{p pos apos:Pos}{e o:Expr}{es:List Expr}{ta:TE}{t:TA}
end
section
variable {P:CP}{w:World}{K:W.Frag}{mg:Str->Option Value}{base:Heap}
end
section
variable {X:Cx}{k k':Nat}{x:Str}{ps:List Str}{sp:Sp}{p pos:Pos}{e:Expr}{es:List Expr}{t:TA}
end
end L2
namespace L2
open PySem PySem.Spec PyProof.Rows
def bH (mg:Str->Option Value)(x:Str):Addr:=match mg x with
 | some (.ref C)=>C
 | _=>0
theorem eW {mg:Str->Option Value}{x:Str}{C:Addr}(h:mg x=some (.ref C)):bH mg x=C:=by unfold bH;rw[h]
end L2
namespace Pr
open PySem L2
def aL (i:Nat):Stmt:=PySem.Challenge.pw_peakroll_k52_whole_news.main.body.getD i (.Pass ⟨0,0,0,0⟩)
abbrev gJ:Stmt:=aL 2
abbrev gY:Stmt:=aL 3
abbrev gW:Stmt:=aL 4
abbrev gT:Stmt:=aL 5
abbrev gx:Stmt:=aL 6
abbrev ia:Stmt:=aL 16
abbrev gX:Stmt:=aL 17
abbrev gm:Stmt:=aL 18
abbrev gS:Stmt:=aL 19
abbrev gF:Stmt:=aL 20
abbrev gt:Stmt:=aL 21
abbrev fS:Stmt:=aL 22
abbrev gZ:Stmt:=aL 23
abbrev hX:Stmt:=aL 25
abbrev g0:Stmt:=aL 26
abbrev fQ:Stmt:=aL 28
abbrev gH:Stmt:=aL 32
abbrev ie:Stmt:=aL 39
abbrev im:Stmt:=aL 40
abbrev gf:Stmt:=aL 41
abbrev gG:Stmt:=aL 42
abbrev ic:Stmt:=aL 43
abbrev ir:Stmt:=aL 44
abbrev ig:Stmt:=aL 47
abbrev fW:Stmt:=aL 48
abbrev gN:Stmt:=aL 49
abbrev hU:Stmt:=aL 50
abbrev gh:Stmt:=aL 51
abbrev fZ:Stmt:=aL 52
abbrev ib:Stmt:=aL 53
abbrev fU:Stmt:=aL 54
abbrev gM:Stmt:=aL 55
abbrev gE:Stmt:=aL 56
abbrev gB:Stmt:=aL 57
abbrev ii:Stmt:=aL 58
abbrev ij:Stmt:=aL 59
abbrev io:Stmt:=aL 60
abbrev fT:Stmt:=aL 61
abbrev gy:Stmt:=aL 62
abbrev ik:Stmt:=aL 63
abbrev gC:Stmt:=aL 64
abbrev gp:Stmt:=aL 65
abbrev fY:Stmt:=aL 66
abbrev fR:Stmt:=aL 67
abbrev eZ:Stmt:=aL 68
abbrev e7:Stmt:=fE (aL 45) 0
abbrev i3:Stmt:=fE (aL 45) 1
abbrev iR:Stmt:=fE (aL 45) 2
abbrev i6:Stmt:=fE (aL 45) 3
abbrev gz:Stmt:=fE (aL 45) 4
abbrev gu:Stmt:=fE (aL 45) 5
abbrev fb:Stmt:=fE (aL 30) 0
abbrev il:Stmt:=fE (aL 30) 1
structure Txt (K:W.Frag)(mg:Str->Option Value)(C:Addr):Prop where
 f_empty:∃ f fd,Fn K mg "empty" gJ [] f fd
 f_in_order:∃ f fd,Fn K mg "in_order" gY ["entries"] f fd
 f_place_of:∃ f fd,Fn K mg "place_of" gW ["entry"] f fd
 f_bar_of:∃ f fd,Fn K mg "bar_of" gT ["entries"] f fd
 f_joined:∃ f fd,Fn K mg "joined" gx ["one","other"] f fd
 f_is_whole:∃ f fd,Fn K mg "is_whole" ia ["value"] f fd
 f_is_whole_from:∃ f fd,Fn K mg "is_whole_from" gX ["value","least","greatest"] f fd
 f_is_wide:∃ f fd,Fn K mg "is_wide" gm ["value"] f fd
 f_is_list:∃ f fd,Fn K mg "is_list" gS ["value"] f fd
 f_is_list_from:∃ f fd,Fn K mg "is_list_from" gF ["value","fewest","most"] f fd
 f_need_moment:∃ f fd,Fn K mg "need_moment" gt ["value"] f fd
 f_need_roll:∃ f fd,Fn K mg "need_roll" fS ["value","least","greatest"] f fd
 f_need_number:∃ f fd,Fn K mg "need_number" gZ ["value"] f fd
 f_bars_of:∃ f fd,Fn K mg "bars_of" hX ["ladder","roll","entries"] f fd
 f_gathered:∃ f fd,Fn K mg "gathered" g0 ["pairs"] f fd
 f_unlike_bars:∃ f fd,Fn K mg "unlike_bars" fQ ["one","other"] f fd
 f_number_of:∃ f fd,Fn K mg "number_of" gH ["begin","sizes","place"] f fd
 f_is_part:∃ f fd,Fn K mg "is_part" ie ["value"] f fd
 f_are_parts:∃ f fd,Fn K mg "are_parts" im ["value"] f fd
 f_are_sizes:∃ f fd,Fn K mg "are_sizes" gf ["value"] f fd
 f_is_row:∃ f fd,Fn K mg "is_row" gG ["value"] f fd
 f_are_rows:∃ f fd,Fn K mg "are_rows" ic ["value"] f fd
 f_bar_lengths:∃ f fd,Fn K mg "bar_lengths" ir ["parts"] f fd
 f_law_cell:∃ f fd,Fn K mg "_law_cell" ig ["_law_script","_law_k"] f fd
 f_law_pot:∃ f fd,Fn K mg "_law_pot" fW ["_law_cell_here"] f fd
 f_law_take:∃ f fd,Fn K mg "_law_take" gN ["_law_pot_here","_law_many"] f fd
 f_law_wide:∃ f fd,Fn K mg "_law_wide" hU ["_law_pot_here"] f fd
 f_law_key:∃ f fd,Fn K mg "_law_key" gh ["_law_pot_here"] f fd
 f_law_before:∃ f fd,Fn K mg "_law_before" fZ ["_law_one","_law_other"] f fd
 f_law_bar:∃ f fd,Fn K mg "_law_bar" ib ["_law_entries"] f fd
 f_law_near:∃ f fd,Fn K mg "_law_near" fU ["_law_pot_here","_law_middle","_law_far"] f fd
 f_law_parts:∃ f fd,Fn K mg "_law_parts" gM ["_law_pot_here"] f fd
 f_law_rows:∃ f fd,Fn K mg "_law_rows" gE ["_law_pot_here"] f fd
 f_law_ladder:∃ f fd,Fn K mg "_law_ladder" gB ["_law_pot_here"] f fd
 f_law_in_turn:∃ f fd,Fn K mg "_law_in_turn" ii ["_law_number_here","_law_sizes"] f fd
 f_law_widths:∃ f fd,Fn K mg "_law_widths" ij ["_law_parts_here"] f fd
 f_law_number:∃ f fd,Fn K mg "_law_number" io ["_law_ladder_here","_law_roll","_law_moment_here"] f fd
 f_law_bars:∃ f fd,Fn K mg "_law_bars" fT ["_law_ladder_here","_law_roll","_law_entries"] f fd
 f_law_unlike:∃ f fd,Fn K mg "_law_unlike" gy ["_law_one","_law_other"] f fd
 f_law_moment:∃ f fd,Fn K mg "_law_moment" ik ["_law_pot_here","_law_ladder_here"] f fd
 f_law_span:∃ f fd,Fn K mg "_law_span" gC ["_law_pot_here","_law_ladder_here"] f fd
 f_law_within:∃ f fd,Fn K mg "_law_within" gp ["_law_bars_here","_law_begin","_law_end"] f fd
 f_law_step:∃ f fd,Fn K mg "_law_step" fY ["_law_pot_here","_law_ladder_here","_law_entries"] f fd
 f_law_told_right:∃ f fd,Fn K mg "_law_told_right" fR ["_law_follower","_law_span_here","_law_known","_law_entries","_law_told"] f fd
 f_law:∃ f fd,Fn K mg "law" eZ ["_law_script"] f fd
 c_WIDE_END:∃ t,mg "WIDE_END"=some (.int 1000000000000000000000000000000 t)
 c_NUMBER_END:∃ t,mg "NUMBER_END"=some (.int 10000000000000000000000000000000000000000 t)
 c_MOST_PARTS:∃ t,mg "MOST_PARTS"=some (.int 12 t)
 c_MOST_LENGTH:∃ t,mg "MOST_LENGTH"=some (.int 1000000000 t)
 c_MOST_ROWS:∃ t,mg "MOST_ROWS"=some (.int 4 t)
 c_MOST_SIZES:∃ t,mg "MOST_SIZES"=some (.int 12 t)
 c_MOST_SIZE:∃ t,mg "MOST_SIZE"=some (.int 1000 t)
 b_ValueError:mg "ValueError"=none
 b_abs:mg "abs"=none
 b_all:mg "all"=none
 b_bool:mg "bool"=none
 b_divmod:mg "divmod"=none
 b_int:mg "int"=none
 b_isinstance:mg "isinstance"=none
 b_len:mg "len"=none
 b_list:mg "list"=none
 b_max:mg "max"=none
 b_min:mg "min"=none
 b_range:mg "range"=none
 b_repr:mg "repr"=none
 b_sorted:mg "sorted"=none
 b_sum:mg "sum"=none
 b_tuple:mg "tuple"=none
 cl:de K C
 mgC:mg "Ladder"=some (.ref C)
 n_open_lengths:cP K C "open_lengths"
 n_part_lengths:cP K C "part_lengths"
 n_steps:cP K C "steps"
 m_init:∃ f fd,bI K "__init__" "Ladder.__init__" e7 f fd/\Mk K C f/\bJ K fd ["self","begin","parts","rows"] []
 m_begin:∃ f fd,Fm K C "begin" "Ladder.begin" i3 ["self"] f fd
 m_parts:∃ f fd,Fm K C "parts" "Ladder.parts" iR ["self"] f fd
 m_rows:∃ f fd,Fm K C "rows" "Ladder.rows" i6 ["self"] f fd
 m_rolls:∃ f fd,Fm K C "rolls" "Ladder.rolls" gz ["self"] f fd
 m_bar_at:∃ f fd,Fm K C "bar_at" "Ladder.bar_at" gu ["self","roll","moment"] f fd
 cl_Follower:de K (bH mg "Follower")
 mg_Follower:mg "Follower"=some (.ref (bH mg "Follower"))
 n_Follower_first_number:cP K (bH mg "Follower") "first_number"
 n_Follower_known:cP K (bH mg "Follower") "known"
 n_Follower_ladder:cP K (bH mg "Follower") "ladder"
 n_Follower_number_behind:cP K (bH mg "Follower") "number_behind"
 n_Follower_roll:cP K (bH mg "Follower") "roll"
 m_Follower_init:∃ f fd,bI K "__init__" "Follower.__init__" fb f fd/\Mk K (bH mg "Follower") f/\bJ K fd ["self","ladder","roll","begin","end"] []
 m_Follower_news:∃ f fd,Fm K (bH mg "Follower") "news" "Follower.news" il ["self","entries"] f fd
end Pr
namespace L2
open PySem PySem.Spec PyProof.Rows
def bw (n i:Nat)(D:Addr)(ys:List V)(Pv:Nat->List V->Hp->Prop)(y:V)(H3:Hp):Prop :=
 H3 D=some (.lst ys)/\ys.length<CQ/\∃ m',m'<n-i/\(m'=n-(i+1)/\i+1<=n/\Pv (i+1) (ys++[y]) (upd H3 D (.lst (ys++[y]))))
def cC (n i:Nat)(ys:List V)(Pv:Nat->List V->Hp->Prop)(H3:Hp):Prop:=∃ m',m'<n-i/\(m'=n-(i+1)/\i+1<=n/\Pv (i+1) ys H3)
theorem bw.mk {n i:Nat}{D:Addr}{ys:List V}{Pv:Nat->List V->Hp->Prop}{y:V}{H3:Hp}(hi:i<n)(hn:n<=1000)(hl:ys.length<=i)(h:H3 D=some (.lst ys))(p:Pv (i+1) (ys++[y]) (upd H3 D (.lst (ys++[y])))):bw n i D ys Pv y H3 :=
 ⟨h,cR (by omega),n-(i+1),by omega,rfl,hi,p⟩
theorem cC.mk {n i:Nat}{ys:List V}{Pv:Nat->List V->Hp->Prop}{H3:Hp}(hi:i<n)(p:Pv (i+1) ys H3):cC n i ys Pv H3:=⟨n-(i+1),by omega,rfl,hi,p⟩
theorem ki {tc:TT}{te:TE}{σ:St}{J:It}{D:Addr}{Fin:Hp->Prop}{H:Hp}{n:Nat}(Pv:Nat->List V->Hp->Prop)(h0:Pv 0 [] (upd H D (.lst [])))
  (hD:∀ i ys H,Pv i ys H->H D=some (.lst ys)) (hend:∀ ys H,Pv n ys H->J.stop n H/\Fin H)
  (hgo:∀ i ys H,i<n->Pv i ys H->J.go i H/\∀ x H',J.yld i H x H'->tc (some x::σ) H' fun b H2=>if b=true then te (some x::σ) H2 (bw n i D ys Pv) else cC n i ys Pv H2):fy tc te σ J D Fin H:=by
 refine⟨fun i m ys H=>m=n-i/\i<=n/\Pv i ys H,⟨n,rfl,B9 _,h0⟩,?_⟩
 rintro i m ys H ⟨rfl,hi,p⟩
 refine⟨hD i ys H p,?_⟩
 by_cases hlt:i<n
 ·exact .inr (hgo i ys H hlt p)
 ·have e:i=n:=by omega
  subst e
  exact .inl (hend ys H p)
theorem iu {K:W.Frag}{a:Addr}{xs:List V}{tc:TT}{te:TE}{σ:St}{D:Addr}{Fin:Hp->Prop}{H:Hp}(Pv:Nat->List V->Hp->Prop)(h0:Pv 0 [] (upd H D (.lst [])))
  (hD:∀ i ys H,Pv i ys H->H D=some (.lst ys)/\aS K H a xs) (hend:∀ ys H,Pv xs.length ys H->Fin H)
  (hgo:∀ i x ys H,i<xs.length->xs[i]?=some x->Pv i ys H->tc (some x::σ) H fun b H2=>if b=true then te (some x::σ) H2 (bw xs.length i D ys Pv) else cC xs.length i ys Pv H2):fy tc te σ (dS K a) D Fin H:=by
 refine ki Pv h0 (fun i ys H p=>(hD i ys H p).1) (fun ys H p=>⟨⟨xs,(hD _ _ _ p).2,B6 _⟩,hend ys H p⟩) fun i ys H hi p=>?_
 refine⟨⟨xs,xs[i],(hD _ _ _ p).2,As hi⟩,fun x H' y=>?_⟩
 obtain⟨e,y⟩:=y
 subst e
 exact hgo i x ys _ hi (y xs (hD _ _ _ p).2) p
theorem wz {K:W.Frag}{a:Addr}{xs:List V}{tc:TT}{te:TE}{σ:St}{D:Addr}{Fin:Hp->Prop}{H:Hp}(Pv:Nat->List V->Hp->Prop)(h0:Pv 0 [] (upd H D (.lst [])))
  (hD:∀ i ys H,Pv i ys H->H D=some (.lst ys)/\bj K H a xs) (hend:∀ ys H,Pv xs.length ys H->Fin H)
  (hgo:∀ i x ys H,i<xs.length->xs[i]?=some x->Pv i ys H->tc (some x::σ) H fun b H2=>if b=true then te (some x::σ) H2 (bw xs.length i D ys Pv) else cC xs.length i ys Pv H2):fy tc te σ (fx K a) D Fin H:=by
 refine ki Pv h0 (fun i ys H p=>(hD i ys H p).1) (fun ys H p=>⟨⟨xs,(hD _ _ _ p).2,B6 _⟩,hend ys H p⟩) fun i ys H hi p=>?_
 refine⟨⟨xs,xs[i],(hD _ _ _ p).2,As hi⟩,fun x H' y=>?_⟩
 obtain⟨e,y⟩:=y
 subst e
 exact hgo i x ys _ hi (y xs (hD _ _ _ p).2) p
theorem oH {lo:Int}{n:Nat}{tc:TT}{te:TE}{σ:St}{D:Addr}{Fin:Hp->Prop}{H:Hp}(Pv:Nat->List V->Hp->Prop)(h0:Pv 0 [] (upd H D (.lst [])))
  (hD:∀ i ys H,Pv i ys H->H D=some (.lst ys)) (hend:∀ ys H,Pv n ys H->Fin H)
  (hgo:∀ i ys H,i<n->Pv i ys H->tc (some (.int (lo+i))::σ) H fun b H2=>if b=true then te (some (.int (lo+i))::σ) H2 (bw n i D ys Pv) else cC n i ys Pv H2):fy tc te σ (fC lo n) D Fin H:=by
 refine ki Pv h0 hD (fun ys H p=>⟨B6 _,hend ys H p⟩) fun i ys H hi p=>?_
 refine⟨hi,fun x H' y=>?_⟩
 obtain⟨e,y⟩:=y
 subst e y
 exact hgo i ys _ hi p
section
variable {X:Cx}
theorem bp (K:W.Frag)(e:X.K=K:=by rfl):fH X (mP K):=by rw[<-e];exact kG
theorem bi (K:W.Frag)(e:X.K=K:=by rfl):fH X (kQ K):=by rw[<-e];exact oP
end
theorem cL {σ:St}{H:Hp}{A B:Hp->Prop}(h:A H):jY σ H (fun b H2=>if b=true then A H2 else B H2):=by
 show if true=true then A H else B H
 rw[if_pos rfl]
 exact h
theorem bQ {X:Cx}{x:Str}{sc scp:Scope}{N ps:List Str}(S:aI N ps scp)(hN:X.N=N:=by rfl)(hs:X.env.scope=scp:=by rfl)(h1:sc.kind=.function:=by rfl)(h2:∀ p∈sc.names,p.2≠.cell:=by decide +kernel)(h3:sc.names.lookup x=some .local:=by rfl)
  (h4:∀ p∈sc.names,p.2=.local->sc.names.lookup p.1=some .local:=by decide +kernel) (h5:∀ y∈N,sc.names.lookup y≠some .local:=by decide +kernel)
  (h7:∀ p∈sc.names,p.2=.free->scp.names.lookup p.1=some .cell\/scp.names.lookup p.1=some .free:=by decide +kernel):fN X x sc :=
 ⟨h1,h2,h3,h4,by rw[hN];exact h5,by rw[hN];exact S.nd,fun p hp e=>by
  show X.env.scope.names.lookup p.1=_\/X.env.scope.names.lookup p.1=_
  rw[hs]
  exact h7 p hp e⟩
theorem Paired.get {α β:Type}{F:α->β->Prop}:∀ {xs:List α}{ys:List β}{i:Nat}{x:α},Paired F xs ys->xs[i]?=some x->∃ y,ys[i]?=some y/\F x y
 | _,_,_,_,.nil,e=>by simp at e
 | _,_,0,_,.cons r _,e=>by simp at e;subst e;exact⟨_,rfl,r⟩
 | _,_,i+1,x,.cons _ t,e=>by
  obtain⟨u,h1,h2⟩:=Paired.get (i:=i) (x:=x) t (by simpa using e)
  exact⟨u,by simpa using h1,h2⟩
theorem Paired.take {α β:Type}{F:α->β->Prop}:∀ {xs:List α}{ys:List β} (n:Nat),Paired F xs ys->Paired F (xs.take n) (ys.take n)
 | _,_,0,_=>.nil
 | _,_,_+1,.nil=>.nil
 | _,_,n+1,.cons r t=>.cons r (Paired.take n t)
end L2
namespace Srt
open PySem PySem.W PyProof.Rows
def Good (n:Nat)(lt:Nat->Nat->Bool){α:Type}:KasT α->(α->Prop)->Prop
 | .ret a,Q=>Q a
 | .ask i j k,Q=>i<n/\j<n/\Good n lt (k (lt i j)) Q
section
variable {n:Nat}{lt:Nat->Nat->Bool}{α β:Type}
theorem good_mono {Q Q':α->Prop}(h:∀ a,Q a->Q' a):∀ t:KasT α,Good n lt t Q->Good n lt t Q'
 | .ret a,q=>h a q
 | .ask i j k,q=>⟨q.1,q.2.1,good_mono h (k (lt i j)) q.2.2⟩
theorem iG {f:α->KasT β}{Q:β->Prop}:∀ t:KasT α,Good n lt t (fun a=>Good n lt (f a) Q)->Good n lt (t.bind f) Q
 | .ret a,q=>q
 | .ask i j k,q=>⟨q.1,q.2.1,iG (k (lt i j)) q.2.2⟩
theorem good_wp {cmp:Nat->Nat->(Bool->CW->Prop)->CW->Prop}{s:CW}{Q:α->CW->Prop}(hc:∀ i j (C:Bool->CW->Prop),i<n->j<n->C (lt i j) s->cmp i j C s):∀ t:KasT α,Good n lt t (fun a=>Q a s)->t.kasWp cmp Q s
 | .ret a,q=>q
 | .ask i j k,q=>hc i j _ q.1 q.2.1 (good_wp hc (k (lt i j)) q.2.2)
end
structure Ord (lt:Nat->Nat->Bool):Prop where
 asym:∀ {a b},lt a b=true->lt b a=false
 tr:∀ {a b c},lt b a=false->lt c b=false->lt c a=false
section
variable {lt:Nat->Nat->Bool}{N:Nat}
theorem Ord.ltle (O:Ord lt){a b c:Nat}(h:lt a b=true)(h':lt c b=false):lt a c=true:=by
 cases e:lt a c with
 | true=>rfl
 | false=>rw[O.tr h' e] at h;cases h
theorem Ord.lelt (O:Ord lt){a b c:Nat}(h:lt b a=false)(h':lt b c=true):lt a c=true:=by
 cases e:lt a c with
 | true=>rfl
 | false=>rw[O.tr e h] at h';cases h'
def R (lt:Nat->Nat->Bool)(a b:Nat):Prop:=lt a b=true\/(lt b a=false/\a<b)
theorem R.le (O:Ord lt){a b:Nat}(h:R lt a b):lt b a=false:=h.elim O.asym (·.1)
abbrev g (p:Array Nat)(i:Nat):Nat:=p.getD i 0
theorem eC {p:Array Nat}{i:Nat}:g p i=(p[i]?).getD 0:=by simp[g]
theorem dm {p:Array Nat}{i j:Nat}(hj:j<=p.size)(k:Nat):g (kas_rev p i j) k=if i<=k/\k<j then g p (i+j-1-k) else g p k:=by
 unfold kas_rev
 rw[eC,getElem?_mirror_all hj,eC,eC]
 split <;> rfl
theorem z5 {p:Array Nat}{k d:Nat}(hs:k<p.size)(hd:d<=k)(i:Nat):g (bubble p k d) i=if i=k-d then g p k else if k-d<i/\i<=k then g p (i-1) else g p i:=by
 rw[eC,getElem?_bubble hs d hd,eC,eC,eC]
 split
 ·rfl
 ·split <;> rfl
structure Pm (N:Nat)(p:Array Nat)(n:Nat):Prop where
 sz:p.size=N
 pm:p.Perm (AN (AG N))
 lo:∀ i,i<n->g p i<n
 hi:∀ i,n<=i->i<N->g p i=i
theorem Pm.rev {p:Array Nat}{n i j:Nat}(h:Pm N p n)(hj:j<=n)(hn:n<=N):Pm N (kas_rev p i j) n where
 sz:=by rw[kas_rev_size];exact h.sz
 pm:=(mirror_perm _ _ _ _).trans h.pm
 lo:=fun k hk=>by
  rw[dm (by rw[h.sz];omega)]
  split
  ·exact h.lo _ (by omega)
  ·exact h.lo _ hk
 hi:=fun k hk hk2=>by
  rw[dm (by rw[h.sz];omega),if_neg (by omega)]
  exact h.hi k hk hk2
theorem Pm.succ {p:Array Nat}{n:Nat}(h:Pm N p n)(hn:n<N):Pm N p (n+1) where
 sz:=h.sz
 pm:=h.pm
 lo:=fun i hi=>by
  rcases Cb i n with h1|h1
  ·exact Cf (h.lo i h1)
  ·rw[h.hi i h1 (by omega)];exact hi
 hi:=fun i h1 h2=>h.hi i (by omega) h2
def Asc (lt:Nat->Nat->Bool)(p:Array Nat)(n:Nat):Prop:=∀ i j,i<j->j<n->R lt (g p i) (g p j)
theorem lK (O:Ord lt)(p:Array Nat):∀ (f n:Nat),1<=n->n+f=N->Pm N p n->Asc lt p n ->
  Good N lt (kas_asc p f n) (fun m=>n<=m/\m<=N/\Pm N p m/\Asc lt p m/\(m<N->lt (g p m) (g p (m-1))=true))
 | 0,n,h1,hn,hp,ha=>⟨B6 _,by omega,hp,ha,fun h=>by omega⟩
 | f+1,n,h1,hn,hp,ha=>by
  have hnN:n<N:=by omega
  have en:=hp.hi n (B6 _) hnN
  have e1:=hp.lo (n-1) (by omega)
  show Good N lt (.ask (g p n) (g p (n-1)) fun c=>if c=true then .ret n else kas_asc p f (n+1)) _
  refine⟨by omega,by omega,?_⟩
  cases hc:lt (g p n) (g p (n-1)) with
  | true =>
   try dsimp only
   rw[if_pos rfl]
   exact⟨B6 _,by omega,hp,ha,fun _=>hc⟩
  | false =>
   try dsimp only
   rw[if_neg (by simp)]
   refine good_mono (fun m h=>⟨by omega,h.2⟩) _ (lK O p f (n+1) (by omega) (by omega) (hp.succ hnN) fun i j hij hj=>?_)
   rcases Cb j n with h2|h2
   ·exact ha i j hij h2
   ·obtain rfl:j=n:=by omega
    have hlo:=hp.lo i hij
    refine .inr ⟨?_,by omega⟩
    rcases Cb i (j-1) with h3|h3
    ·exact O.tr ((ha i (j-1) h3 (by omega)).le O) hc
    ·obtain rfl:i=j-1:=by omega
     exact hc
structure gU (lt:Nat->Nat->Bool)(p:Array Nat)(n q:Nat):Prop where
 a:∀ i j,i<j->j<n-(q+1)->R lt (g p j) (g p i)
 b:∀ i j,i<n-(q+1)->n-(q+1)<=j->j<n->lt (g p j) (g p i)=true
 c:∀ i j,n-(q+1)<=i->i<j->j<n->lt (g p i) (g p j)=false/\lt (g p j) (g p i)=false/\g p i<g p j
def Rv (lt:Nat->Nat->Bool)(p:Array Nat)(n:Nat):Prop:=∀ i j,i<j->j<n->R lt (g p j) (g p i)
theorem gU.rv0 {p:Array Nat}{n:Nat}(h:gU lt p n 0)(h1:1<=n):Rv lt p n:=fun i j hij hj=>by
 rcases Cb j (n-1) with h2|h2
 ·exact h.a i j hij h2
 ·exact .inl (h.b i j (by omega) h2 hj)
theorem gU.rv {p:Array Nat}{n q:Nat}(h:gU lt p n q)(hq:q+1<=n)(hn:n<=p.size):Rv lt (kas_rev p (n-(q+1)) n) n:=fun i j hij hj=>by
 rw[dm hn,dm hn]
 by_cases hi:n-(q+1)<=i
 ·rw[if_pos ⟨by omega,hj⟩,if_pos ⟨hi,by omega⟩]
  obtain⟨c1,c2,c3⟩:=h.c (n-(q+1)+n-1-j) (n-(q+1)+n-1-i) (by omega) (by omega) (by omega)
  exact .inr ⟨c2,c3⟩
 ·rw[if_neg (show ¬ (n-(q+1)<=i/\i<n) by omega)]
  by_cases hj2:n-(q+1)<=j
  ·rw[if_pos ⟨hj2,hj⟩]
   exact .inl (h.b i _ (by omega) (by omega) (by omega))
  ·rw[if_neg (by omega)]
   exact h.a i j hij (by omega)
theorem mO (O:Ord lt):∀ (f:Nat) (p:Array Nat) (n q:Nat),q+1<=n->n+f=N->Pm N p n->gU lt p n q ->
  Good N lt (kas_desc f p n q) (fun r=>r.2.2+1<=r.2.1/\r.2.1<=N/\Pm N r.1 r.2.1/\gU lt r.1 r.2.1 r.2.2)
 | 0,p,n,q,hq,hn,hp,hd=>⟨hq,by show n<=N;omega,hp,hd⟩
 | f+1,p,n,q,hq,hn,hp,hd=>by
  have hnN:n<N:=by omega
  have en:=hp.hi n (B6 _) hnN
  have e1:=hp.lo (n-1) (by omega)
  have hsz:=hp.sz
  refine⟨by show g p n<N;omega,by show g p (n-1)<N;omega,?_⟩
  cases hc:lt (p.getD n 0) (p.getD (n-1) 0) with
  | true =>
   try dsimp only
   rw[if_pos rfl]
   have hx:∀ i,i<n->lt (g p n) (g p i)=true:=fun i hi=>by
    rcases Cb i (n-(q+1)) with h2|h2
    ·have:=hd.b i (n-1) h2 (by omega) (by omega)
     exact O.ltle hc (O.asym this)
    ·rcases Cb i (n-1) with h3|h3
     ·exact O.ltle hc (hd.c i (n-1) h2 h3 (by omega)).1
     ·obtain rfl:i=n-1:=by omega
      exact hc
   have go:∀ p':Array Nat,Pm N p' n->Rv lt p' n->(∀ i,i<n->∃ i',i'<n/\g p' i=g p i')->g p' n=g p n ->
     Good N lt (kas_desc f p' (n+1) 0) (fun r=>r.2.2+1<=r.2.1/\r.2.1<=N/\Pm N r.1 r.2.1/\gU lt r.1 r.2.1 r.2.2):=fun p' hp' hv hs he=>by
    refine mO O f p' (n+1) 0 (by omega) (by omega) (hp'.succ hnN) ⟨fun i j hij hj=>hv i j hij (by omega),fun i j hi hj hj2=>?_,fun i j hi hij hj=>by omega⟩
    obtain rfl:j=n:=by omega
    obtain⟨i',hi',e⟩:=hs i (by omega)
    rw[he,e]
    exact hx i' hi'
   by_cases hq0:q>0
   ·rw[if_pos hq0]
    refine go _ (hp.rev (B6 _) (by omega)) (hd.rv hq (by omega)) (fun i hi=>?_) ?_
    ·rw[dm (by omega)]
     split
     ·exact⟨_,by omega,rfl⟩
     ·exact⟨i,hi,rfl⟩
    ·rw[dm (by omega),if_neg (by omega)]
   ·rw[if_neg hq0]
    obtain rfl:q=0:=by omega
    exact go p hp (hd.rv0 hq) (fun i hi=>⟨i,hi,rfl⟩) rfl
  | false =>
   try dsimp only
   rw[if_neg (by simp)]
   refine⟨by show g p (n-1)<N;omega,by show g p n<N;omega,?_⟩
   cases hdd:lt (p.getD (n-1) 0) (p.getD n 0) with
   | true =>
    try dsimp only
    rw[if_pos rfl]
    exact⟨hq,by show n<=N;omega,hp,hd⟩
   | false =>
    try dsimp only
    rw[if_neg (by simp)]
    have eb:n+1-(q+1+1)=n-(q+1):=by omega
    refine mO O f p (n+1) (q+1) (by omega) (by omega) (hp.succ hnN) ⟨fun i j hij hj=>hd.a i j hij (by omega),fun i j hi hj hj2=>?_,fun i j hi hij hj=>?_⟩
    ·rw[eb] at hi hj
     rcases Cb j n with h2|h2
     ·exact hd.b i j hi hj h2
     ·obtain rfl:j=n:=by omega
      exact O.lelt (c:=g p i) hdd (hd.b i (j-1) hi (by omega) (by omega))
    ·rw[eb] at hi
     rcases Cb j n with h2|h2
     ·exact hd.c i j hi hij h2
     ·obtain rfl:j=n:=by omega
      have hlo:=hp.lo i hij
      rcases Cb i (j-1) with h3|h3
      ·obtain⟨c1,c2,c3⟩:=hd.c i (j-1) hi h3 (by omega)
       exact⟨O.tr hdd c1,O.tr c2 hc,by omega⟩
      ·obtain rfl:i=j-1:=by omega
       exact⟨hdd,hc,by omega⟩
abbrev mF (N:Nat)(lt:Nat->Nat->Bool)(r:Nat×Array Nat):Prop:=1<=r.1/\r.1<=N/\Pm N r.2 r.1/\Asc lt r.2 r.1
theorem qP (O:Ord lt){p:Array Nat}{n:Nat}(h1:1<=n)(hn:n<=N)(hp:Pm N p n)(hv:Rv lt p n):Good N lt (kas_tail3 n N p) (mF N lt):=by
 have hsz:=hp.sz
 refine iG _ (good_mono (fun m h=>?_) _ (lK O (kas_rev p 0 n) (N-n) n h1 (by omega) (hp.rev (B6 _) hn) fun i j hij hj=>?_))
 ·exact⟨by show 1<=m;omega,h.2.1,h.2.2.1,h.2.2.2.1⟩
 ·rw[dm (by omega),dm (by omega),if_pos (by omega),if_pos (by omega)]
  exact hv _ _ (by omega) (by omega)
theorem pE (O:Ord lt){p:Array Nat}{n:Nat}(hn:n<N)(hp:Pm N p n)(hv:Rv lt p n)(hx:∀ i,i<n->lt (g p n) (g p i)=true):Good N lt (kas_descPart n N p) (mF N lt):=by
 refine iG _ (good_mono (fun r h=>?_) _ (mO O (N-(n+1)) p (n+1) 0 (by omega) (by omega) (hp.succ hn) ⟨fun i j hij hj=>hv i j hij (by omega),fun i j hi hj hj2=>?_,fun i j hi hij hj=>by omega⟩))
 ·obtain⟨q1,q2,q3,q4⟩:=h
  have hsz:=q3.sz
  by_cases hq:r.2.2>0
  ·rw[if_pos hq]
   exact qP O (by omega) q2 (q3.rev (B6 _) q2) (q4.rv q1 (by omega))
  ·rw[if_neg hq]
   have e0:r.2.2=0:=by omega
   rw[e0] at q4
   exact qP O (by omega) q2 q3 (q4.rv0 (by omega))
 ·obtain rfl:j=n:=by omega
  exact hx i (by omega)
theorem xg (O:Ord lt){p:Array Nat}(h1:1<=N)(hp:Pm N p 1):Good N lt (kas_count N p) (mF N lt):=by
 have hsz:=hp.sz
 refine iG _ (good_mono (fun m h=>?_) _ (lK O p (N-1) 1 (B6 _) (by omega) hp fun i j hij hj=>by omega))
 obtain⟨m1,m2,m3,m4,m5⟩:=h
 by_cases hm:m=N
 ·rw[if_pos (by rw[hm];exact beq_self_eq_true _)]
  exact⟨m1,m2,m3,m4⟩
 ·rw[if_neg (by intro e;exact hm (by simpa using e))]
  have hlt:=m5 (by omega)
  by_cases hm1:m>1
  ·rw[if_pos hm1]
   have l0:=m3.lo 0 (by omega)
   have l1:=m3.lo (m-1) (by omega)
   refine⟨by show g p 0<N;omega,by show g p (m-1)<N;omega,?_⟩
   cases hc:lt (p.getD 0 0) (p.getD (m-1) 0) with
   | true =>
    try dsimp only
    rw[if_pos rfl]
    exact⟨m1,m2,m3,m4⟩
   | false =>
    try dsimp only
    rw[if_neg (by simp)]
    have le1:∀ i,i<m->lt (g p i) (g p (m-1))=false:=fun i hi=>by
     rcases Cn i with h0|h0
     ·subst h0;exact hc
     ·exact O.tr hc ((m4 0 i h0 hi).le O)
    have le2:∀ i,i<m->lt (g p (m-1)) (g p i)=false:=fun i hi=>by
     rcases Cb i (m-1) with h0|h0
     ·exact(m4 i (m-1) h0 (by omega)).le O
     ·obtain rfl:i=m-1:=by omega
      exact le1 _ hi
    have all:∀ i j,i<m->j<m->lt (g p i) (g p j)=false:=fun i j hi hj=>O.tr (le2 j hj) (le1 i hi)
    have idx:∀ i j,i<j->j<m->g p i<g p j:=fun i j hij hj=>by
     rcases m4 i j hij hj with h|h
     ·rw[all i j (by omega) hj] at h;cases h
     ·exact h.2
    refine pE O (by omega) (m3.rev (B6 _) m2) (fun i j hij hj=>?_) fun i hi=>?_
    ·rw[dm (by omega),dm (by omega),if_pos (by omega),if_pos (by omega)]
     exact .inr ⟨all _ _ (by omega) (by omega),idx _ _ (by omega) (by omega)⟩
    ·rw[dm (by omega),dm (by omega),if_neg (by omega),if_pos (by omega)]
     exact O.ltle hlt (le1 _ (by omega))
  ·rw[if_neg hm1]
   obtain rfl:m=1:=by omega
   refine pE O (by omega) m3 (fun i j hij hj=>by omega) fun i hi=>?_
   obtain rfl:i=0:=by omega
   exact hlt
theorem lY (O:Ord lt){p:Array Nat}{k:Nat}(hk:k<N)(hp:Pm N p k)(ha:Asc lt p k):∀ (f l r:Nat),l<=r->r<=k->r-l<=f->(∀ i,i<l->lt (g p k) (g p i)=false)->(∀ i,r<=i->i<k->lt (g p k) (g p i)=true) ->
  Good N lt (kas_place p k f l r) (fun l'=>l'<=k/\(∀ i,i<l'->lt (g p k) (g p i)=false)/\∀ i,l'<=i->i<k->lt (g p k) (g p i)=true)
 | 0,l,r,h1,h2,h3,hl,hr=>⟨by omega,hl,fun i h4 h5=>hr i (by omega) h5⟩
 | f+1,l,r,h1,h2,h3,hl,hr=>by
  show Good N lt (if l >= r then .ret l else .ask (p.getD k 0) (p.getD ((l+r) / 2) 0) fun c=>if c=true then kas_place p k f l ((l+r) / 2) else kas_place p k f ((l+r) / 2+1) r) _
  by_cases hlr:l >= r
  ·rw[if_pos hlr]
   exact⟨by omega,hl,fun i h4 h5=>hr i (by omega) h5⟩
  ·rw[if_neg hlr]
   have ek:=hp.hi k (B6 _) hk
   have em:=hp.lo ((l+r) / 2) (by omega)
   refine⟨by show g p k<N;omega,by show g p _<N;omega,?_⟩
   cases hc:lt (p.getD k 0) (p.getD ((l+r) / 2) 0) with
   | true =>
    try dsimp only
    rw[if_pos rfl]
    refine lY O hk hp ha f l ((l+r) / 2) (by omega) (by omega) (by omega) hl fun i h4 h5=>?_
    rcases Cb ((l+r) / 2) i with h6|h6
    ·exact O.ltle hc ((ha _ i h6 h5).le O)
    ·obtain rfl:i=(l+r) / 2:=by omega
     exact hc
   | false =>
    try dsimp only
    rw[if_neg (by simp)]
    refine lY O hk hp ha f ((l+r) / 2+1) r (by omega) h2 (by omega) (fun i h4=>?_) hr
    rcases Cb i ((l+r) / 2) with h6|h6
    ·exact O.tr ((ha i _ h6 (by omega)).le O) hc
    ·obtain rfl:i=(l+r) / 2:=by omega
     exact hc
theorem rE (O:Ord lt):∀ (f:Nat) (p:Array Nat) (k:Nat),k+f=N->Pm N p k->Asc lt p k->Good N lt (kas_bin f p k) (fun p'=>Pm N p' N/\Asc lt p' N)
 | 0,p,k,hk,hp,ha=>by
  obtain rfl:k=N:=by omega
  exact⟨hp,ha⟩
 | f+1,p,k,hk,hp,ha=>by
  refine iG _ (good_mono (fun l h=>?_) _ (lY O (by omega) hp ha k 0 k (B9 _) (B6 _) (by omega) (fun i h=>by omega) fun i h1 h2=>by omega))
  obtain⟨hl,h1,h2⟩:=h
  have hsz:=hp.sz
  have ek:=hp.hi k (B6 _) (by omega)
  have gb:=fun i=>z5 (p:=p) (k:=k) (d:=k-l) (by omega) (by omega) i
  have el:k-(k-l)=l:=by omega
  rw[el] at gb
  refine rE O f _ (k+1) (by omega) ⟨by rw[bubble_size];exact hsz,(bubble_perm _ _ _).trans hp.pm,fun i hi=>?_,fun i hi hi2=>?_⟩ fun i j hij hj=>?_
  ·rw[gb]
   split
   ·omega
   ·split
    ·have:=hp.lo (i-1) (by omega);omega
    ·have:=hp.lo i (by omega);omega
  ·rw[gb,if_neg (by omega),if_neg (by omega)]
   exact hp.hi i (by omega) hi2
  ·rw[gb,gb]
   by_cases j1:j=l
   ·rw[if_pos j1,if_neg (by omega),if_neg (by omega)]
    have:=hp.lo i (by omega)
    exact .inr ⟨h1 i (by omega),by omega⟩
   ·rw[if_neg j1]
    by_cases i1:i=l
    ·rw[if_pos i1,if_pos (by omega)]
     exact .inl (h2 (j-1) (by omega) (by omega))
    ·rw[if_neg i1]
     by_cases j2:l<j/\j<=k
     ·rw[if_pos j2]
      split
      ·exact ha _ _ (by omega) (by omega)
      ·exact ha _ _ (by omega) (by omega)
     ·rw[if_neg j2,if_neg (by omega)]
      exact ha i j hij (by omega)
theorem xZ (N:Nat):Pm N (AN (AG N)) 1 where
 sz:=by simp
 pm:=Array.Perm.refl _
 lo:=fun i hi=>by
  obtain rfl:i=0:=by omega
  rw[eC]
  cases N with
  | zero=>simp
  | succ m=>simp
 hi:=fun i _ hi=>by rw[eC];simp[hi]
theorem sort_ok (O:Ord lt)(h1:1<=N):Good N lt (kas_sort N) (fun p=>Pm N p N/\Asc lt p N):=by
 refine iG _ (good_mono (fun r h=>?_) _ (xg O h1 (xZ N)))
 obtain⟨r1,r2,r3,r4⟩:=h
 by_cases hr:r.1<N
 ·rw[if_pos hr]
  have em:max r.1 1=r.1:=by omega
  rw[em]
  exact rE O _ _ _ (by omega) r3 r4
 ·rw[if_neg hr]
  have e:r.1=N:=by omega
  rw[e] at r3 r4
  exact⟨r3,r4⟩
theorem out_ok {p:Array Nat}(hp:Pm N p N)(ha:Asc lt p N):p.toList.Perm (AG N)/\p.toList.Pairwise (R lt):=by
 refine⟨by simpa using Array.perm_iff_toList_perm.mp hp.pm,List.pairwise_iff_getElem.mpr fun i j hi hj hij=>?_⟩
 have hsz:=hp.sz
 rw[Cr] at hi hj
 have:=ha i j hij (by omega)
 simpa [g,Cs,hi,hj] using this
end
end Srt
namespace L2
open PySem PySem.Spec PyProof.Rows
def inn (X:Cx):Cx:={ X with A:=X.A.in1.in1,xe:=fun _ _=>False }
section
variable {X:Cx}{pins:List (Addr×Obj)}{σ:St}{H:Hp}{s:CW}
theorem ac.inn (I:ac X pins σ H s):ac (inn X) pins σ H s :=
 ⟨⟨I.ok.mod,I.ok.kind,I.ok.glob,I.ok.blt,I.ok.above,I.ok.inj,I.ok.has,I.ok.cab,I.ok.hd,I.ok.frames,I.ok.stk,I.ok.exf,I.ok.bs,I.ok.bsz,I.ok.noex,I.ok.exfs,I.ok.funs,I.ok.frf⟩,I.os,I.bare,I.base,I.loc,I.cell,I.free,I.freeC,I.pin,I.hok,I.len⟩
theorem ac.out (ok:X.Ok)(I:ac (L2.inn X) pins σ H s):ac X pins σ H s :=
 ⟨ok,I.os,I.bare,I.base,I.loc,I.cell,I.free,I.freeC,I.pin,I.hok,I.len⟩
theorem ac.track {D:Addr}{ys:List V}{its:List Value}{n:Nat}(I:ac X pins σ H s)(f:a0 X pins H D)(hg:s.heap.get? D=some { cls:=.type "list",data:=.seq its.toArray n })(hv:au ys its)(hz:ys.length<=CQ):ac X pins σ (upd H D (.lst ys)) s:=by
 obtain⟨f1,f2,f3,f4,f5,f6⟩:=f
 have nD:∀ b u,H b=some u->b≠D:=fun b u e z=>by rw[z,f1] at e;cases e
 have J:=I.step (h':=s.heap) (g':=s.gens) (t':=s.toks) (d':=s.drawn) (ch:=[D]) (H':=upd H D (.lst ys)) (fun b hb=>by
   have e:b=D:=by simpa using hb
   subst e
   exact⟨f4,f2,f5,f6⟩)
  (fun b o _ _ _ e _=>e) (fun b o _ _ _ e _=>⟨o.slots,e⟩) (fun b o hc e n=>by rw[upd_ne (by simpa using hc)];exact n) (fun b o _ e=>⟨o,e⟩)
  (fun b xs e=>by rw[upd_ne (nD _ _ e)];exact e) (fun b o u e=>by rw[upd_ne (nD _ _ e)];exact e) (fun b ps e=>⟨#[],by rw[upd_ne (nD _ _ e),e];simp⟩) (fun m hm=>hm) (fun b u e=>by
   by_cases hb:b=D
   ·subst hb
    rw[ah] at e
    cases e
    exact⟨hz,its,n,hv,hg⟩
   ·rw[upd_ne hb] at e
    exact(I.hok b u e).stay (fun _ _ _ q=>q) (fun c q=>by rw[upd_ne (nD _ _ q)];exact q) fun c xs q=>by rw[upd_ne (nD _ _ q)];exact q) I.bare
 exact J
theorem a0.pinned {b:Addr}{pl:List (Addr×Obj)}(f:a0 X pins H b)(h:∀ p∈pl,p.1≠b):a0 X (pins++pl) H b:=by
 obtain⟨f1,f2,f3,f4,f5,f6⟩:=f
 refine⟨f1,f2,f3,f4,f5,fun p hp=>?_⟩
 rcases List.mem_append.mp hp with hp|hp
 ·exact f6 p (AJ _ hp)
 ·rcases List.mem_append.mp hp with hp|hp
  ·exact f6 p (Au _ hp)
  ·exact h p hp
theorem a0.on {b:Addr}{H':Hp}(f:a0 X pins H b)(h:H' b=none):a0 X pins H' b:=⟨h,f.2⟩
theorem ac.wr {b:Addr}{h':Heap}{t':Nat}(I:ac X pins σ H s)(f:a0 X pins H b)(k:∀ c o,c≠b->s.heap.get? c=some o->h'.get? c=some o):ac X pins σ H { s with heap:=h',toks:=t' } :=
 I.turned k f.1 f.2.1 f.2.2.2.1 f.2.2.2.2.1 f.2.2.2.2.2
theorem jz {h:Heap}{b:Addr}{f:Obj->Obj}:∀ c o,c≠b->h.get? c=some o->(h.update b f).get? c=some o:=fun c o hc e=>by
 rw[B4 _ _ _ _ hc]
 exact e
end
abbrev kd (pins:List (Addr×Obj))(kS D:Addr)(ks:List Value)(e e1:Nat):List (Addr×Obj):=pins++[(kS,Ez "list" ks.toArray e),(D,Ez "list" #[] e1)]
section
variable {X:Cx}{pins:List (Addr×Obj)}{σ:St}{H:Hp}{s:CW}{kS D:Addr}{its:List Value}{xs:List V}{f:Value}{Q:VK}
structure vc (X:Cx)(n:Nat)(ks:List Value)(s:CW)(κ:SortKind)(lt:Nat->Nat->Bool):Prop where
 ord:Srt.Ord lt
 kind:2<=n->∀ Q:SortKind->CW->Prop,Q κ s->wpAny (model X.prog X.w) X.A.in1.in1 (keyKind' ks.toArray) Q (fun _ _=>False) s
 ask:∀ i j (C:Bool->CW->Prop),i<n->j<n->C (lt i j) s->W.kas_ask X.prog X.w X.A.in1.in1 κ ks i j C s
def mL (X:Cx)(xs:List V)(Q:VK)(J:Nat->Hp->List Value->Prop):Prop:=∀ (pins:List (Addr×Obj)) (σ:St) (H:Hp) (s:CW) (ks:List Value),J xs.length H ks->ks.length=xs.length->ac (inn X) pins σ H s->∃ κ lt,vc X xs.length ks s κ lt /\
 ∀ p:List Nat,p.Perm (AG xs.length)->p.Pairwise (Srt.R lt)->∀ D,H D=none->Q (.ref D) (upd H D (.lst (p.map fun i=>xs.getD i .non)))
theorem pL {xs:List V}{its:List Value}(r:au xs its):∀ (p:List Nat),(∀ i∈p,i<xs.length)->au (p.map fun i=>xs.getD i .non) (p.map fun i=>its.getD i Value.none)
 | [],_=>.nil
 | i::p,h=>by
  have hi:=h i AF
  refine .cons ?_ (pL r p fun j hj=>h j (AD _ hj))
  obtain⟨u,e,ru⟩:=r.get (As hi)
  show aw (xs.getD i .non) (its.getD i Value.none)
  rw[Az,Az,e,As hi]
  exact ru
theorem pi {out:List Value}{ys:List V}{ks:List Value}{e e1:Nat}{st:SortSt}{E:Value->CW->Prop}(ok:X.Ok)(I:ac (inn X) (kd pins kS D ks e e1) σ H s)(fk:a0 (inn X) pins H kS)(fD:a0 (inn X) pins H D)(hne:kS≠D)(hz:out.length<64)(hkz:ks.length<64)
  (hout:(arrOf st).map (·.2)=AN out) (hf:failedOf st=none) (hv:au ys out) (q:Q (.ref D) (upd H D (.lst ys))) :
  wpAny (model X.prog X.w) X.A.in1.in1 (ksk_tail D false e1 (.ref kS) st) (fun fin s'=>fin=.done (.ret .none)/\EP X pins σ Q (.ref D) s') E s:=by
 have pk:=I.pin (kS,Ez "list" ks.toArray e) (by simp)
 have pD:=I.pin (D,Ez "list" #[] e1) (by simp)
 have I0:ac (inn X) pins σ H s:=I.pins_of fun p hp=>I.pin p (Au _ (AJ _ hp))
 unfold ksk_tail
 try dsimp only
 rw[hout]
 refine Df (EA pk.1 rfl ?_ (by rw[At,Dq];omega) (B9 _))
 refine Df (wpAny_letGo ?_)
 have gD:(s.heap.update kS (Obj.mapSeq fun _=>(#[]:Array Value))).get? D=some (Ez "list" #[] e1):=jz D _ (Ne.symm hne) pD.1
 refine Df (seqEpoch_at gD rfl ?_)
 refine Df (EA gD rfl ?_ (B9 _) (by simp only[Bool.false_eq_true,if_false];rw[At,Dq];omega))
 rw[hf]
 simp only[bne_self_eq_false,Bool.false_eq_true,if_false]
 have I1:=I0.wr (t':=s.toks) fk (h':=s.heap.update kS (Obj.mapSeq fun _=>(#[]:Array Value))) jz
 have I2:=I1.wr (t':=s.toks) fD (h':=(s.heap.update kS (Obj.mapSeq fun _=>(#[]:Array Value))).update D (Obj.mapSeq fun _=>AN out)) jz
 obtain⟨c2,hc2⟩:∃ c2,((s.heap.update kS (Obj.mapSeq fun _=>(#[]:Array Value))).update D (Obj.mapSeq fun _=>AN out)).get? D=some (Ez "list" (AN out) c2):=⟨_,EB gD fun _=>AN out⟩
 have I3:=I2.track (ys:=ys) (its:=out) (n:=c2) fD hc2 hv (by rw[hv.length,Dq];omega)
 exact Ds ⟨rfl,.ref D,_,ac.out ok I3,rfl,q⟩
theorem ug {J:Nat->Hp->List Value->Prop}{ks:List Value}{e e1:Nat}{E:Value->CW->Prop}(ok:X.Ok)(I:ac (inn X) (kd pins kS D ks e e1) σ H s)(fk:a0 (inn X) pins H kS)(fD:a0 (inn X) pins H D)(hne:kS≠D)(h64:its.length<64)
  (rv:au xs its) (hk:ks.length=xs.length) (hJ:J xs.length H ks) (h:mL X xs Q J) :
  wpAny (model X.prog X.w) X.A.in1.in1 (ksk_end D false its.toArray e1 (.ref kS) ks.toArray) (fun fin s'=>fin=.done (.ret .none)/\EP X pins σ Q (.ref D) s') E s:=by
 have hl:=rv.length
 obtain⟨κ,lt,ha,q⟩:=h _ _ _ _ ks hJ hk I
 unfold ksk_end
 try dsimp only
 simp only[Bool.false_eq_true,if_false]
 by_cases h2:its.toArray.size<2
 ·rw[if_pos h2,if_pos h2]
  refine Df (Ds ?_)
  rw[StateT.run_pure]
  refine Df (Ds ?_)
  try dsimp only
  rw[At] at h2
  have ep:(AG xs.length).map (fun i=>xs.getD i .non)=xs:=by
   refine Bv (by simp) fun i h1 h2=>?_
   simp at h1
   simp[h1]
  have q0:=q (AG xs.length) (List.Perm.refl _) (by
   rcases Cb xs.length 1 with z|z
   ·rw[show xs.length=0 by omega];exact List.Pairwise.nil
   ·rw[show xs.length=1 by omega];exact BH _ _) D fD.1
  rw[ep] at q0
  refine pi (st:=SortSt.mk' general' (ks.toArray.zip its.toArray) #[] 7 none) ok I fk fD hne h64 (by omega) ?_ rfl rv q0
  show (ks.toArray.zip its.toArray).map (·.2)=its.toArray
  apply Array.toList_inj.mp
  rw[Array.toList_map,ksk_zip]
  simp only[List.toList_toArray]
  exact List.map_snd_zip (by omega)
 ·rw[if_neg h2,if_neg h2]
  rw[At] at h2
  refine Df (C1 (ha.kind (by omega) (fun κ' s'=>κ'=κ/\s'=s) ⟨rfl,rfl⟩) (fun κ' s' hκ=>?_) fun _ _ x=>x.elim)
  obtain⟨rfl,rfl⟩:=hκ
  have so:=Srt.good_wp (Q:=fun p s''=>s''=s'/\Srt.Pm its.length p its.length/\Srt.Asc lt p its.length) (s:=s') (cmp:=W.kas_ask X.prog X.w X.A.in1.in1 κ' ks) (fun i j C hi hj hC=>ha.ask i j C (by omega) (by omega) hC)
   (W.kas_sort its.length) (Srt.good_mono (fun p hp=>⟨rfl,hp⟩) _ (Srt.sort_ok ha.ord (by omega)))
  refine Df (C1 (W.kat_run (Q:=fun st' s''=>∃ p:Array Nat,arrOf st'=p.map (W.kas_item (ks.toArray.zip its.toArray))/\failedOf st'=none/\s''=s'/\Srt.Pm its.length p its.length/\Srt.Asc lt p its.length)
   (by omega) (by omega) h64 (fun p' st' s'' a1 a2 a3 a4=>⟨p',a2,a3,a4⟩) so) ?_ fun _ _ x=>x)
  rintro⟨⟨⟩,st'⟩ s'' ⟨p,har,hf,rfl,hp,hasc⟩
  try dsimp only
  obtain⟨o1,o2⟩:=Srt.out_ok hp hasc
  rw[<-hl] at o1
  have hlt:∀ i∈p.toList,i<xs.length:=fun i hi=>List.mem_range.mp (o1.mem_iff.mp hi)
  refine pi (out:=p.toList.map fun i=>its.getD i Value.none) (ys:=p.toList.map fun i=>xs.getD i .non) ok I fk fD hne ?_ (by omega) (W.kat_snds (by omega) har) hf (pL rv _ hlt) (q _ o1 o2 D fD.1)
  rw[Ar,Cr,hp.sz]
  exact h64
theorem xm {J:Nat->Hp->List Value->Prop}{e1:Nat}{E:Value->CW->Prop}(ok:X.Ok)(I:ac (inn X) (kd pins kS D [] 0 e1) σ H s)(fk:a0 (inn X) pins H kS)(fD:a0 (inn X) pins H D)(hne:kS≠D)(h64:its.length<64)
  (rv:au xs its) (hJ:J 0 H []) (turn:∀ (i:Nat) (x:V) (v:Value) (pins:List (Addr×Obj)) (σ:St) (H:Hp) (s:CW) (ks:List Value),xs[i]?=some x->aw x v->J i H ks->ks.length=i->ac (inn X) pins σ H s ->
   wpAny (model X.prog X.w) X.A.in1.in1 (call f [v]) (fun u s2=>∃ H2,ac (inn X) pins σ H2 s2/\J (i+1) H2 (ks++[u])) (fun _ _=>False) s) (h:mL X xs Q J) :
  wpAny (model X.prog X.w) X.A.in1.in1 (ksk_rest D f false its.toArray e1 (.ref kS)) (fun fin s'=>fin=.done (.ret .none)/\EP X pins σ Q (.ref D) s') E s:=by
 have hl:=rv.length
 unfold ksk_rest
 refine Df (EC ?_)
 rw[List.forIn_toArray]
 refine Df (ksk_fold (fun i s'=>∃ H' ks e,J i H' ks/\ks.length=i/\ac (inn X) (kd pins kS D ks e e1) σ H' s') its 0 s ⟨H,[],0,hJ,rfl,I⟩ ?step ?done)
 case step =>
  rintro j v s' hv ⟨H',ks,e,hJ',hk,I'⟩
  simp only[Co] at hJ' hk ⊢
  have hj:j<its.length:=(List.getElem?_eq_some_iff.mp hv).1
  have hx:xs[j]?=some (xs[j]'(by omega)):=As _
  obtain⟨u,eu,ru⟩:=rv.get hx
  rw[hv] at eu
  cases eu
  refine Df (ED (C1 (turn j _ v _ _ _ _ ks hx ru hJ' hk I') (fun u s2 hu=>?_) fun _ _ hF=>hF.elim))
  obtain⟨H2,I2,J2⟩:=hu
  try dsimp only
  have pk:=I2.pin (kS,Ez "list" ks.toArray e) (by simp)
  have pD:=I2.pin (D,Ez "list" #[] e1) (by simp)
  have I3:ac (inn X) (pins++[(D,Ez "list" #[] e1)]) σ H2 s2:=I2.pins_of fun p hp=>I2.pin p (by
   refine Au _ ?_
   rcases List.mem_append.mp hp with z|z
   ·exact AJ _ z
   ·exact Au _ (.tail _ z))
  refine Df (EA pk.1 rfl ?_ (by rw[At,Dq];omega) (Ca (Cm (Array.size_push ..)) (by rw[At,Dq];omega)))
  have ea:(AN ks).push u=AN (ks++[u]):=by simp
  obtain⟨c2,hc2⟩:∃ c2,(s2.heap.update kS (Obj.mapSeq (·.push u))).get? kS=some (Ez "list" (AN (ks++[u])) c2):=⟨_,by rw[<-ea];exact EB pk.1 (·.push u)⟩
  have I4:=I3.wr (t':=s2.toks) ((fk.on pk.2.1).pinned fun p hp=>by rw[List.mem_singleton.mp hp];exact Ne.symm hne) (h':=s2.heap.update kS (Obj.mapSeq (·.push u))) jz
  refine Ds ⟨rfl,H2,ks++[u],c2,J2,by rw[AB,A6,hk],I4.pins_of fun p hp=>?_⟩
  rcases List.mem_append.mp hp with z|z
  ·exact I4.pin p (Au _ (AJ _ z))
  ·rcases List.mem_cons.mp z with rfl|z
   ·exact⟨hc2,pk.2.1,pk.2.2.1,pk.2.2.2.1,fun v e=>nomatch e⟩
   ·exact I4.pin p (Au _ (Au _ z))
 case done =>
  rintro s' ⟨H',ks,e,hJ',hk,I'⟩
  rw[Co,<-hl] at hJ' hk
  have pk:=I'.pin (kS,Ez "list" ks.toArray e) (by simp)
  have pD:=I'.pin (D,Ez "list" #[] e1) (by simp)
  try dsimp only
  refine Df (listItems_at pk.1 rfl ?_)
  exact ug ok I' (fk.on pk.2.1) (fD.on pD.2.1) hne h64 rv hk hJ' h
theorem uB {J:Nat->Hp->List Value->Prop}{l q:Addr}(I:ac X pins σ H s)(hl:aS X.K H l xs)(h64:xs.length<64)
  (hJ:J 0 H []) (turn:∀ (i:Nat) (x:V) (v:Value) (pins:List (Addr×Obj)) (σ:St) (H:Hp) (s:CW) (ks:List Value),xs[i]?=some x->aw x v->J i H ks->ks.length=i->ac (inn X) pins σ H s ->
   wpAny (model X.prog X.w) X.A.in1.in1 (call (.ref q) [v]) (fun u s2=>∃ H2,ac (inn X) pins σ H2 s2/\J (i+1) H2 (ks++[u])) (fun _ _=>False) s) (h:mL X xs Q J) :
  wpAny (model X.prog X.w) X.A (call (.builtin "sorted") [.ref l] [(Str.ofString "key",.ref q)]) (EP X pins σ Q) X.xe s:=by
 obtain⟨its,rv,hIl,hzl⟩:=I.list hl
 have hlen:=rv.length
 have h64':its.length<64:=by omega
 refine call_function_entry_kw kind_sorted EE EF (ksk_s1 _ _) ?_
 unfold Builtin.«sorted»
 refine Df (m:=checkCount "sorted" 1 1 _) (Ds ?_)
 refine Df (collect_list hIl.isList ?_ (by rw[Dq];omega))
 refine Df (EG ?_ (by rw[Dq];omega))
 have hsz:((s.heap.push (Ez "list" #[] 0)).update s.heap.objs.size (Obj.mapSeq (·++its.toArray))).objs.size=s.heap.objs.size+1:=by
  rw[Heap.size_update,EH]
 have hoL:(((s.heap.push (Ez "list" #[] 0)).update s.heap.objs.size (Obj.mapSeq (·++its.toArray))).push (Ez "list" its.toArray 0)).get? (s.heap.objs.size+1)=some (Ez "list" its.toArray 0):=by
  rw[<-hsz];exact BZ _ rfl
 have keep:∀ b o,s.heap.get? b=some o->(((s.heap.push (Ez "list" #[] 0)).update s.heap.objs.size (Obj.mapSeq (·++its.toArray))).push (Ez "list" its.toArray 0)).get? b=some o:=fun b o q=>by
  have hlt:b<s.heap.objs.size:=BX q
  rw[B5 _ _ _ (by rw[hsz];exact B7 (Cf hlt)),B4 _ _ _ _ (B7 hlt),B5 _ _ _ (B7 hlt)]
  exact q
 show wpAny _ _ _ _ _ { s with heap:=((s.heap.push (Ez "list" #[] 0)).update s.heap.objs.size (Obj.mapSeq (·++its.toArray))).push (Ez "list" its.toArray 0) }
 rw[hsz]
 have fD:a0 (inn X) pins H (s.heap.objs.size+1):=I.inn.fpOk (Cd _) (I.hok.fresh (Cd _))
 have I1:=I.inn.kept (t':=s.toks) keep
 refine Df (Dg (wpAny_call_entry_kw EI ⟨_,hoL,rfl⟩ EJ ?body (ksk_l1 _ _)))
 case body =>
  show wpAny (model X.prog X.w) X.A.in1.in1 (Builtin.«list.sort» ⟨[.ref (s.heap.objs.size+1)],_⟩) _ _ _
  rw[ksk_t1]
  unfold ksk_tree
  refine Df (listItems_at hoL rfl ?_)
  refine Df (EA hoL rfl ?_ (by rw[At,Dq];omega) (B9 _))
  obtain⟨e1,ho1⟩:∃ e1,((((s.heap.push (Ez "list" #[] 0)).update s.heap.objs.size (Obj.mapSeq (·++its.toArray))).push (Ez "list" its.toArray 0)).update (s.heap.objs.size+1) (Obj.mapSeq fun _=>(#[]:Array Value))).get? (s.heap.objs.size+1)=some (Ez "list" #[] e1):=⟨_,EB hoL fun _=>#[]⟩
  have I2:=I1.wr (t':=s.toks) fD (h':=(((s.heap.push (Ez "list" #[] 0)).update s.heap.objs.size (Obj.mapSeq (·++its.toArray))).push (Ez "list" its.toArray 0)).update (s.heap.objs.size+1) (Obj.mapSeq fun _=>(#[]:Array Value))) jz
  generalize hh:(((s.heap.push (Ez "list" #[] 0)).update s.heap.objs.size (Obj.mapSeq (·++its.toArray))).push (Ez "list" its.toArray 0)).update (s.heap.objs.size+1) (Obj.mapSeq fun _=>(#[]:Array Value))=h2 at *
  refine Df (seqEpoch_at ho1 rfl ?_)
  refine Df (wpAny_newTuple ?_ (by show its.length<=_;rw[Dq];omega))
  refine Df (EG ?_ (B9 _))
  refine Dg ?_
  have hlt:s.heap.objs.size+1<h2.objs.size:=BX ho1
  have k3:∀ b o,h2.get? b=some o->((h2.push (Ez "tuple" its.toArray 0)).push (Ez "list" #[] 0)).get? b=some o:=fun b o q=>BY _ (BY _ q)
  have I3:=I2.kept (t':=s.toks) (h':=(h2.push (Ez "tuple" its.toArray 0)).push (Ez "list" #[] 0)) k3
  have hkS:(h2.push (Ez "tuple" its.toArray 0)).objs.size=h2.objs.size+1:=EH _ _
  have fk:a0 (inn X) pins H (h2.push (Ez "tuple" its.toArray 0)).objs.size:=I2.fpOk (by show h2.objs.size<=_;rw[hkS];exact Cd _) (I2.hok.fresh (by show h2.objs.size<=_;rw[hkS];exact Cd _))
  refine C1 (xm (s:={ s with heap:=(h2.push (Ez "tuple" its.toArray 0)).push (Ez "list" #[] 0) }) (kS:=(h2.push (Ez "tuple" its.toArray 0)).objs.size) (D:=s.heap.objs.size+1) (σ:=σ) (e1:=e1) (f:=.ref q) I.ok ?_ fk fD (Cc (by rw[hkS];omega)) h64' rv hJ turn h) (fun fin s' hq=>?_) fun _ _ x=>x
  ·refine I3.pins_of fun p hp=>?_
   rcases List.mem_append.mp hp with z|z
   ·exact I3.pin p (Au _ z)
   ·rcases List.mem_cons.mp z with rfl|z
    ·exact⟨BZ _ rfl,fk.1,fk.2.1,fk.2.2.1,fun v e=>nomatch e⟩
    ·rw[List.mem_singleton.mp z]
     exact⟨k3 _ _ ho1,fD.1,fD.2.1,fD.2.2.1,fun v e=>nomatch e⟩
  ·obtain⟨rfl,hq⟩:=hq
   exact⟨_,rfl,Ds ⟨_,rfl,hq⟩⟩
end
end L2
namespace Srt
open PySem
abbrev Pl:=Int×Str
def plt (a b:Pl):Bool:=if a.1=b.1 then decide (a.2.cps.toList<b.2.cps.toList) else decide (a.1<b.1)
theorem plt_asym {a b:Pl}(h:plt a b=true):plt b a=false:=by
 unfold plt at h ⊢
 by_cases e:a.1=b.1
 ·rw[if_pos e] at h
  rw[if_pos e.symm]
  exact decide_eq_false (List.lt_asymm (of_decide_eq_true h))
 ·rw[if_neg e] at h
  rw[if_neg (Ne.symm e)]
  have:=of_decide_eq_true h
  exact decide_eq_false (by omega)
theorem plt_irr (a:Pl):plt a a=false:=by
 cases h:plt a a with
 | false=>rfl
 | true=>exact(plt_asym h).symm.trans h▸rfl
theorem plt_tr {a b c:Pl}(h:plt b a=false)(h':plt c b=false):plt c a=false:=by
 unfold plt at h h' ⊢
 by_cases e:b.1=a.1 <;> by_cases e':c.1=b.1
 ·rw[if_pos e] at h
  rw[if_pos e'] at h'
  rw[if_pos (e'.trans e)]
  have h1:=List.not_lt.mp (of_decide_eq_false h)
  have h2:=List.not_lt.mp (of_decide_eq_false h')
  exact decide_eq_false (List.not_lt.mpr (List.le_trans h1 h2))
 ·rw[if_neg e'] at h'
  have:=of_decide_eq_false h'
  rw[if_neg (by omega)]
  exact decide_eq_false (by omega)
 ·rw[if_neg e] at h
  have:=of_decide_eq_false h
  rw[if_neg (by omega)]
  exact decide_eq_false (by omega)
 ·rw[if_neg e] at h
  rw[if_neg e'] at h'
  have:=of_decide_eq_false h
  have:=of_decide_eq_false h'
  rw[if_neg (by omega)]
  exact decide_eq_false (by omega)
theorem plt_one {a b:Pl}(h:plt a b=false)(h':plt b a=false):a=b:=by
 unfold plt at h h'
 by_cases e:a.1=b.1
 ·rw[if_pos e] at h
  rw[if_pos e.symm] at h'
  have h1:=List.not_lt.mp (of_decide_eq_false h)
  have h2:=List.not_lt.mp (of_decide_eq_false h')
  have h3:=List.le_antisymm h2 h1
  obtain⟨a1,⟨⟨a2⟩⟩⟩:=a
  obtain⟨b1,⟨⟨b2⟩⟩⟩:=b
  cases e
  cases h3
  rfl
 ·rw[if_neg e] at h
  rw[if_neg (Ne.symm e)] at h'
  have:=of_decide_eq_false h
  have:=of_decide_eq_false h'
  exact absurd (show a.1=b.1 by omega) e
def ltOf (es:List Pl)(i j:Nat):Bool:=plt (es.getD i (0,⟨#[]⟩)) (es.getD j (0,⟨#[]⟩))
theorem ltOf_ord (es:List Pl):Ord (ltOf es):=⟨plt_asym,plt_tr⟩
end Srt
namespace L2
open PySem PySem.Spec PyProof.Rows
abbrev xy (H:Hp)(xs:List V)(es:List Srt.Pl):Prop:=Paired (fun x (e:Srt.Pl)=>∃ a r,x=.ref a/\H a=some (.tup (.int e.1::.str e.2::r))) xs es
inductive jy (vs:List V)(H:Hp)(Q:VK)(E:XK):Prop
 | mk (a:Addr)(m:Int)(k:Str)(r:List V)(h0:vs=[.ref a])(h1:H a=some (.tup (.int m::.str k::r)))(q:∀ t,H t=none->Q (.ref t) (upd H t (.tup [.int m,.str k]))):jy vs H Q E
def PJ (H0:Hp)(es:List Srt.Pl)(i:Nat)(H:Hp)(ks:List Value):Prop :=
 aa H0 H/\Paired (fun (u:Value) (e:Srt.Pl)=>∃ t,u=.ref t/\H t=some (.tup [.int e.1,.str e.2])) ks (es.take i)
section
variable {X:Cx}{pins:List (Addr×Obj)}{σ:St}{H:Hp}{s:CW}
theorem mQ (I:ac X pins σ H s){t:Addr}{m:Int}{k:Str}(h:H t=some (.tup [.int m,.str k])):∃ o n tm tk,s.heap.get? t=some o/\o.cls=.type "tuple"/\o.data=.seq #[.int m tm,.str k tk] n:=by
 obtain⟨_,its,rv,o,ho,hc,n,hd⟩:=I.hok t _ h
 obtain⟨u,v,rfl,⟨tm,rfl⟩,⟨tk,rfl⟩⟩:=gO rv
 exact⟨o,n,tm,tk,ho,hc,hd⟩
theorem vW (I:ac X pins σ H s){A:Around}{t t':Addr}{e e':Srt.Pl}(h:H t=some (.tup [.int e.1,.str e.2]))(h':H t'=some (.tup [.int e'.1,.str e'.2])){C:Bool->CW->Prop}{E:Value->CW->Prop}(q:C (Srt.plt e e') s) :
  wpAny (model X.prog X.w) A (keyLt' (tuples' true) (.ref t) (.ref t')) C E s:=by
 obtain⟨o,n,tm,tk,ho,hc,hd⟩:=mQ I h
 obtain⟨o',n',tm',tk',ho',hc',hd'⟩:=mQ I h'
 refine W.kat_lt ho hd ho' hd' ?_
 refine W.kat_cons (wpAny_eqBool_int (W.kat_go (fun e1=>W.kat_yes ?_) fun e1=>W.kat_no ?_))
 ·have e1':e.1=e'.1:=by simpa using e1
  refine W.kat_cons (wpAny_eqBool_str (W.kat_go (fun e2=>W.kat_yes (W.kat_nil ?_)) fun e2=>W.kat_no ?_))
  ·have e2':e.2=e'.2:=by simpa using e2
   have e3:Srt.plt e e'=false:=by
    unfold Srt.plt
    rw[if_pos e1',e2']
    exact decide_eq_false (List.lt_irrefl _)
   rw[e3] at q
   exact q
  ·have e3:Srt.plt e e'=decide (e.2.cps.toList<e'.2.cps.toList):=by
    unfold Srt.plt
    rw[if_pos e1']
   rw[e3] at q
   exact W.kat_one _ _ (lt_str q)
 ·have e1':¬ e.1=e'.1:=by simpa using e1
  have e3:Srt.plt e e'=decide (e.1<e'.1):=by
   unfold Srt.plt
   rw[if_neg e1']
  rw[e3] at q
  exact oneLt_int q
theorem nN (I:ac X pins σ H s):∀ {ks:List Value}{es:List Srt.Pl},Paired (fun (u:Value) (e:Srt.Pl)=>∃ t,u=.ref t/\H t=some (.tup [.int e.1,.str e.2])) ks es->∃ fs,W.KatTups s.heap ks fs/\fs.length=ks.length/\∀ v∈fs,∃ m tm,v=Value.int m tm
 | _,_,.nil=>⟨[],.nil,rfl,fun v h=>nomatch h⟩
 | _,_,.cons ⟨t,e,h⟩ r=>by
  obtain⟨fs,h1,h2,h3⟩:=nN I r
  obtain⟨o,n,tm,tk,ho,hc,hd⟩:=mQ I h
  subst e
  refine⟨_::fs,.cons ho hc hd rfl h1,by rw[Ay,Ay,h2],fun v hv=>?_⟩
  rcases List.mem_cons.mp hv with rfl|hv
  ·exact⟨_,_,rfl⟩
  ·exact h3 v hv
theorem Paired.getR {α β:Type}{F:α->β->Prop}:∀ {xs:List α}{ys:List β}{i:Nat}{y:β},Paired F xs ys->ys[i]?=some y->∃ x,xs[i]?=some x/\F x y
 | _,_,_,_,.nil,e=>by simp at e
 | _,_,0,_,.cons r _,e=>by simp at e;subst e;exact⟨_,rfl,r⟩
 | _,_,i+1,y,.cons _ t,e=>by
  obtain⟨u,h1,h2⟩:=Paired.getR (i:=i) (y:=y) t (by simpa using e)
  exact⟨u,by simpa using h1,h2⟩
theorem Paired.snoc {α β:Type}{F:α->β->Prop}{x:α}{y:β}(h:F x y):∀ {xs:List α}{ys:List β},Paired F xs ys->Paired F (xs++[x]) (ys++[y])
 | _,_,.nil=>.cons h .nil
 | _,_,.cons r t=>.cons r (Paired.snoc h t)
inductive kT (K:W.Frag)(vs:List V)(H:Hp)(Q:VK):Prop
 | mk (l:Addr)(xs:List V)(es:List Srt.Pl)(h0:vs=[.ref l])(h1:aS K H l xs)(h2:xs.length<64)(h3:xy H xs es)
  (q:∀ D H' (p:List Nat),aa H H'->H D=none->H' D=some (.lst (p.map fun i=>xs.getD i .non))->p.Perm (AG xs.length)->p.Pairwise (Srt.R (Srt.ltOf es))->Q (.ref D) H'):kT K vs H Q
theorem yu {k k':Nat}{kf pn:Str}{vs:List V}{us:List Value}{Q:VK}{f:Addr}{fd:Dw}(F:ce X.prog X.w X.K X.mg X.base cD k f fd [pn] jy)(hb:bJ X.K fd [pn] [])(hr:aZ (k+2) X.A)
  (I:ac X pins σ H s) (r:au vs us) (h:kT X.K vs H Q):wpAny (model X.prog X.w) X.A (call (.builtin "sorted") us [(Str.ofString "key",.ref f)]) (EP X pins σ Q) X.xe s:=by
 obtain⟨l,xs,es,rfl,hl,h64,hp,q⟩:=h
 obtain⟨u,rfl,ru⟩:=cv r
 cases ru
 have hlen:xs.length=es.length:=hp.length
 refine uB (J:=PJ H es) I hl h64 ⟨aa.refl _,by rw[Bw];exact .nil⟩ (fun i x v pins σ H' s ks hx rx hJ hk J=>?_) fun pins σ H' s ks hJ hk J=>?_
 ·obtain⟨hs,hP⟩:=hJ
  obtain⟨e,he,a,rr,rfl,ha⟩:=Paired.get hp hx
  cases rx
  have run:=jD (X:=inn X) (k:=k) (f:=f) (fd:=fd) (ps:=[pn]) (sp:=jy) (dvs:=[]) (ds:=[]) (E:=E0) (CX:=cD) (us:=[Value.ref a]) (vs:=[V.ref a]) (Q:=fun v H2=>∃ t,v=.ref t/\aa H' H2/\H2 t=some (.tup [.int e.1,.str e.2])) F hr.in1.in1 hb .nil iq J (.cons rfl .nil)
   ⟨a,e.1,e.2,rr,rfl,hs _ _ ha,fun t ht=>⟨t,rfl,aa.upd ht,ah⟩⟩
  refine ai run fun u s2 hu=>?_
  obtain⟨v,H2,J2,rv,t,rfl,s2',ht⟩:=hu
  cases rv
  refine⟨H2,J2,hs.trans s2',?_⟩
  rw[Aw,he]
  exact Paired.snoc ⟨t,rfl,ht⟩ (Paired.mapP hP fun _ _ ⟨t',e1,e2⟩=>⟨t',e1,s2' _ _ e2⟩)
 ·obtain⟨hs,hP⟩:=hJ
  rw[AL (by omega)] at hP
  refine⟨tuples' true,Srt.ltOf es,⟨Srt.ltOf_ord es,fun h2 Q hQ=>?_,fun i j C hi hj hC=>?_⟩,fun p p1 p2 D hD=>q D _ p (hs.trans (aa.upd hD)) (hs.free hD) ah p1 p2⟩
  ·obtain⟨fs,t1,t2,t3⟩:=nN J hP
   refine W.kat_kind (T:=.type "int") t1 (by omega) (fun v hv=>?_) (by decide +kernel) ?_
   ·obtain⟨m,tm,rfl⟩:=t3 v hv
    exact W.Looks.of_pure rfl
   ·exact hQ
  ·have hi':es[i]?=some es[i]:=As (by omega)
   have hj':es[j]?=some es[j]:=As (by omega)
   obtain⟨u,eu,t,rfl,ht⟩:=Paired.getR hP hi'
   obtain⟨u',eu',t',rfl,ht'⟩:=Paired.getR hP hj'
   unfold W.kas_ask
   rw[Az,Az,eu,eu']
   refine vW J ht ht' ?_
   unfold Srt.ltOf at hC
   rw[Az,Az,hi',hj'] at hC
   exact hC
end
section
variable {X:Cx}{k:Nat}{kf pn:Str}{e:Expr}{t:TA}{p pos kp kpos:Pos}
theorem vd (K:W.Frag)(h:aP X.prog X.w X.K X.mg X.base k kf [pn] jy)(hr:aZ (k+2) X.A)(hm:X.mg "sorted"=none)(ha:PA X [e] t)(ek:X.K=K:=by rfl)(hg:Gl X "sorted":=by rfl)(hg2:Gl X kf:=by rfl)(hdb:(kf == ("__debug__" : Str))=false:=by decide)
  (he:CZ pos (C0 [e] X.env)=(false,eval e X.env)::CZ pos (C0 [] X.env):=by rfl) (hpl:(CZ pos (C0 [e] X.env)).any (·.1)=false:=by rfl) :
  PE X (.Call (.Name "sorted" p) [e] [⟨some "key",.Name kf kp,kpos⟩] pos) (fun σ H Q=>t σ H fun vs H1=>kT K vs H1 Q):=by
 subst ek
 refine⟨?_⟩
 intro pins s σ H Q I hq
 obtain⟨f,fd,F,hmf,kpn,hb⟩:=h
 refine DG (iK I hg hm EK ?_ (by decide) (by decide))
 refine callWith_kw (ai (ha pos pins s σ H _ I hq) fun us s1 ⟨vs,H1,I1,r,q⟩=>?_) he hpl
 refine ai ((zD (nm:=some "key") (kpos:=kpos) (nU (pos:=kp) hg2 hmf (v:=.ref f) rfl hdb) yZ) pos pins s1 σ H1 (fun zs H2=>zs=[.ref f]/\H2=H1) I1 ⟨rfl,rfl⟩) fun ws s2 ⟨zs,H2,I2,r2,e1,e2⟩=>?_
 subst e1 e2
 obtain⟨u,rfl,ru⟩:=cv r2
 cases ru
 exact yu (kf:=kf) (k':=0) F hb hr I2 r q
end
end L2
namespace L2
open PySem PySem.Spec PyProof.Rows
mutual
def am (H:Hp):PyData->V->Prop
 | .none,v=>v=.non
 | .bool b,v=>v=.bl b
 | .int i,v=>v=.int i
 | .str x,v=>v=.str x
 | .list ds,v=>∃ a xs,v=.ref a/\H a=some (.lst xs)/\ay H ds xs
 | .tuple ds,v=>∃ a xs,v=.ref a/\H a=some (.tup xs)/\ay H ds xs
 | .dict _,_=>False
def ay (H:Hp):List PyData->List V->Prop
 | [],xs=>xs=[]
 | d::ds,xs=>∃ x r,xs=x::r/\am H d x/\ay H ds r
end
mutual
theorem am.same {H H':Hp}(s:∀ b o,H b=some o->H' b=some o):∀ (d:PyData) (v:V),am H d v->am H' d v
 | .none,v,h=>by unfold am at h ⊢;exact h
 | .bool _,v,h=>by unfold am at h ⊢;exact h
 | .int _,v,h=>by unfold am at h ⊢;exact h
 | .str _,v,h=>by unfold am at h ⊢;exact h
 | .list ds,v,h=>by
  unfold am at h ⊢
  obtain⟨a,xs,e,h1,h2⟩:=h
  exact⟨a,xs,e,s _ _ h1,ay.same s ds xs h2⟩
 | .tuple ds,v,h=>by
  unfold am at h ⊢
  obtain⟨a,xs,e,h1,h2⟩:=h
  exact⟨a,xs,e,s _ _ h1,ay.same s ds xs h2⟩
 | .dict _,v,h=>by unfold am at h;exact h.elim
theorem ay.same {H H':Hp}(s:∀ b o,H b=some o->H' b=some o):∀ (ds:List PyData) (xs:List V),ay H ds xs->ay H' ds xs
 | [],xs,h=>by unfold ay at h ⊢;exact h
 | d::ds,xs,h=>by
  unfold ay at h ⊢
  obtain⟨x,r,e,h1,h2⟩:=h
  exact⟨x,r,e,am.same s d x h1,ay.same s ds r h2⟩
end
section
variable {X:Cx}{pins:List (Addr×Obj)}{σ:St}{H:Hp}{s:CW}
mutual
theorem am.reads (I:ac X pins σ H s):∀ (d:PyData) (v:V) (u:Value),aw v u->am H d v->∃ as,Reads s.heap u d as
 | .none,v,u,r,h=>by unfold am at h;subst h;cases r;exact⟨_,.none⟩
 | .bool b,v,u,r,h=>by unfold am at h;subst h;cases r;exact⟨_,.bool b⟩
 | .int i,v,u,r,h=>by unfold am at h;subst h;obtain⟨t,rfl⟩:=r;exact⟨_,.int i t⟩
 | .str x,v,u,r,h=>by unfold am at h;subst h;obtain⟨t,rfl⟩:=r;exact⟨_,.str x t⟩
 | .list ds,v,u,r,h=>by
  unfold am at h
  obtain⟨a,xs,rfl,h1,h2⟩:=h
  cases r
  obtain⟨_,its,n,rv,e⟩:=I.hok a _ h1
  obtain⟨as,hr⟩:=ay.reads I ds xs its rv h2
  exact⟨_,.list e rfl rfl (by simpa using hr)⟩
 | .tuple ds,v,u,r,h=>by
  unfold am at h
  obtain⟨a,xs,rfl,h1,h2⟩:=h
  cases r
  obtain⟨_,its,rv,o,ho,hc,n,hd⟩:=I.hok a _ h1
  obtain⟨as,hr⟩:=ay.reads I ds xs its rv h2
  exact⟨_,.tuple ho hc hd (by simpa using hr)⟩
 | .dict _,v,u,r,h=>by unfold am at h;exact h.elim
theorem ay.reads (I:ac X pins σ H s):∀ (ds:List PyData) (xs:List V) (us:List Value),au xs us->ay H ds xs->∃ as,ReadsAll s.heap us ds as
 | [],xs,us,r,h=>by unfold ay at h;subst h;cases r;exact⟨_,.nil⟩
 | d::ds,xs,us,r,h=>by
  unfold ay at h
  obtain⟨x,rr,rfl,h1,h2⟩:=h
  cases r with
  | cons rx rt =>
   obtain⟨as,q1⟩:=am.reads I d x _ rx h1
   obtain⟨bs,q2⟩:=ay.reads I ds rr _ rt h2
   exact⟨_,.cons q1 q2⟩
end
end
structure Fit (d:PyData):Prop where
 sh:d.showable=true
 cl:d.canLay0=true
 sz:d.shown.length<=CQ
 dp:d.depth<=8
section
variable {X:Cx}
inductive qa (vs:List V)(H:Hp)(Q:VK):Prop
 | mk (a:Addr)(d:PyData)(e:vs=[.ref a])(h:am H d (.ref a))(f:Fit d)(q:Q (.str d.shown) H):qa vs H Q
theorem kt {k:Nat}(hr:aZ k X.A):bB X (.builtin "repr") qa:=by
 intro pins s σ H xs us Q I r h
 obtain⟨a,d,rfl,hd,f,q⟩:=h
 obtain⟨u,rfl,ru⟩:=cv r
 cases ru
 obtain⟨as,rd⟩:=am.reads I d (.ref a) (.ref a) rfl hd
 exact repr_of_reads' rd f.sh (PyData.noDict_hsm (PyData.hasDict_of_canLay d f.cl)) hr.gd (by have:=hr.un;have:=f.dp;omega) (fun _ _ q=>q) (fun h' u tk hk=>⟨.str d.shown,H,I.kept hk,⟨u,rfl⟩,q⟩) f.sz
inductive lQ (neg:Bool)(x y:V)(H:Hp)(Q:VK):Prop
 | mk (d d':PyData)(h:am H d x)(h':am H d' y)(f:d.canLay0=true)(f':d'.canLay0=true)(p:d.depth<=8)(q:Q (.bl (if neg then !PyData.eqv d d' else PyData.eqv d d')) H):lQ neg x y H Q
theorem qF {k:Nat}(hr:aZ k X.A):bC X (C2 .Eq) (lQ false):=by
 intro pins s σ H x y v u Q I rx ry h
 obtain⟨d,d',h1,h2,f,f',p,q⟩:=h
 obtain⟨as,r1⟩:=am.reads I d _ _ rx h1
 obtain⟨bs,r2⟩:=am.reads I d' _ _ ry h2
 exact SeqAt.eqOverData X.prog X.w X.A X.xe s v u d d' as bs _ r1 r2 f f' (by have:=hr.un;omega) (bh I q rfl)
theorem mD {k:Nat}(hr:aZ k X.A):bC X (C2 .NotEq) (lQ true):=by
 intro pins s σ H x y v u Q I rx ry h
 obtain⟨d,d',h1,h2,f,f',p,q⟩:=h
 obtain⟨as,r1⟩:=am.reads I d _ _ rx h1
 obtain⟨bs,r2⟩:=am.reads I d' _ _ ry h2
 exact SeqAt.compareNe_reads r1 r2 f f' (by have:=hr.un;omega) (bh I q rfl)
end
theorem lh:∀ {ns:List Int}{us:List Value},au (ns.map V.int) us->∃ l:List (Int×Tok),us=l.map (fun p=>Value.int p.1 p.2)/\l.map (·.1)=ns
 | [],us,h=>by
  cases h
  exact⟨[],rfl,rfl⟩
 | x::r,us,h=>by
  cases h with
  | cons a b =>
   obtain⟨t,rfl⟩:=a
   obtain⟨l,rfl,e⟩:=lh b
   exact⟨(x,t)::l,rfl,by rw[Av,e]⟩
theorem kC (l:List (Int×Tok))(i:Nat):numAt l.toArray i=(l.map (·.1)).getD i 0:=by
 unfold numAt
 rw[Az,AE]
 simp
theorem sH (l:List (Int×Tok)):intItems l.toArray=(l.map fun p=>Value.int p.1 p.2).toArray:=by
 unfold intItems
 simp
section
variable {X:Cx}
inductive mq (K:W.Frag)(le:Int->Int->Prop)(vs:List V)(H:Hp)(Q:VK):Prop
 | mk (p:Addr)(ns:List Int)(e:vs=[.ref p])(h:aS K H p (ns.map V.int))(ne:ns≠[])(q:∀ m,m∈ns->(∀ x∈ns,le x m)->Q (.int m) H):mq K le vs H Q
theorem nj (K:W.Frag)(hc:X.calm=true)(ek:X.K=K:=by rfl):bB X (.builtin "max") (mq K fun x m=>x<=m):=by
 subst ek
 intro pins s σ H xs us Q I r h
 obtain⟨p,ns,rfl,hq,hne,q⟩:=h
 obtain⟨u,rfl,rx⟩:=cv r
 cases rx
 obtain⟨its,rv,pl,hz⟩:=I.list hq
 obtain⟨l,rfl,el⟩:=lh rv
 have hlen:l.length=ns.length:=by rw[<-el,Ar]
 have hpos:0<ns.length:=List.length_pos_iff.mpr hne
 refine max_intList (xs:=l.toArray) (I.ok.hd hc) (by rw[sH];exact pl.isList) (by rw[At];omega) fun v h' tk hv hk=>?_
 obtain⟨t,rfl⟩:=intItems_at hv
 obtain⟨b1,b2⟩:=argBest_gt (numAt l.toArray) (l.toArray.size-1)
 rw[At] at b1 b2 ⊢
 have hb:argBest (fun i j=>decide (numAt l.toArray i>numAt l.toArray j)) (l.length-1)<ns.length:=by omega
 refine⟨.int _,H,I.kept hk,⟨t,rfl⟩,q _ ?_ fun x hx=>?_⟩
 ·rw[kC,el,Az,As hb]
  exact AZ hb
 ·obtain⟨j,hj,rfl⟩:=AX hx
  have:=b2 j (by omega)
  rw[kC l j,el,Az (l:=ns) (i:=j),As hj] at this
  exact this
theorem mv (K:W.Frag)(hc:X.calm=true)(ek:X.K=K:=by rfl):bB X (.builtin "min") (mq K fun x m=>m<=x):=by
 subst ek
 intro pins s σ H xs us Q I r h
 obtain⟨p,ns,rfl,hq,hne,q⟩:=h
 obtain⟨u,rfl,rx⟩:=cv r
 cases rx
 obtain⟨its,rv,pl,hz⟩:=I.list hq
 obtain⟨l,rfl,el⟩:=lh rv
 have hlen:l.length=ns.length:=by rw[<-el,Ar]
 have hpos:0<ns.length:=List.length_pos_iff.mpr hne
 refine min_intList (xs:=l.toArray) (I.ok.hd hc) (by rw[sH];exact pl.isList) (by rw[At];omega) fun v h' tk hv hk=>?_
 obtain⟨t,rfl⟩:=intItems_at hv
 obtain⟨b1,b2⟩:=argBest_lt (numAt l.toArray) (l.toArray.size-1)
 rw[At] at b1 b2 ⊢
 have hb:argBest (fun i j=>decide (numAt l.toArray i<numAt l.toArray j)) (l.length-1)<ns.length:=by omega
 refine⟨.int _,H,I.kept hk,⟨t,rfl⟩,q _ ?_ fun x hx=>?_⟩
 ·rw[kC,el,Az,As hb]
  exact AZ hb
 ·obtain⟨j,hj,rfl⟩:=AX hx
  have:=b2 j (by omega)
  rw[kC l j,el,Az (l:=ns) (i:=j),As hj] at this
  exact this
end
end L2
namespace Ent
open PySem
abbrev En:=Int×Str×Int
def pl (e:En):Srt.Pl:=(e.1,e.2.1)
def eD (e:En):PyData:=.tuple [.int e.1,.str e.2.1,.int e.2.2]
def eL (e:En):PyData:=.list [.int e.1,.str e.2.1,.int e.2.2]
def cn:PyData:=.tuple [.int 0,.int 0,.none,.none,.none,.none]
def fX (n:Nat)(s lo hi:Int)(f l:En):PyData:=.tuple [.int n,.int s,.int lo,.int hi,eD f,eD l]
def bT (a b:En):Bool:=Srt.plt (pl a) (pl b)
def aK (es:List En):List Int:=es.map (·.2.2)
def Keyed (es:List En):Prop:=(es.map (·.2.1)).Nodup
inductive bD (es:List En)(b:PyData):Prop
 | non (h:es=[]) (e:b=cn):bD es b
 | some (lo hi:Int) (f l:En) (h1:lo∈aK es) (h2:∀ v∈aK es,lo<=v) (h3:hi∈aK es) (h4:∀ v∈aK es,v<=hi) (h5:f∈es) (h6:∀ e∈es,bT e f=false) (h7:l∈es) (h8:∀ e∈es,bT l e=false)
  (e:b=fX es.length (aK es).sum lo hi f l):bD es b
theorem mB:∀ {es:List En}{a b:En},Keyed es->a∈es->b∈es->a.2.1=b.2.1->a=b
 | [],a,b,_,h,_,_=>nomatch h
 | e::es,a,b,k,ha,hb,hk=>by
  unfold Keyed at k
  rw[Av,BI] at k
  rcases List.mem_cons.mp ha with ea|ha <;> rcases List.mem_cons.mp hb with eb|hb
  ·rw[ea,eb]
  ·exact absurd (List.mem_map.mpr ⟨b,hb,by rw[<-hk,ea]⟩) k.1
  ·exact absurd (List.mem_map.mpr ⟨a,ha,by rw[hk,eb]⟩) k.1
  ·exact mB k.2 ha hb hk
theorem nn {xs ys:List Int}(h:xs.Perm ys):xs.sum=ys.sum:=by
 induction h with
 | nil=>rfl
 | cons x _ ih=>rw[AH,AH,ih]
 | swap x y l=>rw[AH,AH,AH,AH];omega
 | trans _ _ i1 i2=>exact i1.trans i2
theorem bD.one {es es':List En}{b b':PyData}(p:es.Perm es')(k:Keyed es)(h:bD es b)(h':bD es' b'):b=b':=by
 cases h with
 | non e1 e2 =>
  cases h' with
  | non e3 e4=>rw[e2,e4]
  | some lo hi f l h1 h2 h3 h4 h5 =>
   rw[e1] at p
   rw[p.symm.eq_nil] at h5
   exact nomatch h5
 | some lo hi f l h1 h2 h3 h4 h5 h6 h7 h8 e =>
  cases h' with
  | non e3 e4 =>
   rw[e3] at p
   rw[p.eq_nil] at h5
   exact nomatch h5
  | some lo' hi' f' l' g1 g2 g3 g4 g5 g6 g7 g8 e' =>
   have pv:(aK es).Perm (aK es'):=p.map _
   have a1:=h2 lo' (pv.mem_iff.mpr g1)
   have a2:=g2 lo (pv.mem_iff.mp h1)
   have a3:=h4 hi' (pv.mem_iff.mpr g3)
   have a4:=g4 hi (pv.mem_iff.mp h3)
   have b1:pl f=pl f':=Srt.plt_one (g6 f (p.mem_iff.mp h5)) (h6 f' (p.mem_iff.mpr g5))
   have b2:pl l=pl l':=Srt.plt_one (h8 l' (p.mem_iff.mpr g7)) (g8 l (p.mem_iff.mp h7))
   have c1:f=f':=mB k h5 (p.mem_iff.mpr g5) (congrArg (·.2) b1)
   have c2:l=l':=mB k h7 (p.mem_iff.mpr g7) (congrArg (·.2) b2)
   have d1:lo=lo':=by omega
   have d2:hi=hi':=by omega
   rw[e,e',c1,c2,d1,d2,p.length_eq,nn pv]
theorem bD.perm {es es':List En}{b:PyData}(p:es.Perm es')(h:bD es b):bD es' b:=by
 cases h with
 | non e1 e2=>exact .non (by rw[e1] at p;exact p.symm.eq_nil) e2
 | some lo hi f l h1 h2 h3 h4 h5 h6 h7 h8 e =>
  have pv:(aK es).Perm (aK es'):=p.map _
  exact .some lo hi f l (pv.mem_iff.mp h1) (fun v hv=>h2 v (pv.mem_iff.mpr hv)) (pv.mem_iff.mp h3) (fun v hv=>h4 v (pv.mem_iff.mpr hv)) (p.mem_iff.mp h5) (fun v hv=>h6 v (p.mem_iff.mpr hv)) (p.mem_iff.mp h7) (fun v hv=>h8 v (p.mem_iff.mpr hv)) (by rw[e,p.length_eq,nn pv])
def dn:En:=(0,⟨#[]⟩,0)
def b8 (es:List En)(p:List Nat):List En:=p.map fun i=>es.getD i dn
theorem eY {es:List En}{p:List Nat}(hp:p.Perm (AG es.length)):(b8 es p).Perm es:=by
 have h:=hp.map fun i=>es.getD i dn
 have e:(AG es.length).map (fun i=>es.getD i dn)=es:=by
  refine Bv (by simp) fun i h1 h2=>?_
  simp[h2]
 rw[e] at h
 exact h
theorem tK (es:List En){i j:Nat}(hi:i<es.length)(hj:j<es.length):Srt.ltOf (es.map pl) i j=bT (es.getD i dn) (es.getD j dn):=by
 unfold Srt.ltOf bT
 rw[Az,Az,Az,Az,AE,AE,As hi,As hj]
 rfl
theorem i9 (e:En):bT e e=false:=Srt.plt_irr _
theorem oU {es:List En}{p:List Nat}{f:En}{r:List En}(hp:p.Perm (AG es.length))(hs:p.Pairwise (Srt.R (Srt.ltOf (es.map pl))))(h:b8 es p=f::r):f∈es/\∀ e∈es,bT e f=false:=by
 refine⟨(eY hp).mem_iff.mp (by rw[h];exact AF),fun e he=>?_⟩
 have he':=(eY hp).mem_iff.mpr he
 cases p with
 | nil=>cases h
 | cons i q =>
  have hlt:∀ k∈i::q,k<es.length:=fun k hk=>List.mem_range.mp (hp.mem_iff.mp hk)
  unfold b8 at h he'
  rw[Av] at h he'
  have ef:=(List.cons.inj h).1
  rcases List.mem_cons.mp he' with e1|e1
  ·rw[e1,<-ef];exact i9 _
  ·obtain⟨j,hj,rfl⟩:=List.mem_map.mp e1
   have hR:=(List.pairwise_cons.mp hs).1 j hj
   have:=Srt.R.le (Srt.ltOf_ord _) hR
   rw[tK es (hlt j (AD _ hj)) (hlt i AF)] at this
   rw[<-ef]
   exact this
theorem sn {es:List En}{p:List Nat}{l:En}{r:List En}(hp:p.Perm (AG es.length))(hs:p.Pairwise (Srt.R (Srt.ltOf (es.map pl))))(h:b8 es p=r++[l]):l∈es/\∀ e∈es,bT l e=false:=by
 refine⟨(eY hp).mem_iff.mp (by rw[h];simp),fun e he=>?_⟩
 have he':=(eY hp).mem_iff.mpr he
 rcases Bc p with rfl|⟨q,i,rfl⟩
 ·unfold b8 at h;simp at h
 ·rw[Be] at *
  have hlt:∀ k∈q++[i],k<es.length:=fun k hk=>List.mem_range.mp (hp.mem_iff.mp hk)
  unfold b8 at h he'
  rw[Ax,List.map_singleton] at h he'
  have ef:=(List.append_inj' h rfl).2
  have el:es.getD i dn=l:=(List.cons.inj ef).1
  rcases List.mem_append.mp he' with e1|e1
  ·obtain⟨j,hj,rfl⟩:=List.mem_map.mp e1
   have hR:=(List.pairwise_append.mp hs).2.2 j hj i AF
   have:=Srt.R.le (Srt.ltOf_ord _) hR
   rw[tK es (hlt i (by simp)) (hlt j (AJ _ hj)),el] at this
   exact this
  ·rw[List.mem_singleton.mp e1,el];exact i9 _
structure Lf (d:PyData):Prop where
 sh:d.showable=true
 cl:d.canLay0=true
 ls:d.leavesShort 62=true
theorem zL:Lf .none:=⟨rfl,rfl,rfl⟩
theorem eX {i:Int}(h:i.natAbs<10 ^ 40):Lf (.int i) where
 sh:=by
  unfold PyData.showable
  exact decide_eq_true (PySem.Spec.log2_small (Cg h (by decide +kernel)))
 cl:=rfl
 ls:=by
  unfold PyData.leavesShort
  refine decide_eq_true ?_
  show (Str.ofString (toString i)).length<=62
  rw[ofString_length]
  exact Ca (int_text_length_le10 (k:=40) (by decide) h) (by decide)
def jn (k:Str):Prop:=k.cps.size<=8/\∀ c∈k.cps.toList,c<128
theorem uI {k:Str}(h:jn k):Lf (.str k) where
 sh:=rfl
 cl:=by
  unfold PyData.canLay0 PyData.strOk
  rw[Array.all_eq_true_iff_forall_mem]
  intro c hc
  have:=h.2 c (Array.mem_toList_iff.mpr hc)
  exact decide_eq_true (by omega)
 ls:=by
  unfold PyData.leavesShort
  rw[AY]
  intro c hc
  have:=h.2 c hc
  have e:(16:Nat) ^ 8=4294967296:=by decide
  exact decide_eq_true (by omega)
theorem gQ:∀ {ds:List PyData},(∀ d∈ds,Lf d)->PyData.showableAll ds=true/\PyData.canLayAll0 ds=true/\PyData.leavesShortAll 62 ds=true
 | [],_=>⟨rfl,rfl,rfl⟩
 | d::ds,h=>by
  obtain⟨a,b,c⟩:=gQ fun x hx=>h x (AD d hx)
  have hd:=h d AF
  unfold PyData.showableAll PyData.canLayAll0 PyData.leavesShortAll
  rw[a,b,c,hd.sh,hd.cl,hd.ls]
  exact⟨rfl,rfl,rfl⟩
theorem jW {ds:List PyData}(h:∀ d∈ds,Lf d):Lf (.list ds) where
 sh:=by unfold PyData.showable;exact(gQ h).1
 cl:=by unfold PyData.canLay0;exact(gQ h).2.1
 ls:=by unfold PyData.leavesShort;exact(gQ h).2.2
theorem jO {ds:List PyData}(h:∀ d∈ds,Lf d):Lf (.tuple ds) where
 sh:=by unfold PyData.showable;exact(gQ h).1
 cl:=by unfold PyData.canLay0;exact(gQ h).2.1
 ls:=by unfold PyData.leavesShort;exact(gQ h).2.2
theorem Lf.fit {d:PyData}(h:Lf d)(hb:d.bulk<=20000)(hd:d.depth<=8):L2.Fit d where
 sh:=h.sh
 cl:=h.cl
 sz:=by
  have:=PyData.shown_le_bulk 62 (by decide) d h.ls
  rw[Dq]
  have e:(62+2)*d.bulk<=64*20000:=Nat.mul_le_mul (by decide) hb
  omega
 dp:=hd
structure bN (e:En):Prop where
 m:e.1.natAbs<10 ^ 30
 v:e.2.2.natAbs<10 ^ 30
 k:jn e.2.1
theorem km {i:Int}(h:i.natAbs<10 ^ 30):i.natAbs<10 ^ 40:=Cg h (by decide +kernel)
theorem qN {e:En}(h:bN e):∀ d∈[PyData.int e.1,.str e.2.1,.int e.2.2],Lf d:=fun d hd=>by
 rcases List.mem_cons.mp hd with rfl|hd
 ·exact eX (km h.m)
 ·rcases List.mem_cons.mp hd with rfl|hd
  ·exact uI h.k
  ·rw[List.mem_singleton.mp hd];exact eX (km h.v)
theorem lR {e:En}(h:bN e):Lf (eD e):=jO (qN h)
theorem xL {e:En}(h:bN e):Lf (eL e):=jW (qN h)
theorem tW {e:En}(h:bN e):(eD e).bulk<=11:=by
 have:=h.k.1
 unfold eD
 simp only[PyData.bulk,PyData.bulkAll]
 omega
theorem yj {e:En}(h:bN e):(eL e).bulk<=11:=by
 have:=h.k.1
 unfold eL
 simp only[PyData.bulk,PyData.bulkAll]
 omega
theorem oQ (e:En):(eD e).depth=1:=by
 unfold eD
 simp[PyData.depth,PyData.depthAll]
theorem zh (e:En):(eL e).depth=1:=by
 unfold eL
 simp[PyData.depth,PyData.depthAll]
theorem rh:∀ {ns:List Int},(∀ n∈ns,n.natAbs<10 ^ 30)->ns.sum.natAbs<=ns.length*10 ^ 30
 | [],_=>by simp
 | n::r,h=>by
  have h1:=rh fun x hx=>h x (AD n hx)
  have h2:=h n AF
  rw[AH,Ay,Nat.add_mul]
  omega
theorem q9:∀ {es:List En},(∀ e∈es,bN e)->PyData.bulkAll (es.map eL)<=12*es.length
 | [],_=>by simp[PyData.bulkAll]
 | e::es,h=>by
  have h1:=q9 fun x hx=>h x (AD e hx)
  have h2:=yj (h e AF)
  rw[Av,Ay]
  simp only[PyData.bulkAll]
  omega
theorem tU:∀ (es:List En),PyData.depthAll (es.map eL)<=1
 | []=>by simp[PyData.depthAll]
 | e::es=>by
  have h1:=tU es
  have h2:=zh e
  rw[Av]
  simp only[PyData.depthAll]
  omega
theorem rW {es:List En}(hk:∀ e∈es,bN e)(hn:es.length<=1000):L2.Fit (.list (es.map eL)):=by
 refine Lf.fit (jW fun d hd=>?_) ?_ ?_
 ·obtain⟨e,he,rfl⟩:=List.mem_map.mp hd
  exact xL (hk e he)
 ·have:=q9 hk
  simp only[PyData.bulk]
  omega
 ·have:=tU es
  simp only[PyData.depth]
  omega
end Ent
namespace L2
open PySem PySem.Spec PyProof.Rows
section
variable {X:Cx}{st:Stmt}{rest:List Stmt}{t u:TS}{e:Expr}{te:TE}
def wa (t u:TS):TS:=fun D σ H=>∃ M:St->Hp->Prop,t { D with nx:=M } σ H/\∀ σ' H',M σ' H'->u D σ' H'
theorem nR (h1:PS X st t)(h2:bW X rest u):bW X (st::rest) (wa t u):=by
 refine⟨?_⟩
 intro pins s σ H D I h
 obtain⟨M,a,b⟩:=h
 refine C9 (ai (h1 pins s σ H { D with nx:=M } I a) fun f s1 q=>?_)
 cases f with
 | next =>
  obtain⟨σ',H',I',q⟩:=q
  exact h2 pins s1 σ' H' D I' (b _ _ q)
 | ret v=>exact q
 | brk=>exact q
 | cont=>exact q
end
end L2
namespace L2
open PySem PySem.Spec PyProof.Rows
def Ob (o:HO)(xs:List V):Prop:=o=.lst xs\/o=.tup xs
theorem Ob.sq {K:W.Frag}{H:Hp}{a:Addr}{o:HO}{xs:List V}(h:Ob o xs)(e:H a=some o):aS K H a xs\/bj K H a xs:=by
 rcases h with h|h
 ·subst h;exact .inl (.of e)
 ·subst h;exact .inr (.of e)
def jl (J:It)(a:Addr)(o:HO)(xs:List V):Prop:=∀ H:Hp,H a=some o->(∀ i x,xs[i]?=some x->J.go i H/\∀ y H',J.yld i H y H'->H'=H/\y=x)/\J.stop xs.length H
def u8 (K:W.Frag)(tl:TE):TI:=fun σ H R=>tl σ H fun x H1=>∃ a o xs,x=.ref a/\H1 a=some o/\Ob o xs/\∀ J,jl J a o xs->R J H1
theorem y7 {K:W.Frag}{a:Addr}{xs:List V}:jl (dS K a) a (.lst xs) xs:=fun H e=>⟨fun i x hx=>⟨⟨xs,x,.of e,hx⟩,fun y H' z=>⟨z.1,by
 have:=z.2 xs (.of e)
 rw[hx] at this
 exact(Option.some.inj this).symm⟩⟩,⟨xs,.of e,B6 _⟩⟩
theorem yc {K:W.Frag}{a:Addr}{xs:List V}:jl (fx K a) a (.tup xs) xs:=fun H e=>⟨fun i x hx=>⟨⟨xs,x,.of e,hx⟩,fun y H' z=>⟨z.1,by
 have:=z.2 xs (.of e)
 rw[hx] at this
 exact(Option.some.inj this).symm⟩⟩,⟨xs,.of e,B6 _⟩⟩
section
variable {X:Cx}{tg:Expr}
theorem fJ {l:Expr}{tl:TE}(hl:PE X l tl):PI X tg l (u8 X.K tl):=by
 intro pins s σ H R I h
 refine ai (hl pins s σ H _ I h) fun v s1 ⟨x,H1,I1,r1,q1⟩=>?_
 obtain⟨a,o,xs,e,ha,ho,q⟩:=q1
 subst e
 cases r1
 have fpk:∀ b∈[s1.heap.objs.size],a0 X pins H1 b:=fun b hb=>by
  have e:b=s1.heap.objs.size:=by simpa using hb
  subst e
  exact I1.fpOk (B6 _) (I1.hok.fresh (B6 _))
 rcases ho with ho|ho
 ·subst ho
  obtain⟨its,rv,p,hz⟩:=I1.list (.of ha:aS X.K H1 a xs)
  refine Dl p.isList ?_
  exact⟨s1.heap.objs.size,[s1.heap.objs.size],_,_,H1,rfl,I1.kept (t':=s1.toks) fun b o e=>BY _ e,tJ a _,⟨_,BZ _ rfl,rfl,rfl⟩,fpk,q _ y7⟩
 ·subst ho
  obtain⟨its,rv,p,hz⟩:=I1.tuple (.of ha:bj X.K H1 a xs)
  refine Dm (show s1.heap.IsTuple a its.toArray from p) ?_
  exact⟨s1.heap.objs.size,[s1.heap.objs.size],_,_,H1,rfl,I1.kept (t':=s1.toks) fun b o e=>BY _ e,o8 a _,⟨_,BZ _ rfl,rfl,rfl⟩,fpk,q _ yc⟩
def ua (K:W.Frag):R2:=fun x y H Q=>∃ p xs i v,x=.ref p/\y=.int i/\(aS K H p xs\/bj K H p xs)/\bX xs i=some v/\Q v H
theorem wG:fH X (ua X.K):=by
 intro value slice pins s σ H x y v u Q I rx ry h hs
 obtain⟨p,xs,i,z,e1,e2,hq,he,q⟩:=h
 rcases hq with hq|hq
 ·exact oP value slice pins s σ H x y v u Q I rx ry ⟨p,xs,i,z,e1,e2,hq,he,q⟩ hs
 ·exact kG value slice pins s σ H x y v u Q I rx ry ⟨p,xs,i,z,e1,e2,hq,he,q⟩ hs
end
theorem gI {J:It}{a:Addr}{o:HO}{xs:List V}{tc:TT}{te:TE}{σ:St}{D:Addr}{Fin:Hp->Prop}{H:Hp}(hJ:jl J a o xs)(Pv:Nat->List V->Hp->Prop)(h0:Pv 0 [] (upd H D (.lst [])))
  (hD:∀ i ys H,Pv i ys H->H D=some (.lst ys)/\H a=some o) (hend:∀ ys H,Pv xs.length ys H->Fin H)
  (hgo:∀ i x ys H,i<xs.length->xs[i]?=some x->Pv i ys H->tc (some x::σ) H fun b H2=>if b=true then te (some x::σ) H2 (bw xs.length i D ys Pv) else cC xs.length i ys Pv H2):fy tc te σ J D Fin H:=by
 refine ki Pv h0 (fun i ys H p=>(hD i ys H p).1) (fun ys H p=>⟨(hJ H (hD _ _ _ p).2).2,hend ys H p⟩) fun i ys H hi p=>?_
 obtain⟨g,k⟩:=(hJ H (hD _ _ _ p).2).1 i xs[i] (As hi)
 refine⟨g,fun x H' y=>?_⟩
 obtain⟨e1,e2⟩:=k x H' y
 subst e1 e2
 exact hgo i _ ys _ hi (As hi) p
theorem xF {J:It}{a:Addr}{o:HO}{xs:List V}{g:TG}{tb:TS}{D:dy}{σ:St}{H:Hp}(hJ:jl J a o xs)(Pv:Nat->St->Hp->Prop)(h0:Pv 0 σ H)(hl:∀ i σ H,i<=xs.length->Pv i σ H->H a=some o)
  (hs:∀ i x σ H,xs[i]?=some x->Pv i σ H->g x σ H fun σ2 H2=>tb { D with nx:=Pv (i+1),ct:=Pv (i+1),bk:=D.nx } σ2 H2) (hd:∀ σ H,Pv xs.length σ H->D.nx σ H) :
  ∃ W:Nat->Nat->St->Hp->Prop,(∃ m,W 0 m σ H)/\∀ i m σ H,W i m σ H ->
   (J.stop i H/\D.nx σ H)\/(J.go i H/\∃ N:St->Hp->Prop,(∀ σ' H',N σ' H'->∃ m',m'<m/\W (i+1) m' σ' H')/\∀ x H',J.yld i H x H'->g x σ H' fun σ2 H2=>tb { D with nx:=N,ct:=N,bk:=D.nx } σ2 H2):=by
 refine⟨fun i m σ H=>m=xs.length-i/\i<=xs.length/\Pv i σ H,⟨xs.length,by simp,B9 _,h0⟩,?_⟩
 rintro i m σ H ⟨rfl,hi,p⟩
 have q:=hl i σ H hi p
 by_cases hlt:i<xs.length
 ·obtain⟨gg,k⟩:=(hJ H q).1 i xs[i] (As hlt)
  refine .inr ⟨gg,Pv (i+1),fun σ' H' p'=>⟨xs.length-(i+1),by omega,rfl,hlt,p'⟩,fun x H' y=>?_⟩
  obtain⟨e1,e2⟩:=k x H' y
  subst e1 e2
  exact hs i _ σ _ (As hlt) p
 ·have e:i=xs.length:=by omega
  subst e
  exact .inl ⟨(hJ H q).2,hd σ H p⟩
section
variable {X:Cx}
end
end L2
namespace L2
open PySem PySem.Spec PyProof.Rows
def aD (X:Cx)(xs Ns:List Str)(scope:Scope)(C:Addr)(fp:List Addr)(s:CW)(H:Hp):Cx where
 prog:=X.prog
 w:=X.w
 K:=X.K
 mg:=X.mg
 base:=X.base
 A:=X.A
 N:=xs++Ns
 s₀:=s
 H₀:=H
 env:=Ef scope (b7 scope X.env.cells) C X.env
 outer:=X.stack
 stack:=X.stack
 ex:=fp
 fn:=fun _=>false
 calm:=X.calm
 pn:=[]
 xe:=fun _ _=>False
structure cI (X:Cx)(xs Ns:List Str)(sc:Scope):Prop where
 kind:sc.kind=.function
 nocell:∀ p∈sc.names,p.2≠.cell
 loc:∀ x∈xs,sc.names.lookup x=some .local
 names:∀ p∈sc.names,p.2=.local->sc.names.lookup p.1=some .local
 apart:∀ y∈Ns,sc.names.lookup y≠some .local
 sub:∀ (i:Nat) (y:Str),Ns[i]?=some y->sc.names.lookup y=some .free->X.N[i]?=some y
 len:Ns.length=X.N.length
 all:(xs++Ns).Nodup
 free:∀ p∈sc.names,p.2=.free->X.env.kindOf p.1=some .cell\/X.env.kindOf p.1=some .free
section
variable {X:Cx}{pins:List (Addr×Obj)}{σ:St}{H:Hp}{s:CW}{xs Ns:List Str}{sc:Scope}{C:Addr}{fp:List Addr}
theorem cI.cells (S:cI X xs Ns sc)(ok:X.Ok):∀ p∈sc.names,p.2=.free->∃ a,X.env.cells.lookup p.1=some a:=fun p hp e=>ok.has p.1 (S.free p hp e)
theorem ac.okLN (I:ac X pins σ H s)(S:cI X xs Ns sc)(hC:s.heap.objs.size<=C)(hf:∀ b∈fp,a0 X pins H b)(hlt:∀ b∈fp,b<s.heap.objs.size):(aD X xs Ns sc C fp s H).Ok where
 mod:=I.ok.mod
 kind:=S.kind
 glob:=I.ok.glob
 blt:=I.ok.blt
 above:=hC
 inj:=fun y z c e1 e2=>I.ok.inj y z c (bS sc X.env.cells e1) (bS sc X.env.cells e2)
 has:=fun y hy=>by
  have hy':(Eg sc X.env).names.lookup y=some .cell\/(Eg sc X.env).names.lookup y=some .free:=hy
  have fr:sc.names.lookup y=some .free:=by
   rcases hy' with h|h
   ·obtain⟨k',e,q⟩:=cO h
    rcases q with q|⟨q,_⟩
    ·subst q;exact absurd rfl (S.nocell _ (PySem.mem_of_lookup e))
    ·rw[e,q]
   ·obtain⟨k',e,q⟩:=cO h
    rcases q with q|⟨_,q⟩
    ·rw[e,<-q]
    ·cases q
  exact jC sc X.env.cells (S.cells I.ok) (PySem.mem_of_lookup fr)
 cab:=fun y c e=>by cases (show false=true from e)
 hd:=I.ok.hd
 frames:=I.ok.frames
 stk:=.inl rfl
 exf:=fun b hb=>⟨B7 (B8 (hlt b hb) hC),fun y c e=>(hf b hb).2.2.2.2.1 y c (bS sc X.env.cells e)⟩
 bs:=I.bs
 bsz:=Ca I.ok.bsz I.sz
 noex:=fun b o e hb=>by
  rcases (hf b hb).2.2.2.1 with q|q
  ·exact I.ok.noex b o e q
  ·exact absurd (B8 (BX e) (Ca I.ok.bsz q)) (Ce _)
 exfs:=fun b hb z=>by
  rcases List.mem_cons.mp (I.stkSub b z) with q|q
  ·exact(hf b hb).2.1 q
  ·exact(hf b hb).2.2.1 q
 funs:=I.stack
 frf:=I.stkFree
theorem ac.startLN {D:Addr}{h1:Heap}{m:Str->Option Value}{tk:Nat}{w:St}(I:ac X pins σ H s)(S:cI X xs Ns sc)(hf:∀ b∈fp,a0 X pins H b)(hlt:∀ b∈fp,b<s.heap.objs.size)(hw:w=xs.map fun _=>none)
  (hD:D=s.heap.objs.size) (hC:s.heap.objs.size<=C) (hDC:C≠D) (hk:∀ b o,s.heap.get? b=some o->h1.get? b=some o) (hn:h1.Ns C m) (hl:h1.get? D=some { cls:=.type "list",data:=.seq ([]:List Value).toArray 0 }) :
  ac (aD X xs Ns sc C fp s H) [] (w++σ) (upd H D (.lst [])) { s with heap:=h1,toks:=tk }:=by
 have hwl:w.length=xs.length:=by rw[hw,Ar]
 have hDle:s.heap.objs.size<=D:=by rw[hD];exact B6 _
 have cells:∀ y c,(b7 sc X.env.cells).lookup y=some c->c<s.heap.objs.size:=fun y c e=>by
  obtain⟨v,q⟩:=I.cell y c (bS sc X.env.cells e)
  exact q.lt
 refine⟨I.okLN S hC hf hlt,rfl,I.bare,Un.laid hk hDle (I.hok.fresh hDle),⟨m,hn,fun i y v e1 e2 e3=>?_⟩,fun y c e=>?_,?_,fun y c e=>?_,fun p hp=>absurd (show p∈([]:List (Addr×Obj)) from hp) (by simp),I.hok.laid hk hDle ⟨B9 _,[],0,.nil,hl⟩,?_⟩
 ·have e1:(xs++Ns)[i]?=some y:=e1
  have e2:(w++σ)[i]?=some (some v):=e2
  rcases Cb i xs.length with hi|hi
  ·rw[Bg (by omega),hw,AE,As hi] at e2
   cases e2
  ·have e1':Ns[i-xs.length]?=some y:=by rw[A5 hi] at e1;exact e1
   have e2':σ[i-xs.length]?=some (some v):=by rw[A5 (by omega),hwl] at e2;exact e2
   have e3':gr (Eg sc X.env) y:=e3
   have ny:sc.names.lookup y≠some .local:=S.apart y (AK e1')
   have fr:sc.names.lookup y=some .free/\((Eg sc X.env).names.lookup y=some .cell\/(Eg sc X.env).names.lookup y=some .free):=by
    rcases e3' with h|h|h
    ·obtain⟨k',e,q⟩:=cO h
     rcases q with q|⟨_,q⟩
     ·subst q;exact absurd e ny
     ·cases q
    ·obtain⟨k',e,q⟩:=cO h
     rcases q with q|⟨q,_⟩
     ·subst q;exact absurd rfl (S.nocell _ (PySem.mem_of_lookup e))
     ·exact⟨by rw[e,q],.inl h⟩
    ·obtain⟨k',e,q⟩:=cO h
     rcases q with q|⟨_,q⟩
     ·exact⟨by rw[e,<-q],.inr h⟩
     ·cases q
   have ok:=S.free (y,.free) (PySem.mem_of_lookup fr.1) rfl
   obtain⟨m0,hn0,hl0⟩:=I.loc
   obtain⟨u,r,l⟩:=hl0 _ y v (S.sub _ y e1' fr.1) e2' (.inr ok)
   refine⟨u,r,.inr ⟨fr.2,?_⟩⟩
   rcases l with⟨k,_⟩|⟨_,c,ec,z⟩
   ·rcases ok with q|q <;> (rw[show X.env.kindOf y=some .local from k] at q;cases q)
   ·obtain⟨c',ec'⟩:=jC sc X.env.cells (S.cells I.ok) (PySem.mem_of_lookup fr.1)
    have:=bS sc X.env.cells ec'
    rw[ec] at this
    cases this
    obtain⟨o,ho,hd⟩:=z
    exact⟨c,ec',o,hk _ _ ho,hd⟩
 ·obtain⟨v,o,ho,hd⟩:=I.cell y c (bS sc X.env.cells e)
  exact⟨v,o,hk _ _ ho,hd⟩
 ·show upd H D (.lst []) C=none
  rw[upd_ne hDC]
  exact I.hok.fresh hC
 ·show upd H D (.lst []) c=none
  rw[upd_ne (B7 (B8 (cells y c e) hDle))]
  exact I.freeC y c (bS sc X.env.cells e)
 ·show (w++σ).length=(xs++Ns).length
  rw[AB,AB,I.len,hwl,S.len]
theorem ac.endLN {s2:CW}{H2:Hp}{st:St}{pl:List (Addr×Obj)}(I:ac X pins σ H s)(J:ac (aD X xs Ns sc C fp s H) pl st H2 s2)(hf:∀ b∈fp,a0 X pins H b):ac X pins σ H2 s2 :=
 I.call' (ch:=fp) J.os J.base J.hok J.bare fun b hb=>⟨(hf b hb).2.2.2.1,(hf b hb).2.1,(hf b hb).2.2.2.2.1,(hf b hb).2.2.2.2.2⟩
end
def jc (n:Nat) (g:TG) (tc:TT) (te:TE) (σ:St) (J:It) (D:Addr) (Fin:Hp→Prop) (H:Hp):Prop :=
  ∃ W:Nat→Nat→List V→Hp→Prop,(∃ m,W 0 m [] (upd H D (.lst [])))∧∀ i m ys H,W i m ys H→H D=some (.lst ys) ∧
    ((J.stop i H∧Fin H)∨(J.go i H∧∀ x H' (u:St),u.length=n→J.yld i H x H'→g x (u++σ) H' fun σ2 H2=>(∃ u2:St,u2.length=n∧σ2=u2++σ)∧tc σ2 H2 fun b H3=>if b=true then te σ2 H3 fun y H4=>H4 D=some (.lst ys)∧ys.length < sizeLine∧∃ m',m' < m∧W (i + 1) m' (ys++[y]) (upd H4 D (.lst (ys++[y])))
      else ∃ m',m' < m∧W (i + 1) m' ys H3))
def xQ (n:Nat)(wi:TI)(g:TG)(tc:TT)(te:TE):TE:=fun σ H Q=>wi σ H fun J H1=>∀ D,H1 D=none->jc n g tc te σ J D (fun H2=>Q (.ref D) H2) H1
section
variable {X:Cx}{xs Ns:List Str}{sc:Scope}{elt iter tg:Expr}{ifs:List Expr}{pos:Pos}{wi:TI}{g:TG}{tc:TT}{te:TE}
theorem vk {pins:List (Addr×Obj)}{σ:St}{H:Hp}{s:CW}{it:Addr}{fp:List Addr}{tn:Nat->Heap->Prop}{J:It}{Fin:Addr->Hp->Prop}{RR:Value->Addr->Dt->CW->Prop}{E:Value->CW->Prop}
  (hc:X.calm=true) (S:cI X xs Ns sc) (I:ac X pins σ H s) (T:eQ X.prog X.w X.K tg J fp it tn) (st:tn 0 s.heap) (hf:∀ b∈fp,a0 X pins H b) (hg:∀ C s0 H0,PG (aD X xs Ns sc C fp s0 H0) tg g)
  (ht:∀ C s0 H0,dH (aD X xs Ns sc C fp s0 H0) ifs tc) (he:∀ C s0 H0,PE (aD X xs Ns sc C fp s0 H0) elt te) (q:∀ D,H D=none->jc xs.length g tc te σ J D (Fin D) H)
  (hR:∀ D C H2 s2 m,s.heap.objs.size<=C->ac X pins σ H2 s2->H2 C=none->s2.heap.Ns C m->Fin D H2->RR (.ref D) C (.ok .next) s2) :
  wpAny (model X.prog X.w) X.A (newList []) (fun acc s3=>wpAny (model X.prog X.w) X.A (Ep sc X.env.globals (b7 sc X.env.cells) [] X.env.qual none .none (some X.env)) (fun cenv s4 =>
   Du (model X.prog X.w) X.A (.compStart (.ListComp elt [⟨tg,iter,ifs,0⟩] sc pos) 0 (.ref it) acc { cenv with scope:=Eg sc X.env }) (RR acc cenv.locals) s4) E s3) E s:=by
 have hlt:∀ b∈fp,b<s.heap.objs.size:=fun b hb=>by
  obtain⟨o,e,_⟩:=T.obj 0 _ st b hb
  exact BX e
 refine DR (Er S.nocell (by intro y hy;simp at hy) (fun h1 hns1 hsb1=>?_) S.kind)
 dsimp only at hns1 hsb1 ⊢
 generalize hH2:s.heap.push { cls:=.type "list",dict:=none,data:=.seq ([]:List Value).toArray }=G at hns1 hsb1 ⊢
 have hC:G.objs.size=s.heap.objs.size+1:=by rw[<-hH2,B0]
 have hCle:s.heap.objs.size<=G.objs.size:=by rw[hC];exact Cd _
 have hDC:G.objs.size≠s.heap.objs.size:=by rw[hC];exact Ck _
 have old:∀ b o,s.heap.get? b=some o->h1.get? b=some o:=fun b o e=>hsb1.extBut b o (B7 (B8 (BX e) hCle)) (BY _ (hH2▸BY _ e))
 have hacc:h1.get? s.heap.objs.size=some { cls:=.type "list",data:=.seq ([]:List Value).toArray 0 }:=hsb1.extBut _ _ (Ne.symm hDC) (BY _ (hH2▸BZ _ rfl))
 have hDn:H s.heap.objs.size=none:=I.hok.fresh (B6 _)
 obtain⟨W,⟨m0,w0⟩,turn⟩:=q s.heap.objs.size hDn
 have st1:tn 0 h1:=T.keep _ _ _ st fun b _ o e=>old b o e
 have I1:=fun tk=>I.startLN (tk:=tk) (w:=xs.map fun _=>none) S hf hlt rfl rfl hCle hDC old hns1 hacc
 have fr1:∀ b∈fp,upd H s.heap.objs.size (.lst []) b=none:=fun b hb=>by rw[upd_ne (B7 (hlt b hb))];exact(hf b hb).1
 have loop:∀ s3:CW,s3={ s with heap:=h1,toks:=s.toks+([]:List (Str×Value)).length } ->
   Du (model X.prog X.w) X.A (.compLoop (.ListComp elt [⟨tg,iter,ifs,0⟩] sc pos) 0 (.ref it) (.ref s.heap.objs.size) (Ef sc (b7 sc X.env.cells) G.objs.size X.env))
    (RR (.ref s.heap.objs.size) G.objs.size) s3:=by
  rintro s3 rfl
  have fpk:∀ {H':Hp},(∀ b∈fp,H' b=none)->∀ b∈fp,a0 (aD X xs Ns sc G.objs.size fp s H) [] H' b:=fun hn b hb =>
   ⟨hn b hb,B7 (B8 (hlt b hb) hCle),(I.okLN (C:=G.objs.size) S hCle hf hlt).exfs b hb,.inl hb,fun y c e=>(hf b hb).2.2.2.2.1 y c (bS sc X.env.cells e),fun p hp=>absurd (show p∈([]:List (Addr×Obj)) from hp) (by simp)⟩
  refine qp (fun n s'=>∃ i w ys H',w.length=xs.length/\ac (aD X xs Ns sc G.objs.size fp s H) [] (w++σ) H' s'/\tn i s'.heap/\(∀ b∈fp,H' b=none)/\W i n ys H') ?_ m0 ⟨0,_,[],_,Ar _,I1 _,st1,fr1,w0⟩
  rintro n s3 ⟨i,v0,ys,H3,hv0,I3,st3,fr3,w3⟩
  obtain⟨hD3,turn3⟩:=turn i n ys H3 w3
  rcases turn3 with⟨stop,fin⟩|⟨go,step⟩
  ·refine ai (T.done (aD X xs Ns sc G.objs.size fp s H) rfl rfl rfl hc i [] s3 _ H3 _ I3 (fpk fr3) st3 stop) fun r s4 ⟨hr,I4⟩=>?_
   subst hr
   obtain⟨m4,hn4,_⟩:=I4.loc
   exact hR _ _ H3 s4 m4 hCle (I.endLN I4 hf) I4.free hn4 fin
  ·refine ai (T.item (aD X xs Ns sc G.objs.size fp s H) rfl rfl rfl hc i [] s3 _ H3 _ I3 (fpk fr3) st3 go) fun r s4 ⟨u,hr,h4⟩=>?_
   subst hr
   refine ai h4 fun _ s5 ⟨y,H5,I5,r5,y5,st5,fr5⟩=>?_
   have I5':=I5.pinned (fpk fr5) (T.obj _ _ st5)
   refine ai (hg G.objs.size s H _ s5 _ H5 y u _ I5' r5 (step y H5 v0 hv0 y5)) fun _ s6 ⟨σ6,H6,I6,⟨w6,hw6,e6⟩,q6⟩=>?_
   subst e6
   refine ai (ht G.objs.size s H _ s6 _ H6 _ I6 q6) fun ok s7 ⟨H7,I7,q7⟩=>?_
   have again:∀ {H8:Hp}{s8:CW}{zs:List V},ac (aD X xs Ns sc G.objs.size fp s H) ([]++cX fp s5.heap) (w6++σ) H8 s8->(∃ m',m'<n/\W (i+1) m' zs H8)->∃ m,m<n/\∃ i w ys H',w.length=xs.length/\ac (aD X xs Ns sc G.objs.size fp s H) [] (w++σ) H' s8/\tn i s8.heap/\(∀ b∈fp,H' b=none)/\W i m ys H':=fun {H8 s8 zs} I8 ⟨m',hm,w8⟩=>by
    refine⟨m',hm,i+1,w6,zs,H8,hw6,I8.unpinned,T.keep _ _ _ st5 fun b hb o e=>(I8.pin (b,o) (Au _ (Au _ (dh hb e)))).1,fun b hb=>?_,w8⟩
    obtain⟨o,e,d⟩:=T.obj _ _ st5 b hb
    exact(I8.pin (b,o) (Au _ (Au _ (dh hb e)))).2.1
   cases ok with
   | false =>
    rw[if_neg Bool.false_ne_true] at q7 ⊢
    exact again I7 q7
   | true =>
    rw[if_pos rfl] at q7 ⊢
    refine ai (he G.objs.size s H _ s7 _ H7 _ I7 q7) fun z s8 ⟨zv,H8,I8,r8,hD8,hz8,w8⟩=>?_
    refine ai (dU _ s8 _ H8 (.ref s.heap.objs.size) [zv] (.ref s.heap.objs.size) [z] (fun _ H9=>∃ m',m'<n/\W (i+1) m' (ys++[zv]) H9) I8 rfl (.cons r8 .nil) ⟨_,ys,zv,rfl,rfl,hD8,hz8,w8⟩) fun _ s9 ⟨_,H9,I9,_,w9⟩=>?_
    exact again I9 w9
 exact Et (loop _ rfl) (T.self X.A 0 _ _ _ st1 (loop _ rfl))
theorem sx (hc:X.calm=true)(S:cI X xs Ns sc)(hi:PI X tg iter wi)(hg:∀ C fp s0 H0,PG (aD X xs Ns sc C fp s0 H0) tg g)(ht:∀ C fp s0 H0,dH (aD X xs Ns sc C fp s0 H0) ifs tc)(he:∀ C fp s0 H0,PE (aD X xs Ns sc C fp s0 H0) elt te)
  (hs:∀ v,Do iter X.env v=pure v:=by intro _;rfl):PE X (.ListComp elt [⟨tg,iter,ifs,0⟩] sc pos) (xQ xs.length wi g tc te):=by
 refine⟨?_⟩
 intro pins s σ H Q I h
 rw[eval_ListComp]
 refine Eu (use:=none) rfl hs (jm (S.cells I.ok)) S.kind S.names (ai (hi pins s σ H _ I h) fun v s1 h1=>ai h1 fun itv s2 h2=>?_)
 obtain⟨it,fp,tn,J,H2,e,I2,T,st2,f2,q2⟩:=h2
 subst e
 refine vk (RR:=fun acc C=>Ev (model X.prog X.w) X.A X.xe none (EP X pins σ Q) acc C) (Fin:=fun D H3=>Q (.ref D) H3) hc S I2 T st2 f2 (fun C s0 H0=>hg C fp s0 H0) (fun C s0 H0=>ht C fp s0 H0) (fun C s0 H0=>he C fp s0 H0) q2 ?_
 intro D C H3 s3 m hC I3 hn hN q3
 refine⟨m,hN,fun h' hs'=>⟨.ref D,H3,I3.butC hs' (Ca I2.sz hC) hn (Cc (B8 I2.lt hC)) (fun y c e=>?_) (fun p hp=>?_),rfl,q3⟩⟩
 ·obtain⟨v,z⟩:=I2.cell y c e
  exact B7 (B8 z.lt hC)
 ·exact B7 (B8 (BX (I2.pin p hp).1) hC)
theorem wn {x y:Str}{p1 p2 p3:Pos}{k:Nat}(hc:X.calm=true)(S:cI X [x,y] Ns sc):∀ C fp s0 H0,PG (aD X [x,y] Ns sc C fp s0 H0) (.Tuple [.Name x p1,.Name y p2] k p3) (kN X.K 2 (ko (cY 0) (ko (cY 1) sd))):=fun C fp s0 H0=>by
 have lx:(Eg sc X.env).names.lookup x=some .local:=Es (S.loc x (by simp))
 have ly:(Eg sc X.env).names.lookup y=some .local:=Es (S.loc y (by simp))
 exact kz (X:=aD X [x,y] Ns sc C fp s0 H0) hc (cF (br (i:=0) S.all rfl (.inl lx) (.inr lx)) (cF (br (i:=1) S.all rfl (.inl ly) (.inr ly)) gi))
theorem pJ {x:Str}{p1:Pos}(S:cI X [x] Ns sc):∀ C fp s0 H0,PG (aD X [x] Ns sc C fp s0 H0) (.Name x p1) (cY 0):=fun C fp s0 H0=>by
 have lx:(Eg sc X.env).names.lookup x=some .local:=Es (S.loc x (by simp))
 exact br (X:=aD X [x] Ns sc C fp s0 H0) (i:=0) S.all rfl (.inl lx) (.inr lx)
end
theorem rS {tc:TT}{te:TE}{g:TG}{k:Nat}{σ:St}{J:It}{D:Addr}{Fin:Hp->Prop}{H:Hp}{n:Nat}(Pv:Nat->List V->Hp->Prop)(h0:Pv 0 [] (upd H D (.lst [])))
  (hD:∀ i ys H,Pv i ys H->H D=some (.lst ys)) (hend:∀ ys H,Pv n ys H->J.stop n H/\Fin H)
  (hgo:∀ i ys H,i<n->Pv i ys H->J.go i H/\∀ x H' (u:St),u.length=k->J.yld i H x H'->g x (u++σ) H' fun σ2 H2=>(∃ u2:St,u2.length=k/\σ2=u2++σ)/\tc σ2 H2 fun b H3=>if b=true then te σ2 H3 (bw n i D ys Pv) else cC n i ys Pv H3):jc k g tc te σ J D Fin H:=by
 refine⟨fun i m ys H=>m=n-i/\i<=n/\Pv i ys H,⟨n,rfl,B9 _,h0⟩,?_⟩
 rintro i m ys H ⟨rfl,hi,p⟩
 refine⟨hD i ys H p,?_⟩
 by_cases hlt:i<n
 ·exact .inr (hgo i ys H hlt p)
 ·have e:i=n:=by omega
  subst e
  exact .inl (hend ys H p)
theorem xV {K:W.Frag}{a:Addr}{xs:List V}{tc:TT}{te:TE}{g:TG}{k:Nat}{σ:St}{D:Addr}{Fin:Hp->Prop}{H:Hp}(Pv:Nat->List V->Hp->Prop)(h0:Pv 0 [] (upd H D (.lst [])))
  (hD:∀ i ys H,Pv i ys H->H D=some (.lst ys)/\aS K H a xs) (hend:∀ ys H,Pv xs.length ys H->Fin H)
  (hgo:∀ i x ys H (u:St),u.length=k->i<xs.length->xs[i]?=some x->Pv i ys H->g x (u++σ) H fun σ2 H2=>(∃ u2:St,u2.length=k/\σ2=u2++σ)/\tc σ2 H2 fun b H3=>if b=true then te σ2 H3 (bw xs.length i D ys Pv) else cC xs.length i ys Pv H3):jc k g tc te σ (dS K a) D Fin H:=by
 refine rS Pv h0 (fun i ys H p=>(hD i ys H p).1) (fun ys H p=>⟨⟨xs,(hD _ _ _ p).2,B6 _⟩,hend ys H p⟩) fun i ys H hi p=>?_
 refine⟨⟨xs,xs[i],(hD _ _ _ p).2,As hi⟩,fun x H' u hu y=>?_⟩
 obtain⟨e,y⟩:=y
 subst e
 exact hgo i x ys _ u hu hi (y xs (hD _ _ _ p).2) p
theorem oo {α:Type}:∀ {u:List α},u.length=2->∃ a b,u=[a,b]
 | [a,b],_=>⟨a,b,rfl⟩
theorem iX {α:Type}:∀ {u:List α},u.length=1->∃ a,u=[a]
 | [a],_=>⟨a,rfl⟩
theorem uR {N Ns:List Str}{sc:Scope}(h:(Ns.zip N).all (fun p=>decide (p.1=p.2) || !(sc.names.lookup p.1 == some NameKind.free))=true)(hl:Ns.length=N.length):∀ (i:Nat) (y:Str),Ns[i]?=some y->sc.names.lookup y=some .free->N[i]?=some y:=fun i y e f=>by
 have hi:i<Ns.length:=(List.getElem?_eq_some_iff.mp e).1
 have hN:N[i]?=some (N[i]'(by omega)):=As (by omega)
 have hm:(y,N[i]'(by omega))∈Ns.zip N:=by
  refine AK (i:=i) ?_
  rw[List.getElem?_zip_eq_some]
  exact⟨e,hN⟩
 have:=List.all_eq_true.mp h _ hm
 dsimp only at this
 rw[f] at this
 have z:y=N[i]'(by omega):=by simpa using this
 rw[hN,<-z]
theorem eK {X:Cx}{xs:List Str}(Ns:List Str){sc scp:Scope}{N ps:List Str}(S:aI N ps scp)(hN:X.N=N:=by rfl)(hs:X.env.scope=scp:=by rfl)(h1:sc.kind=.function:=by rfl)(h2:∀ p∈sc.names,p.2≠.cell:=by decide +kernel)(h3:∀ x∈xs,sc.names.lookup x=some .local:=by decide +kernel)
  (h4:∀ p∈sc.names,p.2=.local->sc.names.lookup p.1=some .local:=by decide +kernel) (h5:∀ y∈Ns,sc.names.lookup y≠some .local:=by decide +kernel) (h6:(Ns.zip N).all (fun p=>decide (p.1=p.2) || !(sc.names.lookup p.1 == some NameKind.free))=true:=by decide +kernel) (hl:Ns.length=N.length:=by rfl) (hall:(xs++Ns).Nodup:=by decide +kernel)
  (h7:∀ p∈sc.names,p.2=.free->scp.names.lookup p.1=some .cell\/scp.names.lookup p.1=some .free:=by decide +kernel):cI X xs Ns sc :=
 ⟨h1,h2,h3,h4,h5,by rw[hN];exact uR h6 hl,by rw[hN];exact hl,hall,fun p hp e=>by
  show X.env.scope.names.lookup p.1=_\/X.env.scope.names.lookup p.1=_
  rw[hs]
  exact h7 p hp e⟩
end L2
namespace L2
open PySem PySem.Spec PyProof.Rows
section
variable {X:Cx}
def qB:R2:=fun x y H Q=>∃ p o xs i v,x=.ref p/\y=.int i/\H p=some o/\Ob o xs/\bX xs i=some v/\Q v H
theorem da:fH X qB:=by
 intro value slice pins s σ H x y v u Q I rx ry h hs
 obtain⟨p,o,xs,i,z,e1,e2,hp,ho,he,q⟩:=h
 exact wG value slice pins s σ H x y v u Q I rx ry ⟨p,xs,i,z,e1,e2,ho.sq hp,he,q⟩ hs
theorem gq:bB X (.type "tuple") (fun xs H Q=>∃ a o ys,xs=[.ref a]/\H a=some o/\Ob o ys/\∀ l H',aa H H'->H' l=some (.tup ys)->Q (.ref l) H'):=by
 intro pins s σ H xs us Q I r h
 obtain⟨a,o,ys,e1,ha,ho,q⟩:=h
 refine zY pins s σ H xs us Q I r ⟨a,ys,e1,?_⟩
 rcases ho with ho|ho
 ·subst ho
  exact .inl ⟨.of ha,fun l hl=>q l _ (aa.upd hl) ah⟩
 ·subst ho
  exact .inr ⟨.of ha,q a H (aa.refl _) ha⟩
end
end L2
namespace HT
open PySem PyProof.Rows
section
variable {prog:CP}{w:World}{A:Around}{E:Value->CW->Prop}{s:CW}
theorem getItem_tuple_whole {t sl:Addr}{items:Array Value}{vl vu:Value}{lo hi:Option Int}{Q:Value->CW->Prop}(ht:IsTup s.heap t items)(hs:s.heap.IsSliceOf sl vl vu .none)(pl:DN vl lo)(pu:DN vu hi)
  (hw:sIx items.size 0 lo=0/\sIx items.size items.size hi=items.size)
  (h:Q (.ref t) s):wpAny (model prog w) A (Di (.ref t) (.ref sl)) Q E s:=by
 obtain⟨os,hos,hcs,hds⟩:=id hs
 have hTs:s.TypeIs (.ref sl) "slice":=⟨os,hos,hcs⟩
 unfold Di
 try with_reducible refine Dg ?_
 first|refine Df (Ds ?_)|skip
 refine Df (wpAny_sequenceKey ht.typeIs (by decide) ?_)
 refine Df (DO (name:=Str.ofString "__getitem__") ht.typeIs PyProof.Rows.slot_tuple_getitem
  (DP PyProof.Rows.slot_tuple_getitem ht.typeIs entry_tuple_getitem ?_ (args_tuple_getitem _ _)))
 show wpAny _ _ (Builtin.Tuple.tupleItemsOf (.ref t) >>= _) _ _ s
 refine Df (tupleItemsOf_ ht ?_)
 refine Df (DQ hTs ?_)
 rw[if_pos (by decide)]
 refine Df (pR hs pl pu ?_)
 have hyes:(((sIx items.size 0 lo:Nat):Int) == 0 && (1:Int) == 1 && (sIx items.size items.size hi-sIx items.size 0 lo) == items.size)=true:=by
  rw[hw.1,hw.2]
  simp
 show wpAny _ _ (if (((sIx items.size 0 lo:Nat):Int) == 0 && (1:Int) == 1 && (sIx items.size items.size hi-sIx items.size 0 lo) == items.size)=true then _ else _) _ _ s
 rw[if_pos hyes]
 wp_walk
 obtain⟨ot,hot,hct,_⟩:=id ht
 refine wpAny_loadPart hot (Ds (Ds ?_))
 rw[hct,if_pos (by decide)]
 exact Df (EC (Ds ⟨_,rfl,Ds h⟩))
end
end HT
namespace L2
open PySem PySem.Spec PyProof.Rows
theorem zJ (its:List Value):Eb its.toArray none none (some (-1))=its.reverse.toArray:=by
 unfold Eb
 have e:Ea none none (some (-1)) its.toArray.size=((its.length:Int)-1,-1,-1):=by
  rw[At];rfl
 rw[e]
 dsimp only
 congr 1
 unfold sliceRange
 dsimp only
 rw[if_neg (by decide)]
 have ec:(if (its.length:Int)-1>-1 then ((its.length:Int)-1 - -1 - -1-1) / (- -1) else 0).toNat=its.length:=by
  by_cases h:(its.length:Int)-1>-1
  ·rw[if_pos h]
   have e2:((its.length:Int)-1 - -1 - -1-1) / (- -1)=(its.length:Int):=by
    rw[show (- -1:Int)=1 by decide,CD]
    omega
   rw[e2]
   omega
  ·rw[if_neg h]
   omega
 rw[ec]
 apply Bk
 intro i
 have key:∀ (n:Nat),n<=its.length->((AG n).map fun (k:Nat)=>((its.length:Int)-1+-1*(k:Int)).toNat).filterMap (its.toArray[·]?)=its.reverse.take n:=by
  intro n
  induction n with
  | zero=>intro _;rfl
  | succ n ih =>
   intro hn
   rw[List.range_succ,Ax,List.filterMap_append,ih (by omega),Aw]
   congr 1
   have e1:((its.length:Int)-1+-1*(n:Int)).toNat=its.length-1-n:=by omega
   have e2:its.reverse[n]?=some (its[its.length-1-n]'(by omega)):=by
    rw[List.getElem?_reverse (by omega)]
    exact As _
   rw[e2]
   simp only[Av,Bi,e1,Ba,List.filterMap_nil,Bx]
   rw[As (by omega)]
   rfl
 rw[key its.length (B6 _),AL (by rw[By];exact B6 _)]
section
variable {X:Cx}{e:Expr}{te:TE}{pos p2:Pos}
def zw (K:W.Frag):V->Option Int->Option Int->Hp->VK->Prop:=fun x lo hi H Q=>∃ a xs,x=.ref a/\bj K H a xs /\
 (HT.sIx xs.length 0 lo=0/\HT.sIx xs.length xs.length hi=xs.length)/\Q (.ref a) H
theorem z8:gc X (zw X.K):=by
 intro pins s σ H x v vl vu lo hi sl Q I rx hs pl pu h
 obtain⟨a,xs,rfl,hx,hw,q⟩:=h
 cases rx
 obtain⟨its,r,ht,hz⟩:=I.tuple hx
 have hlen:its.toArray.size=xs.length:=by rw[At];exact r.length.symm
 refine⟨"tuple",_,PyProof.Rows.slot_tuple_getitem.lookup,ht.typeIs,?_⟩
 exact HT.getItem_tuple_whole ht hs pl pu (by rw[hlen];exact hw) ⟨.ref a,H,I,rfl,q⟩
theorem zi:gc X (fun x lo hi H Q=>∃ a xs,x=.ref a/\bj X.K H a xs/\((HT.sIx xs.length 0 lo=0/\HT.sIx xs.length xs.length hi=xs.length)->Q (.ref a) H)/\∀ p,H p=none->Q (.ref p) (upd H p (.tup (eB xs lo hi)))):=by
 intro pins s σ H x v vl vu lo hi sl Q I rx hs pl pu h
 obtain⟨a,xs,ex,hx,q1,q2⟩:=h
 by_cases hw:HT.sIx xs.length 0 lo=0/\HT.sIx xs.length xs.length hi=xs.length
 ·exact z8 pins s σ H x v vl vu lo hi sl Q I rx hs pl pu ⟨a,xs,ex,hx,hw,q1 hw⟩
 ·exact Am pins s σ H x v vl vu lo hi sl Q I rx hs pl pu ⟨a,xs,ex,hx,hw,q2⟩
theorem zo {st:Expr}{tst:TE}(he:PE X e te)(hst:PE X st tst):PE X (.Subscript e (.Slice none none (some st) p2) pos) (fun σ H Q=>te σ H fun x H1=>tst σ H1 fun y H2=>∃ a xs,x=.ref a/\y=.int (-1)/\aS X.K H2 a xs/\∀ p,H2 p=none->Q (.ref p) (upd H2 p (.lst xs.reverse))):=by
 refine⟨?_⟩
 intro pins s σ H Q I h
 refine DT (ai (he pins s σ H _ I h) fun v s1 ⟨x,H1,I1,r1,q1⟩=>?_)
 refine wpAny_Slice ?_
 rw[DS]
 refine Ds (Ds ?_)
 show wpAny (model X.prog X.w) X.A (eval st X.env) _ _ _
 refine ai (hst pins s1 σ H1 _ I1 q1) fun u s2 ⟨y,H2,I2,r2,q2⟩=>?_
 obtain⟨a,xs,e1,e2,hq,q⟩:=q2
 subst e1 e2
 cases r1
 obtain⟨t,rfl⟩:=r2
 have I4:ac X pins σ H2 { s2 with heap:=s2.heap.push { cls:=.type "slice",data:=.fields #[.none,.none,.int (-1) t] } }:=I2.kept (t':=s2.toks) fun b ob q=>BY _ q
 obtain⟨its,r,ht,hz⟩:=I4.list hq
 have hlen:=r.length
 refine tail_any (ops:=[.ref a,.ref s2.heap.objs.size]) ht.isList.typeIs slot_list_getitem.lookup ?_ (by with_unfolding_all rfl)
 refine Ec ht.isList (Heap.IsSliceOf.new ..) .none .none (.int (-1) t) (by decide) ?_ (by rw[At] <;> omega)
 rw[zJ]
 refine⟨.ref _,_,I4.laid (t':=s2.toks) (o:=.lst xs.reverse) (fun b ob q=>BY _ q) (B6 _) ?_,rfl,q _ (I4.hok.fresh (B6 _))⟩
 exact⟨by rw[By];exact hz,_,0,r.reverse,BZ _ rfl⟩
end
end L2
namespace L2
open PySem PySem.Spec PyProof.Rows
section
variable {X:Cx}{tg:Expr}
theorem bK (K:W.Frag){l:Expr}{tl:TE}(hl:PE X l tl)(e:X.K=K:=by rfl):PI X tg l (qG K tl):=by subst e;exact vJ hl
theorem rQ (K:W.Frag){l:Expr}{tl:TE}(hl:PE X l tl)(e:X.K=K:=by rfl):PI X tg l (tP K tl):=by subst e;exact si hl
inductive tG (K:W.Frag)(xs:List V)(H:Hp)(Q:VK):Prop
 | mk (p:Addr)(ys:List V)(e:xs=[.ref p])(h:aS K H p ys\/bj K H p ys)(q:Q (.int ys.length) H):tG K xs H Q
theorem iw (K:W.Frag)(e:X.K=K:=by rfl):bB X (.builtin "len") (tG K):=by
 subst e
 intro pins s σ H xs us Q I r h
 obtain⟨p,ys,e,h,q⟩:=h
 exact j4 pins s σ H xs us Q I r ⟨p,ys,e,h,q⟩
inductive n5 (K:W.Frag)(xs:List V)(H:Hp)(Q:VK):Prop
 | mk (p:Addr)(ns:List Int)(e:xs=[.ref p])(h:aS K H p (ns.map V.int)\/bj K H p (ns.map V.int))(q:Q (.int ns.sum) H):n5 K xs H Q
theorem iE (K:W.Frag)(hc:X.calm=true)(e:X.K=K:=by rfl):bB X (.builtin "sum") (n5 K):=by
 subst e
 intro pins s σ H xs us Q I r h
 obtain⟨p,ns,e,h,q⟩:=h
 exact qA hc pins s σ H xs us Q I r ⟨p,ns,e,h,q⟩
theorem wO (K:W.Frag)(e:X.K=K:=by rfl):gc X (nw K):=by subst e;exact xn
theorem x8 (K:W.Frag)(e:X.K=K:=by rfl):bB X (.type "list") (fun xs H Q=>∃ p ys,xs=[.ref p]/\(aS K H p ys\/bj K H p ys)/\∀ l,H l=none->Q (.ref l) (upd H l (.lst ys))):=by subst e;exact y6
theorem i8 (K:W.Frag){e:Expr}{f:Str}{ta:TE}{pos:Pos}(he:PE X e ta)(hb:Dv e f X.env (eval e X.env)=eval e X.env)(ek:X.K=K:=by rfl):PE X (.Attribute e f pos) (tY K ta f):=by subst ek;exact mh he hb
theorem jM (K:W.Frag){es:List Expr}{k:Nat}{t:gP}{n:Nat}{pos:Pos}(hc:X.calm=true)(h:i7 X es t)(hn:(Dd es X.env).length=n:=by rfl)(hst:(Dd es X.env).findIdx? (·.1)=none:=by rfl)(ek:X.K=K:=by rfl):PG X (.Tuple es k pos) (kN K n t):=by subst ek;exact kz hc h hn hst
theorem fg (K:W.Frag){o e:Expr}{es:List Expr}{to:TE}{t:TA}{name:Str}{apos cpos:Pos}{T id:String}{r:V->List V->Hp->VK->Prop}(pa:PlainAttrs T)(slot:Slot T name id)(hty:typeOf (.builtin id)=pure (.type "method_descriptor"))(hm:kK X id r)(ho:PE X o to)(ha:PA X (e::es) t)
 (hbase:Dv o name X.env (eval o X.env)=eval o X.env:=by rfl)
 (hfew:((CZ cpos (C0 (e::es) X.env)).all (fun x=>!x.1) && (DH cpos (DI [] X.env)).all (fun x=>x.1.isSome) && decide ((e::es).length+([]:List DJ).length+(if ([]:List DJ).isEmpty then 0 else 1)<30))=true:=by rfl)
 (hline:(apos.endLine == cpos.line)=true:=by rfl) (hs:C0 (e::es) X.env=(false,eval e X.env)::C0 es X.env:=by rfl) (hplain:(CZ cpos (C0 es X.env)).any (·.1)=false:=by rfl) (ek:X.K=K:=by rfl) :
 PE X (.Call (.Attribute o name apos) (e::es) [] cpos) (nT K T r to t):=by subst ek;exact tV pa slot hty hm ho ha hbase hfew hline hs hplain
theorem z7 (K:W.Frag){e st:Expr}{te tst:TE}{pos p2:Pos}(he:PE X e te)(hst:PE X st tst)(ek:X.K=K:=by rfl):PE X (.Subscript e (.Slice none none (some st) p2) pos) (fun σ H Q=>te σ H fun x H1=>tst σ H1 fun y H2=>∃ a xs,x=.ref a/\y=.int (-1)/\aS K H2 a xs/\∀ p,H2 p=none->Q (.ref p) (upd H2 p (.lst xs.reverse))):=by subst ek;exact zo he hst
end
end L2
namespace L2
open PySem PySem.Spec PyProof.Rows
section
variable {X:Cx}{k k':Nat}{x:Str}{sp:Sp}{p pos:Pos}
theorem jw (h:aP X.prog X.w X.K X.mg X.base k x [] sp)(hr:aZ k' X.A)(hg:Gl X x:=by rfl)(hk:k<=k':=by decide)(hdb:(x == ("__debug__" : Str))=false:=by decide):PE X (.Call (.Name x p) [] [] pos) (ku sp [] E0 eN):=by
 obtain⟨f,fd,F,hm,kp,b⟩:=h
 exact xN F (hr.mono hk) hg hm kp b .nil iq hdb
end
theorem aa.but_ne {H H':Hp}{D:Addr}{o:HO}(s:aa H H')(h:H D=none):aa H (L2.upd H' D o):=fun b u e=>by
 rw[L2.upd_ne (aR e h)]
 exact s _ _ e
theorem Paired.mono2 {α β:Type}{F G:α->β->Prop}(f:∀ a b,F a b->G a b){l₁:List α}{l₂:List β}(r:Paired F l₁ l₂):Paired G l₁ l₂:=Paired.mapP r f
theorem Paired.mapR {α β γ:Type}{F:α->β->Prop}{G:α->γ->Prop}{g:β->γ}(h:∀ a b,F a b->G a (g b)):∀ {xs:List α}{ys:List β},Paired F xs ys->Paired G xs (ys.map g)
 | _,_,.nil=>.nil
 | _,_,.cons r t=>.cons (h _ _ r) (Paired.mapR h t)
theorem Paired.picks {α β:Type}{F:α->β->Prop}{xs:List α}{ys:List β}{a:α}{b:β}(h:Paired F xs ys):∀ (p:List Nat),(∀ i∈p,i<xs.length)->Paired F (p.map fun i=>xs.getD i a) (p.map fun i=>ys.getD i b)
 | [],_=>.nil
 | i::p,hp=>by
  have hi:=hp i AF
  obtain⟨y,ey,r⟩:=Paired.get h (As hi)
  refine .cons ?_ (Paired.picks h p fun j hj=>hp j (AD _ hj))
  show F (xs.getD i a) (ys.getD i b)
  rw[Az,Az,ey,As hi]
  exact r
theorem dt {n:Nat}(h:n<=1000):n<=CQ:=Ch (cR h)
end L2
namespace Pr
open PySem L2 PyProof.Rows Ent
abbrev fO (e:En):List V:=[.int e.1,.str e.2.1,.int e.2.2]
def cj (H:Hp)(x:V)(e:En):Prop:=∃ a o,x=.ref a/\H a=some o/\Ob o (fO e)
def aM (H:Hp)(x:V)(e:En):Prop:=∃ a,x=.ref a/\H a=some (.tup (fO e))
theorem cj.same {H H':Hp}(s:aa H H'){x:V}{e:En}(h:cj H x e):cj H' x e:=by
 obtain⟨a,o,h1,h2,h3⟩:=h
 exact⟨a,o,h1,s _ _ h2,h3⟩
theorem aM.same {H H':Hp}(s:aa H H'){x:V}{e:En}(h:aM H x e):aM H' x e:=by
 obtain⟨a,h1,h2⟩:=h
 exact⟨a,h1,s _ _ h2⟩
theorem aM.g {H:Hp}{x:V}{e:En}(h:aM H x e):cj H x e:=by
 obtain⟨a,h1,h2⟩:=h
 exact⟨a,_,h1,h2,.inr rfl⟩
theorem aM.wr {H:Hp}{x:V}{e:En}{D:Addr}{ys:List V}{o:HO}(h:aM H x e)(hD:H D=some (.lst ys)):aM (upd H D o) x e:=by
 obtain⟨a,h1,h2⟩:=h
 exact⟨a,h1,by rw[upd_ne (cM h2 hD (by intro z;cases z))];exact h2⟩
theorem aM.dat {H:Hp}{x:V}{e:En}(h:aM H x e):am H (eD e) x:=by
 obtain⟨a,h1,h2⟩:=h
 unfold eD am
 refine⟨a,_,h1,h2,?_⟩
 unfold ay
 refine⟨_,_,rfl,by unfold am;rfl,?_⟩
 unfold ay
 refine⟨_,_,rfl,by unfold am;rfl,?_⟩
 unfold ay
 refine⟨_,_,rfl,by unfold am;rfl,?_⟩
 unfold ay
 rfl
section
variable {P:CP}{w:World}{K:W.Frag}{mg:Str->Option Value}{base:Heap}{C:Addr}
theorem Ak:aI ["entry"] ["entry"] (ak gW):=aN
theorem uN (T:Txt K mg C):aP P w K mg base 1 "place_of" ["entry"] jy:=by
 refine aU T.f_place_of Ak (fun vs H Q E h=>?_) (fun f cdv A outer s H vs Q E hr h=>?_)
 ·obtain⟨a,m,k,r,rfl,_⟩:=h
  rfl
 ·obtain⟨a,m,k,r,rfl,ha,q⟩:=h
  refine⟨_,ar (aF (bP (az (av (bp K) (pv 0) ag (fun _ _=>rfl)) (av (bp K) (pv 0) ag (fun _ _=>rfl))))),?_⟩
  refine⟨_,rfl,a,_,_,_,rfl,rfl,.of ha,bz (j:=0) rfl,_,rfl,a,_,_,_,rfl,rfl,.of ha,bz (j:=1) rfl,dt (by show 2<=1000;decide),fun p hp=>q p hp⟩
inductive oA (vs:List V)(H:Hp)(Q:VK)(E:XK):Prop
 | mk (e:vs=[])(q:∀ p H',aa H H'->H p=none->am H' cn (.ref p)->Q (.ref p) H'):oA vs H Q E
theorem zZ:aI [] [] (ak gJ):=aN
theorem jL {H:Hp}{p:Addr}(h:H p=some (.tup [.int 0,.int 0,.non,.non,.non,.non])):am H cn (.ref p):=by
 unfold cn am
 refine⟨p,_,rfl,h,?_⟩
 iterate 6
  unfold ay
  refine⟨_,_,rfl,by unfold am;rfl,?_⟩
 unfold ay
 rfl
theorem empty (T:Txt K mg C):aP P w K mg base 1 "empty" [] oA:=by
 refine aU T.f_empty zZ (fun vs H Q E h=>?_) (fun f cdv A outer s H vs Q E hr h=>?_)
 ·obtain⟨rfl,_⟩:=h
  rfl
 ·obtain⟨rfl,q⟩:=h
  refine⟨_,ar (aF (bP (aO ag (aO ag (aO cq (aO cq (aO cq (aO cq b9)))))))),?_⟩
  exact⟨dt (by show 6<=1000;decide),fun p hp=>q p _ (aa.upd hp) hp (jL ah)⟩
inductive rj (vs:List V)(H:Hp)(Q:VK)(E:XK):Prop
 | mk (a:Addr)(o:HO)(xs:List V)(es:List En)(h0:vs=[.ref a])(h1:H a=some o)(h2:Ob o xs)(h3:Paired (cj H) xs es)(h4:es.length<64)
  (q:∀ D H' ys (p:List Nat),aa H H'->H D=none->H' D=some (.lst ys)->Paired (aM H') ys (b8 es p)->p.Perm (AG es.length)->p.Pairwise (Srt.R (Srt.ltOf (es.map pl)))->Q (.ref D) H'):rj vs H Q E
theorem qb:aI ["entries"] ["entries"] (ak gY):=aN
theorem qR (T:Txt K mg C):aP P w K mg base 4 "in_order" ["entries"] rj:=by
 refine aU T.f_in_order qb (fun vs H Q E h=>?_) (fun f cdv A outer s H vs Q E hr h=>?_)
 ·obtain⟨a,o,xs,es,rfl,_⟩:=h
  rfl
 ·obtain⟨a,o,xs,es,rfl,ha,ho,hp,h64,q⟩:=h
  have hlen:xs.length=es.length:=hp.length
  refine⟨_,ar (aF (vd K (uN T) hr T.b_sorted (ap (cx rfl (bQ qb) (fJ (pv 0)) (fun _ _ _ _=>bZ) (fun _ _ _ _=>ed gq T.b_tuple EL (ap (pv 0))))))),?_⟩
  refine⟨_,rfl,a,o,xs,rfl,ha,ho,fun J hJ D hD=>?_⟩
  refine gI hJ (fun i ys H1=>H1 D=some (.lst ys)/\ys.length=i/\aa H H1/\Paired (aM H1) ys (es.take i)) ⟨ah,rfl,aa.upd hD,.nil⟩ (fun i ys H1 h=>⟨h.1,h.2.2.1 _ _ ha⟩) (fun ys H1 h=>?_) fun i x ys H1 hi hx h=>?_
  ·obtain⟨d1,d2,d3,d4⟩:=h
   rw[AL (by omega)] at d4
   refine⟨D,ys,es.map pl,rfl,.of d1,by omega,Paired.mapR (fun x e ⟨b,e1,e2⟩=>⟨b,_,e1,e2⟩) d4,fun D' H' p s' hD' hg p1 p2=>?_⟩
   rw[d2,hlen] at p1
   refine q D' H' _ p (d3.trans s') (d3.free hD') hg ?_ p1 p2
   exact Paired.picks (Paired.mono2 (fun _ _ z=>z.same s') d4) p fun i hi=>by
    have:=List.mem_range.mp (p1.mem_iff.mp hi)
    omega
  ·obtain⟨d1,d2,d3,d4⟩:=h
   obtain⟨e,he,b,ob,rfl,hb,hob⟩:=Paired.get hp hx
   refine cL ⟨_,rfl,b,ob,_,rfl,d3 _ _ hb,hob,fun l H2 s2 hl=>bw.mk hi (by omega) (by omega) (s2 _ _ d1) ⟨ah,by rw[AB,d2];rfl,(d3.trans s2).but_ne hD,?_⟩⟩
   rw[Aw,he]
   refine Paired.snoc ?_ (Paired.mono2 (fun _ _ z=>(z.same s2).wr (s2 _ _ d1)) d4)
   exact aM.wr ⟨l,rfl,hl⟩ (s2 _ _ d1)
theorem mn {H:Hp}{p:Addr}{n:Nat}{s lo hi:Int}{f l:En}{x y:V}(h:H p=some (.tup [.int n,.int s,.int lo,.int hi,x,y]))(hx:aM H x f)(hy:aM H y l):am H (fX n s lo hi f l) (.ref p):=by
 unfold fX am
 refine⟨p,_,rfl,h,?_⟩
 iterate 4
  unfold ay
  refine⟨_,_,rfl,by unfold am;rfl,?_⟩
 unfold ay
 refine⟨_,_,rfl,hx.dat,?_⟩
 unfold ay
 refine⟨_,_,rfl,hy.dat,?_⟩
 unfold ay
 rfl
inductive rb (vs:List V)(H:Hp)(Q:VK)(E:XK):Prop
 | mk (a:Addr)(o:HO)(xs:List V)(es:List En)(h0:vs=[.ref a])(h1:H a=some o)(h2:Ob o xs)(h3:Paired (cj H) xs es)(h4:es.length<64)
  (q:∀ p H' b,aa H H'->H p=none->bD es b->am H' b (.ref p)->Q (.ref p) H'):rb vs H Q E
theorem lE:aI ["entries","rows","values"] ["entries"] (ak gT):=aN
theorem vR (T:Txt K mg C):aP P w K mg base 5 "bar_of" ["entries"] rb:=by
 refine aU T.f_bar_of lE (fun vs H Q E h=>?_) (fun f cdv A outer s H vs Q E hr h=>?_)
 ·obtain⟨a,o,xs,es,rfl,_⟩:=h
  rfl
 ·obtain⟨a,o,xs,es,rfl,ha,ho,hp,h64,q⟩:=h
  have hlen:xs.length=es.length:=hp.length
  refine⟨_,al (aB (i:=1) lE.nd rfl (Or.inl rfl) (aq (qR T) hr (ap (pv 0))))
   (al (bA (fw (pB (pv 1) (fun _=>rfl))) (ar (aF (jw (empty T) hr))) bE)
   (al (iZ (i:=2) rfl rfl rfl (bQ lE) (bK K (pv 1)) (fun _ _ _ _=>bZ) (fun _ _ _ _=>av (bp K) (pv 0) ag (fun _ _=>rfl)))
   (ar (aF (bP (aO (aQ (iw K) T.b_len EM (ap (pv 1))) (aO (aQ (iE K rfl) T.b_sum EN (ap (pv 2))) (aO (aQ (mv K rfl) T.b_min EO (ap (pv 2))) (aO (aQ (nj K rfl) T.b_max EQ (ap (pv 2)))
    (aO (av (bi K) (pv 1) ag (fun _ _=>rfl)) (aO (av (bi K) (pv 1) (dI dN ag) (fun _ _=>rfl)) b9))))))))))),?_⟩
  refine⟨_,rfl,a,o,xs,es,rfl,ha,ho,hp,h64,fun D H1 ys p s1 hD hy hE p1 p2=>?_⟩
  have hpm:=eY p1
  have hyl:ys.length=es.length:=by rw[hE.length,hpm.length_eq]
  refine⟨_,rfl,_,.inl ⟨ys,.of hy,rfl⟩,?_⟩
  cases hes:ys with
  | nil =>
   refine bV ⟨rfl,fun p' H2 s2 hp' hd=>q p' H2 _ (s1.trans s2) (s1.free hp') (.non ?_ rfl) hd⟩
   rw[hes] at hyl
   exact A7 hyl.symm
  | cons y yr =>
   rw[<-hes]
   have hye:(!ys.isEmpty)=true:=by rw[hes];rfl
   rw[hye]
   refine cm ?_
   refine⟨_,rfl,D,rfl,⟨ys,.of hy⟩,fun V' hV=>?_⟩
   refine iu (xs:=ys) (fun i zs H2=>H2 V'=some (.lst zs)/\aa H1 H2/\zs=(aK ((b8 es p).take i)).map V.int) ⟨ah,aa.upd hV,rfl⟩ (fun i zs H2 h=>⟨h.1,h.2.1.seq (.of hy)⟩) (fun zs H2 h=>?_) fun i x zs H2 hi hx h=>?_
   ·obtain⟨d1,d2,d3⟩:=h
    rw[AL (by rw[hE.length];exact B6 _)] at d3
    subst d3
    have hD2:H2 D=some (.lst ys):=d2 _ _ hy
    have hE2:Paired (aM H2) ys (b8 es p):=Paired.mono2 (fun _ _ z=>z.same d2) hE
    have hne:aK (b8 es p)≠[]:=by
     intro z
     have z2:(aK (b8 es p)).length=0:=by rw[z];rfl
     unfold aK at z2
     rw[Ar,<-hE.length,hes] at z2
     cases z2
    cases hpk:b8 es p with
    | nil =>
     rw[hpk] at hne
     exact absurd rfl hne
    | cons fe re =>
    rcases Bc (b8 es p) with z|⟨rl,le,hpl⟩
    ·rw[hpk] at z;cases z
    rw[Be] at hpl
    obtain⟨yf,ef,rf⟩:=Paired.getR hE2 (i:=0) (y:=fe) (by rw[hpk];rfl)
    obtain⟨yl,el,rl'⟩:=Paired.getR hE2 (i:=rl.length) (y:=le) (by rw[hpl];simp)
    have hlast:∃ yr',ys=yr'++[yl]:=by
     rcases Bc ys with z|⟨yr',yl',hyr⟩
     ·rw[hes] at z;cases z
     ·rw[Be] at hyr
      refine⟨yr',?_⟩
      have l1:ys.length=rl.length+1:=by rw[hE2.length,hpl];simp
      have l2:yr'.length=rl.length:=by rw[hyr] at l1;simpa using l1
      rw[hyr,<-l2] at el
      rw[hyr]
      simp at el
      rw[el]
    obtain⟨yr',hyr⟩:=hlast
    have hbar:=fun lo hi (g1:lo∈aK (b8 es p)) g2 (g3:hi∈aK (b8 es p)) g4=>bD.perm hpm (.some lo hi fe le g1 g2 g3 g4 (by rw[hpk];exact AF) (fun e he=>(oU p1 p2 hpk).2 e (hpm.mem_iff.mp he)) (by rw[hpl];simp) (fun e he=>(sn p1 p2 hpl).2 e (hpm.mem_iff.mp he)) rfl)
    refine⟨_,rfl,D,ys,rfl,.inl (.of hD2),_,rfl,V',_,rfl,.inl (.of d1),_,rfl,V',_,rfl,.of d1,hne,fun lo g1 g2=>⟨_,rfl,V',_,rfl,.of d1,hne,fun hi g3 g4=>?_⟩⟩
    refine⟨_,rfl,D,ys,_,_,rfl,rfl,.of hD2,bz (j:=0) ef,_,rfl,_,rfl,D,ys,_,_,rfl,rfl,.of hD2,by rw[hyr];exact jT _ _,dt (by show 6<=1000;decide),fun pp hpp=>?_⟩
    refine q pp _ _ ((s1.trans d2).trans (aa.upd hpp)) ((s1.trans d2).free hpp) (hbar lo hi g1 g2 g3 g4) ?_
    have hn:ys.length=(b8 es p).length:=hE2.length
    exact mn (by rw[ah,hn]) (rf.same (aa.upd hpp)) (rl'.same (aa.upd hpp))
   ·obtain⟨d1,d2,d3⟩:=h
    obtain⟨e,he,b,rfl,hb⟩:=Paired.get hE hx
    refine cL ⟨_,rfl,b,_,_,_,rfl,rfl,.of (d2 _ _ hb),bz (j:=2) rfl,bw.mk hi (by omega) ?_ d1 ⟨ah,d2.but_ne hV,?_⟩⟩
    ·rw[d3]
     unfold aK
     rw[Ar,Ar,AC]
     omega
    ·rw[d3,Aw,he]
     unfold aK
     simp
end
end Pr
namespace Lad
def Good (S:List Int):Prop:=S≠[]/\∀ v∈S,1<=v
def fst (b:Int)(S:List Int)(k:Int):Int:=b+k / (S.length:Int)*S.sum+(S.take (k % (S.length:Int)).toNat).sum
def sz (S:List Int)(k:Int):Int:=S.getD (k % (S.length:Int)).toNat 0
def walk:List Int->Int->Nat
 | [],_=>0
 | v::r,x=>if x<v then 0 else walk r (x-v)+1
def num (b:Int)(S:List Int)(p:Int):Int:=(p-b) / S.sum*(S.length:Int)+(walk S ((p-b) % S.sum):Int)
theorem nW:∀ (S:List Int),(∀ v∈S,1<=v)->(S.length:Int)<=S.sum
 | [],_=>by simp
 | v::r,h=>by
  have h1:=nW r fun x hx=>h x (AD _ hx)
  have h2:=h v AF
  rw[Ay,AH]
  omega
theorem Good.len {S:List Int}(g:Good S):1<=S.length:=by
 cases S with
 | nil=>exact absurd rfl g.1
 | cons v r=>rw[Ay];omega
theorem Good.sum {S:List Int}(g:Good S):1<=S.sum:=by
 have:=nW S g.2
 have:=g.len
 omega
theorem lp (S:List Int)(i:Nat):(S.take (i+1)).sum=(S.take i).sum+S.getD i 0:=by
 rw[Aw,BG]
 cases e:S[i]? with
 | none=>simp[Az,e]
 | some v=>simp[Az,e]
theorem getD_pos {S:List Int}(h:∀ v∈S,1<=v){i:Nat}(hi:i<S.length):1<=S.getD i 0:=by
 rw[Az,As hi]
 exact h _ (AZ hi)
theorem tR:∀ (S:List Int) (x:Int),0<=x->x<S.sum->walk S x<S.length/\(S.take (walk S x)).sum<=x/\x<(S.take (walk S x+1)).sum
 | [],x,h0,h1=>by simp at h1;omega
 | v::r,x,h0,h1=>by
  rw[AH] at h1
  unfold walk
  by_cases h:x<v
  ·rw[if_pos h]
   refine⟨by rw[Ay];omega,by simpa using h0,?_⟩
   rw[Bf,AH,Bw,Bl]
   omega
  ·rw[if_neg h]
   obtain⟨a,b,c⟩:=tR r (x-v) (by omega) (by omega)
   refine⟨by rw[Ay];omega,?_,?_⟩
   ·rw[Bf,AH];omega
   ·rw[Bf,AH];omega
theorem qv (b:Int)(S:List Int):fst b S 0=b:=by unfold fst;simp
theorem kr {b:Int}{S:List Int}{q r:Int}(h0:0<=r)(h1:r<(S.length:Int)):fst b S (q*(S.length:Int)+r)=b+q*S.sum+(S.take r.toNat).sum:=by
 unfold fst
 have e1:(q*(S.length:Int)+r) / (S.length:Int)=q:=by
  rw[CB,Int.add_mul_ediv_right _ _ (by omega),Int.ediv_eq_zero_of_lt h0 h1]
  omega
 have e2:(q*(S.length:Int)+r) % (S.length:Int)=r:=by
  rw[CB,CG,CH h0 h1]
 rw[e1,e2]
theorem sN {S:List Int}(g:Good S)(b k:Int):fst b S (k+1)=fst b S k+sz S k:=by
 have hn:=g.len
 have hr0:0<=k % (S.length:Int):=Cz _ (by omega)
 have hr1:k % (S.length:Int)<(S.length:Int):=CA _ (by omega)
 have hk:k=k / (S.length:Int)*(S.length:Int)+k % (S.length:Int):=by
  have:=CI k (S.length:Int)
  rw[CJ] at this
  omega
 have e0:fst b S k=b+k / (S.length:Int)*S.sum+(S.take (k % (S.length:Int)).toNat).sum:=rfl
 rw[e0]
 unfold sz
 generalize k / (S.length:Int)=q at *
 generalize k % (S.length:Int)=r at *
 by_cases h:r+1<(S.length:Int)
 ·have e:k+1=q*(S.length:Int)+(r+1):=by omega
  rw[e,kr (by omega) h]
  have e2:(r+1).toNat=r.toNat+1:=by omega
  rw[e2,lp]
  omega
 ·have e:k+1=(q+1)*(S.length:Int)+0:=by rw[Int.add_mul];omega
  rw[e,kr (by omega) (by omega)]
  have e2:S.sum=(S.take r.toNat).sum+S.getD r.toNat 0:=by
   rw[<-lp,show r.toNat+1=S.length by omega,AI]
  rw[show ((0:Int).toNat)=0 from rfl,Bw,Bl,Int.add_mul,Int.one_mul]
  omega
theorem xi {S:List Int}(g:Good S)(k:Int):1<=sz S k:=by
 have hn:=g.len
 have hr0:0<=k % (S.length:Int):=Cz _ (by omega)
 have hr1:k % (S.length:Int)<(S.length:Int):=CA _ (by omega)
 exact getD_pos g.2 (by omega)
theorem wN {S:List Int}(g:Good S)(b k:Int):∀ n:Nat,fst b S k+n<=fst b S (k+n):=by
 intro n
 induction n with
 | zero=>simp
 | succ n ih =>
  have e:k+((n+1:Nat):Int)=(k+n)+1:=by omega
  rw[e,sN g]
  have:=xi g (k+n)
  omega
theorem nZ {S:List Int}(g:Good S)(b:Int){j k:Int}(h:j<=k):fst b S j+(k-j)<=fst b S k:=by
 have:=wN g b j (k-j).toNat
 have e:j+((k-j).toNat:Int)=k:=by omega
 rw[e] at this
 omega
theorem xx {S:List Int}(g:Good S)(b p:Int):0<=(walk S ((p-b) % S.sum):Int)/\(walk S ((p-b) % S.sum):Int)<(S.length:Int)/\fst b S (num b S p)<=p/\p<fst b S (num b S p+1):=by
 have hs:=g.sum
 have h0:0<=(p-b) % S.sum:=Cz _ (by omega)
 have h1:(p-b) % S.sum<S.sum:=CA _ (by omega)
 have hp:p-b=(p-b) / S.sum*S.sum+(p-b) % S.sum:=by
  have:=CI (p-b) S.sum
  rw[CJ] at this
  omega
 obtain⟨a,c,d⟩:=tR S _ h0 h1
 have a':(walk S ((p-b) % S.sum):Int)<(S.length:Int):=by omega
 refine⟨by omega,a',?_,?_⟩
 ·unfold num
  rw[kr (by omega) a',Cy]
  omega
 ·rw[sN g]
  have hz:sz S (num b S p)=S.getD (walk S ((p-b) % S.sum)) 0:=by
   unfold sz num
   rw[CB,CG,CH (by omega) a',Cy]
  rw[hz]
  unfold num
  rw[kr (by omega) a',Cy]
  rw[lp] at d
  omega
theorem w4 {S:List Int}(g:Good S)(b p:Int):fst b S (num b S p)<=p/\p<fst b S (num b S p+1):=(xx g b p).2.2
theorem xB {S:List Int}(g:Good S)(b p:Int):(0<=num b S p/\num b S p<=p-b)\/(num b S p<0/\p-b<=num b S p):=by
 obtain⟨a,c⟩:=w4 g b p
 by_cases h:0<=num b S p
 ·have:=nZ g b h
  rw[qv] at this
  exact .inl ⟨h,by omega⟩
 ·have:=nZ g b (show num b S p+1<=0 by omega)
  rw[qv] at this
  exact .inr ⟨by omega,by omega⟩
abbrev Step:=Int×List Int
def up (st:List Step)(m:Int):Int:=st.foldl (fun n s=>num s.1 s.2 n) m
def Goods (st:List Step):Prop:=∀ s∈st,Good s.2
theorem up_bound {B:Int}(hB:0<=B):∀ (st:List Step),Goods st->(∀ s∈st,-B<=s.1/\s.1<=B)->∀ m:Int,-(B*(st.length:Int))-(if m<0 then -m else m)<=up st m/\up st m<=B*(st.length:Int)+(if m<0 then -m else m)
 | [],_,_,m=>by
  show -(B*((0:Nat):Int))-(if m<0 then -m else m)<=m/\m<=B*((0:Nat):Int)+(if m<0 then -m else m)
  split <;> omega
 | s::r,g,h,m=>by
  have ih:=up_bound hB r (fun x hx=>g x (AD _ hx)) (fun x hx=>h x (AD _ hx)) (num s.1 s.2 m)
  have hb:=xB (g s AF) s.1 m
  have hs:=h s AF
  have e:B*(((s::r).length:Nat):Int)=B*(r.length:Int)+B:=by rw[Ay,CK,Int.mul_add];simp
  show -(B*(((s::r).length:Nat):Int))-_<=up r (num s.1 s.2 m)/\up r (num s.1 s.2 m)<=B*(((s::r).length:Nat):Int)+_
  rw[e]
  generalize num s.1 s.2 m=n at *
  generalize up r n=u at *
  generalize B*(r.length:Int)=c at *
  split at ih <;> split <;> omega
def PartsOk (ps:List Int):Prop:=(∀ p∈ps,p≠0)/\∃ p r,ps=p::r/\0<p
def cp (cur:Int):List Int->List Int
 | []=>[cur]
 | p::r=>if 0<p then cur::cp p r else cp (cur-p) r
def bars:List Int->List Int
 | []=>[]
 | p::r=>cp p r
def opens (ps:List Int):List Int:=ps.filter fun p=>decide (0<p)
def absI (p:Int):Int:=if p<0 then -p else p
def total (ps:List Int):Int:=(ps.map absI).sum
def addPart (acc:List Int)(p:Int):List Int:=if 0<p then acc++[p] else acc.dropLast++[acc.getLastD 0-p]
theorem lW:∀ (r:List Int) (acc:List Int) (cur:Int),r.foldl addPart (acc++[cur])=acc++cp cur r
 | [],acc,cur=>rfl
 | p::r,acc,cur=>by
  rw[AQ]
  unfold addPart cp
  by_cases h:0<p
  ·rw[if_pos h,if_pos h]
   have:=lW r (acc++[cur]) p
   unfold addPart at this
   rw[this,Bz]
   rfl
  ·rw[if_neg h,if_neg h]
   have e:(acc++[cur]).dropLast++[(acc++[cur]).getLastD 0-p]=acc++[cur-p]:=by simp
   rw[e]
   have:=lW r acc (cur-p)
   unfold addPart at this
   exact this
theorem foldl_bars {ps:List Int}(h:PartsOk ps):ps.foldl addPart []=bars ps:=by
 obtain⟨_,p,r,rfl,hp⟩:=h
 rw[AQ]
 have e:addPart [] p=[]++[p]:=by unfold addPart;rw[if_pos hp]
 rw[e,lW]
 rfl
theorem nh:∀ (r:List Int) (cur:Int),(∀ p∈r,p≠0)->1<=cur->(∀ v∈cp cur r,1<=v)/\cp cur r≠[]
 | [],cur,_,h=>⟨fun v hv=>by
   have e:v=cur:=by simpa [cp] using hv
   omega,by simp[cp]⟩
 | p::r,cur,hr,h=>by
  have hp:=hr p AF
  unfold cp
  by_cases h1:0<p
  ·rw[if_pos h1]
   obtain⟨a,b⟩:=nh r p (fun x hx=>hr x (AD _ hx)) h1
   refine⟨fun v hv=>?_,by simp⟩
   rcases List.mem_cons.mp hv with e|hv
   ·omega
   ·exact a v hv
  ·rw[if_neg h1]
   exact nh r (cur-p) (fun x hx=>hr x (AD _ hx)) (by omega)
theorem bars_good {ps:List Int}(h:PartsOk ps):Good (bars ps):=by
 obtain⟨h0,p,r,rfl,hp⟩:=h
 obtain⟨a,b⟩:=nh r p (fun x hx=>h0 x (AD _ hx)) hp
 exact⟨b,a⟩
theorem lv:∀ (r:List Int) (cur:Int),(cp cur r).sum=cur+total r
 | [],cur=>by simp[cp,total]
 | p::r,cur=>by
  unfold cp total
  rw[Av,AH]
  by_cases h1:0<p
  ·rw[if_pos h1,AH,lv r p]
   unfold total absI
   rw[if_neg (show ¬ p<0 by omega)]
  ·rw[if_neg h1,lv r (cur-p)]
   unfold total absI
   by_cases h2:p<0
   ·rw[if_pos h2];omega
   ·rw[if_neg h2];omega
theorem bars_sum {ps:List Int}(h:PartsOk ps):(bars ps).sum=total ps:=by
 obtain⟨h0,p,r,rfl,hp⟩:=h
 show (cp p r).sum=_
 rw[lv]
 unfold total absI
 rw[Av,AH,if_neg (show ¬ p<0 by omega)]
theorem lu:∀ (r:List Int) (cur:Int),(cp cur r).length=1+(opens r).length
 | [],cur=>rfl
 | p::r,cur=>by
  unfold cp opens
  by_cases h1:0<p
  ·rw[if_pos h1,Ay,lu r p,BJ (by simpa using h1),Ay]
   show 1+(opens r).length+1=1+((opens r).length+1)
   omega
  ·rw[if_neg h1,lu r (cur-p),List.filter_cons_of_neg (by simpa using h1)]
   rfl
theorem bars_len {ps:List Int}(h:PartsOk ps):(bars ps).length=(opens ps).length:=by
 obtain⟨h0,p,r,rfl,hp⟩:=h
 show (cp p r).length=_
 rw[lu]
 unfold opens
 rw[BJ (by simpa using hp),Ay]
 omega
end Lad
namespace Lad
end Lad
namespace L2
open PySem PySem.Spec PyProof.Rows
section
variable {X:Cx}{pins:List (Addr×Obj)}{σ:St}{H:Hp}{s:CW}
end
section
variable {X:Cx}
end
end L2
namespace L2
open PySem PySem.Spec PyProof.Rows
section
variable {X:Cx}{pins:List (Addr×Obj)}{σ:St}{H:Hp}{s:CW}
end
section
variable {X:Cx}
end
end L2
namespace Pr
open PySem L2 PyProof.Rows
def Sq (H:Hp)(a:Addr)(xs:List V):Prop:=H a=some (.lst xs)\/H a=some (.tup xs)
theorem Sq.same {H H':Hp}{a:Addr}{xs:List V}(h:Sq H a xs)(s:aa H H'):Sq H' a xs:=by
 rcases h with h|h
 ·exact .inl (s _ _ h)
 ·exact .inr (s _ _ h)
theorem Sq.or {K:W.Frag}{H:Hp}{a:Addr}{xs:List V}(h:Sq H a xs):aS K H a xs\/bj K H a xs:=by
 rcases h with h|h
 ·exact .inl (.of h)
 ·exact .inr (.of h)
theorem cQ:2<=CQ:=by decide
theorem dE:3<=CQ:=by decide
theorem sJ (xs:List V){k:Int}(h:0<=k):eB xs none (some k)=xs.take k.toNat:=by
 unfold eB
 obtain⟨n,rfl⟩:∃ n:Nat,k=n:=⟨k.toNat,by omega⟩
 rw[HT.sIx_none,HT.sIx_nat,List.drop_zero,Nat.sub_zero,Cy,List.take_eq_take_iff]
 omega
theorem d8 {c:Bool}{A B:Prop}(h1:c=true->A)(h2:c=false->B):if c=true then A else B:=by
 cases c with
 | true=>rw[if_pos rfl];exact h1 rfl
 | false=>rw[if_neg Bool.false_ne_true];exact h2 rfl
section
variable {P:CP}{w:World}{K:W.Frag}{mg:Str->Option Value}{base:Heap}{C:Addr}
theorem wo (K:W.Frag):W.kitOne K (.type "int") (.type "int")=some true:=by rfl
theorem xS (K:W.Frag):W.kitOne K (.type "int") (.type "bool")=some false:=by rfl
theorem xa (K:W.Frag):W.kitAny K (.type "list") [.type "list",.type "tuple"]=some true:=by rfl
theorem uz (K:W.Frag):W.kitAny K (.type "tuple") [.type "list",.type "tuple"]=some true:=by rfl
inductive oa (vs:List V)(H:Hp)(Q:VK)(E:XK):Prop
 | mk (i:Int)(h0_:vs=[.int i])(h1_:Q (.bl true) H):oa vs H Q E
theorem vD:aI ["value"] ["value"] (ak ia):=aN
theorem mT (T:Txt K mg C):aP P w K mg base 1 "is_whole" ["value"] oa:=by
 refine aU T.f_is_whole vD (fun vs H Q E h=>?_) (fun f cdv A outer s H vs Q E hr h=>?_)
 ·obtain⟨i,rfl,_⟩:=h
  rfl
 ·obtain⟨i,rfl,k⟩:=h
  refine⟨_,ar (aF (cT (aQ rP T.b_isinstance ER (az (pv 0) (ji rfl T.b_int boot_int))) (dD (zE (aQ rP T.b_isinstance ER (az (pv 0) (ji rfl T.b_bool boot_bool))))))),?_⟩
  refine⟨_,rfl,_,_,_,_,rfl,.int i,wo _,_,rfl,bV ?_⟩
  exact⟨_,rfl,_,_,_,_,rfl,.int i,xS _,_,rfl,k⟩
inductive pN (vs:List V)(H:Hp)(Q:VK)(E:XK):Prop
 | mk (i:Int)(a:Int)(b:Int)(h0_:vs=[.int i,.int a,.int b])(h1_:Q (.bl (decide (a<=i) && decide (i<=b))) H):pN vs H Q E
theorem xz:aI ["value","least","greatest"] ["value","least","greatest"] (ak gX):=aN
theorem my (T:Txt K mg C):aP P w K mg base 2 "is_whole_from" ["value","least","greatest"] pN:=by
 refine aU T.f_is_whole_from xz (fun vs H Q E h=>?_) (fun f cdv A outer s H vs Q E hr h=>?_)
 ·obtain⟨i,a,b,rfl,_⟩:=h
  rfl
 ·obtain⟨i,a,b,rfl,k⟩:=h
  refine⟨_,ar (aF (cT (aq (mT T) hr (ap (pv 0))) (dD (lM gk gk (pv 1) (pv 0) (pv 2))))),?_⟩
  refine⟨_,rfl,i,rfl,_,rfl,bV ?_⟩
  refine⟨_,rfl,_,rfl,_,_,rfl,rfl,_,rfl,?_⟩
  refine d8 (fun h=>?_) (fun h=>?_)
  ·rw[h,Bool.true_and] at k
   exact⟨_,rfl,_,_,rfl,rfl,k⟩
  ·rw[h,Bool.false_and] at k
   exact k
abbrev ba:Int:=1000000000000000000000000000000
abbrev eg:Int:=10000000000000000000000000000000000000000
inductive nr (vs:List V)(H:Hp)(Q:VK)(E:XK):Prop
 | mk (i:Int)(h0_:vs=[.int i])(h1_:Q (.bl (decide (-ba<i) && decide (i<ba))) H):nr vs H Q E
theorem wU:aI ["value"] ["value"] (ak gm):=aN
theorem mK (T:Txt K mg C):aP P w K mg base 2 "is_wide" ["value"] nr:=by
 refine aU T.f_is_wide wU (fun vs H Q E h=>?_) (fun f cdv A outer s H vs Q E hr h=>?_)
 ·obtain⟨i,rfl,_⟩:=h
  rfl
 ·obtain⟨i,rfl,k⟩:=h
  refine⟨_,ar (aF (cT (aq (mT T) hr (ap (pv 0))) (dD (lM fP fP (dI dN (dZ T.c_WIDE_END)) (pv 0) (dZ T.c_WIDE_END))))),?_⟩
  refine⟨_,rfl,i,rfl,_,rfl,bV ?_⟩
  refine⟨_,rfl,_,rfl,_,_,rfl,rfl,_,rfl,?_⟩
  refine d8 (fun h=>?_) (fun h=>?_)
  ·rw[h,Bool.true_and] at k
   exact⟨_,_,rfl,rfl,k⟩
  ·rw[h,Bool.false_and] at k
   exact k
inductive pz (vs:List V)(H:Hp)(Q:VK)(E:XK):Prop
 | mk (a:Addr)(xs:List V)(h0_:vs=[.ref a])(h1_:Sq H a xs)(h2_:∀ H',aa H H'->Q (.bl true) H'):pz vs H Q E
theorem vi:aI ["value"] ["value"] (ak gS):=aN
theorem uU (T:Txt K mg C):aP P w K mg base 1 "is_list" ["value"] pz:=by
 refine aU T.f_is_list vi (fun vs H Q E h=>?_) (fun f cdv A outer s H vs Q E hr h=>?_)
 ·obtain⟨a,xs,rfl,_⟩:=h
  rfl
 ·obtain⟨a,xs,rfl,hq,k⟩:=h
  refine⟨_,ar (aF (aQ yG T.b_isinstance ER (az (pv 0) (bP (az (ji rfl T.b_list ES) (ji rfl T.b_tuple EL)))))),?_⟩
  refine⟨_,rfl,cQ,fun p hp=>?_⟩
  have s1:∀ o,aa H (upd H p o):=fun o=>aa.upd hp
  rcases hq.same (s1 _) with hq|hq
  ·exact⟨_,_,p,_,_,_,rfl,.of ah,.lst hq,xa _,k _ (s1 _)⟩
  ·exact⟨_,_,p,_,_,_,rfl,.of ah,.tup hq,uz _,k _ (s1 _)⟩
inductive qC (vs:List V)(H:Hp)(Q:VK)(E:XK):Prop
 | mk (a:Addr)(xs:List V)(lo:Int)(hi:Int)(h0_:vs=[.ref a,.int lo,.int hi])(h1_:Sq H a xs)(h2_:∀ H',aa H H'->Q (.bl (decide (lo<=(xs.length:Int)) && decide ((xs.length:Int)<=hi))) H'):qC vs H Q E
theorem vB:aI ["value","fewest","most"] ["value","fewest","most"] (ak gF):=aN
theorem kI (T:Txt K mg C):aP P w K mg base 2 "is_list_from" ["value","fewest","most"] qC:=by
 refine aU T.f_is_list_from vB (fun vs H Q E h=>?_) (fun f cdv A outer s H vs Q E hr h=>?_)
 ·obtain⟨a,xs,lo,hi,rfl,_⟩:=h
  rfl
 ·obtain⟨a,xs,lo,hi,rfl,hq,k⟩:=h
  refine⟨_,ar (aF (cT (aq (uU T) hr (ap (pv 0))) (dD (lM gk gk (pv 1) (aQ j4 T.b_len EM (ap (pv 0))) (pv 2))))),?_⟩
  refine⟨_,rfl,a,xs,rfl,hq,fun H1 s1=>⟨_,rfl,bV ?_⟩⟩
  refine⟨_,rfl,_,rfl,a,xs,rfl,(hq.same s1).or,_,_,rfl,rfl,_,rfl,?_⟩
  have k1:=k H1 s1
  refine d8 (fun h=>?_) (fun h=>?_)
  ·rw[h,Bool.true_and] at k1
   exact⟨_,rfl,_,_,rfl,rfl,k1⟩
  ·rw[h,Bool.false_and] at k1
   exact k1
inductive qt (vs:List V)(H:Hp)(Q:VK)(E:XK):Prop
 | mk (i:Int)(a:Int)(b:Int)(h0_:vs=[.int i,.int a,.int b])(h1_:a<=i)(h2_:i<=b)(h3_:Q .non H):qt vs H Q E
theorem xO:aI ["value","least","greatest"] ["value","least","greatest"] (ak fS):=aN
theorem lD (T:Txt K mg C):aP P w K mg base 3 "need_roll" ["value","least","greatest"] qt:=by
 refine aU T.f_need_roll xO (fun vs H Q E h=>?_) (fun f cdv A outer s H vs Q E hr h=>?_)
 ·obtain⟨i,a,b,rfl,_⟩:=h
  rfl
 ·obtain⟨i,a,b,rfl,h1,h2,k⟩:=h
  refine⟨_,ar (bA (fw (dY (aq (my T) hr (aW (pv 0) (pv 1) (pv 2))))) ju bE),?_⟩
  refine⟨_,rfl,_,rfl,_,rfl,i,a,b,rfl,_,rfl,?_⟩
  rw[decide_eq_true h1,decide_eq_true h2]
  exact cm k
inductive oB (vs:List V)(H:Hp)(Q:VK)(E:XK):Prop
 | mk (i:Int)(h0_:vs=[.int i])(h1_ : -eg<i)(h2_:i<eg)(h3_:Q .non H):oB vs H Q E
theorem zf:aI ["value"] ["value"] (ak gZ):=aN
theorem rT (T:Txt K mg C):aP P w K mg base 2 "need_number" ["value"] oB:=by
 refine aU T.f_need_number zf (fun vs H Q E h=>?_) (fun f cdv A outer s H vs Q E hr h=>?_)
 ·obtain⟨i,rfl,_⟩:=h
  rfl
 ·obtain⟨i,rfl,h1,h2,k⟩:=h
  refine⟨_,ar (bA (yJ (fw (dY (aq (mT T) hr (ap (pv 0))))) (wP (fw (lG fP fP (dI dN (dZ T.c_NUMBER_END)) (pv 0) (dZ T.c_NUMBER_END))))).pt ju bE),?_⟩
  refine⟨_,rfl,i,rfl,_,rfl,cm ?_⟩
  refine⟨_,rfl,_,rfl,_,_,rfl,rfl,_,rfl,?_⟩
  rw[decide_eq_true h1]
  refine bV ⟨_,_,rfl,rfl,_,rfl,?_⟩
  rw[decide_eq_true h2]
  exact cm k
structure jb (S:List Int):Prop where
 g:Lad.Good S
 n:S.length<=1000
 s:S.sum<2 ^ 60
theorem cw {S:List Int}{i:Int}(h0:0<=i)(h1:i<(S.length:Int)):bX (S.map V.int) i=some (.int (S.getD i.toNat 0)):=by
 obtain⟨n,rfl⟩:∃ n:Nat,i=n:=⟨i.toNat,by omega⟩
 refine bz ?_
 rw[Cy,AE,As (by omega),Az,As (by omega)]
 rfl
inductive rq (vs:List V)(H:Hp)(Q:VK)(E:XK):Prop
 | mk (b:Int)(a:Addr)(S:List Int)(p:Int)(h0_:vs=[.int b,.ref a,.int p])(h1_:H a=some (.tup (S.map V.int)))(h2_:jb S)(h3_:∀ H',aa H H'->Q (.int (Lad.num b S p)) H'):rq vs H Q E
theorem iD:aI ["begin","sizes","place","turns","rest","at"] ["begin","sizes","place"] (ak gH):=aN
theorem pd (S:List Int):∀ (n:Nat) (x:Int),n<S.length->S.getD n 0<=x->Lad.walk (S.drop n) x=Lad.walk (S.drop (n+1)) (x-S.getD n 0)+1:=by
 intro n x hn h
 rw[BA hn]
 have e:S.getD n 0=S[n]:=by rw[Az,As hn];rfl
 rw[e] at h ⊢
 show (if x<S[n] then 0 else _)=_
 rw[if_neg (by omega)]
theorem om (S:List Int){n:Nat}{x:Int}(hn:n<S.length)(h:x<S.getD n 0):Lad.walk (S.drop n) x=0:=by
 rw[BA hn]
 have e:S.getD n 0=S[n]:=by rw[Az,As hn];rfl
 rw[e] at h
 show (if x<S[n] then 0 else _)=_
 rw[if_pos h]
theorem tN (S:List Int)(n:Nat)(hn:n<S.length):(S.drop n).sum=S.getD n 0+(S.drop (n+1)).sum:=by
 rw[BA hn,AH,Az,As hn]
 rfl
theorem yW (T:Txt K mg C):aP P w K mg base 1 "number_of" ["begin","sizes","place"] rq:=by
 refine aU T.f_number_of iD (fun vs H Q E h=>?_) (fun f cdv A outer s H vs Q E hr h=>?_)
 ·obtain⟨b,a,S,p,rfl,_⟩:=h
  rfl
 ·obtain⟨b,a,S,p,rfl,ha,⟨g,hn,hs⟩,q⟩:=h
  refine⟨_,al (iB (aQ sK T.b_divmod boot_divmod (az (ax bM (pv 2) (pv 0)) (aQ (qA rfl) T.b_sum EN (ap (pv 1))))) (kz rfl (cF (br (i:=3) iD.nd rfl (Or.inl rfl)) (cF (br (i:=4) iD.nd rfl (Or.inl rfl)) gi))))
   (al (aB (i:=5) iD.nd rfl (Or.inl rfl) ag)
   (al (rA PassesOwn.never (bO nG (pv 4) (av kG (pv 1) (pv 5) (fun _ _=>rfl)) (bu _))
    (al (oZ (i:=4) iD.nd rfl (Or.inl rfl) (av kG (pv 1) (pv 5) (fun _ _=>rfl)) sk)
     (ar (oZ (i:=5) iD.nd rfl (Or.inl rfl) ag vp))))
   (ar (aF (ax bU (ax dX (pv 3) (aQ j4 T.b_len EM (ap (pv 1)))) (pv 5)))))),?_⟩
  have h1:=g.len
  have h2:=g.sum
  have hl:(((S.map V.int).length:Nat):Int)=(S.length:Int):=by rw[Ar]
  refine⟨_,rfl,_,rfl,_,_,rfl,rfl,_,rfl,a,S,rfl,.inr (.of ha),_,_,rfl,⟨by omega,by omega⟩,fun p1 hp1=>?_⟩
  have s1:∀ o,aa H (upd H p1 o):=fun o=>aa.upd hp1
  refine⟨p1,_,rfl,.of ah,rfl,_,_,rfl,_,_,rfl,rfl,?_⟩
  have hr0:0<=(p-b) % S.sum:=Cz _ (by omega)
  have hr1:(p-b) % S.sum<S.sum:=CA _ (by omega)
  refine⟨fun m σ H2=>∃ (n:Nat) (x:Int),m=S.length-n/\n<S.length/\0<=x/\x<(S.drop n).sum/\Lad.walk S ((p-b) % S.sum)=n+Lad.walk (S.drop n) x/\aa H H2 /\
   σ=[some (.int b),some (.ref a),some (.int p),some (.int ((p-b) / S.sum)),some (.int x),some (.int n)],⟨_,0,(p-b) % S.sum,rfl,by omega,hr0,by simpa using hr1,by simp,s1 _,rfl⟩,?_⟩
  rintro m σ H2 ⟨n,x,rfl,hnl,hx0,hx1,hw,s2,rfl⟩
  refine⟨_,rfl,_,rfl,_,rfl,a,_,_,_,rfl,rfl,.of (s2 _ _ ha),cw (i:=(n:Int)) (by omega) (by omega),_,_,rfl,rfl,_,rfl,?_⟩
  rw[Cy]
  have hd:=tN S n hnl
  have hpos:=Lad.getD_pos g.2 hnl
  refine cE (fun hc=>?_) (fun hc=>?_)
  ·have hc:S.getD n 0<=x:=of_decide_eq_true hc
   have hn1:n+1<S.length:=by
    rcases Cb (n+1) S.length with z|z
    ·exact z
    ·rw[BK z,Bl] at hd
     omega
   refine⟨fun σ' H'=>∃ (n':Nat) (x':Int),S.length-n'<S.length-n/\n'<S.length/\0<=x'/\x'<(S.drop n').sum/\Lad.walk S ((p-b) % S.sum)=n'+Lad.walk (S.drop n') x'/\aa H H' /\
    σ'=[some (.int b),some (.ref a),some (.int p),some (.int ((p-b) / S.sum)),some (.int x'),some (.int n')],fun σ' H' ⟨n',x',l,r⟩=>⟨_,l,n',x',rfl,r⟩,?_⟩
   refine⟨_,rfl,_,rfl,_,rfl,a,_,_,_,rfl,rfl,.of (s2 _ _ ha),cw (i:=(n:Int)) (by omega) (by omega),_,_,rfl,rfl,?_⟩
   refine⟨_,rfl,_,_,rfl,rfl,?_⟩
   rw[Cy]
   refine⟨n+1,x-S.getD n 0,by omega,hn1,by omega,by omega,?_,s2,rfl⟩
   rw[hw,pd S n x hnl hc]
   omega
  ·have hc:¬ S.getD n 0<=x:=fun z=>hc (decide_eq_true z)
   refine⟨_,rfl,_,rfl,a,_,rfl,.inr (.of (s2 _ _ ha)),_,_,rfl,rfl,.inr ⟨by omega,by omega⟩,_,rfl,_,_,rfl,rfl,?_⟩
   have e:(p-b) / S.sum*(((S.map V.int).length:Nat):Int)+(n:Int)=Lad.num b S p:=by
    unfold Lad.num
    rw[hw,om S hnl (by omega),hl]
    omega
   show Q (.int ((p-b) / S.sum*(((S.map V.int).length:Nat):Int)+(n:Int))) H2
   rw[e]
   exact q _ s2
theorem _root_.L2.Ob.to {H:Hp}{a:Addr}{o:HO}{xs:List V}(h:Ob o xs)(e:H a=some o):Sq H a xs:=by
 rcases h with h|h
 ·subst h;exact .inl e
 ·subst h;exact .inr e
theorem _root_.L2.Ob.ne {H:Hp}{a p C dx:Addr}{o:HO}{xs:List V}{fs:List (Str×V)}(h:Ob o xs)(e:H a=some o)(hp:H p=some (.ins C dx fs)):a≠p:=by
 rcases h with h|h
 ·subst h;exact cM e hp (by intro z;cases z)
 ·subst h;exact cM e hp (by intro z;cases z)
def dM (i:Int):Bool:=(decide (-1000000000<=i) && decide (i<=1000000000)) && !decide (i=0)
def iO (i:Int):Bool:=decide (1<=i) && decide (i<=1000)
def fz (i:Int):Bool:=decide (-ba<i) && decide (i<ba)
def bR (lo hi:Int)(n:Nat):Bool:=decide (lo<=(n:Int)) && decide ((n:Int)<=hi)
def jf (ps:List Int):Bool:=decide (0<ps.headD 0)
def d7 (ps:List Int):Bool:=bR 1 12 ps.length && (ps.all dM && jf ps)
def dW (S:List Int):Bool:=bR 1 12 S.length && S.all iO
def dw (s:Lad.Step):Bool:=fz s.1 && dW s.2
def eU (af:List Lad.Step):Bool:=bR 0 4 af.length && af.all dw
inductive oF (vs:List V)(H:Hp)(Q:VK)(E:XK):Prop
 | mk (i:Int)(h0_:vs=[.int i])(h1_:Q (.bl (dM i)) H):oF vs H Q E
theorem u7:aI ["value"] ["value"] (ak ie):=aN
theorem xr (T:Txt K mg C):aP P w K mg base 3 "is_part" ["value"] oF:=by
 refine aU T.f_is_part u7 (fun vs H Q E h=>?_) (fun f cdv A outer s H vs Q E hr h=>?_)
 ·obtain⟨i,rfl,_⟩:=h
  rfl
 ·obtain⟨i,rfl,k⟩:=h
  refine⟨_,ar (aF (cT (aq (my T) hr (aW (pv 0) (dI dN (dZ T.c_MOST_LENGTH)) (dZ T.c_MOST_LENGTH))) (dD (fV mJ (pv 0) ag (bu _))))),?_⟩
  refine⟨_,rfl,_,rfl,_,_,_,rfl,_,rfl,?_⟩
  have e:decide (V.int i=V.int 0)=decide (i=0):=by rw[lH];exact Bool.beq_eq_decide_eq i 0
  unfold dM at k
  refine d8 (fun h=>?_) (fun h=>?_)
  ·have h':(decide (-1000000000<=i) && decide (i<=1000000000))=true:=h
   rw[h',Bool.true_and,<-e] at k
   exact⟨_,rfl,rfl,k⟩
  ·have h':(decide (-1000000000<=i) && decide (i<=1000000000))=false:=h
   rw[h',Bool.false_and] at k
   exact k
theorem all_map (f:Int->Bool)(S:List Int):((S.map f).all id)=S.all f:=by rw[BL];rfl
inductive n6 (vs:List V)(H:Hp)(Q:VK)(E:XK):Prop
 | mk (a:Addr)(o:HO)(ps:List Int)(h0_:vs=[.ref a])(h1_:H a=some o)(h2_:Ob o (ps.map V.int))(h3_:ps.length<=1000)(h4_:∀ H',aa H H'->Q (.bl (d7 ps)) H'):n6 vs H Q E
theorem o0:aI ["value"] ["value"] (ak im):=aN
theorem eM {S:List Int}{i:Nat}{x:V}(e:(S.map V.int)[i]?=some x):∃ n,S[i]?=some n/\x=.int n:=by
 rw[AE] at e
 cases q:S[i]? with
 | none=>rw[q] at e;cases e
 | some n=>rw[q] at e;exact⟨n,rfl,(Option.some.inj e).symm⟩
theorem lJ {α β:Type}{S:List α}{i:Nat}{n:α}(f:α->β)(e:S[i]?=some n):(S.take i).map f++[f n]=(S.take (i+1)).map f:=by
 rw[Aw,e,Ax]
 rfl
theorem ue (T:Txt K mg C):aP P w K mg base 4 "are_parts" ["value"] n6:=by
 refine aU T.f_are_parts o0 (fun vs H Q E h=>?_) (fun f cdv A outer s H vs Q E hr h=>?_)
 ·obtain⟨a,o,ps,rfl,_⟩:=h
  rfl
 ·obtain⟨a,o,ps,rfl,ha,ho,hlen,k⟩:=h
  refine⟨_,ar (aF (cT (aq (kI T) hr (aW (pv 0) ag (dZ T.c_MOST_PARTS)))
   (cT (aQ (mW rfl) T.b_all boot_all (ap (cx rfl (bQ o0) (fJ (pv 0)) (fun _ _ _ _=>bZ) (fun _ _ _ _=>aq (xr T) hr (ap (pv 0))))))
   (dD (fV iL (av da (pv 0) ag (fun _ _=>rfl)) ag (bu _)))))),?_⟩
  refine⟨_,rfl,a,_,_,_,rfl,ho.to ha,fun H1 s1=>⟨_,rfl,?_⟩⟩
  have ha1:=s1 _ _ ha
  refine d8 (fun h=>?_) (fun h=>?_)
  ·have h':bR 1 12 ps.length=true:=by unfold bR;rw[Ar] at h;exact h
   refine⟨_,rfl,a,o,_,rfl,ha1,ho,fun J hJ D hD=>?_⟩
   refine gI hJ (fun i ys H2=>ys=((ps.take i).map dM).map V.bl/\aa H1 H2/\H2 D=some (.lst ys)) ⟨rfl,aa.upd hD,ah⟩ (fun i ys H2 ⟨_,s2,d⟩=>⟨d,s2 _ _ ha1⟩) (fun ys H2 ⟨e,s2,d⟩=>?_) (fun i x ys H2 hi hx ⟨e,s2,d⟩=>?_)
   ·rw[Ar,AI] at e
    subst e
    refine⟨D,ps.map dM,rfl,.of d,_,rfl,?_⟩
    rw[all_map]
    have k2:=k _ (s1.trans s2)
    unfold d7 at k2
    rw[h',Bool.true_and] at k2
    refine d8 (fun h2=>?_) (fun h2=>?_)
    ·rw[h2,Bool.true_and] at k2
     have hne:1<=ps.length:=by
      unfold bR at h'
      rw[Bool.and_eq_true,decide_eq_true_eq] at h'
      omega
     refine⟨_,rfl,a,o,_,_,_,rfl,rfl,s2 _ _ ha1,ho,cw (i:=0) (by omega) (by omega),_,_,rfl,rfl,?_⟩
     have e:jf ps=decide (0<ps.getD 0 0):=by
      unfold jf
      cases ps <;> rfl
     rw[e] at k2
     exact k2
    ·rw[h2,Bool.false_and] at k2
     exact k2
   ·obtain⟨n,hn,rfl⟩:=eM hx
    rw[Ar] at hi
    refine cL ⟨_,rfl,n,rfl,bw.mk (by rw[Ar];exact hi) (by rw[Ar];exact hlen) (by rw[e,Ar,Ar,AC];omega) d ⟨?_,?_,ah⟩⟩
    ·rw[e,<-lJ dM hn,Ax]
     rfl
    ·exact fun b o z=>by rw[upd_ne (aR z hD)];exact s2 b o z
  ·have h':bR 1 12 ps.length=false:=by unfold bR;rw[Ar] at h;exact h
   have k2:=k _ s1
   unfold d7 at k2
   rw[h',Bool.false_and] at k2
   exact k2
inductive rR (vs:List V)(H:Hp)(Q:VK)(E:XK):Prop
 | mk (a:Addr)(o:HO)(S:List Int)(h0_:vs=[.ref a])(h1_:H a=some o)(h2_:Ob o (S.map V.int))(h3_:S.length<=1000)(h4_:∀ H',aa H H'->Q (.bl (dW S)) H'):rR vs H Q E
theorem sw:aI ["value"] ["value"] (ak gf):=aN
theorem xq (T:Txt K mg C):aP P w K mg base 3 "are_sizes" ["value"] rR:=by
 refine aU T.f_are_sizes sw (fun vs H Q E h=>?_) (fun f cdv A outer s H vs Q E hr h=>?_)
 ·obtain⟨a,o,S,rfl,_⟩:=h
  rfl
 ·obtain⟨a,o,S,rfl,ha,ho,hlen,k⟩:=h
  refine⟨_,ar (aF (cT (aq (kI T) hr (aW (pv 0) ag (dZ T.c_MOST_SIZES)))
   (dD (aQ (mW rfl) T.b_all boot_all (ap (cx rfl (bQ sw) (fJ (pv 0)) (fun _ _ _ _=>bZ) (fun _ _ _ _=>aq (my T) hr (aW (pv 0) ag (dZ T.c_MOST_SIZE))))))))),?_⟩
  refine⟨_,rfl,a,_,_,_,rfl,ho.to ha,fun H1 s1=>⟨_,rfl,?_⟩⟩
  have ha1:=s1 _ _ ha
  refine d8 (fun h=>?_) (fun h=>?_)
  ·have h':bR 1 12 S.length=true:=by unfold bR;rw[Ar] at h;exact h
   refine⟨_,rfl,a,o,_,rfl,ha1,ho,fun J hJ D hD=>?_⟩
   refine gI hJ (fun i ys H2=>ys=((S.take i).map iO).map V.bl/\aa H1 H2/\H2 D=some (.lst ys)) ⟨rfl,aa.upd hD,ah⟩ (fun i ys H2 ⟨_,s2,d⟩=>⟨d,s2 _ _ ha1⟩) (fun ys H2 ⟨e,s2,d⟩=>?_) (fun i x ys H2 hi hx ⟨e,s2,d⟩=>?_)
   ·rw[Ar,AI] at e
    subst e
    refine⟨D,S.map iO,rfl,.of d,?_⟩
    rw[all_map]
    have k2:=k _ (s1.trans s2)
    unfold dW at k2
    rw[h',Bool.true_and] at k2
    exact k2
   ·obtain⟨n,hn,rfl⟩:=eM hx
    rw[Ar] at hi
    refine cL ⟨_,rfl,_,_,_,rfl,bw.mk (by rw[Ar];exact hi) (by rw[Ar];exact hlen) (by rw[e,Ar,Ar,AC];omega) d ⟨?_,?_,ah⟩⟩
    ·rw[e,<-lJ iO hn,Ax]
     rfl
    ·exact fun b o z=>by rw[upd_ne (aR z hD)];exact s2 b o z
  ·have h':bR 1 12 S.length=false:=by unfold bR;rw[Ar] at h;exact h
   have k2:=k _ s1
   unfold dW at k2
   rw[h',Bool.false_and] at k2
   exact k2
inductive dc (H:Hp)(v:V)(s:Lad.Step):Prop
 | mk (r:Addr)(l:Addr)(o1:HO)(o2:HO)(h0_:v=.ref r)(h1_:H r=some o1)(h2_:Ob o1 [.int s.1,.ref l])(h3_:H l=some o2)(h4_:Ob o2 (s.2.map V.int))(h5_:s.2.length<=1000):dc H v s
theorem dc.same {H H':Hp}(e:aa H H'){v:V}{s:Lad.Step}(h:dc H v s):dc H' v s:=by
 obtain⟨r,l,o1,o2,e1,h1,h2,h3,h4,h5⟩:=h
 exact⟨r,l,o1,o2,e1,e _ _ h1,h2,e _ _ h3,h4,h5⟩
inductive pP (vs:List V)(H:Hp)(Q:VK)(E:XK):Prop
 | mk (v:V)(st:Lad.Step)(h0_:vs=[v])(h1_:dc H v st)(h2_:∀ H',aa H H'->Q (.bl (dw st)) H'):pP vs H Q E
theorem yY:aI ["value"] ["value"] (ak gG):=aN
theorem yw (T:Txt K mg C):aP P w K mg base 4 "is_row" ["value"] pP:=by
 refine aU T.f_is_row yY (fun vs H Q E h=>?_) (fun f cdv A outer s H vs Q E hr h=>?_)
 ·obtain⟨v,st,rfl,_⟩:=h
  rfl
 ·obtain⟨v,st,rfl,⟨r,l,o1,o2,rfl,hr1,ho1,hl1,ho2,hlen⟩,k⟩:=h
  refine⟨_,ar (aF (cT (aq (kI T) hr (aW (pv 0) ag ag))
   (cT (aq (mK T) hr (ap (av da (pv 0) ag (fun _ _=>rfl)))) (dD (aq (xq T) hr (ap (av da (pv 0) ag (fun _ _=>rfl)))))))),?_⟩
  refine⟨_,rfl,r,_,_,_,rfl,ho1.to hr1,fun H1 s1=>⟨_,rfl,bV ?_⟩⟩
  have hr2:=s1 _ _ hr1
  have hl2:=s1 _ _ hl1
  refine⟨_,rfl,r,o1,_,_,_,rfl,rfl,hr2,ho1,rfl,_,rfl,_,rfl,?_⟩
  refine d8 (fun h=>?_) (fun h=>?_)
  ·refine⟨_,rfl,r,o1,_,_,_,rfl,rfl,hr2,ho1,rfl,l,o2,st.2,rfl,hl2,ho2,hlen,fun H2 s2=>?_⟩
   have k2:=k _ (s1.trans s2)
   unfold dw fz at k2
   rw[h,Bool.true_and] at k2
   exact k2
  ·have k2:=k _ s1
   unfold dw fz at k2
   rw[h,Bool.false_and] at k2
   exact k2
inductive qw (vs:List V)(H:Hp)(Q:VK)(E:XK):Prop
 | mk (a:Addr)(o:HO)(us:List V)(af:List Lad.Step)(h0_:vs=[.ref a])(h1_:H a=some o)(h2_:Ob o us)(h3_:Paired (dc H) us af)(h4_:af.length<=1000)(h5_:∀ H',aa H H'->Q (.bl (eU af)) H'):qw vs H Q E
theorem ox:aI ["value"] ["value"] (ak ic):=aN
theorem zz (f:Lad.Step->Bool)(S:List Lad.Step):((S.map f).all id)=S.all f:=by rw[BL];rfl
theorem Ap (T:Txt K mg C):aP P w K mg base 5 "are_rows" ["value"] qw:=by
 refine aU T.f_are_rows ox (fun vs H Q E h=>?_) (fun f cdv A outer s H vs Q E hr h=>?_)
 ·obtain⟨a,o,us,af,rfl,_⟩:=h
  rfl
 ·obtain⟨a,o,us,af,rfl,ha,ho,hp,hlen,k⟩:=h
  refine⟨_,ar (aF (cT (aq (kI T) hr (aW (pv 0) ag (dZ T.c_MOST_ROWS)))
   (dD (aQ (mW rfl) T.b_all boot_all (ap (cx rfl (bQ ox) (fJ (pv 0)) (fun _ _ _ _=>bZ) (fun _ _ _ _=>aq (yw T) hr (ap (pv 0))))))))),?_⟩
  have hl:us.length=af.length:=Paired.length hp
  refine⟨_,rfl,a,_,_,_,rfl,ho.to ha,fun H1 s1=>⟨_,rfl,?_⟩⟩
  have ha1:=s1 _ _ ha
  refine d8 (fun h=>?_) (fun h=>?_)
  ·have h':bR 0 4 af.length=true:=by unfold bR;rw[hl] at h;exact h
   refine⟨_,rfl,a,o,_,rfl,ha1,ho,fun J hJ D hD=>?_⟩
   refine gI hJ (fun i ys H2=>ys=((af.take i).map dw).map V.bl/\aa H1 H2/\H2 D=some (.lst ys)) ⟨rfl,aa.upd hD,ah⟩ (fun i ys H2 ⟨_,s2,d⟩=>⟨d,s2 _ _ ha1⟩) (fun ys H2 ⟨e,s2,d⟩=>?_) (fun i x ys H2 hi hx ⟨e,s2,d⟩=>?_)
   ·rw[hl,AI] at e
    subst e
    refine⟨D,af.map dw,rfl,.of d,?_⟩
    rw[zz]
    have k2:=k _ (s1.trans s2)
    unfold eU at k2
    rw[h',Bool.true_and] at k2
    exact k2
   ·obtain⟨st,hn,hst⟩:=Paired.get hp hx
    refine cL ⟨_,rfl,_,st,rfl,(hst.same s1).same s2,fun H3 s3=>bw.mk hi (by omega) (by rw[e,Ar,Ar,AC];omega) (s3 _ _ d) ⟨?_,?_,ah⟩⟩
    ·rw[e,<-lJ dw hn,Ax]
     rfl
    ·exact fun b o z=>by rw[upd_ne (aR z hD)];exact s3 b o (s2 b o z)
  ·have h':bR 0 4 af.length=false:=by unfold bR;rw[hl] at h;exact h
   have k2:=k _ s1
   unfold eU at k2
   rw[h',Bool.false_and] at k2
   exact k2
inductive o5 (vs:List V)(H:Hp)(Q:VK)(E:XK):Prop
 | mk (a:Addr)(o:HO)(ps:List Int)(h0_:vs=[.ref a])(h1_:H a=some o)(h2_:Ob o (ps.map V.int))(h3_:Lad.PartsOk ps)(h4_:ps.length<=1000)(h5_:∀ l H',aa H H'->H l=none->H' l=some (.lst ((Lad.bars ps).map V.int))->Q (.ref l) H'):o5 vs H Q E
theorem lm:aI ["parts","lengths","part"] ["parts"] (ak ir):=aN
theorem vM (acc:List Int)(p:Int):(Lad.addPart acc p).length<=acc.length+1:=by
 unfold Lad.addPart
 split
 ·simp
 ·rw[AB,List.length_dropLast,A6];omega
theorem mr:∀ (ps acc:List Int),(ps.foldl Lad.addPart acc).length<=acc.length+ps.length
 | [],acc=>by simp
 | p::r,acc=>by
  rw[AQ,Ay]
  have h1:=mr r (Lad.addPart acc p)
  have h2:=vM acc p
  omega
theorem mx:∀ (ps acc:List Int),acc≠[]->ps.foldl Lad.addPart acc≠[]
 | [],acc,h=>h
 | p::r,acc,h=>by
  rw[AQ]
  refine mx r _ ?_
  unfold Lad.addPart
  split <;> simp
theorem zW (T:Txt K mg C):aP P w K mg base 1 "bar_lengths" ["parts"] o5:=by
 refine aU T.f_bar_lengths lm (fun vs H Q E h=>?_) (fun f cdv A outer s H vs Q E hr h=>?_)
 ·obtain⟨a,o,ps,rfl,_⟩:=h
  rfl
 ·obtain⟨a,o,ps,rfl,ha,ho,hok,hlen,k⟩:=h
  refine⟨_,al (aB (i:=1) lm.nd rfl (Or.inl rfl) (bn b9))
   (al (cH PassesOwn.never rfl (fJ (pv 0)) (br (i:=2) lm.nd rfl (Or.inl rfl))
    (ar (bA (bO iL (pv 2) ag (bu _))
     (ar (cK (tV PySem.F.plainAttrs_list PySem.F.slot_list_append PySem.F.type_list_append dU (pv 1) (ap (pv 2)))))
     (ar (uY (pv 1) (dI dN ag) wf (pv 2) sk jd)))))
   (ar (aF (pv 1)))),?_⟩
  refine⟨B9 _,fun l hl=>?_⟩
  have s1:∀ o,aa H (upd H l o):=fun o=>aa.upd hl
  refine⟨_,rfl,a,o,_,rfl,s1 _ _ _ ha,ho,fun J hJ=>xF hJ (fun i σ H2=>∃ v,σ=[some (.ref a),some (.ref l),v]/\aa H H2/\H2 l=some (.lst (((ps.take i).foldl Lad.addPart []).map V.int)))
   ⟨none,rfl,s1 _,ah⟩ (fun i σ H2 _ ⟨_,_,s2,_⟩=>s2 _ _ ha) ?_ ?_⟩
  ·rintro i x σ H2 hx ⟨v,rfl,s2,d⟩
   obtain⟨n,hn,rfl⟩:=eM hx
   have hi:i<ps.length:=(List.getElem?_eq_some_iff.mp hn).1
   have hfl:=mr (ps.take i) []
   rw[AC,Bj] at hfl
   have e1:(ps.take (i+1)).foldl Lad.addPart []=Lad.addPart ((ps.take i).foldl Lad.addPart []) n:=by
    rw[Aw,hn,Bm]
    rfl
   refine⟨_,rfl,_,_,rfl,rfl,_,rfl,?_⟩
   refine cE (fun hc=>?_) (fun hc=>?_)
   ·have hc:0<n:=of_decide_eq_true hc
    refine⟨_,rfl,.inl ⟨rfl,_,.of d⟩,_,rfl,l,_,_,rfl,rfl,d,cR (by rw[Ar];omega),_,rfl,?_,?_⟩
    ·exact fun b o z=>by rw[upd_ne (aR z hl)];exact s2 b o z
    ·rw[ah,e1]
     unfold Lad.addPart
     rw[if_pos hc,Ax]
     rfl
   ·have hc:¬ 0<n:=fun z=>hc (decide_eq_true z)
    have hi0:i≠0:=by
     rintro rfl
     obtain⟨_,p,r,rfl,hp⟩:=hok
     have:n=p:=by simpa using hn.symm
     omega
    have hne:(ps.take i).foldl Lad.addPart []≠[]:=by
     obtain⟨hz,p,r,rfl,hp⟩:=hok
     obtain⟨j,rfl⟩:∃ j,i=j+1:=⟨i-1,by omega⟩
     rw[Bf,AQ]
     refine mx _ _ ?_
     unfold Lad.addPart
     rw[if_pos hp]
     simp
    generalize hL:(ps.take i).foldl Lad.addPart []=L at *
    obtain⟨L0,z,rfl⟩:∃ L0 z,L=L0++[z]:=⟨L.dropLast,L.getLast hne,(BM hne).symm⟩
    have ez:(L0++[z]).map V.int=L0.map V.int++[V.int z]:=by rw[Ax];rfl
    rw[ez] at d
    have eix:cS (L0.map V.int++[V.int z]).length (-1)=some L0.length:=by
     unfold cS
     rw[if_neg (by omega),AB,Ar,A6,if_pos (by omega)]
     congr 1
     omega
    refine⟨_,rfl,_,rfl,l,_,_,_,rfl,rfl,.of d,jT _ _,_,rfl,_,_,rfl,rfl,l,_,_,_,rfl,rfl,d,eix,_,rfl,?_,?_⟩
    ·exact fun b o q=>by rw[upd_ne (aR q hl)];exact s2 b o q
    ·rw[ah,e1]
     unfold Lad.addPart
     rw[if_neg hc]
     congr 2
     rw[Ax,BN,BO,BP _ _ (by rw[Ar];exact B6 _),Ar,Cp]
     rfl
  ·rintro σ H2 ⟨v,rfl,s2,d⟩
   rw[Ar,AI,Lad.foldl_bars hok] at d
   exact⟨_,rfl,k l H2 s2 hl d⟩
def fA (a o c:Addr):List (Str×V):=bt "steps" (.ref c) (bt "open_lengths" (.ref o) (bt "part_lengths" (.ref a) []))
theorem tw (a o c:Addr):(fA a o c).lookup ("steps" : Str)=some (.ref c):=by
 unfold fA;rw[bm,if_pos rfl]
theorem jE (a o c:Addr){m:Str}(h1:¬ m="steps")(h2:¬ m="open_lengths")(h3:¬ m="part_lengths"):(fA a o c).lookup m=none:=by
 unfold fA
 rw[bm,if_neg h1,bm,if_neg h2,bm,if_neg h3]
 rfl
inductive dz (H:Hp)(v:V)(s:Lad.Step):Prop
 | mk (r:Addr)(l:Addr)(h0_:v=.ref r)(h1_:H r=some (.tup [.int s.1,.ref l]))(h2_:H l=some (.tup (s.2.map V.int))):dz H v s
theorem dz.same {H H':Hp}(e:aa H H'){v:V}{s:Lad.Step}(h:dz H v s):dz H' v s:=by
 obtain⟨r,l,e1,h1,h2⟩:=h
 exact⟨r,l,e1,e _ _ h1,e _ _ h2⟩
theorem dc.but {p:Addr}{H H':Hp}(e:But p H H'){C dx:Addr}{fs:List (Str×V)}(hp:H p=some (.ins C dx fs)){v:V}{s:Lad.Step}(h:dc H v s):dc H' v s:=by
 obtain⟨r,l,o1,o2,e1,h1,h2,h3,h4,h5⟩:=h
 exact⟨r,l,o1,o2,e1,e _ _ h1 (h2.ne h1 hp),h2,e _ _ h3 (h4.ne h3 hp),h4,h5⟩
theorem dz.but {p:Addr}{H H':Hp}(e:But p H H'){C dx:Addr}{fs:List (Str×V)}(hp:H p=some (.ins C dx fs)){v:V}{s:Lad.Step}(h:dz H v s):dz H' v s:=by
 obtain⟨r,l,e1,h1,h2⟩:=h
 exact⟨r,l,e1,e _ _ h1 (cM h1 hp (by intro z;cases z)),e _ _ h2 (cM h2 hp (by intro z;cases z))⟩
inductive cu (C:Addr)(H:Hp)(p:Addr)(b:Int)(ps:List Int)(af:List Lad.Step):Prop
 | mk (dx:Addr)(a:Addr)(o:Addr)(c:Addr)(us:List V)(h0_:H p=some (.ins C dx (fA a o c)))(h1_:H a=some (.tup (ps.map V.int)))(h2_:H o=some (.tup ((Lad.opens ps).map V.int)))(h3_:H c=some (.tup us))(h4_:Paired (dz H) us ((b,Lad.bars ps)::af)):cu C H p b ps af
theorem cu.same {C:Addr}{H H':Hp}{p:Addr}{b:Int}{ps:List Int}{af:List Lad.Step}(h:cu C H p b ps af)(e:aa H H'):cu C H' p b ps af:=by
 obtain⟨dx,a,o,c,us,h1,h2,h3,h4,h5⟩:=h
 exact⟨dx,a,o,c,us,e _ _ h1,e _ _ h2,e _ _ h3,e _ _ h4,Paired.mono (fun _ _ x=>x.same e) h5⟩
structure cf (b:Int)(ps:List Int)(af:List Lad.Step):Prop where
 b:fz b=true
 p:d7 ps=true
 r:eU af=true
theorem kL {ps:List Int}(h:d7 ps=true):Lad.PartsOk ps/\ps.length<=12/\∀ p∈ps,-1000000000<=p/\p<=1000000000:=by
 unfold d7 bR at h
 simp only[Bool.and_eq_true,decide_eq_true_eq,AY] at h
 obtain⟨⟨h1,h2⟩,h3,h4⟩:=h
 have hp:∀ p∈ps,(-1000000000<=p/\p<=1000000000)/\p≠0:=fun p hp=>by
  have:=h3 p hp
  unfold dM at this
  simpa using this
 refine⟨⟨fun p hq=>(hp p hq).2,?_⟩,by omega,fun p hq=>(hp p hq).1⟩
 unfold jf at h4
 cases ps with
 | nil=>simp at h1
 | cons p r=>exact⟨p,r,rfl,by simpa using h4⟩
theorem rk {S:List Int}(h:dW S=true):Lad.Good S/\S.length<=12/\∀ v∈S,v<=1000:=by
 unfold dW bR at h
 simp only[Bool.and_eq_true,decide_eq_true_eq,AY] at h
 obtain⟨⟨h1,h2⟩,h3⟩:=h
 have hp:∀ p∈S,1<=p/\p<=1000:=fun p hp=>by
  have:=h3 p hp
  unfold iO at this
  simpa using this
 refine⟨⟨fun e=>?_,fun v hv=>(hp v hv).1⟩,by omega,fun v hv=>(hp v hv).2⟩
 rw[e] at h1
 simp at h1
theorem qS {i:Int}(h:fz i=true) : -ba<i/\i<ba:=by
 unfold fz at h
 simpa using h
theorem kg {af:List Lad.Step}(h:eU af=true):af.length<=4/\∀ s∈af,dw s=true:=by
 unfold eU bR at h
 simp only[Bool.and_eq_true,decide_eq_true_eq,AY] at h
 exact⟨by omega,h.2⟩
theorem lN:∀ {S:List Int}{B:Int},(∀ v∈S,v<=B)->S.sum<=B*(S.length:Int)
 | [],B,_=>by simp
 | v::r,B,h=>by
  have h1:=lN (S:=r) (B:=B) fun x hx=>h x (AD _ hx)
  have h2:=h v AF
  rw[AH,Ay,CK,Int.mul_add]
  omega
theorem vE {S:List Int}(h:dW S=true):jb S:=by
 obtain⟨g,n,v⟩:=rk h
 refine⟨g,by omega,?_⟩
 have:=lN v
 omega
theorem zu {ps:List Int}(h:∀ p∈ps,-1000000000<=p/\p<=1000000000):Lad.total ps<=1000000000*(ps.length:Int):=by
 have:∀ v∈ps.map Lad.absI,v<=1000000000:=fun v hv=>by
  obtain⟨p,hp,rfl⟩:=List.mem_map.mp hv
  have:=h p hp
  unfold Lad.absI
  split <;> omega
 have:=lN this
 rw[Ar] at this
 exact this
theorem w5 (ps:List Int):(Lad.opens ps).length<=ps.length:=AO _ _
theorem kZ {ps:List Int}(h:d7 ps=true):jb (Lad.bars ps):=by
 obtain⟨ok,n,v⟩:=kL h
 have h1:=zu v
 have h2:=w5 ps
 refine⟨Lad.bars_good ok,?_,?_⟩
 ·rw[Lad.bars_len ok];omega
 ·rw[Lad.bars_sum ok];omega
theorem cf.steps {b:Int}{ps:List Int}{af:List Lad.Step}(h:cf b ps af):∀ s∈(b,Lad.bars ps)::af,jb s.2/\-ba<s.1/\s.1<ba:=fun s hs=>by
 rcases List.mem_cons.mp hs with e|hs
 ·rw[e]
  exact⟨kZ h.p,qS h.b⟩
 ·have:=(kg h.r).2 s hs
  unfold dw at this
  rw[Bool.and_eq_true] at this
  exact⟨vE this.2,qS this.1⟩
theorem But.same {p:Addr}{H H1 H2:Hp}(a:But p H H1)(b:aa H1 H2):But p H H2:=fun c o h n=>b c o (a c o h n)
theorem But.upd {p:Addr}{H:Hp}{o:HO}:But p H (upd H p o):=fun c u h n=>by rw[upd_ne n];exact h
theorem zy {S:List Int}{i:Nat}{n:Int}(f:Int->Bool)(e:S[i]?=some n):(S.take (i+1)).filter f=(S.take i).filter f++(if f n then [n] else []):=by
 rw[Aw,e,AS]
 cases h:f n <;> simp[h]
inductive oN (C:Addr)(vs:List V)(H:Hp)(Q:VK)(E:XK):Prop
 | mk (p:Addr)(dx:Addr)(b:Int)(pa:Addr)(po:HO)(ps:List Int)(ra:Addr)(ro:HO)(us:List V)(af:List Lad.Step)(h0_:vs=[.ref p,.int b,.ref pa,.ref ra])(h1_:H p=some (.ins C dx []))(h2_:H pa=some po)(h3_:Ob po (ps.map V.int))(h4_:H ra=some ro)(h5_:Ob ro us)(h6_:Paired (dc H) us af)(h7_:cf b ps af)(h8_:∀ H',But p H H'->cu C H' p b ps af->Q .non H'):oN C vs H Q E
theorem jV:aI ["self","begin","parts","rows","lowest"] ["self","begin","parts","rows"] (ak e7):=aN
theorem wY (T:Txt K mg C){f:Addr}{fd:Dw}(F:bI K "__init__" "Ladder.__init__" e7 f fd):ce P w K mg base cD 6 f fd ["self","begin","parts","rows"] (oN C):=by
 refine F.ok jV (fun vs H Q E h=>?_) (fun cdv A outer s H vs Q E hr h=>?_)
 ·obtain⟨p,dx,b,pa,po,ps,ra,ro,us,af,rfl,_⟩:=h
  rfl
 ·obtain⟨p,dx,b,pa,po,ps,ra,ro,us,af,rfl,hp,hpa,hpo,hra,hro,hrows,ok,k⟩:=h
  obtain⟨pok,plen,_⟩:=kL ok.p
  obtain⟨rlen,_⟩:=kg ok.r
  have hul:us.length=af.length:=Paired.length hrows
  refine⟨_,al (bA (fw (lP (dY (aq (mK T) hr (ap (pv 1)))) (lP (dY (aq (ue T) hr (ap (pv 2)))) (tT (dY (aq (Ap T) hr (ap (pv 3))))))).pt) ju bE)
   (al (eJ (pv 0) (ed gq T.b_tuple EL (ap (pv 2))) rfl)
   (al (eJ (pv 0) (ed gq T.b_tuple EL (ap (cx rfl (bQ jV) (fJ (pv 2)) (fun _ _ _ _=>iy (bO iL (pv 0) ag (bu _))) (fun _ _ _ _=>pv 0)))) rfl)
   (al (aB (i:=4) jV.nd rfl (Or.inl rfl) (bP (az (pv 1) (ed gq T.b_tuple EL (ap (aq (zW T) hr (ap (pv 2))))))))
   (ar (eJ (pv 0) (ed gq T.b_tuple EL (ap (ax jU (bn (ap (pv 4)))
    (cx rfl (bQ jV) (fJ (pv 3)) (fun _ _ _ _=>bZ) (fun _ _ _ _=>bP (az (av da (pv 0) ag (fun _ _=>rfl)) (ed gq T.b_tuple EL (ap (av da (pv 0) ag (fun _ _=>rfl)))))))))) rfl))))),?_⟩
  have wb:(decide (-ba<b) && decide (b<ba))=true:=ok.b
  refine⟨_,rfl,b,rfl,_,rfl,?_⟩
  rw[wb]
  refine bV ⟨_,rfl,pa,po,ps,rfl,hpa,hpo,by omega,fun H0 s0=>⟨_,rfl,?_⟩⟩
  rw[ok.p]
  refine bV ⟨_,rfl,ra,ro,us,af,rfl,s0 _ _ hra,hro,Paired.mono (fun _ _ x=>x.same s0) hrows,by omega,fun H1 s1'=>⟨_,rfl,?_⟩⟩
  rw[ok.r]
  refine cm ?_
  have s1:aa H H1:=s0.trans s1'
  have hp1:=s1 _ _ hp
  have hpa1:=s1 _ _ hpa
  refine⟨_,rfl,pa,po,_,rfl,hpa1,hpo,fun l1 H2 s2 hl1=>?_⟩
  have hp2:=s2 _ _ hp1
  have n1:p≠l1:=cM hp2 hl1 (by intro z;cases z)
  refine⟨_,rfl,p,C,dx,_,rfl,hp2,T.cl,T.n_part_lengths,(by show 0<1000;decide),?_⟩
  generalize hH3:upd H2 p _=H3
  have b3:But p H1 H3:=by rw[<-hH3];exact s2.but.trans But.upd
  have hp3:H3 p=some (.ins C dx (bt "part_lengths" (.ref l1) [])):=by rw[<-hH3];exact ah
  have hl13:H3 l1=some (.tup (ps.map V.int)):=by rw[<-hH3,upd_ne (Ne.symm n1)];exact hl1
  have hpa3:H3 pa=some po:=b3 _ _ hpa1 (hpo.ne hpa1 hp1)
  clear hH3
  refine⟨_,rfl,pa,po,_,rfl,hpa3,hpo,fun J hJ D hD=>?_⟩
  refine gI hJ (fun i ys H4=>ys=((ps.take i).filter fun q=>decide (0<q)).map V.int/\aa H3 H4/\H4 D=some (.lst ys)) ⟨rfl,aa.upd hD,ah⟩ (fun i ys H4 ⟨_,s4,d⟩=>⟨d,s4 _ _ hpa3⟩) (fun ys H4 ⟨e,s4,d⟩=>?_) (fun i x ys H4 hi hx ⟨e,s4,d⟩=>?_)
  case refine_2 =>
   obtain⟨n,hn,rfl⟩:=eM hx
   rw[Ar] at hi
   refine⟨_,rfl,_,_,rfl,rfl,_,rfl,?_⟩
   have e2:=zy (fun q=>decide (0<q)) hn
   refine d8 (fun hc=>?_) (fun hc=>?_)
   ·refine⟨_,rfl,bw.mk (by rw[Ar];exact hi) (by rw[Ar];omega) (by rw[e,Ar];exact Ca (AO _ _) (by rw[AC];omega)) d ⟨?_,?_,ah⟩⟩
    ·rw[e2,if_pos hc,e,Ax]
     rfl
    ·exact fun b o z=>by rw[upd_ne (aR z hD)];exact s4 b o z
   ·refine cC.mk (by rw[Ar];exact hi) ⟨?_,s4,d⟩
    rw[e2,if_neg (by rw[hc];exact Bool.false_ne_true),e,AR]
  rw[Ar,AI] at e
  subst e
  refine⟨D,_,_,rfl,d,.inl rfl,fun l2 H4' s4' hl2=>?_⟩
  have hp4:=s4' _ _ (s4 _ _ hp3)
  have n2:p≠l2:=cM hp4 hl2 (by intro z;cases z)
  refine⟨_,rfl,p,C,dx,_,rfl,hp4,T.cl,T.n_open_lengths,(by show 1<1000;decide),?_⟩
  generalize hH5:upd H4' p _=H5
  have b5:But p H4 H5:=by rw[<-hH5];exact s4'.but.trans But.upd
  have hp5:H5 p=some (.ins C dx (bt "open_lengths" (.ref l2) (bt "part_lengths" (.ref l1) []))):=by rw[<-hH5];exact ah
  have hl25:H5 l2=some (.tup ((Lad.opens ps).map V.int)):=by rw[<-hH5,upd_ne (Ne.symm n2)];exact hl2
  have hl15:H5 l1=some (.tup (ps.map V.int)):=b5 _ _ (s4 _ _ hl13) (Ne.symm n1)
  have hpa5:H5 pa=some po:=b5 _ _ (s4 _ _ hpa3) (hpo.ne hpa1 hp1)
  have b15:But p H1 H5:=(b3.trans s4.but).trans b5
  clear hH5
  refine⟨_,rfl,_,rfl,pa,po,ps,rfl,hpa5,hpo,pok,by omega,fun l3 H6 s6 hl3 h6=>?_⟩
  refine⟨l3,_,_,rfl,h6,.inl rfl,fun l4 H6' s6' hl4=>⟨cQ,fun l5 hl5=>?_⟩⟩
  generalize hH7:upd H6' l5 _=H7
  have s7:aa H6 H7:=by rw[<-hH7];exact s6'.trans (aa.upd hl5)
  have hl47:H7 l4=some (.tup ((Lad.bars ps).map V.int)):=by rw[<-hH7];exact aa.upd hl5 _ _ hl4
  have hl57:H7 l5=some (.tup [.int b,.ref l4]):=by rw[<-hH7];exact ah
  have s57:aa H5 H7:=s6.trans s7
  have b17:But p H1 H7:=But.same b15 s57
  have hra7:H7 ra=some ro:=b17 _ _ (s1 _ _ hra) (hro.ne hra hp)
  have hrows7:Paired (dc H7) us af:=Paired.mono (fun _ _ x=>dc.but b17 hp1 (x.same s1)) hrows
  clear hH7
  refine⟨_,rfl,Cq (cR (by decide)),fun l6 hl6=>?_⟩
  have s8:∀ o,aa H7 (upd H7 l6 o):=fun o=>aa.upd hl6
  generalize hH8:upd H7 l6 _=H8
  have s78:aa H7 H8:=by rw[<-hH8];exact s8 _
  have hl68:H8 l6=some (.lst [.ref l5]):=by rw[<-hH8];exact ah
  clear hH8
  have hra8:=s78 _ _ hra7
  refine⟨_,rfl,ra,ro,_,rfl,hra8,hro,fun J2 hJ2 D2 hD2=>?_⟩
  refine gI hJ2 (fun i ys H9=>Paired (dz H9) ys (af.take i)/\aa H8 H9/\H9 D2=some (.lst ys)) ⟨.nil,aa.upd hD2,ah⟩ (fun i ys H9 ⟨_,s9,d⟩=>⟨d,s9 _ _ hra8⟩) (fun ys H9 ⟨e,s9,d9⟩=>?_) (fun i x ys H9 hi hx ⟨e,s9,d9⟩=>?_)
  case refine_2 =>
   obtain⟨st,hn,r,l,o1,o2,rfl,hr1,ho1,hl1',ho2,_⟩:=Paired.get hrows7 hx
   have hr9:=s9 _ _ (s78 _ _ hr1)
   have hl9:=s9 _ _ (s78 _ _ hl1')
   have hyl:ys.length=(af.take i).length:=Paired.length e
   rw[AC] at hyl
   refine cL ⟨_,rfl,r,o1,_,_,_,rfl,rfl,hr9,ho1,rfl,_,rfl,r,o1,_,_,_,rfl,rfl,hr9,ho1,rfl,l,o2,_,rfl,hl9,ho2,fun m1 H10 t1 hm1=>⟨cQ,fun m2 hm2=>?_⟩⟩
   have t2:∀ o',aa H9 (upd H10 m2 o'):=fun o'=>t1.trans (aa.upd hm2)
   have d10:=t1 _ _ d9
   have nD1:D2≠m1:=cM d10 hm1 (by intro z;cases z)
   have nD2:D2≠m2:=aR d10 hm2
   refine bw.mk hi (by omega) (by omega) (t2 _ _ _ d9) ⟨?_,?_,ah⟩
   ·have e3:af.take (i+1)=af.take i++[st]:=by rw[Aw,hn];rfl
    rw[e3]
    have up:∀ {v:V}{s':Lad.Step},dz H9 v s'->dz (upd (upd H10 m2 (.tup [.int st.1,.ref m1])) D2 (.lst (ys++[.ref m2]))) v s':=fun {v s'} ⟨r',l',e',q1,q2⟩ =>
     ⟨r',l',e',by rw[upd_ne (cM q1 d9 (by intro z;cases z))];exact t2 _ _ _ q1,by rw[upd_ne (cM q2 d9 (by intro z;cases z))];exact t2 _ _ _ q2⟩
    refine Paired.snoc (Paired.mono (fun _ _ x=>up x) e) ⟨m2,m1,rfl,?_,?_⟩
    ·rw[upd_ne (Ne.symm nD2),ah]
    ·rw[upd_ne (Ne.symm nD1)];exact aa.upd hm2 _ _ hm1
   ·exact fun b o z=>by rw[upd_ne (aR z hD2)];exact t2 _ _ _ (s9 b o z)
  rw[hul,AI] at e
  have hyl:ys.length=af.length:=Paired.length e
  have hl69:=s9 _ _ hl68
  refine⟨l6,D2,_,_,rfl,rfl,hl69,d9,Ch (cR (by rw[A6];omega)),fun l7 hl7=>?_⟩
  refine⟨l7,_,_,rfl,ah,.inl rfl,fun l8 H10 s10' hl8=>?_⟩
  have s10:aa H9 H10:=(aa.upd hl7).trans s10'
  have s59:aa H5 H9:=(s57.trans s78).trans s9
  have hp9:H9 p=some (.ins C dx (bt "open_lengths" (.ref l2) (bt "part_lengths" (.ref l1) []))):=s59 _ _ hp5
  have n8:p≠l8:=cM (s10 _ _ hp9) hl8 (by intro z;cases z)
  refine⟨_,rfl,p,C,dx,_,rfl,s10 _ _ hp9,T.cl,T.n_steps,(by show 2<1000;decide),?_⟩
  generalize hH11:upd H10 p _=H11
  have b11:But p H9 H11:=by rw[<-hH11];exact s10.but.trans But.upd
  have hp11:H11 p=some (.ins C dx (fA l1 l2 l8)):=by rw[<-hH11];exact ah
  have hl811:H11 l8=some (.tup (.ref l5::ys)):=by rw[<-hH11,upd_ne (Ne.symm n8)];exact hl8
  have b511:∀ c o,H5 c=some o->c≠p->H11 c=some o:=fun c o h n=>b11 _ _ (s59 _ _ h) n
  have nl:∀ {c:Addr}{xs:List V},H9 c=some (.tup xs)->c≠p:=fun h=>cM h hp9 (by intro z;cases z)
  refine k H11 (fun c o h n=>b511 c o (b15 c o (s1 c o h) n) n) ⟨dx,l1,l2,l8,_,hp11,b511 _ _ hl15 (Ne.symm n1),b511 _ _ hl25 (Ne.symm n2),hl811,.cons ⟨l5,l4,rfl,?_,?_⟩ (Paired.mono (fun _ _ x=>dz.but b11 hp9 x) e)⟩
  ·have z:=s9 _ _ (s78 _ _ hl57)
   exact b11 _ _ z (nl z)
  ·have z:=s9 _ _ (s78 _ _ hl47)
   exact b11 _ _ z (nl z)
theorem Ae {α:Type}{xs:List α}{k:Int}(h0:0<=k)(h:HT.sIx xs.length xs.length (some k)=xs.length):xs.take k.toNat=xs:=by
 obtain⟨n,rfl⟩:∃ n:Nat,k=n:=⟨k.toNat,by omega⟩
 rw[HT.sIx_nat] at h
 rw[Cy,AL (by omega)]
theorem Ab {X:Cx}:gc X (fun x lo hi H Q=>∃ a us n,x=.ref a/\H a=some (.tup us)/\lo=none/\hi=some n/\0<=n/\∀ t H1,aa H H1->H1 t=some (.tup (us.take n.toNat))->Q (.ref t) H1):=by
 intro pins s σ H x v vl vu lo hi sl Q I rx hs pl pu h
 obtain⟨a,us,n,rfl,ha,rfl,rfl,hn,k⟩:=h
 refine zi pins s σ H _ v vl vu none (some n) sl Q I rx hs pl pu ⟨a,us,rfl,.of ha,fun hw=>?_,fun t ht=>?_⟩
 ·refine k a H (aa.refl _) ?_
  rw[Ae hn hw.2]
  exact ha
 ·refine k t _ (aa.upd ht) ?_
  rw[ah,sJ _ hn]
inductive pU (C:Addr)(vs:List V)(H:Hp)(Q:VK)(E:XK):Prop
 | mk (p:Addr)(b:Int)(ps:List Int)(af:List Lad.Step)(h0_:vs=[.ref p])(h1_:cu C H p b ps af)(h2_:Q (.int ((af.length+1:Nat):Int)) H):pU C vs H Q E
theorem wX:aI ["self"] ["self"] (ak gz):=aN
theorem ln (T:Txt K mg C):iz P w K mg base C 1 "rolls" ["self"] (pU C):=by
 refine mZ T.m_rolls wX (fun vs H Q E h=>?_) (fun f cdv A outer s H vs Q E hr h=>?_)
 ·obtain⟨p,b,ps,af,rfl,_⟩:=h
  rfl
 ·obtain⟨p,b,ps,af,rfl,⟨dx,a,o,c,us,h1,h2,h3,h4,h5⟩,k⟩:=h
  refine⟨_,ar (aF (aQ j4 T.b_len EM (ap (mh (pv 0) rfl)))),?_⟩
  refine⟨_,rfl,p,C,dx,_,_,rfl,h1,T.cl,T.n_steps,tw _ _ _,c,us,rfl,.inr (.of h4),?_⟩
  have e:us.length=af.length+1:=Paired.length h5
  rw[e]
  exact k
def lj (b:Int)(ps:List Int)(af:List Lad.Step)(r:Int):List Lad.Step:=((b,Lad.bars ps)::af).take (r+1).toNat
def zP:Sp:=fun vs H Q _=>∃ i,vs=[.int i]/\-ba<i/\i<ba/\Q .non H
theorem Aj:aI ["value"] ["value"] (ak gt):=aN
theorem yV (T:Txt K mg C):aP P w K mg base 3 "need_moment" ["value"] zP:=by
 refine aU T.f_need_moment Aj (fun vs H Q E h=>?_) (fun f cdv A outer s H vs Q E hr h=>?_)
 ·obtain⟨i,rfl,_⟩:=h
  rfl
 ·obtain⟨i,rfl,h1,h2,k⟩:=h
  refine⟨_,ar (bA (fw (dY (aq (mK T) hr (ap (pv 0))))) ju bE),?_⟩
  refine⟨_,rfl,i,rfl,_,rfl,?_⟩
  rw[decide_eq_true h1,decide_eq_true h2]
  exact cm k
theorem yS (st:List Lad.Step)(s:Lad.Step)(m:Int):Lad.up (st++[s]) m=Lad.num s.1 s.2 (Lad.up st m):=by
 unfold Lad.up
 rw[Bm]
 rfl
def yH (C:Addr):Sp:=fun vs H Q _=>∃ p r m b ps af,vs=[.ref p,.int r,.int m]/\cu C H p b ps af/\cf b ps af/\0<=r/\r<=(af.length:Int)/\-ba<m/\m<ba/\∀ H',aa H H'->Q (.int (Lad.up (lj b ps af r) m)) H'
theorem jA:aI ["self","roll","moment","number","begin","sizes"] ["self","roll","moment"] (ak gu):=aN
theorem um (T:Txt K mg C):iz P w K mg base C 4 "bar_at" ["self","roll","moment"] (yH C):=by
 refine mZ T.m_bar_at jA (fun vs H Q E h=>?_) (fun f cdv A outer s H vs Q E hr h=>?_)
 ·obtain⟨p,r,m,b,ps,af,rfl,_⟩:=h
  rfl
 ·obtain⟨p,r,m,b,ps,af,rfl,L,ok,r0,r1,m0,m1,k⟩:=h
  obtain⟨dx,a,o,c,us,h1,h2,h3,h4,h5⟩:=id L
  refine⟨_,al (cK (aq (lD T) hr (aW (pv 1) ag (ax bM (lF (pv 0) T.cl (ln T) hr) ag))))
   (al (cK (aq (yV T) hr (ap (pv 2))))
   (al (aB (i:=3) jA.nd rfl (Or.inl rfl) (pv 2))
   (al (cH PassesOwn.never rfl (si (nI Ab (mh (pv 0) rfl) sf (tD (ax bU (pv 1) ag))))
     (kz rfl (cF (br (i:=4) jA.nd rfl (Or.inl rfl)) (cF (br (i:=5) jA.nd rfl (Or.inl rfl)) gi)))
     (ar (aB (i:=3) jA.nd rfl (Or.inl rfl) (aq (yW T) hr (aW (pv 4) (pv 5) (pv 3))))))
   (ar (aF (pv 3)))))),?_⟩
  refine⟨_,rfl,_,rfl,p,dx,_,rfl,h1,jE _ _ _ (by decide +kernel) (by decide +kernel) (by decide +kernel),p,b,ps,af,rfl,L,_,_,rfl,rfl,_,_,_,rfl,r0,by omega,?_⟩
  refine⟨_,rfl,m,rfl,m0,m1,_,rfl,?_⟩
  refine⟨_,rfl,p,C,dx,_,_,rfl,h1,T.cl,T.n_steps,tw _ _ _,_,rfl,_,_,rfl,rfl,_,rfl,c,us,_,rfl,h4,rfl,rfl,by omega,fun t H1 s1 ht=>?_⟩
  refine⟨t,rfl,⟨_,.of ht⟩,yg (K:=K) (a:=t) (xs:=us.take (r+1).toNat) (fun i σ H2=>∃ x y,σ=[some (.ref p),some (.int r),some (.int m),some (.int (Lad.up ((((b,Lad.bars ps)::af).take (r+1).toNat).take i) m)),x,y]/\aa H1 H2)
    ⟨none,none,rfl,aa.refl _⟩ (fun i σ H2 _ ⟨_,_,_,s2⟩=>.of (s2 _ _ ht)) ?_ ?_⟩
  ·rintro i x σ H2 hx ⟨x0,y0,rfl,s2⟩
   obtain⟨st,hst,r',l',rfl,hr',hl'⟩:=Paired.get (Paired.take (r+1).toNat h5) hx
   have hr2:=s2 _ _ (s1 _ _ hr')
   have hl2:=s2 _ _ (s1 _ _ hl')
   have hmem:st∈(b,Lad.bars ps)::af:=Bn (AK hst)
   refine⟨r',_,rfl,.of hr2,rfl,_,_,rfl,_,_,rfl,rfl,?_⟩
   refine⟨_,rfl,_,rfl,_,rfl,_,l',st.2,_,rfl,hl2,(ok.steps st hmem).1,fun H3 s3=>?_⟩
   refine⟨some (.int st.1),some (.ref l'),?_,s2.trans s3⟩
   have e:(((b,Lad.bars ps)::af).take (r+1).toNat).take (i+1)=(((b,Lad.bars ps)::af).take (r+1).toNat).take i++[st]:=by rw[Aw,hst];rfl
   rw[e,yS]
   rfl
  ·rintro σ H2 ⟨x0,y0,rfl,s2⟩
   refine⟨_,rfl,?_⟩
   have hl:(us.take (r+1).toNat).length=(((b,Lad.bars ps)::af).take (r+1).toNat).length:=Paired.length (Paired.take _ h5)
   rw[hl,AI]
   exact k H2 (s1.trans s2)
inductive fu (H:Hp)(v:V)(s:Lad.Step):Prop
 | mk (r:Addr)(l:Addr)(h0_:v=.ref r)(h1_:H r=some (.tup [.int s.1,.ref l]))(h2_:H l=some (.lst (s.2.map V.int)))(h3_:s.2.length<=1000):fu H v s
theorem fu.same {H H':Hp}(e:aa H H'){v:V}{s:Lad.Step}(h:fu H v s):fu H' v s:=by
 obtain⟨r,l,e1,h1,h2,h3⟩:=h
 exact⟨r,l,e1,e _ _ h1,e _ _ h2,h3⟩
theorem fu.g {H:Hp}{v:V}{s:Lad.Step}(h:fu H v s):dc H v s:=by
 obtain⟨r,l,e1,h1,h2,h3⟩:=h
 exact⟨r,l,_,_,e1,h1,.inr rfl,h2,.inl rfl,h3⟩
end
end Pr
namespace Lad
def ur (st:List Step)(r:Nat)(m:Int):Int:=up (st.take (r+1)) m
theorem goods_take {st:List Step}(g:Goods st)(r:Nat):Goods (st.take r):=fun s hs=>g s (Bn hs)
section
variable {st:List Step}(g:Goods st)
include g
theorem ur_succ {r:Nat}{s:Step}(e:st[r+1]?=some s)(m:Int):ur st (r+1) m=num s.1 s.2 (ur st r m):=by
 unfold ur up
 rw[Aw (i:=r+1),e,Bm]
 rfl
end
section
variable {st:List Step}(g:Goods st)
include g
end
end Lad
namespace Pr
open PySem L2 PyProof.Rows
abbrev aA (b:Int)(ps:List Int)(af:List Lad.Step):List Lad.Step:=(b,Lad.bars ps)::af
theorem cf.goods {b:Int}{ps:List Int}{af:List Lad.Step}(h:cf b ps af):Lad.Goods (aA b ps af):=fun s hs=>(h.steps s hs).1.g
theorem yh (b:Int)(ps:List Int)(af:List Lad.Step)(r:Nat)(m:Int):Lad.up (lj b ps af (r:Int)) m=Lad.ur (aA b ps af) r m:=by
 unfold lj Lad.ur
 rw[show ((r:Int)+1).toNat=r+1 by omega]
theorem pK {b:Int}{ps:List Int}{af:List Lad.Step}(h:cf b ps af)(r:Nat){m:Int}(m0 : -ba<m)(m1:m<ba) : -(6*ba)<Lad.ur (aA b ps af) r m/\Lad.ur (aA b ps af) r m<6*ba:=by
 have hb:=Lad.up_bound (B:=ba) (by decide) ((aA b ps af).take (r+1)) (Lad.goods_take h.goods _) (fun s hs=>by have:=(h.steps s (Bn hs)).2;omega) m
 have hl:((aA b ps af).take (r+1)).length<=5:=by
  have:=(kg h.r).1
  rw[AC,Ay]
  omega
 have hW:ba=1000000000000000000000000000000:=rfl
 have h5:ba*(((aA b ps af).take (r+1)).length:Int)<=ba*5:=Int.mul_le_mul_of_nonneg_left (by omega) (by decide)
 have:Lad.ur (aA b ps af) r m=Lad.up ((aA b ps af).take (r+1)) m:=rfl
 split at hb <;> omega
theorem kP {n:Nat}(h:n<=1000):n<=CQ:=by rw[Dq];omega
theorem fq {c:Bool}{A B:Prop}(hc:c=true)(h:A):if c=true then A else B:=by rw[hc];exact bV h
theorem fm {c:Bool}{A B:Prop}(hc:c=false)(h:B):if c=true then A else B:=by rw[hc];exact cm h
theorem mG {C:Addr}{H:Hp}{p:Addr}{b:Int}{ps:List Int}{af:List Lad.Step}(h:cu C H p b ps af):∃ dx a o c,H p=some (.ins C dx (fA a o c)):=by
 obtain⟨dx,a,o,c,us,h,_⟩:=h
 exact⟨dx,a,o,c,h⟩
end Pr
namespace L2
open PySem PySem.Spec PyProof.Rows
theorem nq:∀ {ts:List Str}{us:List Value},au (ts.map V.str) us->∃ l:List (Str×Tok),us=strValues l/\l.map (·.1)=ts
 | [],us,h=>by
  cases h
  exact⟨[],rfl,rfl⟩
 | x::r,us,h=>by
  cases h with
  | cons a b =>
   obtain⟨t,rfl⟩:=a
   obtain⟨l,rfl,e⟩:=nq b
   exact⟨(x,t)::l,rfl,by rw[Av,e]⟩
section
variable {X:Cx}
theorem uW:kK X "str.join" (fun x xs H Q=>∃ sep D,∃ ts:List Str,x=.str sep/\xs=[.ref D]/\aS X.K H D (ts.map V.str)/\JoinOk sep ts=true/\Q (.str (Txt.join sep ts)) H):=by
 intro pins s σ H x xs v us Q I rx r h
 obtain⟨sep,D,ts,e1,e2,hq,hok,q⟩:=h
 subst e1 e2
 obtain⟨t,rfl⟩:=rx
 obtain⟨u,rfl,ry⟩:=cv r
 cases ry
 obtain⟨its,rv,p,hz⟩:=I.list hq
 obtain⟨l,rfl,et⟩:=nq rv
 exact SC.join p.isList et hok fun t1 k=>⟨.str _,H,I.tok k,⟨t1,rfl⟩,q⟩
end
end L2
namespace L2
open PySem PySem.Spec PyProof.Rows
theorem But.upd {p:Addr}{H:Hp}{o:HO}:But p H (L2.upd H p o):=fun c u h n=>by rw[L2.upd_ne n];exact h
theorem But.same {p:Addr}{H H1 H2:Hp}(a:But p H H1)(b:aa H1 H2):But p H H2:=fun c o h n=>b c o (a c o h n)
end L2
namespace Pr
open PySem L2 PyProof.Rows Ent
inductive bc (H:Hp)(p:Addr):Prop
 | mk (x:Int)(y:Int)(h:H p=some (.lst [.int x,.int y])):bc H p
theorem bc.ne {H:Hp}{p l:Addr}(h:bc H p)(hl:H l=none):l≠p:=by
 obtain⟨x,y,h⟩:=h
 exact Ne.symm (aR h hl)
theorem bc.same {H H':Hp}{p:Addr}(h:bc H p)(s:aa H H'):bc H' p:=by
 obtain⟨x,y,h⟩:=h
 exact⟨x,y,s _ _ h⟩
section
variable {P:CP}{w:World}{K:W.Frag}{mg:Str->Option Value}{base:Heap}{C:Addr}
inductive ow (K:W.Frag)(vs:List V)(H:Hp)(Q:VK)(E:XK):Prop
 | mk (a:Addr)(ns:List Int)(k:Int)(e:vs=[.ref a,.int k])(h:aS K H a (ns.map V.int))(hk:0<=k)(q:∀ n,Q (.int n) H):ow K vs H Q E
theorem Ah:aI ["_law_script","_law_k"] ["_law_script","_law_k"] (ak ig):=aN
theorem cell (T:Txt K mg C):aP P w K mg base 1 "_law_cell" ["_law_script","_law_k"] (ow K):=by
 refine aU T.f_law_cell Ah (fun vs H Q E h=>?_) (fun f cdv A outer s H vs Q E hr h=>?_)
 ·obtain⟨a,ns,k,rfl,_⟩:=h
  rfl
 ·obtain⟨a,ns,k,rfl,ha,hk,q⟩:=h
  refine⟨_,al (bA (bO fP (pv 1) (aQ (iw K) T.b_len EM (ap (pv 0))) (bu _)) (ar (aF (av (bi K) (pv 0) (pv 1) (fun _ _=>rfl)))) bE) (ar (aF ag)),?_⟩
  refine⟨_,rfl,_,rfl,a,_,rfl,.inl ha,_,_,rfl,rfl,_,rfl,cE (fun hc=>?_) (fun hc=>q 0)⟩
  have hc':k<((ns.map V.int).length:Int):=of_decide_eq_true hc
  rw[Ar] at hc'
  exact⟨_,rfl,_,rfl,a,_,_,_,rfl,rfl,ha,cw hk hc',q _⟩
inductive rZ (vs:List V)(H:Hp)(Q:VK)(E:XK):Prop
 | mk (c:Int)(e:vs=[.int c])(q:∀ p H',aa H H'->H p=none->bc H' p->Q (.ref p) H'):rZ vs H Q E
theorem Aq:aI ["_law_cell_here"] ["_law_cell_here"] (ak fW):=aN
theorem pot (T:Txt K mg C):aP P w K mg base 1 "_law_pot" ["_law_cell_here"] rZ:=by
 refine aU T.f_law_pot Aq (fun vs H Q E h=>?_) (fun f cdv A outer s H vs Q E hr h=>?_)
 ·obtain⟨c,rfl,_⟩:=h
  rfl
 ·obtain⟨c,rfl,q⟩:=h
  refine⟨_,ar (aF (bn (az (aQ (mH rfl) T.b_max EQ (az ag (ax bM (aQ pV T.b_abs boot_abs (ap (pv 0))) (ax dk ag ag))))
   (ax bU (ax jq (aQ pV T.b_abs boot_abs (ap (pv 0))) ag) ag)))),?_⟩
  refine⟨_,rfl,_,rfl,_,_,rfl,rfl,⟨by decide +kernel,by decide +kernel,by decide +kernel⟩,_,_,rfl,rfl,_,_,rfl,_,rfl,_,rfl,_,_,rfl,rfl,(by show (0:Int)<_;decide +kernel),_,_,rfl,rfl,cQ,fun p hp=>?_⟩
  exact q p _ (aa.upd hp) hp ⟨_,_,ah⟩
inductive qT (vs:List V)(H:Hp)(Q:VK)(E:XK):Prop
 | mk (p:Addr)(many:Int)(e:vs=[.ref p,.int many])(h1:bc H p)(h2:0<many)(h3:many<2 ^ 300)(q:∀ d H',0<=d->d<many->But p H H'->bc H' p->Q (.int d) H'):qT vs H Q E
theorem qq:aI ["_law_pot_here","_law_many","_law_digit"] ["_law_pot_here","_law_many"] (ak gN):=aN
theorem take (T:Txt K mg C):aP P w K mg base 1 "_law_take" ["_law_pot_here","_law_many"] qT:=by
 refine aU T.f_law_take qq (fun vs H Q E h=>?_) (fun f cdv A outer s H vs Q E hr h=>?_)
 ·obtain⟨p,many,rfl,_⟩:=h
  rfl
 ·obtain⟨p,many,rfl,⟨x,y,hp⟩,h0,h1,q⟩:=h
  refine⟨_,al (bA (bO iL (av (bi K) (pv 0) ag (fun _ _=>rfl)) ag (bu _))
    (al (iB (aQ sK T.b_divmod boot_divmod (az (av (bi K) (pv 0) ag (fun _ _=>rfl)) (pv 1))) (jM K rfl (cF (jR (pv 0) ag jd) (cF (br (i:=2) qq.nd rfl (Or.inl rfl)) gi))))
    (ar (aF (pv 2)))) bE)
   (al (iB (ax jq (ax bU (ax dX (av (bi K) (pv 0) ag (fun _ _=>rfl)) ag) ag) ag) (jR (pv 0) ag jd))
   (ar (aF (ax jq (ax tu (ax jq (ax dX (av (bi K) (pv 0) ag (fun _ _=>rfl)) (av (bi K) (pv 0) ag (fun _ _=>rfl))) ag) ag) (pv 1))))),?_⟩
  refine⟨_,rfl,p,_,_,_,rfl,rfl,.of hp,rfl,_,_,rfl,rfl,_,rfl,?_⟩
  refine cE (fun hc=>?_) (fun hc=>?_)
  ·refine⟨_,rfl,p,_,_,_,rfl,rfl,.of hp,rfl,_,rfl,_,_,rfl,⟨h0,h1⟩,fun t ht=>?_⟩
   have ne:p≠t:=aR hp ht
   have ht2:aa H (upd H t (.tup [.int (x / many),.int (x % many)])):=aa.upd ht
   refine⟨t,_,rfl,.of ah,rfl,_,_,rfl,_,rfl,p,_,_,_,rfl,rfl,ht2 _ _ hp,rfl,_,_,rfl,rfl,_,rfl,?_⟩
   refine q _ _ (Cz _ (by omega)) (CA _ h0) (fun b o hb hn=>?_) ⟨_,_,ah⟩
   rw[upd_ne hn]
   exact ht2 _ _ hb
  ·refine⟨_,rfl,p,_,_,_,rfl,rfl,.of hp,rfl,_,_,rfl,rfl,.inr ⟨by decide +kernel,by decide +kernel⟩,_,_,rfl,rfl,_,_,rfl,rfl,(by show (0:Int)<_;decide +kernel),_,rfl,p,_,_,_,rfl,rfl,hp,rfl,?_⟩
   have hz0:0<=(y*39373+7919) % 2147483629:=Cz _ (by omega)
   have hz1:(y*39373+7919) % 2147483629<2147483629:=CA _ (by omega)
   refine⟨_,rfl,p,_,_,_,rfl,rfl,.of ah,rfl,_,rfl,p,_,_,_,rfl,rfl,.of ah,rfl,_,_,rfl,rfl,.inl ⟨by omega,by omega⟩,_,_,rfl,rfl,(by show (0:Int)<_;decide +kernel),_,_,rfl,rfl,⟨by decide +kernel,by decide +kernel⟩,_,rfl,_,_,rfl,rfl,h0,?_⟩
   exact q _ _ (Cz _ (by omega)) (CA _ h0) But.upd ⟨_,_,ah⟩
theorem ql (cs:List Nat):(cs.map ((fun x:Str=>x.length)∘fun c=>(⟨#[c]⟩:Str))).sum=cs.length:=by
 induction cs with
 | nil=>rfl
 | cons c r ih =>
  rw[Av,AH,Ay,ih]
  show 1+r.length=_
  omega
theorem uS {cs:List Nat}(h8:cs.length<=8)(hc:∀ c∈cs,c<128):jn (Txt.join "" (cs.map fun c=>(⟨#[c]⟩:Str))):=by
 have e:Txt.join "" (cs.map fun c=>(⟨#[c]⟩:Str))=Str.join "" (cs.map fun c=>(⟨#[c]⟩:Str)):=StrLaws.glued_eq_join _ _
 rw[e]
 constructor
 ·have h1:=StrLaws.join_length_le "" (cs.map fun c=>(⟨#[c]⟩:Str))
  rw[AT] at h1
  rw[ql] at h1
  have h3:(("" : String):Str).length=0:=by decide
  rw[h3] at h1
  show (Str.join _ _).length<=8
  omega
 ·intro c hm
  rcases (mem_join "" c _).mp hm with⟨t,ht,h2⟩|⟨_,h2⟩
  ·obtain⟨d,hd,rfl⟩:=List.mem_map.mp ht
   have:c=d:=by simpa using h2
   rw[this]
   exact hc d hd
  ·have e0:(("" : String):Str).cps.toList=[]:=by decide
   rw[e0] at h2
   cases h2
theorem vf {cs:List Nat}(h8:cs.length<=8):JoinOk "" (cs.map fun c=>(⟨#[c]⟩:Str))=true:=by
 refine joinOk_of ?_
 rw[AT]
 rw[ql]
 have h3:(("" : String):Str).length=0:=by decide
 rw[h3]
 omega
theorem yL {i:Int}(h0:0<=i)(h1:i<36):∃ c,bX (("abcdefghijklmnopqrstuvwxyz0123456789" : String):Str).cps.toList i=some c/\c<128:=by
 obtain⟨n,rfl⟩:∃ n:Nat,i=n:=⟨i.toNat,by omega⟩
 have hl:(("abcdefghijklmnopqrstuvwxyz0123456789" : String):Str).cps.toList.length=36:=by decide +kernel
 have ha:(("abcdefghijklmnopqrstuvwxyz0123456789" : String):Str).cps.toList.all (fun c=>decide (c<128))=true:=by decide +kernel
 have hn:n<(("abcdefghijklmnopqrstuvwxyz0123456789" : String):Str).cps.toList.length:=by omega
 refine⟨_,bz (As hn),?_⟩
 exact of_decide_eq_true (List.all_eq_true.mp ha _ (AZ hn))
inductive sj (vs:List V)(H:Hp)(Q:VK)(E:XK):Prop
 | mk (p:Addr)(e:vs=[.ref p])(h1:bc H p)(q:∀ d H',d.natAbs<10 ^ 30->But p H H'->bc H' p->Q (.int d) H'):sj vs H Q E
theorem nO:aI ["_law_pot_here","_law_way"] ["_law_pot_here"] (ak hU):=aN
set_option maxHeartbeats 4000000 in
theorem mz (T:Txt K mg C):aP P w K mg base 2 "_law_wide" ["_law_pot_here"] sj:=by
 refine aU T.f_law_wide nO (fun vs H Q E h=>?_) (fun f cdv A outer s H vs Q E hr h=>?_)
 ·obtain⟨p,rfl,_⟩:=h
  rfl
 ·obtain⟨p,rfl,hp,q⟩:=h
  refine⟨_,al (aB (i:=1) nO.nd rfl (Or.inl rfl) (aq (take T) hr (az (pv 0) ag)))
   (al (bA (bO eR (pv 1) ag (bu _)) (ar (aF (ax bM (aq (take T) hr (az (pv 0) ag)) ag))) bE)
   (al (bA (bO eR (pv 1) ag (bu _)) (ar (aF (ax bM (aq (take T) hr (az (pv 0) ag)) ag))) bE)
   (al (bA (bO eR (pv 1) ag (bu _)) (ar (aF (ax bU (ax bM (aq (take T) hr (az (pv 0) (ax bM (ax dX ag (ax dk ag ag)) ag))) (ax dk ag ag)) ag))) bE)
   (ar (aF (ax bU (av (bi K) (bn (az (ax bM (ax dk ag ag) ag) (ax bM ag (ax dk ag ag)))) (ax bM (pv 1) ag) (fun _ _=>rfl))
    (ax dX (aq (take T) hr (az (pv 0) ag)) (av (bi K) (bn (az (dI dN ag) ag)) (ax bM (pv 1) ag) (fun _ _=>rfl))))))))),?_⟩
  have jK:(10:Int) ^ (30:Int).toNat=1000000000000000000000000000000:=by decide +kernel
  have n30:(10:Nat) ^ 30=1000000000000000000000000000000:=by decide +kernel
  refine⟨_,rfl,p,_,rfl,hp,by decide +kernel,by decide +kernel,fun d1 H1 a1 b1 c1 hp1=>?_⟩
  refine⟨_,rfl,rfl,_,rfl,cE (fun hc=>?_) (fun hc1=>?_)⟩
  ·refine⟨_,rfl,p,_,rfl,hp1,by decide +kernel,by decide +kernel,fun d H2 a b c hp2=>⟨_,_,rfl,rfl,q _ _ ?_ (c1.trans c) hp2⟩⟩
   rw[n30];omega
  refine⟨_,rfl,rfl,_,rfl,cE (fun hc=>?_) (fun hc2=>?_)⟩
  ·refine⟨_,rfl,p,_,rfl,hp1,by decide +kernel,by decide +kernel,fun d H2 a b c hp2=>⟨_,_,rfl,rfl,q _ _ ?_ (c1.trans c) hp2⟩⟩
   rw[n30];omega
  refine⟨_,rfl,rfl,_,rfl,cE (fun hc=>?_) (fun hc3=>?_)⟩
  ·refine⟨_,rfl,_,_,rfl,rfl,⟨by decide +kernel,by decide +kernel,by decide +kernel⟩,_,_,rfl,rfl,.inl ⟨by decide +kernel,by decide +kernel⟩,_,_,rfl,rfl,p,_,rfl,hp1,by decide +kernel,by decide +kernel,fun d H2 a b c hp2=>⟨_,_,rfl,rfl,⟨by decide +kernel,by decide +kernel,by decide +kernel⟩,_,_,rfl,rfl,_,_,rfl,rfl,q _ _ ?_ (c1.trans c) hp2⟩⟩
   rw[jK] at b ⊢
   rw[n30]
   omega
  have hd:d1=3\/d1=4:=by
   have z1:d1≠0:=fun e=>hc1 (by rw[e];rfl)
   have z2:d1≠1:=fun e=>hc2 (by rw[e];rfl)
   have z3:d1≠2:=fun e=>hc3 (by rw[e];rfl)
   omega
  refine⟨_,_,rfl,rfl,⟨by decide +kernel,by decide +kernel,by decide +kernel⟩,_,_,rfl,rfl,_,_,rfl,rfl,⟨by decide +kernel,by decide +kernel,by decide +kernel⟩,_,_,rfl,rfl,cQ,fun l1 hl1=>?_⟩
  refine⟨_,rfl,_,_,rfl,rfl,l1,_,_,_,rfl,rfl,.of ah,cw (S:=[10 ^ (30:Int).toNat-1,1-10 ^ (30:Int).toNat]) (by omega) (by show d1-3<2;omega),?_⟩
  refine⟨_,rfl,p,_,rfl,hp1.same (aa.upd hl1),by decide +kernel,by decide +kernel,fun d H2 a b c hp2=>?_⟩
  refine⟨_,rfl,cQ,fun l2 hl2=>?_⟩
  refine⟨_,rfl,_,_,rfl,rfl,l2,_,_,_,rfl,rfl,.of ah,cw (S:=[-1,1]) (by omega) (by show d1-3<2;omega),?_⟩
  refine⟨_,_,rfl,rfl,.inl ⟨by omega,by omega⟩,_,_,rfl,rfl,q _ _ ?_ (((c1.same (aa.upd hl1)).trans c).same (aa.upd hl2)) (hp2.same (aa.upd hl2))⟩
  rw[jK,n30]
  rcases hd with rfl|rfl
  ·show (((1000000000000000000000000000000:Int)-1)+d*-1).natAbs<_
   omega
  ·show (((1:Int)-1000000000000000000000000000000)+d*1).natAbs<_
   omega
inductive oO (vs:List V)(H:Hp)(Q:VK)(E:XK):Prop
 | mk (p:Addr)(e:vs=[.ref p])(h1:bc H p)(q:∀ k H',jn k->But p H H'->bc H' p->Q (.str k) H'):oO vs H Q E
theorem lC:aI ["_law_pot_here","_law_many"] ["_law_pot_here"] (ak gh):=aN
set_option maxHeartbeats 4000000 in
theorem key (T:Txt K mg C):aP P w K mg base 2 "_law_key" ["_law_pot_here"] oO:=by
 refine aU T.f_law_key lC (fun vs H Q E h=>?_) (fun f cdv A outer s H vs Q E hr h=>?_)
 ·obtain⟨p,rfl,_⟩:=h
  rfl
 ·obtain⟨p,rfl,hp,q⟩:=h
  refine⟨_,al (aB (i:=1) lC.nd rfl (Or.inl rfl) (av (bi K) (bn (aW ag ag (ax bU ag (aq (take T) hr (az (pv 0) ag))))) (aq (take T) hr (az (pv 0) ag)) (fun _ _=>rfl)))
   (ar (aF (fg K PySem.F.plainAttrs_str PySem.F.slot_str_join PySem.F.type_str_join uW sL (ap (cx rfl (bQ lC) (j8 rfl T.b_range (ap (pv 1))) (fun _ _ _ _=>bZ) (fun _ _ _ _=>av ze sL (aq (take T) hr (az (pv 1) ag)) (fun _ _=>rfl))))))),?_⟩
  refine⟨_,rfl,p,_,rfl,hp,by decide +kernel,by decide +kernel,fun d1 H1 a1 b1 c1 hp1=>?_⟩
  refine⟨_,_,rfl,rfl,dE,fun l1 hl1=>?_⟩
  refine⟨_,rfl,p,_,rfl,hp1.same (aa.upd hl1),by decide +kernel,by decide +kernel,fun d2 H2 a2 b2 c2 hp2=>?_⟩
  have hl2:H2 l1=some (.lst ([1,1,1+d1].map V.int)):=c2 _ _ ah (hp1.ne hl1)
  refine⟨l1,_,_,_,rfl,rfl,.of hl2,cw (S:=[1,1,1+d1]) a2 (by show d2<3;omega),?_⟩
  have hm:1<=[1,1,1+d1].getD d2.toNat 0/\[1,1,1+d1].getD d2.toNat 0<=8:=by
   have:d2=0\/d2=1\/d2=2:=by omega
   rcases this with rfl|rfl|rfl
   ·show (1:Int)<=1/\(1:Int)<=8
    decide
   ·show (1:Int)<=1/\(1:Int)<=8
    decide
   ·show 1<=1+d1/\1+d1<=8
    omega
  generalize hmm:[1,1,1+d1].getD d2.toNat 0=many at hm
  have c12:But p H H2:=(c1.same (aa.upd hl1)).trans c2
  refine⟨rfl,_,rfl,_,rfl,by omega,by omega,fun D hD=>?_⟩
  refine oH (fun i ys H3=>H3 D=some (.lst ys)/\But p H2 H3/\bc H3 p/\∃ cs:List Nat,ys=cs.map (fun c=>V.str ⟨#[c]⟩)/\cs.length=i/\∀ c∈cs,c<128) ⟨ah,(aa.upd hD).but,hp2.same (aa.upd hD),[],rfl,rfl,fun _ h=>nomatch h⟩ (fun i ys H3 h=>h.1) (fun ys H3 h=>?_) fun i ys H3 hi h=>?_
  ·obtain⟨h1,h2,h3,cs,rfl,h5,h6⟩:=h
   have e2:cs.map (fun c=>V.str ⟨#[c]⟩)=(cs.map fun c=>(⟨#[c]⟩:Str)).map V.str:=by rw[AT];rfl
   rw[e2] at h1
   exact⟨_,D,_,rfl,rfl,.of h1,vf (by omega),q _ _ (uS (by omega) h6) (c12.trans h2) h3⟩
  ·obtain⟨h1,h2,h3,cs,rfl,h5,h6⟩:=h
   refine cL ⟨_,rfl,p,_,rfl,h3,by decide +kernel,by decide +kernel,fun d H4 a b c hp4=>?_⟩
   obtain⟨ch,hch,hlt⟩:=yL a b
   have hDp:D≠p:=hp2.ne hD
   refine⟨_,_,_,rfl,rfl,by decide +kernel,hch,bw.mk hi (by omega) (by rw[Ar];omega) (c _ _ h1 hDp) ⟨ah,?_,?_,cs++[ch],by rw[Ax];rfl,by rw[AB,h5];rfl,fun z hz=>?_⟩⟩
   ·intro b' o hb hn
    have hne:b'≠D:=aR hb hD
    rw[upd_ne hne]
    exact c _ _ (h2 _ _ hb hn) hn
   ·obtain⟨x,y,hxy⟩:=hp4
    exact⟨x,y,by rw[upd_ne (Ne.symm hDp)];exact hxy⟩
   ·rcases List.mem_append.mp hz with hz|hz
    ·exact h6 z hz
    ·rw[List.mem_singleton.mp hz];exact hlt
theorem qd {H:Hp}{g:En->PyData}(hg:∀ x e,aM H x e->am H (g e) x):∀ {xs:List V}{es:List En},Paired (aM H) xs es->ay H (es.map g) xs
 | _,_,.nil=>by unfold ay;rfl
 | _,_,.cons r t=>by
  unfold ay
  exact⟨_,_,rfl,hg _ _ r,qd hg t⟩
theorem tq {H:Hp}{a:Addr}{xs:List V}{es:List En}(h:H a=some (.lst xs))(p:Paired (aM H) xs es):am H (.list (es.map eD)) (.ref a):=by
 unfold am
 exact⟨a,xs,rfl,h,qd (fun _ _ z=>z.dat) p⟩
theorem mC {H:Hp}{a:Addr}(h:H a=some (.lst [])):am H (.list []) (.ref a):=by
 unfold am
 exact⟨a,[],rfl,h,by unfold ay;rfl⟩
theorem n4 {es:List En}(ok:∀ e∈es,bN e):(PyData.list (es.map eD)).canLay0=true:=(jW (ds:=es.map eD) fun d hd=>by
 obtain⟨e,he,rfl⟩:=List.mem_map.mp hd
 exact lR (ok e he)).cl
theorem mo:∀ (es:List En),PyData.depthAll (es.map eD)<=1
 | []=>by simp[PyData.depthAll]
 | e::es=>by
  have h1:=mo es
  have h2:=oQ e
  rw[Av]
  simp only[PyData.depthAll]
  omega
theorem eq_nil (es:List En):PyData.eqv (.list (es.map eD)) (.list [])=es.isEmpty:=by
 cases es with
 | nil=>rfl
 | cons e r=>rfl
inductive tO (vs:List V)(H:Hp)(Q:VK)(E:XK):Prop
 | mk (x y:V)(e e':En)(h:vs=[x,y])(hx:aM H x e)(hy:aM H y e')(q:Q (.bl (bT e e')) H):tO vs H Q E
theorem yd:aI ["_law_one","_law_other"] ["_law_one","_law_other"] (ak fZ):=aN
theorem sX (T:Txt K mg C):aP P w K mg base 1 "_law_before" ["_law_one","_law_other"] tO:=by
 refine aU T.f_law_before yd (fun vs H Q E h=>?_) (fun f cdv A outer s H vs Q E hr h=>?_)
 ·obtain⟨x,y,e,e',rfl,_⟩:=h
  rfl
 ·obtain⟨x,y,e,e',rfl,⟨a,rfl,ha⟩,⟨b,rfl,hb⟩,q⟩:=h
  refine⟨_,al (bA (bO mJ (av (bp K) (pv 0) ag (fun _ _=>rfl)) (av (bp K) (pv 1) ag (fun _ _=>rfl)) (bu _))
   (ar (aF (fV fP (av (bp K) (pv 0) ag (fun _ _=>rfl)) (av (bp K) (pv 1) ag (fun _ _=>rfl)) (bu _)))) bE)
   (ar (aF (fV yU (av (bp K) (pv 0) ag (fun _ _=>rfl)) (av (bp K) (pv 1) ag (fun _ _=>rfl)) (bu _)))),?_⟩
  refine⟨_,rfl,a,_,_,_,rfl,rfl,.of ha,bz (j:=0) rfl,_,rfl,b,_,_,_,rfl,rfl,.of hb,bz (j:=0) rfl,rfl,_,rfl,cE (fun hc=>?_) (fun hc=>?_)⟩
  ·have hne:¬ e.1=e'.1:=fun z=>by rw[z] at hc;simp at hc
   refine⟨_,rfl,a,_,_,_,rfl,rfl,.of ha,bz (j:=0) rfl,_,rfl,b,_,_,_,rfl,rfl,.of hb,bz (j:=0) rfl,_,_,rfl,rfl,?_⟩
   unfold bT Srt.plt pl at q
   rw[if_neg hne] at q
   exact q
  ·have heq:e.1=e'.1:=by
    cases Decidable.em (e.1=e'.1) with
    | inl z=>exact z
    | inr z=>exact absurd (by simp[z]) hc
   refine⟨_,rfl,a,_,_,_,rfl,rfl,.of ha,bz (j:=1) rfl,_,rfl,b,_,_,_,rfl,rfl,.of hb,bz (j:=1) rfl,_,_,rfl,rfl,?_⟩
   unfold bT Srt.plt pl at q
   rw[if_pos heq] at q
   exact q
inductive pT (vs:List V)(H:Hp)(Q:VK)(E:XK):Prop
 | mk (a:Addr)(xs:List V)(es:List En)(h0:vs=[.ref a])(h1:H a=some (.lst xs))(h3:Paired (aM H) xs es)(h4:es.length<64)(h5:∀ e∈es,bN e)
  (q:∀ p H' b,aa H H'->H p=none->bD es b->am H' b (.ref p)->Q (.ref p) H'):pT vs H Q E
theorem eS:aI ["_law_entries","_law_first","_law_last","_law_total","_law_values","_law_entry"] ["_law_entries"] (ak ib):=aN
set_option maxHeartbeats 4000000 in
theorem zX (T:Txt K mg C):aP P w K mg base 2 "_law_bar" ["_law_entries"] pT:=by
 refine aU T.f_law_bar eS (fun vs H Q E h=>?_) (fun f cdv A outer s H vs Q E hr h=>?_)
 ·obtain⟨a,xs,es,rfl,_⟩:=h
  rfl
 ·obtain⟨a,xs,es,rfl,ha,hp,h64,ok,q⟩:=h
  have hlen:xs.length=es.length:=hp.length
  refine⟨_,al (bA (bO (qF hr) (pv 0) (bn b9) (bu _)) (ar (aF (bP (aO ag (aO ag (aO cq (aO cq (aO cq (aO cq b9))))))))) bE)
   (al (aB (i:=1) eS.nd rfl (Or.inl rfl) (av (bi K) (pv 0) ag (fun _ _=>rfl)))
   (al (aB (i:=2) eS.nd rfl (Or.inl rfl) (av (bi K) (pv 0) ag (fun _ _=>rfl)))
   (al (aB (i:=3) eS.nd rfl (Or.inl rfl) ag)
   (al (aB (i:=4) eS.nd rfl (Or.inl rfl) (bn b9))
   (al (cH PassesOwn.never rfl (bK K (pv 0)) (br (i:=5) eS.nd rfl (Or.inl rfl))
    (al (aB (i:=3) eS.nd rfl (Or.inl rfl) (ax bU (pv 3) (av (bp K) (pv 5) ag (fun _ _=>rfl))))
    (al (cK (fg K PySem.F.plainAttrs_list PySem.F.slot_list_append PySem.F.type_list_append dU (pv 4) (ap (av (bp K) (pv 5) ag (fun _ _=>rfl)))))
    (al (bA (dY (aq (sX T) hr (az (pv 5) (pv 1)))) (ar (aB (i:=1) eS.nd rfl (Or.inl rfl) (pv 5))) bE)
    (ar (bA (dY (aq (sX T) hr (az (pv 2) (pv 5)))) (ar (aB (i:=2) eS.nd rfl (Or.inl rfl) (pv 5))) bE))))))
   (ar (aF (bP (aO (aQ (iw K) T.b_len EM (ap (pv 0))) (aO (pv 3) (aO (aQ (mv K rfl) T.b_min EO (ap (pv 4))) (aO (aQ (nj K rfl) T.b_max EQ (ap (pv 4))) (aO (pv 1) (aO (pv 2) b9)))))))))))))),?_⟩
  refine⟨_,rfl,B9 _,fun Z hZ=>?_⟩
  have sZ:aa H (upd H Z (.lst [])):=aa.upd hZ
  have hpZ:=Paired.mono2 (fun _ _ z=>aM.same sZ z) hp
  refine⟨.list (es.map eD),.list [],tq (sZ _ _ ha) hpZ,mC ah,n4 ok,rfl,by have:=mo es;simp only[PyData.depth];omega,_,rfl,?_⟩
  simp only[Bool.false_eq_true,if_false]
  rw[eq_nil]
  cases hes:es with
  | nil =>
   refine bV ⟨dt (by show 6<=1000;decide),fun p hp'=>q p _ _ (sZ.trans (aa.upd hp')) (sZ.free hp') (.non hes rfl) (jL ah)⟩
  | cons e0 er =>
   refine cm ?_
   obtain⟨x0,hx0,r0⟩:=Paired.getR hpZ (i:=0) (y:=e0) (by rw[hes];rfl)
   have m0:e0∈es:=by rw[hes];exact AF
   refine⟨_,rfl,a,xs,_,_,rfl,rfl,.of (sZ _ _ ha),bz (j:=0) hx0,_,rfl,a,xs,_,_,rfl,rfl,.of (sZ _ _ ha),bz (j:=0) hx0,B9 _,fun Vd hV=>?_⟩
   have sV:=sZ.trans (aa.upd (o:=.lst []) hV)
   have hV0:H Vd=none:=sZ.free hV
   refine⟨_,rfl,a,rfl,⟨xs,.of (sV _ _ ha)⟩,eo (xs:=xs) (fun i σ H1=>∃ f l xf xl v5,σ=[some (.ref a),some xf,some xl,some (.int (aK (es.take i)).sum),some (.ref Vd),v5]/\aa H H1/\H1 Vd=some (.lst ((aK (es.take i)).map V.int))/\aM H1 xf f/\aM H1 xl l/\f∈es/\l∈es/\(∀ e∈es.take i,bT e f=false)/\∀ e∈es.take i,bT l e=false)
    ⟨e0,e0,x0,x0,none,rfl,sV,ah,r0.same (aa.upd hV),r0.same (aa.upd hV),m0,m0,(fun _ h=>nomatch h),fun _ h=>nomatch h⟩ (fun i σ H1 hi h=>?_) (fun i x σ H1 hx h=>?_) (fun σ H1 h=>?_)⟩
   ·obtain⟨f,l,xf,xl,v5,rfl,s1,_⟩:=h
    exact .of (s1 _ _ ha)
   ·obtain⟨f,l,xf,xl,v5,rfl,s1,d1,hf,hl,mf,ml,bf,bl⟩:=h
    have hi:i<xs.length:=(List.getElem?_eq_some_iff.mp hx).1
    obtain⟨e,he,hxe⟩:=Paired.get hp hx
    have me:e∈es:=AK he
    have hxe1:aM H1 x e:=hxe.same s1
    obtain⟨b,rfl,hb⟩:=hxe1
    have etk:es.take (i+1)=es.take i++[e]:=by rw[Aw,he];rfl
    have esum:(aK (es.take i)).sum+e.2.2=(aK (es.take (i+1))).sum:=by
     rw[etk];unfold aK;rw[Ax,BQ];simp
    have evs:(aK (es.take i)).map V.int++[V.int e.2.2]=(aK (es.take (i+1))).map V.int:=by
     rw[etk];unfold aK;simp
    refine⟨_,rfl,_,rfl,b,_,_,_,rfl,rfl,.of hb,bz (j:=2) rfl,_,_,rfl,rfl,?_⟩
    refine⟨_,rfl,.inl ⟨rfl,_,.of d1⟩,_,rfl,b,_,_,_,rfl,rfl,.of hb,bz (j:=2) rfl,Vd,_,_,rfl,rfl,d1,cR (by unfold aK;rw[Ar,Ar,AC];omega),?_⟩
    rw[evs]
    have w1:∀ {x:V}{e:En},aM H1 x e->aM (upd H1 Vd (.lst ((aK (es.take (i+1))).map V.int))) x e:=fun z=>z.wr d1
    have hb2:aM (upd H1 Vd (.lst ((aK (es.take (i+1))).map V.int))) (.ref b) e:=w1 ⟨b,rfl,hb⟩
    have s2:aa H (upd H1 Vd (.lst ((aK (es.take (i+1))).map V.int))):=s1.but_ne hV0
    refine⟨_,rfl,_,rfl,_,_,e,f,rfl,hb2,w1 hf,_,rfl,?_⟩
    have last:∀ (f':En) (xf':V),aM (upd H1 Vd (.lst ((aK (es.take (i+1))).map V.int))) xf' f'->f'∈es->(∀ e'∈es.take (i+1),bT e' f'=false) ->
      ∃ v,[some (V.ref a),some xf',some xl,some (V.int ((aK (es.take i)).sum+e.2.2)),some (V.ref Vd),some (V.ref b)][2]?=some (some v):=fun _ _ _ _ _=>⟨xl,rfl⟩
    cases hbf:bT e f with
    | true =>
     refine bV ⟨_,rfl,_,rfl,_,rfl,_,_,l,e,rfl,w1 hl,hb2,_,rfl,?_⟩
     have bf':∀ e'∈es.take (i+1),bT e' e=false:=fun e' he'=>by
      rw[etk] at he'
      rcases List.mem_append.mp he' with z|z
      ·exact Srt.plt_tr (Srt.plt_asym hbf) (bf e' z)
      ·rw[List.mem_singleton.mp z];exact i9 _
     cases hbl:bT l e with
     | true =>
      refine bV ⟨_,rfl,?_⟩
      refine⟨e,e,_,_,_,by rw[<-esum];rfl,s2,ah,hb2,hb2,me,me,bf',fun e' he'=>?_⟩
      rw[etk] at he'
      rcases List.mem_append.mp he' with z|z
      ·exact Srt.plt_tr (bl e' z) (Srt.plt_asym hbl)
      ·rw[List.mem_singleton.mp z];exact i9 _
     | false =>
      refine cm ?_
      refine⟨e,l,_,_,_,by rw[<-esum];rfl,s2,ah,hb2,w1 hl,me,ml,bf',fun e' he'=>?_⟩
      rw[etk] at he'
      rcases List.mem_append.mp he' with z|z
      ·exact bl e' z
      ·rw[List.mem_singleton.mp z];exact hbl
    | false =>
     refine cm ⟨_,rfl,_,rfl,_,_,l,e,rfl,w1 hl,hb2,_,rfl,?_⟩
     have bf':∀ e'∈es.take (i+1),bT e' f=false:=fun e' he'=>by
      rw[etk] at he'
      rcases List.mem_append.mp he' with z|z
      ·exact bf e' z
      ·rw[List.mem_singleton.mp z];exact hbf
     cases hbl:bT l e with
     | true =>
      refine bV ⟨_,rfl,?_⟩
      refine⟨f,e,_,_,_,by rw[<-esum];rfl,s2,ah,w1 hf,hb2,mf,me,bf',fun e' he'=>?_⟩
      rw[etk] at he'
      rcases List.mem_append.mp he' with z|z
      ·exact Srt.plt_tr (bl e' z) (Srt.plt_asym hbl)
      ·rw[List.mem_singleton.mp z];exact i9 _
     | false =>
      refine cm ?_
      refine⟨f,l,_,_,_,by rw[<-esum];rfl,s2,ah,w1 hf,w1 hl,mf,ml,bf',fun e' he'=>?_⟩
      rw[etk] at he'
      rcases List.mem_append.mp he' with z|z
      ·exact bl e' z
      ·rw[List.mem_singleton.mp z];exact hbl
   ·obtain⟨f,l,xf,xl,v5,rfl,s1,d1,hf,hl,mf,ml,bf,bl⟩:=h
    rw[AL (by omega)] at d1 bf bl ⊢
    have hne:aK es≠[]:=by rw[hes];unfold aK;simp
    refine⟨_,rfl,a,xs,rfl,.inl (.of (s1 _ _ ha)),_,rfl,_,rfl,Vd,_,rfl,.of d1,hne,fun lo g1 g2=>⟨_,rfl,Vd,_,rfl,.of d1,hne,fun hi g3 g4=>⟨_,rfl,_,rfl,dt (by show 6<=1000;decide),fun pp hpp=>?_⟩⟩⟩
    refine q pp _ _ (s1.trans (aa.upd hpp)) (s1.free hpp) (.some lo hi f l g1 g2 g3 g4 mf bf ml bl rfl) ?_
    exact mn (by rw[ah,hlen]) (hf.same (aa.upd hpp)) (hl.same (aa.upd hpp))
end
end Pr
namespace Pr
open PySem L2 PyProof.Rows
theorem iT {S:List Int}{Pp:Int->Prop}(h:∀ v∈S,Pp v){i:Nat}(hi:i<S.length):Pp (S.getD i 0):=by
 rw[Az,As hi]
 exact h _ (AZ hi)
theorem ng {d:Int}(h1 : -1000000000<=d)(h2:d<=1000000000)(h3:d≠0):dM d=true:=by
 unfold dM
 rw[decide_eq_true h1,decide_eq_true h2,decide_eq_false h3]
 rfl
theorem wm {S:List Int}(h1:1<=S.length)(h2:S.length<=12)(h3:∀ v∈S,1<=v/\v<=1000):dW S=true:=by
 unfold dW bR
 rw[decide_eq_true (by omega),decide_eq_true (by omega),Bool.and_true,Bool.true_and,AY]
 intro v hv
 unfold iO
 rw[decide_eq_true (h3 v hv).1,decide_eq_true (h3 v hv).2]
 rfl
theorem But.free {p l:Addr}{H H':Hp}(b:But p H H')(h:H' l=none)(hp:bc H' p):H l=none:=by
 cases e:H l with
 | none=>rfl
 | some o =>
  have:=b l o e (hp.ne h)
  rw[h] at this
  cases this
inductive db (H:Hp)(t:Addr)(b:Int)(ps:List Int)(af:List Lad.Step):Prop
 | mk (pa:Addr)(ra:Addr)(us:List V)(h0_:H t=some (.tup [.int b,.ref pa,.ref ra]))(h1_:H pa=some (.lst (ps.map V.int)))(h2_:H ra=some (.lst us))(h3_:Paired (fu H) us af):db H t b ps af
theorem db.same {H H':Hp}{t:Addr}{b:Int}{ps:List Int}{af:List Lad.Step}(h:db H t b ps af)(e:aa H H'):db H' t b ps af:=by
 obtain⟨pa,ra,us,h1,h2,h3,h4⟩:=h
 exact⟨pa,ra,us,e _ _ h1,e _ _ h2,e _ _ h3,Paired.mono (fun _ _ x=>x.same e) h4⟩
inductive cr (p q:Addr)(H:Hp)(v:V)(s:Lad.Step):Prop
 | mk (r:Addr)(l:Addr)(h0_:v=.ref r)(h1_:H r=some (.tup [.int s.1,.ref l]))(h2_:H l=some (.lst (s.2.map V.int)))(h3_:s.2.length<=1000)(h4_:l≠p)(h5_:l≠q):cr p q H v s
theorem cr.but {p q:Addr}{H H':Hp}(e:But p H H')(hp:bc H p){v:V}{s:Lad.Step}(h:cr p q H v s):cr p q H' v s:=by
 obtain⟨r,l,e1,h1,h2,h3,h4,h5⟩:=h
 obtain⟨x,y,hp⟩:=hp
 exact⟨r,l,e1,e _ _ h1 (cM h1 hp (by intro z;cases z)),e _ _ h2 h4,h3,h4,h5⟩
theorem cr.same {p q:Addr}{H H':Hp}(e:aa H H'){v:V}{s:Lad.Step}(h:cr p q H v s):cr p q H' v s:=by
 obtain⟨r,l,e1,h1,h2,h3,h4,h5⟩:=h
 exact⟨r,l,e1,e _ _ h1,e _ _ h2,h3,h4,h5⟩
theorem cr.row {p q:Addr}{H:Hp}{v:V}{s:Lad.Step}(h:cr p q H v s):fu H v s:=by
 obtain⟨r,l,e1,h1,h2,h3,h4⟩:=h
 exact⟨r,l,e1,h1,h2,h3⟩
theorem xD {ps:List Int}(h1:1<=ps.length)(h2:ps.length<=12)(h3:∀ v∈ps,dM v=true)(h4:0<ps.headD 0):d7 ps=true:=by
 unfold d7 bR jf
 rw[decide_eq_true (by omega),decide_eq_true (by omega),decide_eq_true h4,List.all_eq_true.mpr h3]
 rfl
theorem yq {af:List Lad.Step}(h2:af.length<=4)(h3:∀ v∈af,dw v=true):eU af=true:=by
 unfold eU bR
 rw[decide_eq_true (by omega),decide_eq_true (by omega),List.all_eq_true.mpr h3]
 rfl
section
variable {P:CP}{w:World}{K:W.Frag}{mg:Str->Option Value}{base:Heap}{C:Addr}
theorem jK:(10:Int) ^ (30:Int).toNat=1000000000000000000000000000000:=by decide +kernel
inductive tX (vs:List V)(H:Hp)(Q:VK)(E:XK):Prop
 | mk (p:Addr)(m far:Int)(e:vs=[.ref p,.int m,.int far])(hp:bc H p)(h0:0<=far)(h1:far<2 ^ 200)(q:∀ d H',-ba<d->d<ba->But p H H'->bc H' p->Q (.int d) H'):tX vs H Q E
theorem uF:aI ["_law_pot_here","_law_middle","_law_far"] ["_law_pot_here","_law_middle","_law_far"] (ak fU):=aN
theorem tH (T:Txt K mg C):aP P w K mg base 2 "_law_near" ["_law_pot_here","_law_middle","_law_far"] tX:=by
 refine aU T.f_law_near uF (fun vs H Q E h=>?_) (fun f cdv A outer s H vs Q E hr h=>?_)
 ·obtain⟨p,m,far,rfl,_⟩:=h
  rfl
 ·obtain⟨p,m,far,rfl,hp,h0,h1,q⟩:=h
  refine⟨_,(ar (aF (aQ (qV rfl) T.b_min EO (az (ax bM (ax dk ag ag) ag) (aQ (mH rfl) T.b_max EQ (az (ax bM ag (ax dk ag ag)) (ax bM (ax bU (pv 1) (aq (take T) hr (az (pv 0) (ax bU (ax dX ag (pv 2)) ag)))) (pv 2)))))))),?_⟩
  refine⟨_,_,rfl,rfl,⟨by decide +kernel,by decide +kernel,by decide +kernel⟩,_,_,rfl,rfl,_,_,rfl,rfl,⟨by decide +kernel,by decide +kernel,by decide +kernel⟩,_,_,rfl,rfl,_,rfl,_,rfl,_,rfl,_,_,rfl,rfl,.inl ⟨by decide,by decide⟩,_,_,rfl,rfl,p,_,rfl,hp,by omega,by omega,fun d H1 a1 b1 c1 hp1=>⟨_,_,rfl,rfl,_,rfl,_,_,rfl,rfl,_,_,rfl,_,_,rfl,?_⟩⟩
  have hW:ba=1000000000000000000000000000000:=rfl
  rw[jK]
  refine q _ _ ?_ ?_ c1 hp1
  ·split <;> (try split) <;> omega
  ·split <;> (try split) <;> omega
inductive rX (vs:List V)(H:Hp)(Q:VK)(E:XK):Prop
 | mk (p:Addr)(e:vs=[.ref p])(hp:bc H p)(q:∀ l ps H',d7 ps=true->But p H H'->bc H' p->H l=none->H' l=some (.lst (ps.map V.int))->Q (.ref l) H'):rX vs H Q E
theorem jZ:aI ["_law_pot_here","_law_far","_law_parts_here","_law_k"] ["_law_pot_here"] (ak gM):=aN
set_option maxHeartbeats 4000000 in
theorem va (T:Txt K mg C):aP P w K mg base 2 "_law_parts" ["_law_pot_here"] rX:=by
 refine aU T.f_law_parts jZ (fun vs H Q E h=>?_) (fun f cdv A outer s H vs Q E hr h=>?_)
 ·obtain⟨p,rfl,_⟩:=h
  rfl
 ·obtain⟨p,rfl,hp,q⟩:=h
  refine⟨_,(al (aB (i:=1) jZ.nd rfl (Or.inl rfl) (av (bi K) (bn (aW ag ag (ax dk ag ag))) (aq (take T) hr (az (pv 0) ag)) (fun _ _=>rfl)))
   (al (aB (i:=2) jZ.nd rfl (Or.inl rfl) (bn (ap (ax bU ag (aq (take T) hr (az (pv 0) (pv 1)))))))
   (al (cH PassesOwn.never rfl (j8 rfl T.b_range (ap (aq (take T) hr (az (pv 0) ag)))) (br (i:=3) jZ.nd rfl (Or.inl rfl))
    (ar (cK (fg K PySem.F.plainAttrs_list PySem.F.slot_list_append PySem.F.type_list_append dU (pv 2) (ap (ax dX (av (bi K) (bn (aW ag ag (dI dN ag))) (aq (take T) hr (az (pv 0) ag)) (fun _ _=>rfl)) (ax bU ag (aq (take T) hr (az (pv 0) (pv 1))))))))))
   (ar (aF (pv 2)))))),?_⟩
  have e9:(10:Int) ^ (9:Int).toNat=1000000000:=by decide +kernel
  refine⟨_,_,rfl,rfl,⟨by decide +kernel,by decide +kernel,by decide +kernel⟩,dE,fun l1 hl1=>?_⟩
  rw[e9]
  refine⟨_,rfl,p,_,rfl,hp.same (aa.upd hl1),by decide +kernel,by decide +kernel,fun d1 H1 a1 b1 c1 hp1=>?_⟩
  have hl11:H1 l1=some (.lst ([3,50,1000000000].map V.int)):=c1 _ _ ah (hp.ne hl1)
  refine⟨l1,_,_,_,rfl,rfl,.of hl11,cw (S:=[3,50,1000000000]) a1 b1,?_⟩
  have hm:1<=[3,50,(1000000000:Int)].getD d1.toNat 0/\[3,50,(1000000000:Int)].getD d1.toNat 0<=1000000000:=by
   refine iT (Pp:=fun v=>1<=v/\v<=1000000000) ?_ (by show d1.toNat<3;omega)
   decide +kernel
  generalize [3,50,(1000000000:Int)].getD d1.toNat 0=far at hm
  have c01:But p H H1:=(aa.upd hl1).but.trans c1
  refine⟨_,rfl,_,rfl,p,_,rfl,hp1,by omega,by omega,fun d2 H2 a2 b2 c2 hp2=>⟨_,_,rfl,rfl,Cq (cR (by decide)),fun L hL=>?_⟩⟩
  have c02:=c01.trans c2
  have hL0:H L=none:=But.free c02 hL hp2
  have nL:=hp2.ne hL
  have s3:aa H2 (upd H2 L (.lst [.int (1+d2)])):=aa.upd hL
  have hL3:(upd H2 L (.lst [.int (1+d2)])) L=some (.lst ([1+d2].map V.int)):=ah
  generalize (upd H2 L (.lst [.int (1+d2)]))=H3 at s3 hL3
  refine⟨_,rfl,p,_,rfl,hp2.same s3,by decide +kernel,by decide +kernel,fun d3 H4 a3 b3 c4 hp4=>⟨_,rfl,by omega,by omega,?_⟩⟩
  have hL4:=c4 _ _ hL3 nL
  have c04:But p H H4:=(c02.trans s3.but).trans c4
  refine lA (n:=d3.toNat) (fun i σ H5=>∃ v3 ps,σ=[some (.ref p),some (.int far),some (.ref L),v3]/\ps.length=i+1/\(∀ v∈ps,dM v=true)/\0<ps.headD 0/\But p H H5/\bc H5 p/\H5 L=some (.lst (ps.map V.int)))
   ⟨none,[1+d2],rfl,rfl,(fun v hv=>by rw[List.mem_singleton.mp hv];exact ng (by omega) (by omega) (by omega)),by show 0<1+d2;omega,c04,hp4,hL4⟩ ?turn ?fin
  case fin =>
   rintro σ H5 ⟨v3,ps,rfl,e1,e2,e3,c5,hp5,hL5⟩
   exact⟨_,rfl,q L ps H5 (xD (by omega) (by omega) e2 e3) c5 hp5 hL0 hL5⟩
  case turn =>
   rintro i σ H5 hi ⟨v3,ps,rfl,e1,e2,e3,c5,hp5,hL5⟩
   refine⟨_,rfl,.inl ⟨rfl,_,.of hL5⟩,_,rfl,dE,fun l2 hl2=>?_⟩
   refine⟨_,rfl,p,_,rfl,hp5.same (aa.upd hl2),by decide +kernel,by decide +kernel,fun d4 H6 a4 b4 c6 hp6=>?_⟩
   have hl26:H6 l2=some (.lst ([1,1,-1].map V.int)):=c6 _ _ ah (hp5.ne hl2)
   refine⟨l2,_,_,_,rfl,rfl,.of hl26,cw (S:=[1,1,-1]) a4 b4,?_⟩
   have hs:[1,1,(-1:Int)].getD d4.toNat 0=1\/[1,1,(-1:Int)].getD d4.toNat 0=-1:=by
    rcases (show d4=0\/d4=1\/d4=2 by omega) with rfl|rfl|rfl
    ·exact .inl rfl
    ·exact .inl rfl
    ·exact .inr rfl
   generalize [1,1,(-1:Int)].getD d4.toNat 0=sg at hs
   refine⟨_,rfl,_,rfl,p,_,rfl,hp6,by omega,by omega,fun d5 H7 a5 b5 c7 hp7=>⟨_,_,rfl,rfl,_,_,rfl,rfl,.inl (by rcases hs with rfl|rfl <;> exact⟨by decide,by decide⟩),?_⟩⟩
   have c57:But p H5 H7:=((aa.upd hl2).but.trans c6).trans c7
   have hL7:=c57 _ _ hL5 nL
   refine⟨L,_,_,rfl,rfl,hL7,cR (by rw[Ar];omega),_,ps++[sg*(1+d5)],rfl,?_,?_,?_,?_,?_,?_⟩
   ·rw[AB,e1];rfl
   ·intro v hv
    rcases List.mem_append.mp hv with z|z
    ·exact e2 v z
    ·rw[List.mem_singleton.mp z]
     rcases hs with rfl|rfl
     ·exact ng (by omega) (by omega) (by omega)
     ·exact ng (by omega) (by omega) (by omega)
   ·cases ps with
    | nil=>exact absurd e1 (by simp)
    | cons v r=>exact e3
   ·exact fun b o z n=>by rw[upd_ne (aR z hL0)];exact c57 b o (c5 b o z n) n
   ·obtain⟨x,y,z⟩:=hp7
    exact⟨x,y,by rw[upd_ne (Ne.symm nL)];exact z⟩
   ·rw[ah,Ax];rfl
inductive nV (vs:List V)(H:Hp)(Q:VK)(E:XK):Prop
 | mk (p:Addr)(e:vs=[.ref p])(hp:bc H p)(q:∀ l ys af H',eU af=true->But p H H'->bc H' p->H l=none->H' l=some (.lst ys)->Paired (cr p l H') ys af->Q (.ref l) H'):nV vs H Q E
theorem iV:aI ["_law_pot_here","_law_found","_law_k","_law_far","_law_first"] ["_law_pot_here"] (ak gE):=aN
set_option maxHeartbeats 8000000 in
theorem af (T:Txt K mg C):aP P w K mg base 3 "_law_rows" ["_law_pot_here"] nV:=by
 refine aU T.f_law_rows iV (fun vs H Q E h=>?_) (fun f cdv A outer s H vs Q E hr h=>?_)
 ·obtain⟨p,rfl,_⟩:=h
  rfl
 ·obtain⟨p,rfl,hp,q⟩:=h
  refine⟨_,(al (aB (i:=1) iV.nd rfl (Or.inl rfl) (bn b9))
   (al (cH PassesOwn.never rfl (j8 rfl T.b_range (ap (aq (take T) hr (az (pv 0) ag)))) (br (i:=2) iV.nd rfl (Or.inl rfl))
    (al (aB (i:=3) iV.nd rfl (Or.inr rfl) (av (bi K) (bn (aW ag ag ag)) (aq (take T) hr (az (pv 0) ag)) (fun _ _=>rfl)))
    (al (aB (i:=4) iV.nd rfl (Or.inl rfl) (aq (tH T) hr (aW (pv 0) ag (av (bi K) (bn (aW ag ag (ax dk ag ag))) (aq (take T) hr (az (pv 0) ag)) (fun _ _=>rfl)))))
    (ar (cK (fg K PySem.F.plainAttrs_list PySem.F.slot_list_append PySem.F.type_list_append dU (pv 1) (ap (bP (az (pv 4) (cx rfl (bQ iV) (j8 rfl T.b_range (ap (ax bU ag (aq (take T) hr (az (pv 0) ag))))) (fun _ _ _ _=>bZ) (fun _ _ _ _=>(ax bU ag (aq (take T) hr (az (pv 1) (pv 4)))))))))))))))
   (ar (aF (pv 1))))),?_⟩
  have e29:(10:Int) ^ (29:Int).toNat=100000000000000000000000000000:=by decide +kernel
  refine⟨B9 _,fun L hL=>?_⟩
  have s1:aa H (upd H L (.lst [])):=aa.upd hL
  have hL1:(upd H L (.lst [])) L=some (.lst []):=ah
  generalize (upd H L (.lst []))=H1 at s1 hL1
  have nL:=hp.ne hL
  refine⟨_,rfl,p,_,rfl,hp.same s1,by decide +kernel,by decide +kernel,fun d1 H2 a1 b1 c2 hp2=>⟨_,rfl,by omega,by omega,?_⟩⟩
  refine lA (n:=d1.toNat) (fun i σ H5=>∃ v2 v3 v4 ys af,σ=[some (.ref p),some (.ref L),v2,v3,v4]/\Paired (cr p L H5) ys af/\af.length=i/\(∀ v∈af,dw v=true)/\But p H H5/\bc H5 p/\H5 L=some (.lst ys))
   ⟨none,none,none,[],[],rfl,.nil,rfl,(fun v hv=>by cases hv),s1.but.trans c2,hp2,c2 _ _ hL1 nL⟩ ?turn ?fin
  case fin =>
   rintro σ H5 ⟨v2,v3,v4,ys,af,rfl,f1,f2,f3,c5,hp5,hL5⟩
   exact⟨_,rfl,q L ys af H5 (yq (by omega) f3) c5 hp5 hL hL5 f1⟩
  case turn =>
   rintro i σ H5 hi ⟨v2,v3,v4,ys,af,rfl,f1,f2,f3,c5,hp5,hL5⟩
   refine⟨dE,fun l1 hl1=>?_⟩
   refine⟨_,rfl,p,_,rfl,hp5.same (aa.upd hl1),by decide +kernel,by decide +kernel,fun d2 H6 a2 b2 c6 hp6=>?_⟩
   have hl16:H6 l1=some (.lst ([3,3,1000].map V.int)):=c6 _ _ ah (hp5.ne hl1)
   refine⟨l1,_,_,_,rfl,rfl,.of hl16,cw (S:=[3,3,1000]) a2 b2,?_⟩
   have hm:1<=[3,3,(1000:Int)].getD d2.toNat 0/\[3,3,(1000:Int)].getD d2.toNat 0<=1000:=by
    refine iT (Pp:=fun v=>1<=v/\v<=1000) ?_ (by show d2.toNat<3;omega)
    decide +kernel
   generalize [3,3,(1000:Int)].getD d2.toNat 0=far at hm
   have c56:But p H5 H6:=(aa.upd hl1).but.trans c6
   refine⟨_,rfl,_,_,rfl,rfl,⟨by decide +kernel,by decide +kernel,by decide +kernel⟩,dE,fun l2 hl2=>?_⟩
   rw[e29]
   refine⟨_,rfl,p,_,rfl,hp6.same (aa.upd hl2),by decide +kernel,by decide +kernel,fun d3 H7 a3 b3 c7 hp7=>?_⟩
   have hl27:H7 l2=some (.lst ([20,20,100000000000000000000000000000].map V.int)):=c7 _ _ ah (hp6.ne hl2)
   refine⟨l2,_,_,_,rfl,rfl,.of hl27,cw (S:=[20,20,100000000000000000000000000000]) a3 b3,?_⟩
   have hm2:1<=[20,20,(100000000000000000000000000000:Int)].getD d3.toNat 0/\[20,20,(100000000000000000000000000000:Int)].getD d3.toNat 0<=100000000000000000000000000000:=by
    refine iT (Pp:=fun v=>1<=v/\v<=100000000000000000000000000000) ?_ (by show d3.toNat<3;omega)
    decide +kernel
   generalize [20,20,(100000000000000000000000000000:Int)].getD d3.toNat 0=mm at hm2
   have c57:But p H5 H7:=c56.trans ((aa.upd hl2).but.trans c7)
   refine⟨p,0,mm,rfl,hp7,by omega,by omega,fun fi H8 g1 g2 c8 hp8=>?_⟩
   have c58:=c57.trans c8
   have hL8:=c58 _ _ hL5 nL
   refine⟨_,rfl,.inl ⟨rfl,_,.of hL8⟩,_,rfl,?_⟩
   refine⟨_,rfl,p,_,rfl,hp8,by decide +kernel,by decide +kernel,fun d4 H9 a4 b4 c9 hp9=>⟨_,_,rfl,rfl,_,rfl,by omega,by omega,fun D hD=>?_⟩⟩
   have nD:=hp9.ne hD
   have c59:=c58.trans c9
   have hL9:=c59 _ _ hL5 nL
   have nLD:L≠D:=aR hL9 hD
   refine oH (n:=(1+d4).toNat) (fun j zs HA=>∃ S:List Int,zs=S.map V.int/\S.length=j/\(∀ v∈S,1<=v/\v<=1000)/\But p H9 HA/\bc HA p/\HA D=some (.lst zs)) ⟨[],rfl,rfl,(fun v hv=>by cases hv),(aa.upd hD).but,hp9.same (aa.upd hD),ah⟩ (fun j zs HA ⟨_,_,_,_,_,_,d⟩=>d) (fun zs HA ⟨S,e1,e2,e3,cA,hpA,d⟩=>?_) (fun j zs HA hj ⟨S,e1,e2,e3,cA,hpA,d⟩=>?_)
   ·subst e1
    have so:dW S=true:=wm (by omega) (by omega) e3
    refine⟨cQ,fun m hm=>?_⟩
    have c5A:But p H5 HA:=c59.trans cA
    have hLA:=c5A _ _ hL5 nL
    have nLm:L≠m:=aR hLA hm
    have hyl:ys.length=af.length:=Paired.length f1
    have hLB:(upd HA m (.tup [.int fi,.ref D])) L=some (.lst ys):=by rw[upd_ne nLm];exact hLA
    refine⟨L,ys,_,rfl,rfl,hLB,cR (by omega),?_⟩
    refine⟨_,_,_,ys++[.ref m],af++[(fi,S)],rfl,?_,by rw[AB,f2];rfl,?_,?_,?_,ah⟩
    ·have up:∀ {v:V}{s':Lad.Step},cr p L H5 v s'->cr p L (upd (upd HA m (.tup [.int fi,.ref D])) L (.lst (ys++[.ref m]))) v s':=fun {v s'} hx=>by
      obtain⟨r',l',e',q1,q2,q3,q4,q5⟩:=cr.but c5A hp5 hx
      exact⟨r',l',e',by rw[upd_ne (cM q1 hLA (by intro z;cases z))];exact aa.upd hm _ _ q1,by rw[upd_ne q5];exact aa.upd hm _ _ q2,q3,q4,q5⟩
     refine Paired.snoc (Paired.mono (fun _ _ x=>up x) f1) ⟨m,D,rfl,?_,?_,?_,nD,Ne.symm nLD⟩
     ·rw[upd_ne (Ne.symm nLm),ah]
     ·rw[upd_ne (Ne.symm nLD)];exact aa.upd hm _ _ d
     ·exact Ca (rk so).2.1 (by decide)
    ·intro v hv
     rcases List.mem_append.mp hv with hv|hv
     ·exact f3 v hv
     ·rw[List.mem_singleton.mp hv]
      unfold dw fz
      rw[decide_eq_true g1,decide_eq_true g2,so]
      rfl
    ·exact fun b o z n=>by rw[upd_ne (aR z hL)];exact aa.upd hm _ _ (c5A b o (c5 b o z n) n)
    ·obtain⟨x,y,z⟩:=hpA
     exact⟨x,y,by rw[upd_ne (Ne.symm nL)];exact aa.upd hm _ _ z⟩
   ·refine cL ⟨_,rfl,_,rfl,p,_,rfl,hpA,by omega,by omega,fun d5 HB a5 b5 cB hpB=>⟨_,_,rfl,rfl,?_⟩⟩
    have dB:=cB _ _ d nD
    refine bw.mk hj (by omega) (by rw[e1,Ar,e2];exact B6 _) dB ⟨S++[1+d5],by rw[e1,Ax];rfl,by rw[AB,e2];rfl,?_,?_,?_,ah⟩
    ·intro v hv
     rcases List.mem_append.mp hv with hv|hv
     ·exact e3 v hv
     ·rw[List.mem_singleton.mp hv];omega
    ·exact fun b o z n=>by rw[upd_ne (aR z hD)];exact cB b o (cA b o z n) n
    ·obtain⟨x,y,z⟩:=hpB
     exact⟨x,y,by rw[upd_ne (Ne.symm nD)];exact z⟩
inductive oI (vs:List V)(H:Hp)(Q:VK)(E:XK):Prop
 | mk (p:Addr)(h0_:vs=[.ref p])(h1_:bc H p)(h2_:∀ t b ps af H',cf b ps af->But p H H'->db H' t b ps af->bc H' p->(∀ H'',But p H' H''->db H'' t b ps af)->H t=none->Q (.ref t) H'):oI vs H Q E
theorem uM:aI ["_law_pot_here"] ["_law_pot_here"] (ak gB):=aN
theorem zc (T:Txt K mg C):aP P w K mg base 4 "_law_ladder" ["_law_pot_here"] oI:=by
 refine aU T.f_law_ladder uM (fun vs H Q E h=>?_) (fun f cdv A outer s H vs Q E hr h=>?_)
 ·obtain⟨p,rfl,_⟩:=h
  rfl
 ·obtain⟨p,rfl,hp,q⟩:=h
  refine⟨_,(ar (aF (bP (aW (aq (mz T) hr (ap (pv 0))) (aq (va T) hr (ap (pv 0))) (aq (af T) hr (ap (pv 0))))))),?_⟩
  refine⟨_,rfl,p,rfl,hp,fun b H1 hb c1 hp1=>?_⟩
  refine⟨_,rfl,p,rfl,hp1,fun D ps H2 pok c2 hp2 hD0 hD2=>?_⟩
  refine⟨_,rfl,p,rfl,hp2,fun D2 ys af H3 rok c3 hp3 hD20 hD23 hrows=>⟨dE,fun t ht=>?_⟩⟩
  have nD:D≠p:=hp1.ne hD0
  have nD2:D2≠p:=hp2.ne hD20
  have n30:(10:Nat) ^ 30=1000000000000000000000000000000:=by decide +kernel
  have hW:ba=1000000000000000000000000000000:=rfl
  rw[n30] at hb
  have hok:cf b ps af:=⟨by unfold fz;rw[decide_eq_true (by omega),decide_eq_true (by omega)];rfl,pok,rok⟩
  have hD3:=c3 _ _ hD2 nD
  have c03:=(c1.trans c2).trans c3
  refine q t b ps af _ hok (c03.trans (aa.upd ht).but) ⟨D,D2,ys,ah,aa.upd ht _ _ hD3,aa.upd ht _ _ hD23,Paired.mono (fun _ _ x=>x.row.same (aa.upd ht)) hrows⟩ (hp3.same (aa.upd ht)) (fun H'' cc=>⟨D,D2,ys,cc _ _ ah (hp3.ne ht),cc _ _ (aa.upd ht _ _ hD3) nD,cc _ _ (aa.upd ht _ _ hD23) nD2,Paired.mono (fun _ _ x=>(cr.but cc (hp3.same (aa.upd ht)) (cr.same (aa.upd ht) x)).row) hrows⟩) (But.free c03 ht hp3)
inductive rV (vs:List V)(H:Hp)(Q:VK)(E:XK):Prop
 | mk (p b:Int)(l:Addr)(S:List Int)(h0_:vs=[.int (p-b),.ref l])(h1_:H l=some (.lst (S.map V.int)))(h2_:jb S)(h3_:∀ H',aa H H'->Q (.int (Lad.num b S p)) H'):rV vs H Q E
theorem iM:aI ["_law_number_here","_law_sizes","_law_turn","_law_left","_law_found"] ["_law_number_here","_law_sizes"] (ak ii):=aN
theorem oJ (T:Txt K mg C):aP P w K mg base 1 "_law_in_turn" ["_law_number_here","_law_sizes"] rV:=by
 refine aU T.f_law_in_turn iM (fun vs H Q E h=>?_) (fun f cdv A outer s H vs Q E hr h=>?_)
 ·obtain⟨p,b,l,S,rfl,_⟩:=h
  rfl
 ·obtain⟨p,b,l,S,rfl,hl1,⟨g,hn,hs⟩,q⟩:=h
  refine⟨_,(al (aB (i:=2) iM.nd rfl (Or.inl rfl) (ax tu (pv 0) (aQ (iE K rfl) T.b_sum EN (ap (pv 1)))))
   (al (aB (i:=3) iM.nd rfl (Or.inl rfl) (ax jq (pv 0) (aQ (iE K rfl) T.b_sum EN (ap (pv 1)))))
   (al (aB (i:=4) iM.nd rfl (Or.inl rfl) ag)
   (al (rA PassesOwn.never (bO nG (pv 3) (av (bi K) (pv 1) (pv 4) (fun _ _=>rfl)) (bu _))
    (al (aB (i:=3) iM.nd rfl (Or.inl rfl) (ax bM (pv 3) (av (bi K) (pv 1) (pv 4) (fun _ _=>rfl))))
    (ar (aB (i:=4) iM.nd rfl (Or.inl rfl) (ax bU (pv 4) ag)))))
   (ar (aF (ax bU (ax dX (pv 2) (aQ (iw K) T.b_len EM (ap (pv 1)))) (pv 4)))))))),?_⟩
  have h1:=g.len
  have h2:=g.sum
  have hl:(((S.map V.int).length:Nat):Int)=(S.length:Int):=by rw[Ar]
  have hr0:0<=(p-b) % S.sum:=Cz _ (by omega)
  have hr2:(p-b) % S.sum<S.sum:=CA _ (by omega)
  refine⟨_,rfl,_,rfl,l,S,rfl,.inl (.of hl1),_,_,rfl,rfl,⟨by omega,by omega⟩,?_⟩
  refine⟨_,rfl,_,rfl,l,S,rfl,.inl (.of hl1),_,_,rfl,rfl,by omega,?_⟩
  refine⟨fun m σ H2=>∃ (n:Nat) (x:Int),m=S.length-n/\n<S.length/\0<=x/\x<(S.drop n).sum/\Lad.walk S ((p-b) % S.sum)=n+Lad.walk (S.drop n) x/\aa H H2 /\
   σ=[some (.int (p-b)),some (.ref l),some (.int ((p-b) / S.sum)),some (.int x),some (.int n)],⟨_,0,(p-b) % S.sum,rfl,by omega,hr0,by simpa using hr2,by simp,aa.refl _,rfl⟩,?_⟩
  rintro m σ H2 ⟨n,x,rfl,hnl,hx0,hx1,hw,s2,rfl⟩
  have hll:=s2 _ _ hl1
  refine⟨_,rfl,_,rfl,_,rfl,l,_,_,_,rfl,rfl,.of hll,cw (i:=(n:Int)) (by omega) (by omega),_,_,rfl,rfl,_,rfl,?_⟩
  rw[Cy]
  have hd:=tN S n hnl
  have hpos:=Lad.getD_pos g.2 hnl
  refine cE (fun hc=>?_) (fun hc=>?_)
  ·have hc:S.getD n 0<=x:=of_decide_eq_true hc
   have hn1:n+1<S.length:=by
    rcases Cb (n+1) S.length with z|z
    ·exact z
    ·rw[BK z,Bl] at hd
     omega
   refine⟨fun σ' H'=>∃ (n':Nat) (x':Int),S.length-n'<S.length-n/\n'<S.length/\0<=x'/\x'<(S.drop n').sum/\Lad.walk S ((p-b) % S.sum)=n'+Lad.walk (S.drop n') x'/\aa H H' /\
    σ'=[some (.int (p-b)),some (.ref l),some (.int ((p-b) / S.sum)),some (.int x'),some (.int n')],fun σ' H' ⟨n',x',l',r'⟩=>⟨_,l',n',x',rfl,r'⟩,?_⟩
   refine⟨_,rfl,_,rfl,_,rfl,l,_,_,_,rfl,rfl,.of hll,cw (i:=(n:Int)) (by omega) (by omega),_,_,rfl,rfl,?_⟩
   refine⟨_,rfl,_,_,rfl,rfl,?_⟩
   refine⟨n+1,x-S.getD n 0,by omega,hn1,by omega,by omega,?_,s2,?_⟩
   ·rw[hw,pd S n x hnl hc]
    omega
   ·rw[Cy];rfl
  ·have hc:¬ S.getD n 0<=x:=fun z=>hc (decide_eq_true z)
   refine⟨_,rfl,_,rfl,l,_,rfl,.inl (.of hll),_,_,rfl,rfl,.inr ⟨by omega,by omega⟩,_,rfl,_,_,rfl,rfl,?_⟩
   have e:(p-b) / S.sum*(((S.map V.int).length:Nat):Int)+(n:Int)=Lad.num b S p:=by
    unfold Lad.num
    rw[hw,om S hnl (by omega),hl]
    omega
   rw[e]
   exact q _ s2
inductive sv (vs:List V)(H:Hp)(Q:VK)(E:XK):Prop
 | mk (a:Addr)(ps:List Int)(e:vs=[.ref a])(ha:H a=some (.lst (ps.map V.int)))(hok:Lad.PartsOk ps)(hl:ps.length<=900)(q:∀ l H',aa H H'->H l=none->H' l=some (.lst ((Lad.bars ps).map V.int))->Q (.ref l) H'):sv vs H Q E
theorem mI:aI ["_law_parts_here","_law_found","_law_part"] ["_law_parts_here"] (ak ij):=aN
theorem tt (T:Txt K mg C):aP P w K mg base 1 "_law_widths" ["_law_parts_here"] sv:=by
 refine aU T.f_law_widths mI (fun vs H Q E h=>?_) (fun f cdv A outer s H vs Q E hr h=>?_)
 ·obtain⟨a,ps,rfl,_⟩:=h
  rfl
 ·obtain⟨a,ps,rfl,ha,hok,hlen,k⟩:=h
  refine⟨_,(al (aB (i:=1) mI.nd rfl (Or.inl rfl) (bn b9))
   (al (cH PassesOwn.never rfl (bK K (pv 0)) (br (i:=2) mI.nd rfl (Or.inl rfl))
    (ar (bA (bO iL (pv 2) ag (bu _))
     (ar (cK (fg K PySem.F.plainAttrs_list PySem.F.slot_list_append PySem.F.type_list_append dU (pv 1) (ap (pv 2)))))
     (ar (iB (ax bM (av (bi K) (pv 1) (dI dN ag) (fun _ _=>rfl)) (pv 2)) (jR (pv 1) (dI dN ag) jd))))))
   (ar (aF (pv 1))))),?_⟩
  refine⟨B9 _,fun l hl=>?_⟩
  have s1:∀ o,aa H (upd H l o):=fun o=>aa.upd hl
  refine⟨_,rfl,a,rfl,⟨_,.of (s1 _ _ _ ha)⟩,eo (K:=K) (a:=a) (xs:=ps.map V.int) (fun i σ H2=>∃ v,σ=[some (.ref a),some (.ref l),v]/\aa H H2/\H2 l=some (.lst (((ps.take i).foldl Lad.addPart []).map V.int)))
   ⟨none,rfl,s1 _,ah⟩ (fun i σ H2 _ ⟨_,_,s2,_⟩=>.of (s2 _ _ ha)) ?_ ?_⟩
  ·rintro i x σ H2 hx ⟨v,rfl,s2,d⟩
   obtain⟨n,hn,rfl⟩:=eM hx
   have hi:i<ps.length:=(List.getElem?_eq_some_iff.mp hn).1
   have hfl:=mr (ps.take i) []
   rw[AC,Bj] at hfl
   have e1:(ps.take (i+1)).foldl Lad.addPart []=Lad.addPart ((ps.take i).foldl Lad.addPart []) n:=by
    rw[Aw,hn,Bm]
    rfl
   refine⟨_,rfl,_,_,rfl,rfl,_,rfl,?_⟩
   refine cE (fun hc=>?_) (fun hc=>?_)
   ·have hc:0<n:=of_decide_eq_true hc
    refine⟨_,rfl,.inl ⟨rfl,_,.of d⟩,_,rfl,l,_,_,rfl,rfl,d,cR (by rw[Ar];omega),_,rfl,?_,?_⟩
    ·exact fun b o z=>by rw[upd_ne (aR z hl)];exact s2 b o z
    ·rw[ah,e1]
     unfold Lad.addPart
     rw[if_pos hc,Ax]
     rfl
   ·have hc:¬ 0<n:=fun z=>hc (decide_eq_true z)
    have hi0:i≠0:=by
     rintro rfl
     obtain⟨_,p,r,rfl,hp⟩:=hok
     have:n=p:=by simpa using hn.symm
     omega
    have hne:(ps.take i).foldl Lad.addPart []≠[]:=by
     obtain⟨hz,p,r,rfl,hp⟩:=hok
     obtain⟨j,rfl⟩:∃ j,i=j+1:=⟨i-1,by omega⟩
     rw[Bf,AQ]
     refine mx _ _ ?_
     unfold Lad.addPart
     rw[if_pos hp]
     simp
    generalize hL:(ps.take i).foldl Lad.addPart []=L at *
    obtain⟨L0,z,rfl⟩:∃ L0 z,L=L0++[z]:=⟨L.dropLast,L.getLast hne,(BM hne).symm⟩
    have ez:(L0++[z]).map V.int=L0.map V.int++[V.int z]:=by rw[Ax];rfl
    rw[ez] at d
    have eix:cS (L0.map V.int++[V.int z]).length (-1)=some L0.length:=by
     unfold cS
     rw[if_neg (by omega),AB,Ar,A6,if_pos (by omega)]
     congr 1
     omega
    refine⟨_,rfl,_,rfl,l,_,_,_,rfl,rfl,.of d,jT _ _,_,rfl,_,_,rfl,rfl,_,rfl,_,rfl,l,_,_,_,rfl,rfl,d,eix,_,rfl,?_,?_⟩
    ·exact fun b o q=>by rw[upd_ne (aR q hl)];exact s2 b o q
    ·rw[ah,e1]
     unfold Lad.addPart
     rw[if_neg hc]
     congr 2
     rw[Ax,BN,BO,BP _ _ (by rw[Ar];exact B6 _),Ar,Cp]
     rfl
  ·rintro σ H2 ⟨v,rfl,s2,d⟩
   rw[Ar,AI,Lad.foldl_bars hok] at d
   exact⟨_,rfl,k l H2 s2 hl d⟩
theorem vz {b:Int}{ps:List Int}{af:List Lad.Step}(ok:cf b ps af){i:Nat}{st:Lad.Step}(e:af[i]?=some st)(m:Int):Lad.ur (aA b ps af) (i+1) m=Lad.num st.1 st.2 (Lad.ur (aA b ps af) i m):=Lad.ur_succ ok.goods (show (aA b ps af)[i+1]?=some st from e) m
theorem wJ (b:Int)(ps:List Int)(af:List Lad.Step)(m:Int):Lad.num b (Lad.bars ps) m=Lad.ur (aA b ps af) 0 m:=rfl
inductive pQ (vs:List V)(H:Hp)(Q:VK)(E:XK):Prop
 | mk (t:Addr)(r:Nat)(m:Int)(b:Int)(ps:List Int)(af:List Lad.Step)(e:vs=[.ref t,.int (r:Int),.int m])(h:db H t b ps af)(ok:cf b ps af)(hr:r<=af.length)(q:∀ H',aa H H'->Q (.int (Lad.ur (aA b ps af) r m)) H'):pQ vs H Q E
theorem fM:aI ["_law_ladder_here","_law_roll","_law_moment_here","_law_begin","_law_parts_here","_law_rows_here","_law_found","_law_first","_law_sizes"] ["_law_ladder_here","_law_roll","_law_moment_here"] (ak io):=aN
theorem pS (T:Txt K mg C):aP P w K mg base 2 "_law_number" ["_law_ladder_here","_law_roll","_law_moment_here"] pQ:=by
 refine aU T.f_law_number fM (fun vs H Q E h=>?_) (fun f cdv A outer s H vs Q E hr h=>?_)
 ·obtain⟨t,r,m,b,ps,af,rfl,_⟩:=h
  rfl
 ·obtain⟨t,r,m,b,ps,af,rfl,hT,ok,hrl,q⟩:=h
  refine⟨_,(al (iB (pv 0) (jM K rfl (cF (br (i:=3) fM.nd rfl (Or.inl rfl)) (cF (br (i:=4) fM.nd rfl (Or.inl rfl)) (cF (br (i:=5) fM.nd rfl (Or.inl rfl)) gi)))))
   (al (aB (i:=6) fM.nd rfl (Or.inl rfl) (aq (oJ T) hr (az (ax bM (pv 2) (pv 3)) (aq (tt T) hr (ap (pv 4))))))
   (al (cH PassesOwn.never rfl (bK K (nI (wO K) (pv 5) sf (tD (pv 1)))) (jM K rfl (cF (br (i:=7) fM.nd rfl (Or.inl rfl)) (cF (br (i:=8) fM.nd rfl (Or.inl rfl)) gi)))
    (ar (aB (i:=6) fM.nd rfl (Or.inl rfl) (aq (oJ T) hr (az (ax bM (pv 6) (pv 7)) (pv 8))))))
   (ar (aF (pv 6)))))),?_⟩
  obtain⟨pa,ra,us,h1,h2,h3,h4⟩:=id hT
  obtain⟨pok,plen,_⟩:=kL ok.p
  have ul:us.length=af.length:=Paired.length h4
  refine⟨_,rfl,t,_,rfl,.of h1,rfl,_,_,rfl,_,_,rfl,_,_,rfl,rfl,?_⟩
  refine⟨_,rfl,_,rfl,_,_,rfl,rfl,_,rfl,pa,ps,rfl,h2,pok,by omega,fun l H1 s1 hl0 hl1=>?_⟩
  refine⟨m,b,l,_,rfl,hl1,kZ ok.p,fun H2 s2=>?_⟩
  rw[wJ b ps af]
  have s02:=s1.trans s2
  refine⟨_,rfl,_,rfl,_,rfl,ra,_,rfl,.of (s02 _ _ h3),fun p1 hp1=>?_⟩
  rw[sJ _ (by omega),Cy]
  have s3:aa H2 (upd H2 p1 (.lst (us.take r))):=aa.upd hp1
  have hp1':(upd H2 p1 (.lst (us.take r))) p1=some (.lst (us.take r)):=ah
  generalize (upd H2 p1 (.lst (us.take r)))=H3 at s3 hp1'
  have s03:=s02.trans s3
  refine⟨p1,rfl,⟨_,.of hp1'⟩,eo (K:=K) (a:=p1) (xs:=us.take r) (fun k σ H4=>∃ v7 v8,σ=[some (.ref t),some (.int (r:Int)),some (.int m),some (.int b),some (.ref pa),some (.ref ra),some (.int (Lad.ur (aA b ps af) k m)),v7,v8]/\aa H3 H4/\k<=r) ⟨none,none,rfl,aa.refl _,B9 _⟩ (fun k σ H4 _ ⟨_,_,_,s4,_⟩=>.of (s4 _ _ hp1')) ?_ ?_⟩
  ·rintro k x σ H4 hx ⟨v7,v8,rfl,s4,hk⟩
   have hkl:k<(us.take r).length:=(List.getElem?_eq_some_iff.mp hx).1
   rw[AC] at hkl
   rw[List.getElem?_take,if_pos (by omega)] at hx
   obtain⟨st,hst,hrow⟩:=Paired.get h4 hx
   have sz:=(ok.steps st (AD _ (AK hst))).1
   obtain⟨rr,ll,rfl,hr1,hl2,_⟩:=(hrow.same s03).same s4
   refine⟨rr,_,rfl,.of hr1,rfl,_,_,rfl,_,_,rfl,rfl,?_⟩
   refine⟨_,rfl,_,rfl,_,_,rfl,rfl,_,rfl,_,st.1,ll,st.2,rfl,hl2,sz,fun H5 s5=>?_⟩
   rw[<-vz ok hst]
   exact⟨_,_,rfl,s4.trans s5,by omega⟩
  ·rintro σ H4 ⟨v7,v8,rfl,s4,hk⟩
   have el:(us.take r).length=r:=by rw[AC];omega
   rw[el]
   exact⟨_,rfl,q _ (s03.trans s4)⟩
end
end Pr
namespace Ent
open PySem
structure kx (es:List En)(lo hi:Int)(f l:En):Prop where
 h1:lo∈aK es
 h2:∀ v∈aK es,lo<=v
 h3:hi∈aK es
 h4:∀ v∈aK es,v<=hi
 h5:f∈es
 h6:∀ e∈es,bT e f=false
 h7:l∈es
 h8:∀ e∈es,bT l e=false
theorem kx.of {es:List En}{lo hi:Int}{f l:En}(h:kx es lo hi f l):bD es (fX es.length (aK es).sum lo hi f l):=.some lo hi f l h.h1 h.h2 h.h3 h.h4 h.h5 h.h6 h.h7 h.h8 rfl
structure Bd where
 es:List En
 lo:Int
 hi:Int
 f:En
 l:En
def Bd.Ok (d:Bd):Prop:=kx d.es d.lo d.hi d.f d.l
def dC (ds:List Bd):List En:=(ds.map (·.es)).flatten
theorem iP {ds:List Bd}{e:En}:e∈dC ds↔∃ d∈ds,e∈d.es:=by
 unfold dC
 rw[List.mem_flatten]
 constructor
 ·rintro⟨l,hl,he⟩
  obtain⟨d,hd,rfl⟩:=List.mem_map.mp hl
  exact⟨d,hd,he⟩
 ·rintro⟨d,hd,he⟩
  exact⟨_,List.mem_map.mpr ⟨d,hd,rfl⟩,he⟩
theorem md {es:List En}{v:Int}:v∈aK es↔∃ e∈es,e.2.2=v:=Bo
theorem kH {ds:List Bd}{v:Int}:v∈aK (dC ds)↔∃ d∈ds,v∈aK d.es:=by
 rw[md]
 constructor
 ·rintro⟨e,he,rfl⟩
  obtain⟨d,hd,h⟩:=iP.mp he
  exact⟨d,hd,md.mpr ⟨e,h,rfl⟩⟩
 ·rintro⟨d,hd,h⟩
  obtain⟨e,he,rfl⟩:=md.mp h
  exact⟨e,iP.mpr ⟨d,hd,he⟩,rfl⟩
theorem pA:∀ (ds:List Bd),(ds.map fun d=>(d.es.length:Int)).sum=((dC ds).length:Int)
 | []=>rfl
 | d::ds=>by
  have ih:=pA ds
  unfold dC at ih ⊢
  rw[Av,AH,ih,Av,BR,AB]
  omega
theorem rB:∀ (ds:List Bd),(ds.map fun d=>(aK d.es).sum).sum=(aK (dC ds)).sum
 | []=>rfl
 | d::ds=>by
  have ih:=rB ds
  unfold dC aK at ih ⊢
  rw[Av,AH,ih,Av,BR,Ax,BQ]
theorem uo {ds:List Bd}(ok:∀ d∈ds,d.Ok){lo hi:Int}{f l:En}(h1:lo∈ds.map (·.lo))(h2:∀ v∈ds.map (·.lo),lo<=v)(h3:hi∈ds.map (·.hi))(h4:∀ v∈ds.map (·.hi),v<=hi)
  (h5:f∈ds.map (·.f)++ds.map (·.l)) (h6:∀ e∈ds.map (·.f)++ds.map (·.l),bT e f=false) (h7:l∈ds.map (·.f)++ds.map (·.l)) (h8:∀ e∈ds.map (·.f)++ds.map (·.l),bT l e=false) :
  kx (dC ds) lo hi f l:=by
 have mem:∀ e∈ds.map (·.f)++ds.map (·.l),e∈dC ds:=fun e he=>by
  rcases List.mem_append.mp he with he|he
  ·obtain⟨d,hd,rfl⟩:=List.mem_map.mp he
   exact iP.mpr ⟨d,hd,(ok d hd).h5⟩
  ·obtain⟨d,hd,rfl⟩:=List.mem_map.mp he
   exact iP.mpr ⟨d,hd,(ok d hd).h7⟩
 refine⟨?_,fun v hv=>?_,?_,fun v hv=>?_,mem f h5,fun e he=>?_,mem l h7,fun e he=>?_⟩
 ·obtain⟨d,hd,rfl⟩:=List.mem_map.mp h1
  exact kH.mpr ⟨d,hd,(ok d hd).h1⟩
 ·obtain⟨d,hd,h⟩:=kH.mp hv
  have:=h2 d.lo (List.mem_map.mpr ⟨d,hd,rfl⟩)
  have:=(ok d hd).h2 v h
  omega
 ·obtain⟨d,hd,rfl⟩:=List.mem_map.mp h3
  exact kH.mpr ⟨d,hd,(ok d hd).h3⟩
 ·obtain⟨d,hd,h⟩:=kH.mp hv
  have:=h4 d.hi (List.mem_map.mpr ⟨d,hd,rfl⟩)
  have:=(ok d hd).h4 v h
  omega
 ·obtain⟨d,hd,h⟩:=iP.mp he
  exact Srt.plt_tr (h6 d.f (AJ _ (List.mem_map.mpr ⟨d,hd,rfl⟩))) ((ok d hd).h6 e h)
 ·obtain⟨d,hd,h⟩:=iP.mp he
  exact Srt.plt_tr ((ok d hd).h8 e h) (h8 d.l (Au _ (List.mem_map.mpr ⟨d,hd,rfl⟩)))
end Ent
namespace Pr
open PySem L2 PyProof.Rows Ent
def df (H:Hp)(x:V)(d:Bd):Prop:=∃ a o xf xl,x=.ref a/\H a=some o/\Ob o [.int d.es.length,.int (aK d.es).sum,.int d.lo,.int d.hi,xf,xl]/\cj H xf d.f/\cj H xl d.l/\d.Ok
theorem df.same {H H':Hp}(s:aa H H'){x:V}{d:Bd}(h:df H x d):df H' x d:=by
 obtain⟨a,o,xf,xl,h1,h2,h3,h4,h5,h6⟩:=h
 exact⟨a,o,xf,xl,h1,s _ _ h2,h3,h4.same s,h5.same s,h6⟩
inductive iU (H:Hp)(x:V)(es:List En):Prop
 | non (a:Addr) (o:HO) (e:x=.ref a) (h:H a=some o) (ob:Ob o [.int 0,.int 0,.non,.non,.non,.non]) (he:es=[]):iU H x es
 | some (d:Bd) (he:es=d.es) (h:df H x d):iU H x es
theorem iY {K:W.Frag}{j:Int}{σ:L2.St}{H:Hp}{L D:Addr}{Fin:Hp->Prop}{ys zs:List V}(hy:H L=some (.lst ys))(hn:ys.length<=1000)(hz:zs.length=ys.length)
  (hp:∀ (k:Nat) (y:V),ys[k]?=some y->∃ a o its v,y=.ref a/\H a=some o/\Ob o its/\bX its j=some v/\zs[k]?=some v) (hD:H D=none) (q:∀ H',aa H H'->H' D=some (.lst zs)->Fin H') :
  fy jY (jk qB (iN 0) (tC (.int j))) σ (dS K L) D Fin H:=by
 refine iu (xs:=ys) (fun k ws H1=>H1 D=some (.lst ws)/\aa H H1/\ws=zs.take k) ⟨ah,aa.upd hD,rfl⟩ (fun k ws H1 h=>⟨h.1,h.2.1.seq (.of hy)⟩) (fun ws H1 h=>?_) fun k x ws H1 hk hx h=>?_
 ·obtain⟨h1,h2,rfl⟩:=h
  rw[AL (by omega)] at h1
  exact q H1 h2 h1
 ·obtain⟨h1,h2,rfl⟩:=h
  obtain⟨a,o,its,v,rfl,ha,ho,hv,hzk⟩:=hp k x hx
  refine cL ⟨_,rfl,a,o,its,j,v,rfl,rfl,h2 _ _ ha,ho,hv,bw.mk hk hn (by rw[AC];omega) h1 ⟨ah,h2.but_ne hD,?_⟩⟩
  rw[Aw,hzk]
  rfl
section
variable {P:CP}{w:World}{K:W.Frag}{mg:Str->Option Value}{base:Heap}{C:Addr}
inductive rD (vs:List V)(H:Hp)(Q:VK)(E:XK):Prop
 | mk (x y:V)(es es':List En)(h0:vs=[x,y])(h1:iU H x es)(h2:iU H y es')(q:∀ p H' b,aa H H'->H p=none->bD (es++es') b->am H' b (.ref p)->Q (.ref p) H'):rD vs H Q E
theorem eE:aI ["one","other","bars","ends"] ["one","other"] (ak gx):=aN
theorem jN {H:Hp}{ys:List V}{ds:List Bd}{g:Bd->Int}{j:Nat}(hp:Paired (df H) ys ds)(hg:∀ d xf xl,bX [V.int d.es.length,.int (aK d.es).sum,.int d.lo,.int d.hi,xf,xl] (j:Int)=some (.int (g d))) :
  ∀ (k:Nat) (y:V),ys[k]?=some y->∃ a o its v,y=.ref a/\H a=some o/\Ob o its/\bX its (j:Int)=some v/\((ds.map g).map V.int)[k]?=some v:=fun k y hy=>by
 obtain⟨d,hd,a,o,xf,xl,e,h2,h3,h4,h5,h6⟩:=Paired.get hp hy
 refine⟨a,o,_,_,e,h2,h3,hg d xf xl,?_⟩
 rw[AE,AE,hd]
 rfl
theorem oC {H:Hp}:∀ {ys:List V}{ds:List Bd},Paired (df H) ys ds->∃ zs ws,Paired (cj H) zs (ds.map (·.f))/\Paired (cj H) ws (ds.map (·.l)) /\
  (∀ (k:Nat) (y:V),ys[k]?=some y->∃ a o its v,y=.ref a/\H a=some o/\Ob o its/\bX its 4=some v/\zs[k]?=some v)/\∀ (k:Nat) (y:V),ys[k]?=some y->∃ a o its v,y=.ref a/\H a=some o/\Ob o its/\bX its 5=some v/\ws[k]?=some v
 | _,_,.nil=>⟨[],[],.nil,.nil,fun k y h=>by simp at h,fun k y h=>by simp at h⟩
 | _,_,.cons ⟨a,o,xf,xl,e,h2,h3,h4,h5,h6⟩ r=>by
  obtain⟨zs,ws,p1,p2,q1,q2⟩:=oC r
  refine⟨xf::zs,xl::ws,.cons h4 p1,.cons h5 p2,fun k y hy=>?_,fun k y hy=>?_⟩
  ·cases k with
   | zero =>
    have hy':=Option.some.inj hy
    exact⟨a,o,_,xf,by rw[<-hy'];exact e,h2,h3,bz (j:=4) rfl,rfl⟩
   | succ k=>exact q1 k y hy
  ·cases k with
   | zero =>
    have hy':=Option.some.inj hy
    exact⟨a,o,_,xl,by rw[<-hy'];exact e,h2,h3,bz (j:=5) rfl,rfl⟩
   | succ k=>exact q2 k y hy
set_option maxHeartbeats 4000000 in
theorem zT (T:Txt K mg C):aP P w K mg base 5 "joined" ["one","other"] rD:=by
 refine aU T.f_joined eE (fun vs H Q E h=>?_) (fun f cdv A outer s H vs Q E hr h=>?_)
 ·obtain⟨x,y,es,es',rfl,_⟩:=h
  rfl
 ·obtain⟨x,y,es,es',rfl,h1,h2,q⟩:=h
  refine⟨_,al (iZ (i:=2) rfl rfl rfl (bQ eE) (rQ K (bP (az (pv 0) (pv 1)))) (fun _ _ _ _=>iy (bO iL (av da (pv 0) ag (fun _ _=>rfl)) ag (bu _))) (fun _ _ _ _=>pv 0))
   (al (bA (fw (pB (pv 2) (fun _=>rfl))) (ar (aF (jw (empty T) hr))) bE)
   (al (aB (i:=3) eE.nd rfl (Or.inl rfl) (aq (qR T) hr (ap (ax jU (cx rfl (bQ eE) (bK K (pv 2)) (fun _ _ _ _=>bZ) (fun _ _ _ _=>av da (pv 0) ag (fun _ _=>rfl))) (cx rfl (bQ eE) (bK K (pv 2)) (fun _ _ _ _=>bZ) (fun _ _ _ _=>av da (pv 0) ag (fun _ _=>rfl)))))))
   (ar (aF (bP (aO (aQ (iE K rfl) T.b_sum EN (ap (cx rfl (bQ eE) (bK K (pv 2)) (fun _ _ _ _=>bZ) (fun _ _ _ _=>av da (pv 0) ag (fun _ _=>rfl)))))
    (aO (aQ (iE K rfl) T.b_sum EN (ap (cx rfl (bQ eE) (bK K (pv 2)) (fun _ _ _ _=>bZ) (fun _ _ _ _=>av da (pv 0) ag (fun _ _=>rfl)))))
    (aO (aQ (mv K rfl) T.b_min EO (ap (cx rfl (bQ eE) (bK K (pv 2)) (fun _ _ _ _=>bZ) (fun _ _ _ _=>av da (pv 0) ag (fun _ _=>rfl)))))
    (aO (aQ (nj K rfl) T.b_max EQ (ap (cx rfl (bQ eE) (bK K (pv 2)) (fun _ _ _ _=>bZ) (fun _ _ _ _=>av da (pv 0) ag (fun _ _=>rfl)))))
    (aO (av (bi K) (pv 3) ag (fun _ _=>rfl)) (aO (av (bi K) (pv 3) (dI dN ag) (fun _ _=>rfl)) b9))))))))))),?_⟩
  refine⟨_,rfl,_,rfl,cQ,fun t ht=>⟨t,rfl,⟨_,.of ah⟩,fun D hD=>?_⟩⟩
  have st:aa H (upd H t (.tup [x,y])):=aa.upd ht
  have hD0:H D=none:=st.free hD
  have pb:Paired (iU H) [x,y] [es,es']:=.cons h1 (.cons h2 .nil)
  refine wz (xs:=[x,y]) (fun i ys H1=>H1 D=some (.lst ys)/\ys.length<=i/\aa (upd H t (.tup [x,y])) H1/\∃ ds,Paired (df H) ys ds/\dC ds=([es,es'].take i).flatten) ⟨ah,B9 _,aa.upd hD,[],.nil,rfl⟩ (fun i ys H1 h=>⟨h.1,h.2.2.1.sqT (.of ah)⟩) (fun ys H1 h=>?_) fun i b ys H1 hi hx h=>?_
  ·obtain⟨d1,d2,d3,ds,d4,d5⟩:=h
   have s1:aa H H1:=st.trans d3
   have d4:=Paired.mono2 (fun _ _ z=>df.same s1 z) d4
   have d5':dC ds=es++es':=by rw[d5];simp
   have d2':ys.length<=2:=d2
   have dl:ys.length=ds.length:=d4.length
   have dok:∀ d∈ds,d.Ok:=fun d hd=>by
    obtain⟨k,hk,rfl⟩:=AX hd
    obtain⟨_,_,_,_,_,_,_,_,_,_,_,h⟩:=Paired.getR d4 (As hk)
    exact h
   refine⟨_,rfl,_,.inl ⟨ys,.of d1,rfl⟩,?_⟩
   cases hys:ys with
   | nil =>
    refine bV ⟨rfl,fun p' H2 s2 hp' hd=>q p' H2 _ (s1.trans s2) (s1.free hp') (.non ?_ rfl) hd⟩
    rw[hys] at dl
    have:ds=[]:=A7 dl.symm
    rw[<-d5',this]
    rfl
   | cons y0 yr =>
    have hye:(!(y0::yr).isEmpty)=true:=rfl
    rw[hye]
    refine cm ?_
    have hne:ds≠[]:=fun z=>by rw[hys,z] at dl;cases dl
    obtain⟨zs,ws,p1,p2,q1,q2⟩:=oC d4
    have lz:zs.length=ys.length:=by rw[p1.length,Ar];omega
    have lw:ws.length=ys.length:=by rw[p2.length,Ar];omega
    refine⟨_,rfl,D,rfl,⟨ys,.of d1⟩,fun D1 hD1=>iY d1 (by omega) lz q1 hD1 fun H2 s2 g1=>?_⟩
    have d42:=Paired.mono2 (fun _ _ z=>df.same s2 z) d4
    refine⟨_,rfl,D,rfl,⟨ys,.of (s2 _ _ d1)⟩,fun D2 hD2=>iY (s2 _ _ d1) (by omega) lw (fun k y hy=>by
     obtain⟨a,o,its,v,e1,e2,e3,e4,e5⟩:=q2 k y hy
     exact⟨a,o,its,v,e1,s2 _ _ e2,e3,e4,e5⟩) hD2 fun H3 s3 g2=>?_⟩
    refine⟨D1,D2,_,_,rfl,rfl,s3 _ _ g1,g2,dt (by omega),fun D3 hD3=>?_⟩
    have s13:aa H1 H3:=s2.trans s3
    have s14:aa H1 (upd H3 D3 (.lst (zs++ws))):=s13.trans (aa.upd hD3)
    refine⟨D3,_,zs++ws,ds.map (·.f)++ds.map (·.l),rfl,ah,.inl rfl,Paired.mono2 (fun _ _ z=>cj.same s14 z) (by
      have:∀ {xs xs':List V}{ys ys':List En},Paired (cj H1) xs ys->Paired (cj H1) xs' ys'->Paired (cj H1) (xs++xs') (ys++ys'):=fun {xs xs' ys ys'} a b=>by
       induction a with
       | nil=>exact b
       | cons r _ ih=>exact .cons r ih
      exact this p1 p2),by rw[AB,Ar,Ar];omega,fun E5 H5 es5 pp s5 hE5 g5 pe5 pm ps=>?_⟩
    have s15:aa H1 H5:=s14.trans s5
    have d45:=Paired.mono2 (fun _ _ z=>df.same s15 z) d4
    refine⟨_,rfl,D,rfl,⟨ys,.of (s15 _ _ d1)⟩,fun D6 hD6=>iY (s15 _ _ d1) (by omega) (by rw[Ar,Ar];omega) (jN (j:=0) (g:=fun d=>(d.es.length:Int)) d45 fun d xf xl=>bz (j:=0) rfl) hD6 fun H6 s6 g6=>⟨D6,_,rfl,.inl (.of g6),?_⟩⟩
    refine⟨_,rfl,D,rfl,⟨ys,.of ((s15.trans s6) _ _ d1)⟩,fun D7 hD7=>iY ((s15.trans s6) _ _ d1) (by omega) (by rw[Ar,Ar];omega) (jN (j:=1) (g:=fun d=>(aK d.es).sum) (Paired.mono2 (fun _ _ z=>df.same s6 z) d45) fun d xf xl=>bz (j:=1) rfl) hD7 fun H7 s7 g7=>⟨D7,_,rfl,.inl (.of g7),?_⟩⟩
    have s57:aa H5 H7:=s6.trans s7
    refine⟨_,rfl,D,rfl,⟨ys,.of ((s15.trans s57) _ _ d1)⟩,fun D8 hD8=>iY ((s15.trans s57) _ _ d1) (by omega) (by rw[Ar,Ar];omega) (jN (j:=2) (g:=fun d=>d.lo) (Paired.mono2 (fun _ _ z=>df.same s57 z) d45) fun d xf xl=>bz (j:=2) rfl) hD8 fun H8 s8 g8=>⟨D8,_,rfl,.of g8,by simpa using hne,fun lo l1 l2=>?_⟩⟩
    have s58:aa H5 H8:=s57.trans s8
    refine⟨_,rfl,D,rfl,⟨ys,.of ((s15.trans s58) _ _ d1)⟩,fun D9 hD9=>iY ((s15.trans s58) _ _ d1) (by omega) (by rw[Ar,Ar];omega) (jN (j:=3) (g:=fun d=>d.hi) (Paired.mono2 (fun _ _ z=>df.same s58 z) d45) fun d xf xl=>bz (j:=3) rfl) hD9 fun H9 s9 g9=>⟨D9,_,rfl,.of g9,by simpa using hne,fun hi' l3 l4=>?_⟩⟩
    have s59:aa H5 H9:=s58.trans s9
    have pm':=eY pm
    have pe9:Paired (aM H9) es5 (b8 (ds.map (·.f)++ds.map (·.l)) pp):=Paired.mono2 (fun _ _ z=>aM.same s59 z) pe5
    cases hpk:b8 (ds.map (·.f)++ds.map (·.l)) pp with
    | nil =>
     rw[hpk] at pm'
     have:=pm'.length_eq
     rw[AB,Ar,Ar] at this
     have:ds.length=0:=by simp at this;omega
     exact absurd (A7 this) hne
    | cons fe re =>
    rcases Bc (b8 (ds.map (·.f)++ds.map (·.l)) pp) with z|⟨rl,le,hpl⟩
    ·rw[hpk] at z;cases z
    rw[Be] at hpl
    obtain⟨yf,ef,rf⟩:=Paired.getR pe9 (i:=0) (y:=fe) (by rw[hpk];rfl)
    obtain⟨yl,el,rl'⟩:=Paired.getR pe9 (i:=rl.length) (y:=le) (by rw[hpl];simp)
    have hlast:∃ yr',es5=yr'++[yl]:=by
     rcases Bc es5 with z|⟨yr',yl',hyr⟩
     ·rw[z] at ef;cases ef
     ·rw[Be] at hyr
      refine⟨yr',?_⟩
      have l1:es5.length=rl.length+1:=by rw[pe9.length,hpl];simp
      have l2:yr'.length=rl.length:=by rw[hyr] at l1;simpa using l1
      rw[hyr,<-l2] at el
      rw[hyr]
      simp at el
      rw[el]
    obtain⟨yr',hyr⟩:=hlast
    have b1:=oU pm ps hpk
    have b2:=sn pm ps hpl
    have hbar:=(uo dok l1 l2 l3 l4 b1.1 b1.2 b2.1 b2.2).of
    rw[<-rB,d5'] at hbar
    refine⟨_,rfl,E5,es5,_,_,rfl,rfl,.of (s59 _ _ g5),bz (j:=0) ef,_,rfl,_,rfl,E5,es5,_,_,rfl,rfl,.of (s59 _ _ g5),by rw[hyr];exact jT _ _,dt (by show 6<=1000;decide),fun p10 hp10=>?_⟩
    refine q p10 _ _ ((s1.trans (s15.trans s59)).trans (aa.upd hp10)) ((s1.trans (s15.trans s59)).free hp10) hbar ?_
    refine mn ?_ (rf.same (aa.upd hp10)) (rl'.same (aa.upd hp10))
    rw[ah,pA,d5']
  ·obtain⟨d1,d2,d3,ds,d4,d5⟩:=h
   obtain⟨es0,he0,hb⟩:=Paired.get pb hx
   have s1:aa H H1:=st.trans d3
   have etk:([es,es'].take (i+1)).flatten=([es,es'].take i).flatten++es0:=by rw[Aw,he0];simp
   cases hb with
   | non a o e h ob he =>
    subst e
    refine⟨_,rfl,a,o,_,_,_,rfl,rfl,s1 _ _ h,ob,bz (j:=0) rfl,_,_,rfl,rfl,_,rfl,cm (cC.mk hi ⟨d1,by omega,d3,ds,d4,?_⟩)⟩
    rw[etk,he,d5]
    simp
   | some d he h =>
    obtain⟨a,o,xf,xl,rfl,h2,h3,h4,h5,h6⟩:=h
    have hpos:0<d.es.length:=BS h6.h5
    have hdec:decide ((0:Int)<(d.es.length:Int))=true:=decide_eq_true (by omega)
    refine⟨_,rfl,a,o,_,_,_,rfl,rfl,s1 _ _ h2,h3,bz (j:=0) rfl,_,_,rfl,rfl,_,rfl,?_⟩
    rw[hdec]
    refine bV ⟨_,rfl,bw.mk hi (by show 2<=1000;decide) d2 d1 ⟨ah,by rw[AB];show _+1<=_;omega,d3.but_ne hD,ds++[d],Paired.snoc ⟨a,o,xf,xl,rfl,h2,h3,h4,h5,h6⟩ d4,?_⟩⟩
    unfold dC at d5 ⊢
    rw[Ax,List.flatten_append,d5,etk,he]
    simp
end
end Pr
namespace L2
open PySem PySem.Spec PyProof.Rows
theorem Paired.reverse {α β:Type}{F:α->β->Prop}:∀ {xs:List α}{ys:List β},Paired F xs ys->Paired F xs.reverse ys.reverse
 | _,_,.nil=>.nil
 | _,_,.cons r t=>by
  rw[Bh,Bh]
  exact Paired.snoc r (Paired.reverse t)
mutual
def noL:PyData->Bool
 | .list _=>false
 | .tuple ds=>noLs ds
 | .dict _=>false
 | _=>true
def noLs:List PyData->Bool
 | []=>true
 | d::ds=>noL d && noLs ds
end
mutual
theorem am.tups {H H':Hp}(s:∀ b xs,H b=some (.tup xs)->H' b=some (.tup xs)):∀ (d:PyData) (v:V),noL d=true->am H d v->am H' d v
 | .none,v,_,h=>by unfold am at h ⊢;exact h
 | .bool _,v,_,h=>by unfold am at h ⊢;exact h
 | .int _,v,_,h=>by unfold am at h ⊢;exact h
 | .str _,v,_,h=>by unfold am at h ⊢;exact h
 | .list ds,v,n,h=>by unfold noL at n;cases n
 | .tuple ds,v,n,h=>by
  unfold noL at n
  unfold am at h ⊢
  obtain⟨a,xs,e,h1,h2⟩:=h
  exact⟨a,xs,e,s _ _ h1,ay.tups s ds xs n h2⟩
 | .dict _,v,n,h=>by unfold noL at n;cases n
theorem ay.tups {H H':Hp}(s:∀ b xs,H b=some (.tup xs)->H' b=some (.tup xs)):∀ (ds:List PyData) (xs:List V),noLs ds=true->ay H ds xs->ay H' ds xs
 | [],xs,_,h=>by unfold ay at h ⊢;exact h
 | d::ds,xs,n,h=>by
  unfold noLs at n
  rw[Bool.and_eq_true] at n
  unfold ay at h ⊢
  obtain⟨x,r,e,h1,h2⟩:=h
  exact⟨x,r,e,am.tups s d x n.1 h1,ay.tups s ds r n.2 h2⟩
end
end L2
namespace Ent
open PySem
theorem lX {es:List En}{b:PyData}(h:bD es b):L2.noL b=true:=by
 cases h with
 | non _ e=>rw[e];rfl
 | some lo hi f l h1 h2 h3 h4 h5 h6 h7 h8 e=>rw[e];rfl
end Ent
namespace Pr
open PySem L2 PyProof.Rows Ent
def gs (H:Hp)(x:V)(e:En):Prop:=∃ a,x=.ref a/\H a=some (.lst (fO e))
theorem gs.g {H:Hp}{x:V}{e:En}(h:gs H x e):cj H x e:=by
 obtain⟨a,h1,h2⟩:=h
 exact⟨a,_,h1,h2,.inl rfl⟩
theorem gs.dat {H:Hp}{x:V}{e:En}(h:gs H x e):am H (eL e) x:=by
 obtain⟨a,h1,h2⟩:=h
 unfold eL am
 refine⟨a,_,h1,h2,?_⟩
 iterate 3
  unfold ay
  refine⟨_,_,rfl,by unfold am;rfl,?_⟩
 unfold ay
 rfl
theorem nP {H:Hp}:∀ {xs:List V}{es:List En},Paired (gs H) xs es->ay H (es.map eL) xs
 | _,_,.nil=>by unfold ay;rfl
 | _,_,.cons r t=>by
  unfold ay
  exact⟨_,_,rfl,r.dat,nP t⟩
theorem oq {H:Hp}{a:Addr}{xs:List V}{es:List En}(h:H a=some (.lst xs))(p:Paired (gs H) xs es):am H (.list (es.map eL)) (.ref a):=by
 unfold am
 exact⟨a,xs,rfl,h,nP p⟩
end Pr
namespace Ent
open PySem
theorem yy {es:List En}{b:PyData}(hk:∀ e∈es,bN e)(hn:es.length<=1000)(h:bD es b):Lf b/\b.bulk<=40/\b.depth<=2:=by
 cases h with
 | non e1 e2 =>
  subst e2
  refine⟨jO fun d hd=>?_,by decide,by decide⟩
  simp only[Bp,Bq,or_false] at hd
  rcases hd with rfl|rfl|rfl|rfl|rfl|rfl
  ·exact eX (by decide)
  ·exact eX (by decide)
  all_goals exact zL
 | some lo hi f l h1 h2 h3 h4 h5 h6 h7 h8 e =>
  subst e
  have hv:∀ v∈aK es,v.natAbs<10 ^ 30:=fun v hv=>by
   obtain⟨x,hx,rfl⟩:=List.mem_map.mp hv
   exact(hk x hx).v
  have hs:=rh hv
  have hl:(aK es).length=es.length:=Ar ..
  refine⟨jO fun d hd=>?_,?_,?_⟩
  ·simp only[Bp,Bq,or_false] at hd
   rcases hd with rfl|rfl|rfl|rfl|rfl|rfl
   ·exact eX (Cj (by rw[Int.natAbs_natCast];exact hn) (by decide +kernel))
   ·refine eX (Cj hs ?_)
    rw[hl]
    exact Cj (Nat.mul_le_mul_right _ hn) (by decide +kernel)
   ·exact eX (km (hv _ h1))
   ·exact eX (km (hv _ h3))
   ·exact lR (hk _ h5)
   ·exact lR (hk _ h7)
  ·have a:=tW (hk _ h5)
   have b:=tW (hk _ h7)
   unfold fX
   simp only[PyData.bulk,PyData.bulkAll]
   omega
  ·unfold fX
   simp only[PyData.depth,PyData.depthAll,oQ]
   omega
end Ent
namespace Pr
open PySem L2 PyProof.Rows Ent
theorem ss {H:Hp}{x:V}{e:En}(h:am H (eD e) x):aM H x e:=by
 unfold eD am at h
 obtain⟨a,xs,e1,h1,h2⟩:=h
 unfold ay at h2
 obtain⟨x1,r1,rfl,d1,h2⟩:=h2
 unfold ay at h2
 obtain⟨x2,r2,rfl,d2,h2⟩:=h2
 unfold ay at h2
 obtain⟨x3,r3,rfl,d3,h2⟩:=h2
 unfold ay at h2
 unfold am at d1 d2 d3
 subst h2 d1 d2 d3
 exact⟨a,e1,h1⟩
def BT (H:Hp)(x:V)(es:List En):Prop:=∃ p b,x=.ref p/\am H b (.ref p)/\bD es b
theorem BT.same {H H':Hp}(s:aa H H'){x:V}{es:List En}(h:BT H x es):BT H' x es:=by
 obtain⟨p,b,e,d,o⟩:=h
 exact⟨p,b,e,d.same s _ _,o⟩
theorem BT.tups {H H':Hp}(s:∀ b xs,H b=some (.tup xs)->H' b=some (.tup xs)){x:V}{es:List En}(h:BT H x es):BT H' x es:=by
 obtain⟨p,b,e,d,o⟩:=h
 exact⟨p,b,e,am.tups s _ _ (lX o) d,o⟩
theorem BT.cases {H:Hp}{x:V}{es:List En}(h:BT H x es):(∃ p,x=.ref p/\es=[]/\H p=some (.tup [.int 0,.int 0,.non,.non,.non,.non])) \/
  ∃ (p:Addr) (d:Bd) (xf xl:V),x=.ref p/\es=d.es/\d.Ok/\H p=some (.tup [.int d.es.length,.int (aK d.es).sum,.int d.lo,.int d.hi,xf,xl])/\aM H xf d.f/\aM H xl d.l:=by
 obtain⟨p,b,rfl,d,o⟩:=h
 cases o with
 | non he e =>
  subst e
  left
  unfold cn am at d
  obtain⟨a,xs,e1,h1,h2⟩:=d
  cases e1
  unfold ay at h2
  obtain⟨x1,r1,rfl,d1,h2⟩:=h2
  unfold ay at h2
  obtain⟨x2,r2,rfl,d2,h2⟩:=h2
  unfold ay at h2
  obtain⟨x3,r3,rfl,d3,h2⟩:=h2
  unfold ay at h2
  obtain⟨x4,r4,rfl,d4,h2⟩:=h2
  unfold ay at h2
  obtain⟨x5,r5,rfl,d5,h2⟩:=h2
  unfold ay at h2
  obtain⟨x6,r6,rfl,d6,h2⟩:=h2
  unfold ay at h2
  unfold am at d1 d2 d3 d4 d5 d6
  subst h2 d1 d2 d3 d4 d5 d6
  exact⟨p,rfl,he,h1⟩
 | some lo hi f l g1 g2 g3 g4 g5 g6 g7 g8 e =>
  subst e
  right
  unfold fX am at d
  obtain⟨a,xs,e1,h1,h2⟩:=d
  cases e1
  unfold ay at h2
  obtain⟨x1,r1,rfl,d1,h2⟩:=h2
  unfold ay at h2
  obtain⟨x2,r2,rfl,d2,h2⟩:=h2
  unfold ay at h2
  obtain⟨x3,r3,rfl,d3,h2⟩:=h2
  unfold ay at h2
  obtain⟨x4,r4,rfl,d4,h2⟩:=h2
  unfold ay at h2
  obtain⟨x5,r5,rfl,d5,h2⟩:=h2
  unfold ay at h2
  obtain⟨x6,r6,rfl,d6,h2⟩:=h2
  unfold ay at h2
  have e5:=ss d5
  have e6:=ss d6
  unfold am at d1 d2 d3 d4
  subst h2 d1 d2 d3 d4
  exact⟨p,⟨es,lo,hi,f,l⟩,x5,x6,rfl,rfl,⟨g1,g2,g3,g4,g5,g6,g7,g8⟩,h1,e5,e6⟩
theorem BT.g {H:Hp}{x:V}{es:List En}(h:BT H x es):iU H x es:=by
 rcases (BT.cases h) with⟨p,e,he,h⟩|⟨p,d,xf,xl,e,he,ok,h,hf,hl⟩
 ·exact .non p _ e h (.inr rfl) he
 ·exact .some d he ⟨p,_,xf,xl,e,h,.inr rfl,hf.g,hl.g,ok⟩
end Pr
namespace L2
open PySem PySem.Spec PyProof.Rows
section
variable {κ:Type}[DecidableEq κ]
def aJ (kvs:List (κ×V))(k:κ):Option V:=(kvs.find? fun kv=>decide (kv.1=k)).map (·.2)
def aX (kvs:List (κ×V))(k:κ)(v:V):List (κ×V) :=
 if (kvs.any fun kv=>decide (kv.1=k))=true then kvs.map (fun kv=>if kv.1=k then (kv.1,v) else kv) else kvs++[(k,v)]
theorem dJ {p:κ×V}{r:List (κ×V)}{k:κ}(e:p.1=k):aJ (p::r) k=some p.2:=by simp[aJ,A8,e]
theorem dO {p:κ×V}{r:List (κ×V)}{k:κ}(e:¬ p.1=k):aJ (p::r) k=aJ r k:=by simp[aJ,A8,e]
theorem je (k:κ):∀ kvs:List (κ×V),(kvs.any fun kv=>decide (kv.1=k))=(aJ kvs k).isSome
 | []=>rfl
 | p::r=>by
  rw[BB]
  by_cases e:p.1=k
  ·simp only[dJ e,decide_eq_true e,Bool.true_or,Option.isSome_some]
  ·rw[dO e,decide_eq_false e,Bool.false_or];exact je k r
theorem qX (k j:κ)(y:V):∀ kvs:List (κ×V),aJ (kvs.map fun kv=>if kv.1=k then (kv.1,y) else kv) j=(aJ kvs j).map fun x=>if j=k then y else x
 | []=>rfl
 | p::r=>by
  have ih:=qX k j y r
  rw[Av]
  by_cases h:p.1=k
  ·rw[if_pos h]
   by_cases e:p.1=j
   ·rw[dJ (p:=(p.1,y)) e,dJ e,CL,if_pos (e.symm.trans h)]
   ·rw[dO (p:=(p.1,y)) e,dO e,ih]
  ·rw[if_neg h]
   by_cases e:p.1=j
   ·rw[dJ (p:=p) e,dJ e,CL,if_neg (fun z=>h (e.trans z))]
   ·rw[dO (p:=p) e,dO e,ih]
theorem o4 (k j:κ)(y:V):∀ kvs:List (κ×V),aJ kvs k=none->aJ (kvs++[(k,y)]) j=if j=k then some y else aJ kvs j
 | [],_=>by
  by_cases e:k=j
  ·rw[if_pos e.symm];exact dJ (p:=(k,y)) e
  ·rw[if_neg (fun z=>e z.symm)];exact dO (p:=(k,y)) e
 | p::r,hn=>by
  rw[List.cons_append]
  have hk:¬ p.1=k:=fun z=>by rw[dJ z] at hn;cases hn
  rw[dO hk] at hn
  have ih:=o4 k j y r hn
  by_cases e:p.1=j
  ·rw[dJ e,dJ e,if_neg (fun z=>hk (e.trans z))]
  ·rw[dO e,dO e,ih]
theorem iF (kvs:List (κ×V))(k j:κ)(y:V):aJ (aX kvs k y) j=if j=k then some y else aJ kvs j:=by
 unfold aX
 by_cases a:(kvs.any fun kv=>decide (kv.1=k))=true
 ·rw[if_pos a,qX]
  rw[je] at a
  by_cases e:j=k
  ·obtain⟨x,hx⟩:=Option.isSome_iff_exists.mp a
   rw[if_pos e,e,hx,CL,if_pos rfl]
  ·rw[if_neg e]
   cases aJ kvs j with
   | none=>rfl
   | some x=>rw[CL,if_neg e]
 ·rw[if_neg a]
  refine o4 k j y kvs ?_
  rw[je] at a
  cases q:aJ kvs k with
  | none=>rfl
  | some x=>rw[q] at a;exact(a rfl).elim
theorem li (kvs:List (κ×V))(k:κ)(v:V):(aX kvs k v).length<=kvs.length+1:=by
 unfold aX
 split
 ·rw[Ar];omega
 ·rw[AB,Ay,Bj];omega
theorem rs {kvs:List (κ×V)}{k:κ}(v:V)(h:aJ kvs k=none):aX kvs k v=kvs++[(k,v)]:=by
 unfold aX
 rw[je,h]
 exact if_neg (by decide)
theorem cg.isSome_eq {o:Option V}{u:Option Value}(r:cg o u):o.isSome=u.isSome:=by
 cases o with
 | none=>cases u with
  | none=>rfl
  | some _=>exact(show False from r).elim
 | some _=>cases u with
  | none=>exact(show False from r).elim
  | some _=>rfl
theorem cg.getD {o:Option V}{u:Option Value}{d:V}{d':Value}(r:cg o u)(rd:aw d d'):aw (o.getD d) (u.getD d'):=by
 cases o with
 | none=>cases u with
  | none=>exact rd
  | some _=>exact(show False from r).elim
 | some _=>cases u with
  | none=>exact(show False from r).elim
  | some _=>exact r
theorem KV.val {kvs:List (κ×V)}{vs:List (κ×Value)}(r:KV kvs vs)(k:κ):cg (aJ kvs k) (ET vs k):=by
 unfold KV at r
 induction r with
 | nil=>exact True.intro
 | @cons p q ps qs h t ih =>
  obtain⟨h1,h2⟩:=h
  by_cases e:p.1=k
  ·have e':q.1=k:=h1.symm.trans e
   have b:ET (q::qs) k=some q.2:=by simp[ET,A8,e']
   rw[dJ e,b];exact h2
  ·have e':¬ q.1=k:=fun z=>e (h1.trans z)
   have b:ET (q::qs) k=ET qs k:=by simp[ET,A8,e']
   rw[dO e,b];exact ih
theorem KV.any {kvs:List (κ×V)}{vs:List (κ×Value)}(r:KV kvs vs)(k:κ):(kvs.any fun kv=>decide (kv.1=k))=vs.any fun kv=>decide (kv.1=k):=by
 unfold KV at r
 induction r with
 | nil=>rfl
 | cons h t ih=>rw[BB,BB,ih,h.1]
theorem KV.repl {kvs:List (κ×V)}{vs:List (κ×Value)}(r:KV kvs vs)(k:κ){y:V}{u:Value}(ry:aw y u) :
  KV (kvs.map fun kv=>if kv.1=k then (kv.1,y) else kv) (vs.map fun kv=>if kv.1=k then (kv.1,u) else kv):=by
 unfold KV at r ⊢
 induction r with
 | nil=>exact .nil
 | @cons p q ps qs h t ih =>
  rw[Av,Av]
  refine .cons ?_ ih
  obtain⟨h1,h2⟩:=h
  by_cases e:p.1=k
  ·rw[if_pos e,if_pos (h1.symm.trans e)];exact⟨h1,ry⟩
  ·rw[if_neg e,if_neg (fun z=>e (h1.trans z))];exact⟨h1,h2⟩
theorem KV.put {kvs:List (κ×V)}{vs:List (κ×Value)}(r:KV kvs vs)(k:κ){y:V}{u:Value}(ry:aw y u):KV (aX kvs k y) (stored vs k u):=by
 unfold aX stored
 rw[r.any k]
 by_cases e:(vs.any fun kv=>decide (kv.1=k))=true
 ·rw[if_pos e,if_pos e];exact r.repl k ry
 ·rw[if_neg e,if_neg e];exact PySem.Paired.snoc r ⟨rfl,ry⟩
theorem KV.length {kvs:List (κ×V)}{vs:List (κ×Value)}(r:KV kvs vs):kvs.length=vs.length:=Paired.length r
end
theorem iH {P:CP}{w:World}{k:aj}{u:Value}(r:aw (kV k) u):(bo P w).is k u=true:=by
 cases k with
 | inl i=>obtain⟨t,e⟩:=(show ∃ t,u=Value.int i t from r);subst e;exact t9 P w i t
 | inr x=>obtain⟨t,e⟩:=(show ∃ t,u=Value.str x t from r);subst e;exact zS P w x t
theorem pq {P:CP}{w:World}:∀ {ks:List aj}{us:List Value},au (ks.map kV) us->ItemsAre (bo P w) ks us
 | [],_,r=>by rw[Bi] at r;cases r;exact .nil
 | k::ks,_,r=>by
  rw[Av] at r
  cases r with
  | cons h t=>exact .cons (iH h) (pq t)
abbrev KT (H:Hp):List (List aj×V)->List (List aj×Addr×Value)->Prop:=Paired fun p q=>p.1=q.1/\H q.2.1=some (.tup (p.1.map kV))/\aw p.2 q.2.2
theorem KT.val {H:Hp}{kvs:List (List aj×V)}{xs:List (List aj×Addr×Value)}(r:KT H kvs xs)(k:List aj):cg (aJ kvs k) ((atKey xs k).map (·.2)):=by
 induction r with
 | nil=>exact True.intro
 | @cons p q ps qs h t ih =>
  obtain⟨h1,_,h2⟩:=h
  by_cases e:p.1=k
  ·have e':q.1=k:=h1.symm.trans e
   have b:atKey (q::qs) k=some q.2:=by simp[atKey,A8,e']
   rw[dJ e,b];exact h2
  ·have e':¬ q.1=k:=fun z=>e (h1.trans z)
   have b:atKey (q::qs) k=atKey qs k:=by simp[atKey,A8,e']
   rw[dO e,b];exact ih
theorem KT.repl {H:Hp}{kvs:List (List aj×V)}{xs:List (List aj×Addr×Value)}(r:KT H kvs xs)(k:List aj){y:V}{u:Value}(ry:aw y u) :
  KT H (kvs.map fun kv=>if kv.1=k then (kv.1,y) else kv) (xs.map (putAt k u)):=by
 induction r with
 | nil=>exact .nil
 | @cons p q ps qs h t ih =>
  rw[Av,Av]
  refine .cons ?_ ih
  obtain⟨h1,h2,h3⟩:=h
  unfold putAt
  by_cases e:p.1=k
  ·rw[if_pos e,if_pos (h1.symm.trans e)];exact⟨h1,h2,ry⟩
  ·rw[if_neg e,if_neg (fun z=>e (h1.trans z))];exact⟨h1,h2,h3⟩
theorem KT.put {H:Hp}{kvs:List (List aj×V)}{xs:List (List aj×Addr×Value)}(r:KT H kvs xs)(k:List aj){b:Addr}{y:V}{u:Value}(hb:H b=some (.tup (k.map kV)))(ry:aw y u) :
  KT H (aX kvs k y) (storedH xs k b u):=by
 have e:(kvs.any fun kv=>decide (kv.1=k))=(atKey xs k).isSome:=by
  rw[je,(r.val k).isSome_eq,CO]
 unfold aX storedH
 rw[e]
 by_cases q:(atKey xs k).isSome=true
 ·rw[if_pos q,if_pos q];exact r.repl k ry
 ·rw[if_neg q,if_neg q];exact PySem.Paired.snoc r ⟨rfl,hb,ry⟩
theorem KT.keeps {H H':Hp}{kvs:List (List aj×V)}{xs:List (List aj×Addr×Value)}(r:KT H kvs xs)(ht:∀ b ys,H b=some (.tup ys)->H' b=some (.tup ys)):KT H' kvs xs :=
 Paired.mapP r fun _ _ z=>⟨z.1,ht _ _ z.2.1,z.2.2⟩
section
variable {P:CP}{w:World}{H:Hp}{h:Heap}{a:Addr}
theorem oV {u:HO}(ok:bq P w H h)(e:Rd H a u):aY P w H h a u:=e.ok ok
theorem i4 {kvs:List (aj×V)}(ok:bq P w H h)(e:Rd H a (.dK kvs)):kvs.length<=CQ/\(a == CS)=false/\∃ vs,KV kvs vs/\h.DictOf (bo P w) a vs :=
 show aY P w H h a (.dK kvs) from oV ok e
theorem tz {kvs:List (aj×V)}(ok:bq P w H h)(e:H a=some (.dK kvs)):kvs.length<=CQ/\(a == CS)=false/\∃ vs,KV kvs vs/\h.DictOf (bo P w) a vs:=i4 ok (.inl e)
theorem jt {ks:List aj}(ok:bq P w H h)(e:H a=some (.tup (ks.map kV))):(CT (bo P w)).is h ks a:=by
 obtain⟨_,its,r,o,h1,h2,n,h3⟩:=(show aY P w H h a (.tup (ks.map kV)) from ok a _ e)
 exact⟨o,its.toArray,n,h1,h2,h3,by simpa using pq r⟩
theorem iC {kvs:List (List aj×V)}(ok:bq P w H h)(e:Rd H a (.dT kvs)):kvs.length<=CQ/\(a == CS)=false /\
  ∃ xs,KT H kvs xs/\h.DictOfH (CT (bo P w)) a xs:=by
 obtain⟨z,y,xs,r,o,es,ep,h1,h2,h3,h4,h5⟩:=(show aY P w H h a (.dT kvs) from oV ok e)
 refine⟨z,y,xs,r,o,es,ep,h1,h2,h3,h4,fun x hx=>?_,h5⟩
 have all:∀ {l:List (List aj×V)}{m:List (List aj×Addr×Value)},KT H l m->∀ x∈m,(CT (bo P w)).is h x.1 x.2.1:=by
  intro l m q
  induction q with
  | nil=>intro x hx;exact nomatch hx
  | @cons p q ps qs hq t ih =>
   intro x hx
   rcases List.mem_cons.mp hx with e|hx
   ·subst e
    exact jt ok (by rw[<-hq.1];exact hq.2.1)
   ·exact ih x hx
 exact all r x hx
theorem yi {kvs:List (List aj×V)}(ok:bq P w H h)(e:H a=some (.dT kvs)):kvs.length<=CQ/\(a == CS)=false /\
 ∃ xs,KT H kvs xs/\h.DictOfH (CT (bo P w)) a xs:=iC ok (.inl e)
end
def cb (H:Hp)(a:Addr)(y:V)(r:Option V):Prop :=
 (∃ kvs k,Rd H a (.dK kvs)/\y=kV k/\r=aJ kvs k)\/∃ kvs k b,Rd H a (.dT kvs)/\y=.ref b/\H b=some (.tup (k.map kV))/\r=aJ kvs k
def fj (H:Hp)(a:Addr)(y v:V)(H':Hp):Prop :=
 (∃ kvs k,H a=some (.dK kvs)/\y=kV k/\kvs.length<CQ/\H'=upd H a (.dK (aX kvs k v))) \/
 ∃ kvs k b,H a=some (.dT kvs)/\y=.ref b/\H b=some (.tup (k.map kV))/\kvs.length<CQ/\H'=upd H a (.dT (aX kvs k v))
theorem cb.k {H:Hp}{a:Addr}{kvs:List (aj×V)}{k:aj}(e:H a=some (.dK kvs)):cb H a (kV k) (aJ kvs k):=.inl ⟨kvs,k,.inl e,rfl,rfl⟩
theorem fj.k {H:Hp}{a:Addr}{kvs:List (aj×V)}{k:aj}{v:V}(e:H a=some (.dK kvs))(hl:kvs.length<CQ):fj H a (kV k) v (upd H a (.dK (aX kvs k v))):=.inl ⟨kvs,k,e,rfl,hl,rfl⟩
section
variable {X:Cx}{pins:List (Addr×Obj)}{σ:St}{H:Hp}{s:CW}{a:Addr}{y v:V}{u r:Value}{o:Option V}{A:Around}{E:Value->CW->Prop}
theorem ac.big (I:ac X pins σ H s):CS<s.heap.objs.size:=by
 have h:CU<s.heap.objs.size:=(I.mod.glob.keeps I.bk).lt
 exact Cg (by decide) h
theorem vX {Q:Value->CW->Prop}(hu:A.units+1<cLine)(I:ac X pins σ H s)(g:cb H a y (some v))(ry:aw y u)(h:∀ w' s',ac X pins σ H s'->aw v w'->Q w' s') :
  wpAny (model X.prog X.w) A (Di (.ref a) u) Q E s:=by
 rcases g with⟨kvs,k,e,ey,l⟩|⟨kvs,k,b,e,ey,eb,l⟩
 ·subst ey
  obtain⟨z,hd,vs,rel,dd⟩:=i4 I.hok e
  obtain⟨w',hw,rw'⟩:=cg.some_of (v:=v) (o:=ET vs k) (by rw[l];exact rel.val k)
  exact wpAny_getItem_of (iH ry) dd.mapOf hw (h w' _ (I.tok _) rw')
 ·subst ey
  cases (show u=Value.ref b from ry)
  obtain⟨z,hd,xs,rel,dd⟩:=iC I.hok e
  obtain⟨w',hw,rw'⟩:=cg.some_of (v:=v) (o:=(atKey xs k).map (·.2)) (by rw[l];exact rel.val k)
  obtain⟨p,hp,hp2⟩:=Option.map_eq_some_iff.mp hw
  refine wpAny_getItem_heap (EU hu) (jt I.hok eb) dd hp ?_
  rw[hp2]
  exact h w' _ (I.tok _) rw'
theorem xE {Q:Value->CW->Prop}(hu:A.units+1<cLine)(I:ac X pins σ H s)(g:cb H a y o)(ry:aw y u)(h:∀ s',ac X pins σ H s'->Q (.bool (!o.isSome)) s') :
  wpAny (model X.prog X.w) A (C2 .NotIn u (.ref a)) Q E s:=by
 rcases g with⟨kvs,k,e,ey,l⟩|⟨kvs,k,b,e,ey,eb,l⟩
 ·subst ey
  obtain⟨z,hd,vs,rel,dd⟩:=i4 I.hok e
  refine wpAny_notIn_of (iH ry) hd dd.mapOf ?_
  rw[<-(rel.val k).isSome_eq,<-l]
  exact h _ (I.tok _)
 ·subst ey
  cases (show u=Value.ref b from ry)
  obtain⟨z,hd,xs,rel,dd⟩:=iC I.hok e
  refine wpAny_notIn_heap (EU hu) (jt I.hok eb) hd dd ?_
  have q:=(rel.val k).isSome_eq
  rw[CO] at q
  rw[<-q,<-l]
  exact h _ (I.tok _)
theorem lV {h':Heap}{t':Nat}{ob:HO}(I:ac X pins σ H s)(mu:jj (H a))(hs:Heap.SameBut a s.heap h')(he:∃ q,h'.get? a=some q)(new:aY X.prog X.w (upd H a ob) h' a ob) :
  ac X pins σ (upd H a ob) { s with heap:=h',toks:=t' } :=
 I.write (x:=a) (e:=a) mu (.inl rfl) (fun b q hb z=>(hs.2 b hb).trans z) he new
theorem pH {P:CP}{w:World}{H':Hp}{h':Heap}{kvs:List (aj×V)}{vs:List (aj×Value)}(z:kvs.length<=CQ)(hd:(a == CS)=false)(rel:KV kvs vs)(dd:h'.DictOf (bo P w) a vs) :
 aY P w H' h' a (.dK kvs):=⟨z,hd,vs,rel,dd⟩
theorem ya {H':Hp}{Q:Unit->CW->Prop}(hu:A.units+1<cLine)(I:ac X pins σ H s)(g:fj H a y v H')(ry:aw y u)(rv:aw v r)(h:∀ s',ac X pins σ H' s'->Q () s') :
  wpAny (model X.prog X.w) A (setItem (.ref a) u r) Q E s:=by
 rcases g with⟨kvs,k,e,ey,l,eH⟩|⟨kvs,k,b,e,ey,eb,l,eH⟩
 ·subst ey eH
  obtain⟨z,hd,vs,rel,dd⟩:=tz I.hok e
  have hz:vs.length<=CQ:=by rw[<-rel.length];exact z
  have hl:(aX kvs k v).length<=CQ:=by have:=li kvs k v;omega
  refine wpAny_setItem_pairs (hsz:=hz) (iH ry) dd fun h' dd' hs=>h _ ?_
  have he:∃ q,h'.get? a=some q:=let ⟨q,_,_,hq,_⟩:=dd';⟨q,hq⟩
  exact lV I (by rw[e];exact True.intro) hs he (pH hl hd (rel.put k rv) dd')
 ·subst ey eH
  cases (show u=Value.ref b from ry)
  obtain⟨z,hd,xs,rel,dd⟩:=yi I.hok e
  have hz:xs.length<=CQ:=by rw[<-Paired.length rel];exact z
  have hl:(aX kvs k v).length<=CQ:=by have:=li kvs k v;omega
  refine wpAny_setItem_heap (hsz:=hz) (EU hu) (jt I.hok eb) dd fun h' dd' hs=>h _ ?_
  obtain⟨q,es,ep,hq,h2,h3,h4,_,h5⟩:=dd'
  refine lV I (by rw[e];exact True.intro) hs ⟨q,hq⟩ ⟨hl,hd,_,(rel.put k eb rv).keeps fun c ys ec=>?_,q,es,ep,hq,h2,h3,h4,h5⟩
  rw[upd_ne (cM ec e (fun z=>nomatch z))]
  exact ec
end
section
variable {X:Cx}{pins:List (Addr×Obj)}{σ:St}{H:Hp}{s:CW}{a:Addr}{kvs:List (aj×V)}{k:aj}{u:Value}{A:Around}{E:Value->CW->Prop}
end
def qk (i:Expr):Prop:=∀ ov iv,DY i false ov iv=operate [ov,iv] (Di ov iv)
theorem u9 {prog:CP}{w:World}{A:Around}{E:Value->CW->Prop}{s:CW}{env:Env}{value slice:Expr}{pos:Pos}{T id:String}{Q:Value->CW->Prop}
  (hl:typeLookup (.type T) "__getitem__"=pure (some (.builtin id))) (hs:qk slice)
  (h:wpAny (model prog w) A (eval value env) (fun o s₁=>wpAny (model prog w) A (eval slice env) (fun i s₂=>s₂.TypeIs o T/\wpAny (model prog w) A (Di o i) Q E s₂) E s₁) E s) :
  wpAny (model prog w) A (eval (.Subscript value slice pos) env) Q E s:=by
 refine DT (C1 h (fun o s₁ h₁=>C1 h₁ (fun i s₂ h₂=>?_) fun _ _ x=>x) fun _ _ x=>x)
 obtain⟨hT,h₂⟩:=h₂
 unfold DU
 refine Df ?_
 rw[getitemInPython_of_ne hT.not_modules]
 refine Df (wpAny_specialOf hT hl ?_)
 have fin:wpAny (model prog w) A (DY slice false o i) (fun r s₃=>wpAny (model prog w) A (letTemporaryGo value o r >>= fun _=>pure r) Q E s₃) E s₂:=by
  rw[hs o i]
  exact wpAny_operating (C1 h₂ (fun r s₃ h₃=>Df (wpAny_letTemporaryGo (Ds h₃))) fun _ _ x=>x)
 first
  | exact Ds (Df fin)
  | exact Df (Ds (Df fin))
  | exact Df fin
theorem xI {X:Cx}{pins:List (Addr×Obj)}{σ:St}{H:Hp}{s:CW}{a:Addr}{y:V}{o:Option V}(I:ac X pins σ H s)(g:cb H a y o):s.TypeIs (.ref a) "dict":=by
 rcases g with⟨kvs,k,e,_,_⟩|⟨kvs,k,b,e,_,_,_⟩
 ·obtain⟨_,_,vs,_,dd⟩:=i4 I.hok e
  exact dd.typeIs
 ·obtain⟨_,_,xs,_,dd⟩:=iC I.hok e
  exact dd.typeIs
def vP (td ty:TE):TE:=fun σ H Q=>td σ H fun x H1=>ty σ H1 fun y H2=>∃ a v,x=.ref a/\cb H2 a y (some v)/\Q v H2
def vw (ty td:TE):TE:=fun σ H Q=>ty σ H fun y H1=>td σ H1 fun x H2=>∃ a o,x=.ref a/\cb H2 a y o/\Q (.bl (!o.isSome)) H2
def zk (td ty tv:TE):TS:=fun D σ H=>tv σ H fun v H1=>td σ H1 fun x H2=>ty σ H2 fun y H3=>∃ a H4,x=.ref a/\fj H3 a y v H4/\D.nx σ H4
section
variable {X:Cx}{o i e value:Expr}{pos pos' tpos:Pos}{td ty tv:TE}
theorem jI (hu:X.A.units+1<cLine)(ho:PE X o td)(hi:PE X i ty)(hs:qk i):PE X (.Subscript o i pos) (vP td ty):=by
 refine⟨?_⟩
 intro pins s σ H Q I h
 refine u9 PySem.F.slot_dict_getitem.lookup hs (ai (ho pins s σ H _ I h) fun u s1 ⟨x,H1,I1,rx,q1⟩=>ai (hi pins s1 σ H1 _ I1 q1) fun iv s2 ⟨y,H2,I2,ry,a,v,ex,g,q2⟩=>?_)
 subst ex
 obtain rfl:u=Value.ref a:=rx
 exact⟨xI I2 g,vX hu I2 g ry fun w' s3 I3 rw'=>⟨v,H2,I3,rw',q2⟩⟩
theorem qY (hu:X.A.units+1<cLine)(hi:PE X i ty)(ho:PE X o td):PC X .NotIn i o (vw ty td):=by
 intro pins s σ H Q I h
 refine ai (hi pins s σ H _ I h) fun iv s1 ⟨y,H1,I1,ry,q1⟩=>ai (ho pins s1 σ H1 _ I1 q1) fun u s2 ⟨x,H2,I2,rx,a,ov,ex,g,q2⟩=>?_
 subst ex
 obtain rfl:u=Value.ref a:=rx
 exact xE hu I2 g ry fun s3 I3=>⟨.bl (!ov.isSome),H2,I3,rfl,q2⟩
theorem j7 (hu:X.A.units+1<cLine)(ho:PE X o td)(hi:PE X i ty)(hv:PE X value tv)(hs:Da value (some (.Subscript o i pos')) pos.line X.env=pure false) :
  PS X (.Assign [.Subscript o i pos'] value pos) (zk td ty tv):=by
 refine⟨?_⟩
 intro pins s σ H D I h
 refine wpAny_Assign_Subscript (ai (hv pins s σ H _ I h) fun r s1 ⟨v,H1,I1,rv,q1⟩=>ai (ho pins s1 σ H1 _ I1 q1) fun u s2 ⟨x,H2,I2,rx,q2⟩=>ai (hi pins s2 σ H2 _ I2 q2) fun iv s3 ⟨y,H3,I3,ry,a,H4,ex,g,q3⟩=>?_) hs
 subst ex
 obtain rfl:u=Value.ref a:=rx
 exact ya hu I3 g ry rv fun s4 I4=>⟨σ,H4,I4,q3⟩
end
theorem pF {P:CP}{w:World}{H:Hp}(h:Heap)(hb:CS<h.objs.size):aY P w H (h.push { cls:=.type "dict",data:=.dict #[] }) h.objs.size (.dK []) :=
 ⟨B9 _,beq_eq_false_iff_ne.mpr (Ne.symm (B7 hb)),[],.nil,Heap.DictOf.new h⟩
def vL:TE:=fun _ H Q=>∀ p,H p=none->Q (.ref p) (upd H p (.dK []))
section
variable {X:Cx}{pos:Pos}
theorem ix:PE X (.Dict [] [] pos) vL:=.mk fun pins s σ H Q I h =>
 wpAny_Dict_empty ⟨.ref s.heap.objs.size,_,I.laid (a:=s.heap.objs.size) (o:=.dK []) (t':=s.toks) (fun _ _ q=>BY _ q) (B6 _) (pF s.heap I.big),rfl,h _ (I.hok.fresh (B6 _))⟩
end
structure M2 (X:Cx)(o:Expr)(m:Str)(apos:Pos)(e f:Expr)(cpos:Pos):Prop where
 base:Dv o m X.env (eval o X.env)=eval o X.env
 few:((CZ cpos (C0 [e,f] X.env)).all (fun x=>!x.1) && (DH cpos (DI [] X.env)).all (fun x=>x.1.isSome)
  && decide (([e,f]:List Expr).length+([]:List DJ).length+(if ([]:List DJ).isEmpty then 0 else 1)<30))=true
 line:(apos.endLine == cpos.line)=true
 trees:CZ cpos (C0 [e,f] X.env)=[(false,eval e X.env),(false,eval f X.env)]
def pZ (H:Hp)(a:Addr):Prop:=(∃ kvs,Rd H a (.dK kvs))\/∃ kvs,Rd H a (.dT kvs)
theorem wg {X:Cx}{pins:List (Addr×Obj)}{σ:St}{H:Hp}{s:CW}{a:Addr}(I:ac X pins σ H s)(d:pZ H a) :
  s.TypeIs (.ref a) "dict"/\(∀ b,Value.ref a=.ref b->∃ ob,s.heap.get? b=some ob/\ob.dict=none)/\(a == CS)=false:=by
 rcases d with⟨kvs,e⟩|⟨kvs,e⟩
 ·obtain⟨_,hd,vs,_,dd⟩:=i4 I.hok e
  refine⟨dd.typeIs,fun b q=>?_,hd⟩
  cases q
  obtain⟨ob,_,_,h1,h2,_⟩:=dd
  exact⟨ob,h1,h2.2.1⟩
 ·obtain⟨_,hd,xs,_,dd⟩:=iC I.hok e
  refine⟨dd.typeIs,fun b q=>?_,hd⟩
  cases q
  obtain⟨ob,_,_,h1,h2,_⟩:=dd
  exact⟨ob,h1,h2.2.1⟩
section
variable {X:Cx}{pins:List (Addr×Obj)}{σ:St}{H:Hp}{s:CW}{a:Addr}{y d:V}{u r:Value}{o:Option V}{A:Around}{E:Value->CW->Prop}
theorem vb {Q:Value->CW->Prop}(hu:A.units+1<cLine)(I:ac X pins σ H s)(g:cb H a y o)(ry:aw y u)(rd:aw d r)(h:∀ w' s',ac X pins σ H s'->aw (o.getD d) w'->Q w' s') :
  wpAny (model X.prog X.w) A (call (.builtin "dict.get") [.ref a,u,r]) Q E s:=by
 rcases g with⟨kvs,k,e,ey,l⟩|⟨kvs,k,b,e,ey,eb,l⟩
 ·subst ey
  obtain⟨z,hd,vs,rel,dd⟩:=i4 I.hok e
  refine call_meetsIn PySem.F.slot_dict_get dd.typeIs PySem.F.entry_dict_get (PySem.F.args_dict_get_3 _ _ _) (meets_dict_get_default (bo X.prog X.w) a (iH ry) hd r) ⟨_,dd.mapOf,h _ _ (I.tok _) ?_⟩
  rw[l]
  exact(rel.val k).getD rd
 ·subst ey
  cases (show u=Value.ref b from ry)
  obtain⟨z,hd,xs,rel,dd⟩:=iC I.hok e
  refine call_meetsIn PySem.F.slot_dict_get dd.typeIs PySem.F.entry_dict_get (PySem.F.args_dict_get_3 _ _ _) (meetsH_dict_get_default (CT (bo X.prog X.w)) a b hd r) ⟨EU hu,k,xs,jt I.hok eb,dd,h _ _ (I.tok _) ?_⟩
  rw[l]
  exact(rel.val k).getD rd
end
def wL (td ty tx:TE):TE:=fun σ H Q=>td σ H fun x H1=>∃ a,x=.ref a/\pZ H1 a/\ty σ H1 fun y H2=>tx σ H2 fun z H3=>∃ o,cb H3 a y o/\Q (o.getD z) H3
section
variable {X:Cx}{o e f:Expr}{apos cpos:Pos}{td ty tx:TE}
theorem jg (hu:X.A.units+1<cLine)(ho:PE X o td)(he:PE X e ty)(hf:PE X f tx)(m:M2 X o "get" apos e f cpos):PE X (.Call (.Attribute o "get" apos) [e,f] [] cpos) (wL td ty tx):=by
 refine⟨?_⟩
 intro pins s σ H Q I h
 refine wpAny_Call_method m.base m.few m.line PySem.F.plainAttrs_dict PySem.F.slot_dict_get PySem.F.type_dict_get (ai (ho pins s σ H _ I h) fun u s1 ⟨x,H1,I1,rx,a,ex,d,q1⟩=>?_)
 subst ex
 obtain rfl:u=Value.ref a:=rx
 obtain⟨t1,t2,_⟩:=wg I1 d
 refine⟨t1,t2,?_⟩
 rw[m.trees]
 refine Calls.callWith_builtin rfl (Calls.evalArgs_plain (Calls.spliced_cons (ai (he pins s1 σ H1 _ I1 q1) fun iv s2 ⟨y,H2,I2,ry,q2⟩ =>
  Calls.spliced_cons (ai (hf pins s2 σ H2 _ I2 q2) fun fv s3 ⟨z,H3,I3,rz,ov,g,q3⟩=>Calls.spliced_nil ?_))))
 exact vb hu I3 g ry rz fun w' s4 I4 rw'=>⟨_,H3,I4,rw',q3⟩
end
section
variable {X:Cx}{pins:List (Addr×Obj)}{σ:St}{H:Hp}{s:CW}{a:Addr}{kvs:List (aj×V)}{A:Around}{E:Value->CW->Prop}
end
section
variable {X:Cx}{pins:List (Addr×Obj)}{σ:St}{H:Hp}{s:CW}{a:Addr}{y:V}{u:Value}{A:Around}{E:Value->CW->Prop}
end
end L2
namespace Ss
open PySem
def eA (xs:Array Nat):Prop:=xs.toList.Pairwise (·<·)
theorem eA.lt {xs:Array Nat}(R:eA xs){i k:Nat}(h:i<k)(hk:k<xs.size):xs.getD i 0<xs.getD k 0:=by
 have hl:k<xs.toList.length:=by rw[Cr];exact hk
 have:=List.pairwise_iff_getElem.mp R i k (by omega) hl h
 simpa [Cs,hk,Cg h hk] using this
theorem mM {xs:Array Nat}(R:eA xs)(j:Nat):∀ (f lo hi:Nat),hi-lo<=f->lo<=hi->hi<=xs.size->(∀ i,i<lo->xs.getD i 0<j)->(∀ i,hi<=i->i<xs.size->j<=xs.getD i 0) ->
  SetTable.below.go xs j f lo hi<=xs.size/\(∀ i,i<SetTable.below.go xs j f lo hi->xs.getD i 0<j)/\(∀ i,SetTable.below.go xs j f lo hi<=i->i<xs.size->j<=xs.getD i 0)
 | 0,lo,hi,h1,h2,h3,h4,h5=>by
  have e:lo=hi:=by omega
  subst e
  exact⟨h3,h4,h5⟩
 | f+1,lo,hi,h1,h2,h3,h4,h5=>by
  unfold SetTable.below.go
  split
  ·rename_i hlt
   dsimp only
   have hm:(lo+hi) / 2<xs.size:=by omega
   have e:xs.getD ((lo+hi) / 2) j=xs.getD ((lo+hi) / 2) 0:=by simp[Cs,hm]
   rw[e]
   by_cases hl:xs.getD ((lo+hi) / 2) 0<j
   ·rw[if_pos hl]
    refine mM R j f ((lo+hi) / 2+1) hi (by omega) (by omega) h3 (fun i hi'=>?_) h5
    rcases Cb i ((lo+hi) / 2) with z|z
    ·exact Cg (R.lt z hm) hl
    ·rw[show i=(lo+hi) / 2 by omega];exact hl
   ·rw[if_neg hl]
    refine mM R j f lo ((lo+hi) / 2) (by omega) (by omega) (by omega) h4 (fun i h6 h7=>?_)
    rcases Cb ((lo+hi) / 2) i with z|z
    ·have:=R.lt z h7;omega
    ·rw[show i=(lo+hi) / 2 by omega];omega
  ·have e:lo=hi:=by omega
   subst e
   exact⟨h3,h4,h5⟩
theorem pO {xs:Array Nat}(R:eA xs)(j:Nat):SetTable.below xs j<=xs.size/\(∀ i,i<SetTable.below xs j->xs.getD i 0<j)/\(∀ i,SetTable.below xs j<=i->i<xs.size->j<=xs.getD i 0) :=
 mM R j xs.size 0 xs.size (by omega) (by omega) (B6 _) (fun i h=>by omega) (fun i h1 h2=>by omega)
theorem qx {xs:Array Nat}{i:Nat}(h:i<xs.size):xs[i]?=some (xs.getD i 0):=by simp[Cs,h]
theorem vS {xs:Array Nat}(R:eA xs){j:Nat}(hn:xs[SetTable.below xs j]?≠some j):eA (SetTable.insertAt xs (SetTable.below xs j) j):=by
 obtain⟨b1,b2,b3⟩:=pO R j
 generalize SetTable.below xs j=p at *
 unfold eA
 rw[SetTable.toList_insertAt]
 have gl:∀ i (h:i<xs.toList.length),xs.toList[i]=xs.getD i 0:=fun i h=>by
  have h':i<xs.size:=by rw[Cr] at h;exact h
  simp[Cs,h']
 have hd:∀ b∈xs.toList.drop p,j<b:=fun b hb=>by
  obtain⟨i,hi,rfl⟩:=AX hb
  rw[Bu,Cr] at hi
  rw[List.getElem_drop,gl]
  have h1:=b3 (p+i) (by omega) (by omega)
  rcases Cb j (xs.getD (p+i) 0) with z|z
  ·exact z
  ·exfalso
   have e:xs.getD (p+i) 0=j:=by omega
   rcases Cn i with z0|z0
   ·subst z0
    exact hn (by rw[qx (by omega)];exact congrArg some e)
   ·have:=R.lt (i:=p) (k:=p+i) (by omega) (by omega)
    have:=b3 p (B6 _) (by omega)
    omega
 rw[List.pairwise_append]
 refine⟨R.sublist (Bb _ _),List.pairwise_cons.mpr ⟨hd,R.sublist (List.drop_sublist _ _)⟩,fun a ha b hb=>?_⟩
 obtain⟨i,hi,rfl⟩:=AX ha
 rw[AC,Cr] at hi
 rw[List.getElem_take,gl]
 have h1:=b2 i (by omega)
 rcases List.mem_cons.mp hb with e|e
 ·rw[e];exact h1
 ·exact Cg h1 (hd b e)
structure G (t:SetTable):Prop where
 r:eA t.place
 d:t.dummies=#[]
theorem G.slot {t:SetTable}(g:G t)(j:Nat):t.slot j≠.dummy:=by
 unfold SetTable.slot
 dsimp only
 rw[g.d]
 have e:SetTable.has #[] j=false:=rfl
 rw[e]
 split
 ·intro z;cases z
 ·simp
theorem uJ {t:SetTable}{j:Nat}(h:t.slot j=.empty):t.place[SetTable.below t.place j]?≠some j:=by
 unfold SetTable.slot at h
 dsimp only at h
 intro z
 rw[z] at h
 simp at h
theorem ou {t:SetTable}(g:G t)(ha:Nat->Int)(h:Int):∀ (f:Nat) (p:SetTable.Probe) (j:Nat) (d:Option Nat),SetTable.probe.go t ha h f p=some (.empty j d)->t.slot j=.empty/\d=p.dummy
 | 0,p,j,d,e=>by simp[SetTable.probe.go] at e
 | f+1,p,j,d,e=>by
  unfold SetTable.probe.go at e
  cases hs:t.slot p.j with
  | empty =>
   rw[hs] at e
   simp at e
   obtain⟨rfl,rfl⟩:=e
   exact⟨hs,rfl⟩
  | dummy=>exact absurd hs (g.slot _)
  | live i =>
   rw[hs] at e
   dsimp only at e
   split at e
   ·cases e
   ·have ih:=ou g ha h f _ j d e
    refine⟨ih.1,ih.2.trans ?_⟩
    unfold SetTable.advance
    split <;> rfl
theorem vQ {t:SetTable}(g:G t){h:Int}{sl:Nat}{wd:Bool}(e:t.freeSlot h=some (sl,wd)):t.slot sl=.empty:=by
 unfold SetTable.freeSlot at e
 split at e
 ·rename_i j dummy hp
  have:=ou g _ h _ _ j dummy hp
  have hd:dummy=none:=this.2
  subst hd
  simp at e
  rw[<-e.1]
  exact this.1
 ·cases e
theorem jP (t:SetTable)(n:Nat):G (t.standIn n):=⟨by
 show (Array.range n).toList.Pairwise (·<·)
 rw[Array.toList_range]
 exact List.pairwise_lt_range,rfl⟩
theorem xP {t:SetTable}(g:G t){j:Nat}(h:t.slot j=.empty):G (t.put j).1:=⟨vS g.r (uJ h),by
 show (if SetTable.has t.dummies j then SetTable.eraseAt t.dummies (SetTable.below t.dummies j) else t.dummies)=#[]
 rw[g.d]
 have e:SetTable.has #[] j=false:=rfl
 rw[e]
 rfl⟩
theorem ww {t:SetTable}(g:G t)(es:Array (Int×Value))(h:Int)(x:Value):G (layNew t es h x).2.1/\(layNew t es h x).2.1.led=t.led:=by
 unfold layNew
 split
 ·rename_i sl wd e
  have g':=xP g (vQ g e)
  dsimp only
  unfold SetTable.orStandIn
  split
  ·exact⟨g',rfl⟩
  ·exact⟨jP _ _,rfl⟩
 ·exact⟨jP _ _,rfl⟩
theorem mw (f:Nat->Option Nat):∀ l:List Nat,((l.filterMap fun j=>(f j).map fun k=>(j,k)).map (·.1)).Sublist l
 | []=>List.Sublist.slnil
 | a::l=>by
  rw[Ba]
  cases e:f a with
  | none=>exact(mw f l).cons _
  | some k=>exact(mw f l).cons_cons _
theorem y3 {t:SetTable}(es:Array (Int×Value))(n:Nat):G (relayAll t es n).2.1/\(relayAll t es n).2.1.led=t.led:=by
 unfold relayAll
 split
 ·rename_i t' order e
  dsimp only
  split
  ·unfold SetTable.relaid SetTable.laid at e
   cases ho:SetTable.layClean (SetTable.sizeAbove n-1) (es.map (·.1)) with
   | none=>rw[ho] at e;cases e
   | some owner =>
    rw[ho] at e
    simp only[Option.bind_eq_bind,Option.bind_some,Option.pure_def,Option.some.injEq,Prod.mk.injEq] at e
    obtain⟨rfl,_⟩:=e
    refine⟨⟨?_,rfl⟩,rfl⟩
    show (AN _).toList.Pairwise (·<·)
    exact List.pairwise_lt_range.sublist (mw (fun j=>owner.getD j none) _)
  ·exact⟨jP _ _,rfl⟩
 ·exact⟨jP _ _,rfl⟩
end Ss
namespace Ss
open PySem
abbrev eP (w:World):Bool:=w.params.followText "set-order"
def SetG (w:World)(h:Heap)(a:Addr)(es:Array (Int×Value)):Prop :=
 ∃ ep t,h.get? a=some { cls:=.type "set",dict:=none,data:=.set es ep t }/\t.fits es.size=true/\G t/\(eP w=true\/t.led=true)
theorem SetG.at {w:World}{h h':Heap}{a:Addr}{es:Array (Int×Value)}(x:SetG w h a es)(k:∀ o,h.get? a=some o->h'.get? a=some o):SetG w h' a es:=by
 obtain⟨ep,t,ho,r⟩:=x
 exact⟨ep,t,k _ ho,r⟩
theorem SetG.lt {w:World}{h:Heap}{a:Addr}{es:Array (Int×Value)}(x:SetG w h a es):a<h.objs.size:=by
 obtain⟨ep,t,ho,r⟩:=x
 exact BX ho
section
variable {prog:CP}{w:World}{K:Type}[DecidableEq K]{knd:KeyKind prog w K}{A:Around}{E:Value->CW->Prop}{s:CW}{a:Addr}{es:Array (Int×Value)}
theorem SetG.type (x:SetG w s.heap a es):s.TypeIs (.ref a) "set":=by
 obtain⟨ep,t,ho,r⟩:=x
 exact⟨_,ho,rfl⟩
theorem o3 {b:Bool}{Q:Unit->CW->Prop}(h:Q () s):wpAny (model prog w) A (match b with|true=>rule "set.scan.the-table-gave-way" | false=>pure ()) Q E s:=by
 cases b
 ·exact Ds h
 ·exact EC h
def ke (knd:KeyKind prog w K)(k:K)(key:Value)(es es':Array (Int×Value)):Prop :=
 ((∃ e∈es.toList,knd.is k e.2=true)/\es'=es)\/((∀ e∈es.toList,knd.is k e.2=false)/\es'.toList.Perm (es.toList++[(knd.hash k,key)]))
theorem qK {ep:Nat}{t:SetTable}{es':Array (Int×Value)}{t':SetTable}{Q:Unit->CW->Prop}(ho:s.heap.get? a=some { cls:=.type "set",dict:=none,data:=.set es ep t })(hz:es'.size<=CQ)
  (h:∀ h',Heap.SameBut a s.heap h'->h'.get? a=some { cls:=.type "set",dict:=none,data:=.set es' (ep+1) t' }->Q () { s with heap:=h' }):wpAny (model prog w) A (storeSet a es' t') Q E s:=by
 refine wpAny_storeSet_of ho rfl (h _ (Heap.SameBut.update _ _ _) ?_) hz
 have:=B1 (Obj.putSet es' t') ho (by rw[putSet_of es' t' rfl];rfl)
 rwa [putSet_of es' t' rfl] at this
theorem wt {k:K} {x:Value} {Q:Bool→Shared→Prop} (hk:knd.is k x=true) (hx:x.scannable=true) (hS:SetG w s.heap a es) (hel:ElemsOf knd es.toList) (hb:es.size + 1 < scanBound)
    (h:∀ b h' es',Heap.SameBut a s.heap h'→SetG w h' a es'→ke knd k x es es'→Q b { s with heap:=h' }):wpAny (model prog w) A (setAddHashed a x (knd.hash k)) Q E s:=by
  obtain ⟨ep,t,ho,hf,g,hl⟩:=hS
  unfold setAddHashed setAddHashedIn
  refine wpAny_holding (wpAny_bind (wpAny_setState_of ho rfl hf ?_))
  dsimp only
  rw [byScan_of hx (by omega) hel,if_pos rfl]
  unfold setAddByScan
  refine wpAny_bind (wpAny_bind (wpAny_rule (wpAny_bind (wpAny_setScan_of hk ho rfl hf hel ?_))))
  cases hr:List.findIdx? (fun e=>knd.is k e.2) es.toList with
  | some j =>
    obtain ⟨hj,hpj,_⟩:=List.findIdx?_eq_some_iff_getElem.mp hr
    exact wpAny_pure (wpAny_pure (h false s.heap es (Heap.SameBut.refl _ _) ⟨ep,t,ho,hf,g,hl⟩ (.inl ⟨⟨_,List.getElem_mem hj,hpj⟩,rfl⟩)))
  | none =>
    have hno:∀ e ∈ es.toList,knd.is k e.2=false:=List.findIdx?_eq_none_iff.mp hr
    dsimp only
    have p1:=layNew_perm t es (knd.hash k) x
    have f1:=layNew_fits t es (knd.hash k) x
    have g1:=ww g es (knd.hash k) x
    generalize layNew t es (knd.hash k) x=L at p1 f1 g1 ⊢
    obtain ⟨es1,t1,wd,gv⟩:=L
    dsimp only at p1 f1 g1 ⊢
    rw [Array.toList_push] at p1
    have z1:es1.size=es.size + 1:=by have:=p1.length_eq; simpa using this
    refine wpAny_bind (o3 ?_)
    have tail:∀ t2:SetTable,t2.fits es1.size=true→G t2→t2.led=t.led→wpAny (model prog w) A (do
        storeSet a es1 t2
        if (!wd && t2.tooFull)=true then do
            (match (relayAll t2 es1 (SetTable.grown es1.size)).2.2 with | true=>rule "set.scan.the-table-gave-way" | false=>pure ())
            storeSet a (relayAll t2 es1 (SetTable.grown es1.size)).1 (relayAll t2 es1 (SetTable.grown es1.size)).2.1
            pure (some true)
          else pure (some true)) (fun r s'=>r=some true∧∃ h' es',s'={ s with heap:=h' }∧Heap.SameBut a s.heap h'∧SetG w h' a es'∧ke knd k x es es') E s:=by
      intro t2 f2 g2 l2
      refine wpAny_bind (qK ho (fits_of_scanBound (by omega)) fun h1 b1 o1=>?_)
      split
      · have p2:=relayAll_perm t2 es1 (SetTable.grown es1.size)
        have f3:=relayAll_fits t2 es1 (SetTable.grown es1.size)
        have g3:=y3 (t:=t2) es1 (SetTable.grown es1.size)
        generalize relayAll t2 es1 (SetTable.grown es1.size)=M at p2 f3 g3 ⊢
        obtain ⟨es2,t3,gv2⟩:=M
        dsimp only at p2 f3 g3 ⊢
        have z2:es2.size=es1.size:=by have:=p2.length_eq; simpa using this
        refine wpAny_bind (o3 (wpAny_bind (qK (s:={ s with heap:=h1 }) o1 (fits_of_scanBound (by omega)) fun h2 b2 o2=>?_)))
        exact wpAny_pure ⟨rfl,h2,es2,rfl,b1.trans b2,⟨_,t3,o2,f3,g3.1,by rw [g3.2,l2]; exact hl⟩,.inr ⟨hno,p2.trans p1⟩⟩
      · exact wpAny_pure ⟨rfl,h1,es1,rfl,b1,⟨_,t2,o1,f2,g2,by rw [l2]; exact hl⟩,.inr ⟨hno,p1⟩⟩
    have fin:∀ (r:Option Bool) (s':Shared),(r=some true∧∃ h' es',s'={ s with heap:=h' }∧Heap.SameBut a s.heap h'∧SetG w h' a es'∧ke knd k x es es') →
        wpAny (model prog w) A (match r with | some added=>pure added | none=>setAddHashedIn a x (knd.hash k) 99999) Q E s':=by
      rintro r s' ⟨rfl,h',es',rfl,b,S,ad⟩
      exact wpAny_pure (h true h' es' b S ad)
    split
    · refine wpAny_bind ?_
      rw [hashByValue_scannable 8 hx]
      refine wpAny_pure (wpAny_mono (tail _ ?_ ?_ ?_) (fun r s' z=>fin r s' z) fun _ _ e=>e)
      · split
        · exact f1
        · exact SetTable.fits_plain_off f1
      · split
        · exact g1.1
        · exact ⟨g1.1.r,g1.1.d⟩
      · split <;> exact g1.2
    · refine wpAny_bind (wpAny_pure ?_)
      rw [if_pos rfl]
      exact wpAny_mono (tail _ f1 g1.1 g1.2) (fun r s' z=>fin r s' z) fun _ _ e=>e
theorem add {k:K}{x:Value}{Q:Value->CW->Prop}(hk:knd.is k x=true)(hx:x.scannable=true)(hS:SetG w s.heap a es)(hel:ElemsOf knd es.toList)(hb:es.size+1<scanBound)
  (h:∀ h' es',Heap.SameBut a s.heap h'->SetG w h' a es'->ke knd k x es es'->Q .none { s with heap:=h',toks:=s.toks+1 }):wpAny (model prog w) A (call (.builtin "set.add") [.ref a,x]) Q E s:=by
 refine DP F.slot_set_add hS.type F.entry_set_add ?_ (F.args_set_add_2 _ _)
 unfold Builtin.«set.add» Builtin.Frozenset.oneOther
 simp only[List.isEmpty_nil,bind_assoc]
 unfold Builtin.Frozenset.addrOf setAdd
 refine Df (Ds (Df (Ds (Df (Dg (Df (knd.pyHash hk ?_)))))))
 exact wt (s:={ s with toks:=s.toks+1 }) hk hx hS hel hb fun b h' es' sb S' ad=>Ds ⟨_,rfl,h h' es' sb S' ad⟩
theorem new {Q:Value->CW->Prop}(h:∀ o:Obj,SetG w (s.heap.push o) s.heap.objs.size #[]->Q (.ref s.heap.objs.size) { s with heap:=s.heap.push o }):wpAny (model prog w) A (newSet (.type "set")) Q E s:=by
 unfold newSet EV
 refine Df (Df (EW (Ds ?_)))
 dsimp only
 simp only[newObj]
 refine Df (wpAny_alloc (Ds (h _ ⟨0,_,BZ _ rfl,rfl,⟨List.Pairwise.nil,rfl⟩,?_⟩)))
 show eP w=true\/(!(eP w))=true
 cases eP w
 ·exact .inr rfl
 ·exact .inl rfl
end
end Ss
namespace Ss
open PySem
theorem oh:∃ (dr:Array (Int×Value)->SetTable->Bool) (ml:Array (Int×Value)->SetTable->Sem Unit),(∀ es t,ml es t=(do if !t.led && !es.isEmpty then EX "set:maker-not-led"))/\(∀ a,setDrawn a=(do
 let (es,_,t) <-setState a
 let b <-EV
 return !b && dr es t))/\(∀ a sl gv e0,EY a sl gv e0=(do
 let (es,ep,t) <-setState a
 if <-EV then
  if ep != e0 then EX "set_iterator.__next__:elements-changed"
  return ((<-setWalk a)[gv]?).map fun e=>(e.2,sl)
 if dr es t then EX "set_iterator.__next__:the-table-is-plain-no-more"
 ml es t
 let i:=SetTable.below t.place sl
 return match es[i]?,t.place[i]? with
  | some (_,x),some j=>some (x,j+1)
  | _,_=>none)):=⟨_,_,fun _ _=>rfl,fun _=>rfl,fun _ _ _ _=>rfl⟩
theorem mX {α:Type}:∀ {l:List α}{i:Nat} (h:i<l.length),(l[i]::l.eraseIdx i).Perm l
 | a::l,0,h=>List.Perm.refl _
 | a::l,i+1,h=>by
  have ih:=mX (l:=l) (i:=i) (by simpa using h)
  simp only[List.getElem_cons_succ,List.eraseIdx_cons_succ]
  exact(List.Perm.swap _ _ _).trans (ih.cons _)
theorem sO {α:Type}(nx:Nat->Nat):∀ (f k:Nat) (l:List α) (out:Array α),f=l.length->(pickOrder.go nx f k l out).toList.Perm (out.toList++l)
 | 0,k,l,out,h=>by
  have e:l=[]:=A7 h.symm
  subst e
  simp[pickOrder.go]
 | f+1,k,l,out,h=>by
  have hl:nx k % l.length<l.length:=Nat.mod_lt _ (by omega)
  unfold pickOrder.go
  rw[As hl]
  dsimp only
  have ih:=sO nx f (k+1) (l.eraseIdx (nx k % l.length)) (out.push l[nx k % l.length]) (by rw[BU];rw[if_pos hl];omega)
  refine ih.trans ?_
  rw[Array.toList_push,Bz]
  exact(mX hl).append_left _
theorem eY {α:Type}(nx:Nat->Nat)(xs:Array α):(pickOrder nx xs).toList.Perm xs.toList:=by
 have:=sO nx xs.size 0 xs.toList #[] (by simp)
 unfold pickOrder
 simpa using this
section
variable {prog:CP}{w:World}{A:Around}{E:Value->CW->Prop}{s:CW}
theorem Al {src:Source}{n:Nat}{Q:Nat->CW->Prop}(hn:n≠0)(h:∀ k d,k<n->Q k { s with drawn:=d }):wpAny (model prog w) A (choose src n) Q E s:=fun Γ p hΓ=>by
 show Sem.wp _ _ (.choose src n .pure) _ _ _ _
 rw[Sem.wp_choose]
 exact⟨hn,h _ _ (Nat.mod_lt _ (Nat.pos_of_ne_zero hn))⟩
theorem sS {α:Type}:∀ (n:Nat) (xs:List α) (s:CW) (Q:List α->CW->Prop),n=xs.length->(∀ ys d,ys.Perm xs->Q ys { s with drawn:=d })->wpAny (model prog w) A (drawOrder n xs) Q E s
 | 0,xs,s,Q,hn,h=>by
  have e:xs=[]:=A7 hn.symm
  subst e
  exact Ds (h [] s.drawn (List.Perm.refl _))
 | n+1,[],s,Q,hn,h=>by cases hn
 | n+1,x::xs,s,Q,hn,h=>by
  unfold drawOrder
  refine Df (Al (by simp) fun i d hi=>?_)
  rw[As hi]
  dsimp only
  refine Df (sS n _ _ _ (by rw[BU,if_pos hi];simp at hn ⊢;omega) fun ys d' hp=>Ds (h _ d' ?_))
  exact(hp.cons _).trans (mX hi)
end
end Ss
namespace Ss
open PySem PyProof.Rows
namespace SF
theorem owner:Manifest.owners.lookup (String.ofList ['r','o','t','a','r','e','t','i','_','t','e','s'].reverse)=some Manifest.sig_set_iterator:=by kernel_rfl
theorem next:Slot "set_iterator" "__next__" "set_iterator.__next__" :=
 .of (owner:="set_iterator") (n:="__next__") (by rw[typeLookup_type,EZ];kernel_rfl) (by decide +kernel) (by decide +kernel) (by decide +kernel)
  (by first|exact .inl (by decide +kernel)|exact .inr (by decide +kernel)) (by rw[E1];kernel_rfl)
theorem entry_next:entryFor table "set_iterator.__next__"=some Builtin.«set_iterator.__next__»:=entryFor_of_tree (by kernel_rfl)
theorem args_next (a:Value):argsOk "set_iterator.__next__" ⟨[a],[]⟩:=by
 unfold argsOk;rw[signature?_of (id:="set_iterator.__next__") (n:=['_','_','t','x','e','n','_','_']) (o:=['r','o','t','a','r','e','t','i','_','t','e','s']) (by kernel_rfl) owner];kernel_rfl
theorem iter:Slot "set_iterator" "__iter__" "set_iterator.__iter__" :=
 .of (owner:="set_iterator") (n:="__iter__") (by rw[typeLookup_type,EZ];kernel_rfl) (by decide +kernel) (by decide +kernel) (by decide +kernel)
  (by first|exact .inl (by decide +kernel)|exact .inr (by decide +kernel)) (by rw[E1];kernel_rfl)
theorem args_iter (a:Value):argsOk "set_iterator.__iter__" ⟨[a],[]⟩:=by
 unfold argsOk;rw[signature?_of (id:="set_iterator.__iter__") (n:=['_','_','r','e','t','i','_','_']) (o:=['r','o','t','a','r','e','t','i','_','t','e','s']) (by kernel_rfl) owner];kernel_rfl
theorem entry_iter:entryFor table "set_iterator.__iter__"=some Builtin.«dict_keyiterator.__iter__» :=
 entryFor_alias (id':="dict_keyiterator.__iter__") (by kernel_rfl) (by first|rfl|decide +kernel|(unfold String.splitOn;simp +decide[String.splitOnAux])) (by decide +kernel) (by kernel_rfl)
theorem entry_set:entryFor table "set.__iter__"=some Builtin.«frozenset.__iter__» :=
 entryFor_alias (id':="frozenset.__iter__") (by kernel_rfl) rfl (by decide +kernel) (by kernel_rfl)
end SF
end Ss
namespace Ss
open PySem PyProof.Rows
abbrev Rc (fst:Value)(i:Nat)(a:Addr)(n ep:Nat):Obj:={ cls:=.type "set_iterator",dict:=none,data:=.fields #[fst,E2 i,.ref a,E2 n,E2 ep] }
abbrev So (es:Array (Int×Value))(ep:Nat)(t:SetTable):Obj:={ cls:=.type "set",dict:=none,data:=.set es ep t }
section
variable {prog:CP}{w:World}{A:Around}{E:Value->CW->Prop}{s:CW}{it a:Addr}{es:Array (Int×Value)}{ep:Nat}{t:SetTable}
theorem rM {fst:Value}{i n:Nat}{Q:Value->CW->Prop}(hit:s.heap.get? it=some (Rc fst i a n ep))(h:Q (.ref it) s):wpAny (model prog w) A (Dk (.ref it)) Q E s:=by
 have hT:s.TypeIs (.ref it) "set_iterator":=⟨_,hit,rfl⟩
 refine E3 hT SF.iter (DP SF.iter hT SF.entry_iter ?_ (SF.args_iter _))
 show wpAny _ _ (ret (.ref it)) _ _ s
 exact Ds ⟨_,rfl,"set_iterator",_,hT,SF.next.lookup,h⟩
theorem xJ {sl i nx:Nat}{x:Value}{Q:Option Value->CW->Prop}(hit:s.heap.get? it=some (Rc (E2 sl) i a es.size ep))(hs:s.heap.get? a=some (So es ep t))(hf:t.fits es.size=true)
  (hsn:∀ (A':Around) (E':Value->CW->Prop) (Q':Option (Value×Nat)->CW->Prop),Q' (some (x,nx)) s->wpAny (model prog w) A' (EY a sl i ep) Q' E' s)
  (hQ:∀ h',h'.get? it=some (Rc (E2 nx) (i+1) a es.size ep)->Heap.SameBut it s.heap h'->Q (some x) { s with heap:=h' }):wpAny (model prog w) A (Eh (.ref it)) Q E s:=by
 have hT:s.TypeIs (.ref it) "set_iterator":=⟨_,hit,rfl⟩
 unfold Eh
 refine Df (ED (DO (name:=Str.ofString "__next__") hT SF.next (DP SF.next hT SF.entry_next ?_ (SF.args_next _))))
 unfold Builtin.«set_iterator.__next__»
 refine Df (E4 (a:=(Value.ref it,[])) rfl ?_)
 refine Df (E6 hit rfl ?_)
 dsimp only [E2]
 refine Df (E7 hs rfl hf ?_)
 rw[if_neg (by simp)]
 refine Df ?_
 simp only[Cy]
 refine hsn _ _ _ ?_
 dsimp only
 refine Df (E8 hit (by simp) fun h1 o1 b1=>?_)
 refine Df (E8 (s:={ s with heap:=h1 }) o1 (by simp) fun h2 o2 b2=>?_)
 exact Ds ⟨x,rfl,Ds (hQ h2 (by simpa [Rc,E2] using o2) (b1.trans b2))⟩
theorem xA {sl i:Nat}{Q:Option Value->CW->Prop}(hh:A.handled=none)(hit:s.heap.get? it=some (Rc (E2 sl) i a es.size ep))(hs:s.heap.get? a=some (So es ep t))(hf:t.fits es.size=true)
  (hsn:∀ (A':Around) (E':Value->CW->Prop) (Q':Option (Value×Nat)->CW->Prop),Q' none s->wpAny (model prog w) A' (EY a sl i ep) Q' E' s)
  (hQ:∀ h',Heap.ExtBut it s.heap h'->Q none { s with heap:=h' }):wpAny (model prog w) A (Eh (.ref it)) Q E s:=by
 have hT:s.TypeIs (.ref it) "set_iterator":=⟨_,hit,rfl⟩
 unfold Eh
 refine Df (ED (DO (name:=Str.ofString "__next__") hT SF.next (DP SF.next hT SF.entry_next ?_ (SF.args_next _))))
 unfold Builtin.«set_iterator.__next__»
 refine Df (E4 (a:=(Value.ref it,[])) rfl ?_)
 refine Df (E6 hit rfl ?_)
 dsimp only [E2]
 refine Df (E7 hs rfl hf ?_)
 rw[if_neg (by simp)]
 refine Df ?_
 simp only[Cy]
 refine hsn _ _ _ ?_
 dsimp only
 refine Df (E8 hit (by simp) fun h1 o1 b1=>?_)
 refine Df ?_
 simp only[newExc,newTuple]
 refine Df (DR ?_ (by size_fits))
 refine Df (m:=E9 _ _) (E4 (a:=Value.none) (by first|rfl|(simp only[E9];rfl)) ?_)
 refine DR ?_ (by size_fits)
 simp only[raiseNew]
 refine Df (Fa ?_)
 first|rw[show A.in1.handled=none from hh]|rw[hh]
 refine Df (Ds (wpAny_throw ?_))
 refine Df (Fb (T:="StopIteration") (b:=true) ⟨_,BZ _ rfl,rfl⟩ Fc ?_)
 refine Ds (hQ _ ?_)
 exact Heap.ExtBut.push (Heap.ExtBut.push (fun b o hb e=>(b1.2 b hb).trans e) _) _
end
end Ss
namespace Ss
open PySem PyProof.Rows
noncomputable def dr:Array (Int×Value)->SetTable->Bool:=oh.choose
theorem lU:∃ (ml:Array (Int×Value)->SetTable->Sem Unit),(∀ es t,ml es t=(do if !t.led && !es.isEmpty then EX "set:maker-not-led"))/\(∀ a,setDrawn a=(do
 let (es,_,t) <-setState a
 let b <-EV
 return !b && dr es t))/\(∀ a sl gv e0,EY a sl gv e0=(do
 let (es,ep,t) <-setState a
 if <-EV then
  if ep != e0 then EX "set_iterator.__next__:elements-changed"
  return ((<-setWalk a)[gv]?).map fun e=>(e.2,sl)
 if dr es t then EX "set_iterator.__next__:the-table-is-plain-no-more"
 ml es t
 let i:=SetTable.below t.place sl
 return match es[i]?,t.place[i]? with
  | some (_,x),some j=>some (x,j+1)
  | _,_=>none)):=oh.choose_spec
def dF (t:SetTable)(i:Nat):Nat:=if i=0 then 0 else t.place.getD (i-1) 0+1
theorem zd {t:SetTable}(R:eA t.place){i:Nat}(hi:i<=t.place.size):SetTable.below t.place (dF t i)=i:=by
 obtain⟨b1,b2,b3⟩:=pO R (dF t i)
 generalize SetTable.below t.place (dF t i)=p at *
 unfold dF at b2 b3
 by_cases h0:i=0
 ·subst h0
  rcases Cn p with z|z
  ·exact z
  ·have:=b2 0 z;simp at this
 ·simp only[h0,if_false] at b2 b3
  rcases Nat.lt_trichotomy p i with z|z|z
  ·have h1:=b3 p (B6 _) (by omega)
   rcases Cb p (i-1) with y|y
   ·have:=R.lt y (by omega);omega
   ·rw[show p=i-1 by omega] at h1;omega
  ·exact z
  ·have h1:=b2 i z
   have:=R.lt (i:=i-1) (k:=i) (by omega) (by omega)
   omega
section
variable {prog:CP}{w:World}{A:Around}{E:Value->CW->Prop}{s:CW}{it a:Addr}{es:Array (Int×Value)}{ep:Nat}{t:SetTable}
theorem j6 {Q:Bool->CW->Prop}(h:Q (eP w) s):wpAny (model prog w) A EV Q E s:=Df (EW (Ds h))
theorem yx {i:Nat}{gv:Nat}(hb:eP w=false)(hd:dr es t=false)(hs:s.heap.get? a=some (So es ep t))(hf:t.fits es.size=true)(g:G t)(hl:t.led=true)(hi:i<=es.size){Q:Option (Value×Nat)->CW->Prop}
  (h:Q ((es[i]?).map fun e=>(e.2,dF t (i+1))) s):wpAny (model prog w) A (EY a (dF t i) gv ep) Q E s:=by
 have hz:t.place.size=es.size:=by simp[SetTable.fits] at hf;exact hf.1
 obtain⟨ml,h1,h2,h3⟩:=lU
 rw[h3]
 refine Df (Fd hs rfl hf (Df (j6 ?_)))
 rw[hb,hd,h1,hl]
 simp only[Bool.false_eq_true,if_false,Bool.not_true,Bool.false_and]
 refine Df (Ds ?_)
 rw[zd g.r (by omega)]
 refine Ds ?_
 have e:(match es[i]?,t.place[i]? with|some (_,x),some j=>some (x,j+1)|_,_=>none)=(es[i]?).map fun e=>(e.2,dF t (i+1)):=by
  rcases Cb i es.size with z|z
  ·rw[getElem?_pos es i z,qx (by omega)]
   simp[dF]
  ·rw[Cu z]
   rfl
 rw[e]
 exact h
theorem yt {i:Nat}(hb:eP w=true)(hs:s.heap.get? a=some (So es ep t))(hf:t.fits es.size=true){Q:Option (Value×Nat)->CW->Prop}
  (h:Q (((pickOrder (w.params.setOrder a ep) es)[i]?).map fun e=>(e.2,0)) s):wpAny (model prog w) A (EY a 0 i ep) Q E s:=by
 obtain⟨ml,h1,h2,h3⟩:=lU
 rw[h3]
 refine Df (Fd hs rfl hf (Df (j6 ?_)))
 rw[hb]
 simp only[bne_self_eq_false,Bool.false_eq_true,if_false,if_true]
 unfold setWalk
 refine Df (Df (Fd hs rfl hf (Df (j6 ?_))))
 rw[hb]
 simp only[if_true]
 exact Df (EW (Ds (Ds h)))
theorem vU {us:List Value} {fst:Nat→Nat} (hne:a≠it) (hl:us.length=es.size) (hf:t.fits es.size=true)
    (hn:∀ (i:Nat) (s:Shared) (A':Around) (E':Value→Shared→Prop) (Q':Option (Value × Nat)→Shared→Prop),i≤es.size→s.heap.get? a=some (So es ep t)→Q' ((us[i]?).map fun x=>(x,fst (i + 1))) s→wpAny (model prog w) A' (setNext a (fst i) i ep) Q' E' s) (hh:A.handled=none) :
    Walks prog w A it [it,a] [it] us.length (fun i v=>us[i]?=some v) (fun i h=>h.get? it=some (Rc (rawInt (fst i)) i a es.size ep)∧h.get? a=some (So es ep t)) where
  sub:=fun b hb=>by simp at hb; simp [hb]
  frame:=fun i h h' st k=>⟨k it (by simp) _ st.1,k a (by simp) _ st.2⟩
  item:=fun i s Q E hi st hQ=>by
    refine xJ (x:=us[i]) (nx:=fst (i + 1)) st.1 st.2 hf (fun A' E' Q' q=>hn i s A' E' Q' (by omega) st.2 (by rw [List.getElem?_eq_getElem hi]; exact q)) fun h' o b=>?_
    exact hQ _ h' s.toks (List.getElem?_eq_getElem hi) ⟨o,(b.2 a hne).trans st.2⟩ fun c o' hc e=>(b.2 c (by simpa using hc)).trans e
  done:=fun s Q E st hQ=>by
    refine xA hh st.1 st.2 hf (fun A' E' Q' q=>hn _ s A' E' Q' (by omega) st.2 (by rw [List.getElem?_eq_none (Nat.le_refl _)]; exact q)) fun h' b=>?_
    exact hQ h' s.toks fun c o' hc e=>b c o' (by simpa using hc) e
  self:=fun i s Q E st h=>rM st.1 h
theorem zt {tp:Addr}{pl:List Nat}{i p:Nat}{x:Int×Value}{Q:Option Value->CW->Prop}(hit:s.heap.get? it=some (Rc (.ref tp) i a es.size ep))(hs:s.heap.get? a=some (So es ep t))(hf:t.fits es.size=true)
  (ht:s.heap.get? tp=some (Ez "tuple" (pl.map fun i:Nat=>E2 i).toArray 0)) (hp:pl[i]?=some p) (hx:es[p]?=some x)
  (hQ:∀ h',h'.get? it=some (Rc (.ref tp) (i+1) a es.size ep)->Heap.SameBut it s.heap h'->Q (some x.2) { s with heap:=h' }):wpAny (model prog w) A (Eh (.ref it)) Q E s:=by
 have hT:s.TypeIs (.ref it) "set_iterator":=⟨_,hit,rfl⟩
 unfold Eh
 refine Df (ED (DO (name:=Str.ofString "__next__") hT SF.next (DP SF.next hT SF.entry_next ?_ (SF.args_next _))))
 unfold Builtin.«set_iterator.__next__»
 refine Df (E4 (a:=(Value.ref it,[])) rfl (Df (E6 hit rfl ?_)))
 dsimp only [E2]
 refine Df (E7 hs rfl hf ?_)
 rw[if_neg (by simp)]
 refine Df (wpAny_seqItems ht rfl ?_)
 simp only[Cy]
 have e:(pl.map fun i:Nat=>E2 i).toArray[i]?=some (.int (p:Int) 0):=by rw[Bx,AE,hp];rfl
 rw[e]
 dsimp only
 unfold setNextDrawn
 refine Df (Df (Fd hs rfl hf ?_))
 simp only[Cy,bne_self_eq_false,Bool.false_eq_true,if_false]
 rw[hx]
 refine Ds (Df (E8 hit (by simp) fun h1 o1 b1=>?_))
 exact Ds ⟨x.2,rfl,Ds (hQ h1 (by simpa [Rc,E2] using o1) b1)⟩
theorem vV {tp:Addr}{pl:List Nat}{i:Nat}{Q:Option Value->CW->Prop}(hh:A.handled=none)(hit:s.heap.get? it=some (Rc (.ref tp) i a es.size ep))(hs:s.heap.get? a=some (So es ep t))(hf:t.fits es.size=true)
  (ht:s.heap.get? tp=some (Ez "tuple" (pl.map fun i:Nat=>E2 i).toArray 0)) (hp:pl.length<=i) (hQ:∀ h',Heap.ExtBut it s.heap h'->Q none { s with heap:=h' }):wpAny (model prog w) A (Eh (.ref it)) Q E s:=by
 have hT:s.TypeIs (.ref it) "set_iterator":=⟨_,hit,rfl⟩
 unfold Eh
 refine Df (ED (DO (name:=Str.ofString "__next__") hT SF.next (DP SF.next hT SF.entry_next ?_ (SF.args_next _))))
 unfold Builtin.«set_iterator.__next__»
 refine Df (E4 (a:=(Value.ref it,[])) rfl (Df (E6 hit rfl ?_)))
 dsimp only [E2]
 refine Df (E7 hs rfl hf ?_)
 rw[if_neg (by simp)]
 refine Df (wpAny_seqItems ht rfl ?_)
 simp only[Cy]
 have e:(pl.map fun i:Nat=>E2 i).toArray[i]?=none:=by rw[Bx,AE,BC hp];rfl
 rw[e]
 dsimp only
 refine Df (E8 hit (by simp) fun h1 o1 b1=>?_)
 refine Df (E8 (s:={ s with heap:=h1 }) o1 (by simp) fun h2 o2 b2=>?_)
 refine Df ?_
 simp only[newExc,newTuple]
 refine Df (DR ?_ (by size_fits))
 refine Df (m:=E9 _ _) (E4 (a:=Value.none) (by first|rfl|(simp only[E9];rfl)) ?_)
 refine DR ?_ (by size_fits)
 simp only[raiseNew]
 refine Df (Fa ?_)
 first|rw[show A.in1.handled=none from hh]|rw[hh]
 refine Df (Ds (wpAny_throw ?_))
 refine Df (Fb (T:="StopIteration") (b:=true) ⟨_,BZ _ rfl,rfl⟩ Fc ?_)
 refine Ds (hQ _ ?_)
 exact Heap.ExtBut.push (Heap.ExtBut.push (fun b o hb e=>((b1.trans b2).2 b hb).trans e) _) _
theorem uO {tp:Addr}{pl:List Nat}(hne:a≠it)(hnt:tp≠it)(hp:pl.Perm (AG es.size))(hf:t.fits es.size=true)(hh:A.handled=none) :
  Walks prog w A it [it,a,tp] [it] pl.length (fun i v=>(pl.map fun p=>(es.getD p (0,.none)).2)[i]?=some v) (fun i h=>h.get? it=some (Rc (.ref tp) i a es.size ep)/\h.get? a=some (So es ep t)/\h.get? tp=some (Ez "tuple" (pl.map fun i:Nat=>E2 i).toArray 0)) where
 sub:=fun b hb=>by simp at hb;simp[hb]
 frame:=fun i h h' st k=>⟨k it (by simp) _ st.1,k a (by simp) _ st.2.1,k tp (by simp) _ st.2.2⟩
 item:=fun i s Q E hi st hQ=>by
  have hm:pl[i]<es.size:=List.mem_range.mp (hp.mem_iff.mp (AZ hi))
  refine zt (x:=es[pl[i]]) st.1 st.2.1 hf st.2.2 (As hi) (getElem?_pos es _ hm) fun h' o b=>?_
  refine hQ _ h' s.toks ?_ ⟨o,(b.2 a hne).trans st.2.1,(b.2 tp hnt).trans st.2.2⟩ fun c o' hc e=>(b.2 c (by simpa using hc)).trans e
  rw[AE,As hi]
  simp[Cs,hm]
 done:=fun s Q E st hQ=>vV hh st.1 st.2.1 hf st.2.2 (B6 _) fun h' b=>hQ h' s.toks fun c o' hc e=>b c o' (by simpa using hc) e
 self:=fun i s Q E st h=>rM st.1 h
end
end Ss
namespace Ss
open PySem PyProof.Rows
section
variable {prog:CP}{w:World}{A:Around}{E:Value->CW->Prop}{s:CW}{a:Addr}{es:Array (Int×Value)}
theorem yp {Q:Value->CW->Prop}(hS:SetG w s.heap a es)(hz:es.size<=4096)
  (h:∀ (it:Addr) (h1:Heap) d (us:List Value) (fp:List Addr) (St:Nat->Heap->Prop),s.heap.objs.size<=it->(∀ b o,s.heap.get? b=some o->h1.get? b=some o)->us.Perm (es.toList.map (·.2))->(∀ b∈fp,b=a\/s.heap.objs.size<=b) ->
   (∀ A':Around,A'.handled=none->Walks prog w A' it fp [it] us.length (fun i v=>us[i]?=some v) St)->St 0 h1->Q (.ref it) { s with heap:=h1,drawn:=d }):wpAny (model prog w) A (Dk (.ref a)) Q E s:=by
 have hT:=hS.type
 have hlt:=hS.lt
 obtain⟨ep,t,ho,hf,g,hl⟩:=hS
 obtain⟨ml,h1,h2,h3⟩:=lU
 refine E3 hT F.slot_set_iter (DP F.slot_set_iter hT SF.entry_set ?_ (F.args_set_iter_1 _))
 unfold Builtin.«frozenset.__iter__» Builtin.Frozenset.slot0
 refine Df (Df (E4 (a:=(Value.ref a,[])) rfl ?_))
 unfold Builtin.Frozenset.addrOf Builtin.Frozenset.sizeOf
 refine Ds (Df (Df (E7 ho rfl hf (Ds ?_))))
 rw[h2]
 refine Df (Df (Fd ho rfl hf (Df (j6 (Ds ?_)))))
 have last:∀ (us:List Value) (fst:Nat->Nat),fst 0=0->us.Perm (es.toList.map (·.2)) ->
   (∀ (i:Nat) (s:CW) (A':Around) (E':Value->CW->Prop) (Q':Option (Value×Nat)->CW->Prop),i<=es.size->s.heap.get? a=some (So es ep t)->Q' ((us[i]?).map fun x=>(x,fst (i+1))) s->wpAny (model prog w) A' (EY a (fst i) i ep) Q' E' s) ->
   Q (.ref s.heap.objs.size) { s with heap:=s.heap.push (Rc (E2 0) 0 a es.size ep) }:=fun us fst h0 hp hn=>by
  have hul:us.length=es.size:=by have:=hp.length_eq;simpa using this
  refine h s.heap.objs.size _ s.drawn us [s.heap.objs.size,a] _ (B6 _) (fun b o e=>BY _ e) hp (fun b hb=>?_) (fun A' hh'=>vU (t:=t) (ep:=ep) (fst:=fst) (B7 hlt) hul hf hn hh') ⟨?_,BY _ ho⟩
  ·simp at hb
   rcases hb with e|e
   ·exact .inr (by rw[e];exact B6 _)
   ·exact .inl e
  ·rw[h0];exact BZ _ rfl
 by_cases hb:eP w=true
 ·rw[hb]
  simp only[Bool.not_true,Bool.false_and,Bool.false_eq_true,if_false]
  refine Df (Ds (Df (Fe ho rfl hf (Df ?_))))
  unfold newFields
  refine DR (Ds ⟨_,rfl,"set_iterator",_,⟨_,BZ _ rfl,rfl⟩,SF.next.lookup,?_⟩)
  refine last ((pickOrder (w.params.setOrder a ep) es).toList.map (·.2)) (fun _=>0) rfl ((eY _ _).map _) fun i s' A' E' Q' hi hs q=>yt hb hs hf ?_
  have e:(((pickOrder (w.params.setOrder a ep) es).toList.map (·.2))[i]?).map (fun x=>(x,0))=((pickOrder (w.params.setOrder a ep) es)[i]?).map fun e=>(e.2,0):=by
   rw[AE,Ct]
   cases (pickOrder (w.params.setOrder a ep) es)[i]? <;> rfl
  rw[<-e]
  exact q
 ·have hb':eP w=false:=by simpa using hb
  have hled:t.led=true:=hl.resolve_left hb
  rw[hb']
  by_cases hd:dr es t=true
  ·rw[hd]
   simp only[Bool.not_false,Bool.true_and,if_true]
   refine Df (sS es.size (AG es.size) s _ (by simp) fun pl d hp=>?_)
   have hpl:pl.length=es.size:=by have:=hp.length_eq;simpa using this
   refine Df (wpAny_newTuple ?_ (by rw[Ar,hpl,Dq];omega))
   have ho2:(s.heap.push (Ez "tuple" (pl.map fun i:Nat=>E2 i).toArray 0)).get? a=some (So es ep t):=BY _ ho
   refine Df (Fe (s:={ s with heap:=s.heap.push (Ez "tuple" (pl.map fun i:Nat=>E2 i).toArray 0),drawn:=d }) ho2 rfl hf (Df ?_))
   unfold newFields
   refine DR (Ds ⟨_,rfl,"set_iterator",_,⟨_,BZ _ rfl,rfl⟩,SF.next.lookup,?_⟩)
   have z1:(s.heap.push (Ez "tuple" (pl.map fun i:Nat=>E2 i).toArray 0)).objs.size=s.heap.objs.size+1:=EH _ _
   have up:(pl.map fun p=>(es.getD p (0,.none)).2).Perm (es.toList.map (·.2)):=by
    have e:es.toList.map (·.2)=(AG es.size).map fun p=>(es.getD p (0,.none)).2:=by
     refine Bv (by simp) fun i h1 h2=>?_
     have hi:i<es.size:=by simpa using h1
     simp[Cs,hi]
    rw[e]
    exact hp.map _
   refine h _ _ d (pl.map fun p=>(es.getD p (0,.none)).2) [s.heap.objs.size+1,a,s.heap.objs.size] (fun i h=>h.get? (s.heap.objs.size+1)=some (Rc (.ref s.heap.objs.size) i a es.size ep)/\h.get? a=some (So es ep t)/\h.get? s.heap.objs.size=some (Ez "tuple" (pl.map fun i:Nat=>E2 i).toArray 0)) (by rw[z1];exact Cd _) (fun b o e=>BY _ (BY _ e)) up (fun b hb=>?_) (fun A' hh'=>?_) ?_
   ·simp at hb
    rcases hb with e|e|e
    ·exact .inr (by rw[e];exact Cd _)
    ·exact .inl e
    ·exact .inr (by rw[e];exact B6 _)
   ·have W:=uO (prog:=prog) (w:=w) (it:=s.heap.objs.size+1) (t:=t) (ep:=ep) (tp:=s.heap.objs.size) (B7 (Cf hlt)) (B7 (Ci _)) hp hf hh'
    rw[Ar,z1]
    exact W
   ·refine⟨?_,BY _ ho2,BY _ (BZ _ rfl)⟩
    rw[<-z1]
    exact BZ _ rfl
  ·have hd':dr es t=false:=by simpa using hd
   rw[hd']
   simp only[Bool.and_false,Bool.false_eq_true,if_false]
   refine Df (Ds (Df (Fe ho rfl hf (Df ?_))))
   unfold newFields
   refine DR (Ds ⟨_,rfl,"set_iterator",_,⟨_,BZ _ rfl,rfl⟩,SF.next.lookup,?_⟩)
   refine last (es.toList.map (·.2)) (dF t) rfl (List.Perm.refl _) fun i s' A' E' Q' hi hs q=>yx hb' hd' hs hf g hled hi ?_
   have e:((es.toList.map (·.2))[i]?).map (fun x=>(x,dF t (i+1)))=(es[i]?).map fun e=>(e.2,dF t (i+1)):=by
    rw[AE,Ct]
    cases es[i]? <;> rfl
   rw[<-e]
   exact q
theorem vK {Q:Bool->CW->Prop}(hT:s.TypeIs (.ref a) "set")(h:Q false s):wpAny (model prog w) A (Builtin.List.listLengthHint (.ref a)) Q E s:=by
 unfold Builtin.List.listLengthHint
 refine Df (wpAny_specialOf hT PySem.F.slot_set_len.lookup ?_)
 generalize hid:("set.__len__" : String)=id0
 wp_delta
 rw[show splitId id0=some ("set","__len__") from by subst hid;decide +kernel]
 subst hid
 refine Df (Fb (T:="set") (b:=true) hT (by rw[E1];kernel_rfl) ?_)
 refine Ff (fun hab=>absurd hab (by decide)) (fun _=>?_)
 refine Ff (fun _=>?_) (fun hab=>absurd (by decide +kernel) hab)
 exact Df (DQ hT (Ds h))
theorem collect_set {R:List Value->CW->Prop}(hh:A.handled=none)(hS:SetG w s.heap a es)(hz:es.size<=4096)
  (h:∀ (h':Heap) tk d (vs:List Value),(∀ b o,s.heap.get? b=some o->h'.get? b=some o)->vs.Perm (es.toList.map (·.2))->R vs { s with heap:=h',toks:=tk,drawn:=d }):wpAny (model prog w) A (collect (.ref a)) R E s:=by
 have hlt:=hS.lt
 unfold collect
 refine Df (wpAny_runValue (codeAny_builtin entry_proto_collect' ?_))
 rw[Around.under_plainId PySem.F.plain_proto_collect _]
 show wpAny _ A.in1 (newList [] >>= fun l=>again (.builtin "list.__iadd__" ⟨[l,.ref a],[]⟩)) _ _ s
 refine Df (DR (Ds ⟨Fg PySem.F.plain_list_iadd _,codeAny_builtin entry_list_iadd' ?_⟩))
 rw[Around.under_plainId PySem.F.plain_list_iadd _]
 show wpAny _ A.in1 (Builtin.List.listExtendWith (.ref s.heap.objs.size) (.ref a) (.ref s.heap.objs.size)) _ _ _
 have oL:(s.heap.push { cls:=.type "list",data:=.seq ([]:List Value).toArray }).get? s.heap.objs.size=some { cls:=.type "list",data:=.seq #[] }:=BZ _ rfl
 have hS1:SetG w (s.heap.push { cls:=.type "list",data:=.seq ([]:List Value).toArray }) a es:=hS.at fun o e=>BY _ e
 have z1:(s.heap.push { cls:=.type "list",data:=.seq ([]:List Value).toArray }).objs.size=s.heap.objs.size+1:=EH _ _
 generalize hg:s.heap.push { cls:=.type "list",data:=.seq ([]:List Value).toArray }=G1 at *
 have keep1:∀ b o,s.heap.get? b=some o->G1.get? b=some o:=fun b o e=>by rw[<-hg];exact BY _ e
 unfold Builtin.List.listExtendWith
 have hT1:=SetG.type (s:={ s with heap:=G1 }) hS1
 refine Df (DQ (T:="set") hT1 ?_)
 have e1:Builtin.List.listSameRef (.ref s.heap.objs.size) (.ref a)=false:=by simp[Builtin.List.listSameRef];exact Cc hlt
 have e2:(Value.type "set" == Value.type "list")=false:=by decide
 have e3:(Value.type "set" == Value.type "tuple")=false:=by decide
 simp only[e1,e2,e3,Bool.or_false,Bool.false_eq_true,if_false]
 refine Df (yp (s:={ s with heap:=G1 }) hS1 hz fun it h1 d us fp St hit hk hp hfp hW hst=>?_)
 have hS2:SetG w h1 a es:=hS1.at fun o e=>hk a o e
 have oL1:=hk _ _ oL
 have hul:us.length<=4096:=by have:=hp.length_eq;simp at this;omega
 have hSf:s.heap.objs.size∉fp:=fun hm=>by
  rcases hfp _ hm with z|z
  ·exact absurd z (Cc hlt)
  ·have:G1.objs.size<=s.heap.objs.size:=z
   omega
 have loop:∀ (h2:Heap) (c tk:Nat),St 0 h2->(∀ b o,b≠s.heap.objs.size->G1.get? b=some o->h2.get? b=some o)->h2.get? s.heap.objs.size=some { cls:=.type "list",data:=.seq #[] c } ->
   Du (model prog w) A (.builtin "list.extend.loop" ⟨[.ref s.heap.objs.size,.ref it,.ref s.heap.objs.size],[]⟩) (fun r s'=>∃ (h':Heap) (tk:Nat) (acc:Array Value) (c':Nat),r=.ok (.ret (.ref s.heap.objs.size))/\s'={ s with heap:=h',toks:=tk,drawn:=d } /\
    (∀ b o,s.heap.get? b=some o->h'.get? b=some o)/\h'.get? s.heap.objs.size=some { cls:=.type "list",dict:=none,data:=.seq acc c',slots:=#[] }/\acc.toList.Perm (es.toList.map (·.2))) { s with heap:=h2,toks:=tk,drawn:=d }:=by
  intro h2 c tk st2 k2 o2
  refine codeAny_extend_loopS (hW A.in1 hh).toS (by rw[Dq];omega) s.heap.objs.size hSf (.ref s.heap.objs.size) us.length 0 _ #[] c rfl (B9 _) st2 o2 (ItemsOf.nil _) fun s' acc c' hm oS hacc=>?_
  have eq:s'={ s with heap:=s'.heap,toks:=s'.toks,drawn:=d }:=Moved.eq_with hm
  refine⟨s'.heap,s'.toks,acc,c',rfl,eq,fun b o e=>hm.heap b o (fun hmem=>?_) (k2 b o (B7 (BX e)) (keep1 b o e)),oS,?_⟩
  ·have hb:=BX e
   rcases List.mem_cons.mp hmem with z|z
   ·exact absurd z (B7 hb)
   ·have z':b=it:=by simpa using z
    have h2:s.heap.objs.size<=it:=Ca (by show s.heap.objs.size<=G1.objs.size;rw[z1];exact Cd _) hit
    exact absurd hb (by rw[z'];exact Nat.not_lt.mpr h2)
  ·have ea:acc.toList=us:=by
    refine Bk fun j=>?_
    rcases Cb j acc.size with y|y
    ·have q:=hacc.2 j acc[j] (getElem?_pos acc j y)
     rw[q,Ct,getElem?_pos acc j y]
    ·rw[BC (by simpa using y),BC (by have:=hacc.1;omega)]
   rw[ea]
   exact hp
 have fin:∀ (r:Dt) (s':CW),(∃ (h':Heap) (tk:Nat) (acc:Array Value) (c':Nat),r=.ok (.ret (.ref s.heap.objs.size))/\s'={ s with heap:=h',toks:=tk,drawn:=d } /\
    (∀ b o,s.heap.get? b=some o->h'.get? b=some o)/\h'.get? s.heap.objs.size=some { cls:=.type "list",dict:=none,data:=.seq acc c',slots:=#[] }/\acc.toList.Perm (es.toList.map (·.2)))->∃ v,r=.ok (.ret v)/\wpAny (model prog w) A (match v with
   | .ref b=>(do let o <-load b;match o.data with|.seq xs _=>pure xs.toList|_=>EX "internal:collect")
   | _=>EX "internal:collect") R E s':=by
  rintro r s' ⟨h',tk,acc,c',rfl,rfl,k,o,p⟩
  exact⟨_,rfl,Df (wpAny_load o (Ds (h h' tk d acc.toList k p)))⟩
 refine Df (Dg (vK (s:={ s with heap:=h1,drawn:=d }) (SetG.type (s:={ s with heap:=h1,drawn:=d }) hS2) ?_))
 refine Ff (fun _=>?_) (fun _=>Ds ⟨Fg PySem.F.plain_extend_loop _,DC (loop h1 _ _ hst (fun b o _ e=>hk b o e) oL1) fun r s' z=>?_⟩)
 ·refine Df (EC (Df ?_))
  show wpAny _ _ (updateSeq s.heap.objs.size (·.push .none) >>= fun _=>updateSeq s.heap.objs.size (·.pop)) _ _ _
  refine Df (wpAny_updateSeq oL1 rfl ?_)
  have oL2:=B1 (Obj.mapSeq (·.push Value.none)) oL1 rfl
  refine wpAny_updateSeq (hz:=by seq_fits) oL2 rfl ?_
  have oL3:=B1 (Obj.mapSeq (·.pop)) oL2 rfl
  have oth:∀ b o,b≠s.heap.objs.size->h1.get? b=some o->((h1.update s.heap.objs.size (Obj.mapSeq (·.push Value.none))).update s.heap.objs.size (Obj.mapSeq (·.pop))).get? b=some o:=fun b o hb e =>
   (B2 _ _ (Ne.symm hb)).trans ((B2 _ _ (Ne.symm hb)).trans e)
  refine Ds ⟨Fg PySem.F.plain_extend_loop _,DC (loop _ _ _ ((hW A.in1 hh).frame 0 _ _ hst fun b hb o e=>oth b o (fun z=>hSf (z▸hb)) e) (fun b o hb e=>oth b o hb (hk b o e)) oL3) fun r s' z=>?_⟩
  obtain⟨v,rfl,q⟩:=fin r s' z
  exact q
 ·obtain⟨v,rfl,q⟩:=fin r s' z
  exact q
end
end Ss
namespace L2
open PySem PySem.Spec PyProof.Rows
def oE (P:CP)(w:World)(a:Addr)(ks:List aj)(h:Heap):Prop :=
 ∃ es:Array (Int×Value),Ss.SetG w h a es/\ks.Nodup/\∃ el:List (Int×Value),el.Perm es.toList/\Paired (fun (k:aj) (e:Int×Value)=>(bo P w).is k e.2=true/\e.1=(bo P w).hash k) ks el
abbrev bY (P:CP)(w:World)(a:Addr)(ks:List aj):HO:=.ext (oE P w a ks)
def fh (ks:List aj)(k:aj):List aj:=if ks.any (fun j=>decide (j=k))=true then ks else ks++[k]
theorem rn {ks:List aj}{k:aj}(h:k∈ks):fh ks k=ks:=if_pos (List.any_eq_true.mpr ⟨k,h,decide_eq_true rfl⟩)
theorem tL {ks:List aj}{k:aj}(h:k∉ks):fh ks k=ks++[k]:=if_neg fun z=>by
 obtain⟨j,hj,e⟩:=List.any_eq_true.mp z
 exact h (of_decide_eq_true e▸hj)
theorem qj {P:CP}{w:World}{H:Hp}{h:Heap}{a:Addr}{ks:List aj}(x:oE P w a ks h):aY P w H h a (bY P w a ks):=by
 refine⟨x,?_,fun h1 h2 p k=>?_⟩
 ·obtain⟨es,⟨ep,t,ho,_⟩,_⟩:=x
  exact⟨_,ho⟩
 ·obtain⟨es,g,r⟩:=p
  exact⟨es,g.at k,r⟩
theorem tF {P:CP}{w:World}{k:aj}{v:Value}(h:(bo P w).is k v=true):v.scannable=true:=by
 rcases c0 h with⟨i,t,rfl,rfl⟩|⟨x,t,rfl,rfl⟩ <;> rfl
theorem Paired.mem_right {α β:Type}{F:α->β->Prop}:∀ {xs:List α}{ys:List β},Paired F xs ys->∀ y∈ys,∃ x∈xs,F x y
 | _,_,.nil,y,h=>by cases h
 | _,_,.cons r t,y,h=>by
  rcases List.mem_cons.mp h with e|h
  ·subst e;exact⟨_,AF,r⟩
  ·obtain⟨x,hx,z⟩:=Paired.mem_right t y h
   exact⟨x,AD _ hx,z⟩
theorem Paired.mem_left {α β:Type}{F:α->β->Prop}:∀ {xs:List α}{ys:List β},Paired F xs ys->∀ x∈xs,∃ y∈ys,F x y
 | _,_,.nil,y,h=>by cases h
 | _,_,.cons r t,y,h=>by
  rcases List.mem_cons.mp h with e|h
  ·subst e;exact⟨_,AF,r⟩
  ·obtain⟨x,hx,z⟩:=Paired.mem_left t y h
   exact⟨x,AD _ hx,z⟩
theorem Paired.app {α β:Type}{F:α->β->Prop}:∀ {xs xs':List α}{ys ys':List β},Paired F xs ys->Paired F xs' ys'->Paired F (xs++xs') (ys++ys')
 | _,_,_,_,.nil,s=>s
 | _,_,_,_,.cons r t,s=>.cons r (Paired.app t s)
theorem xt {P:CP}{w:World}{ks:List aj}{es:Array (Int×Value)}{el:List (Int×Value)}(p:el.Perm es.toList)(q:Paired (fun (k:aj) (e:Int×Value)=>(bo P w).is k e.2=true/\e.1=(bo P w).hash k) ks el):ElemsOf (bo P w) es.toList:=fun e he=>by
 obtain⟨k,_,h⟩:=Paired.mem_right q e (p.mem_iff.mpr he)
 exact⟨⟨k,h.1,h.2⟩,tF h.1⟩
section
variable {X:Cx}{pins:List (Addr×Obj)}{σ:St}{H:Hp}{s:CW}
theorem uV {D:Addr}{ks:List aj}{k:aj}{u:Value}{Q:CW->Prop}{E:Value->CW->Prop}(I:ac X pins σ H s)(hD:H D=some (bY X.prog X.w D ks))(r:aw (kV k) u)(hz:ks.length<1000)
  (h:∀ s',ac X pins σ (upd H D (bY X.prog X.w D (fh ks k))) s'->Q s'):wpAny (model X.prog X.w) X.A (call (.builtin "set.add") [.ref D,u]) (fun _ s'=>Q s') E s:=by
 have hx:=I.hok D _ hD
 obtain⟨⟨es,g,nd,el,p,q⟩,_,_⟩:=hx
 have hl:ks.length=es.size:=by have:=Paired.length q;have:=p.length_eq;simp at this;omega
 have hk:(bo X.prog X.w).is k u=true:=by
  cases k with
  | inl i=>obtain⟨t,rfl⟩:=r;exact tE i t
  | inr x=>obtain⟨t,rfl⟩:=r;exact rp x t
 refine Ss.add hk (tF hk) g (xt p q) (by have:scanBound=4096:=rfl;omega) fun h' es' sb g' ad=>?_
 refine h _ (I.write (x:=D) (e:=D) (by rw[hD];trivial) (.inl rfl) (fun b o hb e=>(sb.2 b hb).trans e) (by obtain⟨ep,t,ho,_⟩:=g';exact⟨_,ho⟩) (qj ⟨es',g',?_⟩))
 rcases ad with⟨⟨e,he,hek⟩,rfl⟩|⟨hno,hp⟩
 ·have hm:k∈ks:=by
   obtain⟨k',hk',z⟩:=Paired.mem_right q e (p.mem_iff.mpr he)
   rw[(bo X.prog X.w).inj _ _ _ hek z.1]
   exact hk'
  rw[rn hm]
  exact⟨nd,el,p,q⟩
 ·have hm:k∉ks:=fun hm=>by
   obtain⟨e,he,z⟩:=Paired.mem_left q k hm
   have:=hno e (p.mem_iff.mp he)
   rw[z.1] at this
   cases this
  rw[tL hm]
  refine⟨List.nodup_append.mpr ⟨nd,BH _ _,fun a ha b hb=>?_⟩,el++[((bo X.prog X.w).hash k,u)],(p.append_right _).trans hp.symm,Paired.app q (.cons ⟨hk,rfl⟩ .nil)⟩
  rw[List.mem_singleton.mp hb]
  exact fun z=>hm (z▸ha)
end
theorem vY {env:Env}(elt gens scope pos):eval (.SetComp elt gens scope pos) env=Ex (.SetComp elt gens scope pos) scope env (firstIterPos gens pos) (newSet (.type "set")) (firstAsync gens) (firstIter gens env):=rfl
theorem vO {prog:CP}{w:World}{A:Around}{R:Dt->CW->Prop}{s:CW}{elt target iter ifs rest scope pos it acc env}(h0:Du (model prog w) A (.compLoop (.SetComp elt (⟨target,iter,ifs,0⟩::rest) scope pos) 0 it acc env) R s)
  (h:wpAny (model prog w) A (Dk it) (fun it' s'=>Du (model prog w) A (.compLoop (.SetComp elt (⟨target,iter,ifs,0⟩::rest) scope pos) 0 it' acc env) R s') (notedBy (model prog w) A env fun x s'=>R (.error x) s') s):Du (model prog w) A (.compStart (.SetComp elt (⟨target,iter,ifs,0⟩::rest) scope pos) 0 it acc env) R s:=by
 refine Fh ?_
 show wpAny _ _ ((Fi (.SetComp elt (⟨target,iter,ifs,0⟩::rest) scope pos) 0 it acc env).onRaise (fun x=>do El x env;C6 Fj)) _ _ s
 refine Fk (m:=Fi (.SetComp elt (⟨target,iter,ifs,0⟩::rest) scope pos) 0 it acc env) ?_
 unfold Fi
 show wpAny _ A (ask >>= _) _ _ s
 have fin:wpAny (model prog w) A (do C6 iter.pos;again (.compLoop (.SetComp elt (⟨target,iter,ifs,0⟩::rest) scope pos) 0 (<-Dk it) acc env)) (fun r s'=>match r with|.done f=>R (.ok f) s'|.again c'=>c'.quiet=true/\Du (model prog w) A c' R s') (notedBy (model prog w) A env fun x s'=>R (.error x) s') s :=
  Df (Dh (Df (C1 h (fun _ _ z=>Ds ⟨rfl,z⟩) fun _ _ z=>z)))
 refine Df (EW (wpAny_ite ?_))
 split
 ·first|exact Ds ⟨rfl,h0⟩|exact Df (Ds (Ds ⟨rfl,h0⟩))
 ·first|exact Df (EC fin)|(refine Df (EC ?_);exact fin)
section
variable {X:Cx}{pins:List (Addr×Obj)}{σ:St}{H:Hp}{s:CW}{xs Ns:List Str}{sc:Scope}{C:Addr}{fp:List Addr}
theorem ac.startSN {ho:HO}{D:Addr}{h1:Heap}{m:Str->Option Value}{tk:Nat}{w:St}(I:ac X pins σ H s)(S:cI X xs Ns sc)(hf:∀ b∈fp,a0 X pins H b)(hlt:∀ b∈fp,b<s.heap.objs.size)(hw:w=xs.map fun _=>none)
  (hD:D=s.heap.objs.size) (hC:s.heap.objs.size<=C) (hDC:C≠D) (hk:∀ b o,s.heap.get? b=some o->h1.get? b=some o) (hn:h1.Ns C m) (hl:aY X.prog X.w (upd H D ho) h1 D ho) :
  ac (aD X xs Ns sc C fp s H) [] (w++σ) (upd H D ho) { s with heap:=h1,toks:=tk }:=by
 have hwl:w.length=xs.length:=by rw[hw,Ar]
 have hDle:s.heap.objs.size<=D:=by rw[hD];exact B6 _
 have cells:∀ y c,(b7 sc X.env.cells).lookup y=some c->c<s.heap.objs.size:=fun y c e=>by
  obtain⟨v,q⟩:=I.cell y c (bS sc X.env.cells e)
  exact q.lt
 refine⟨I.okLN S hC hf hlt,rfl,I.bare,Un.laid hk hDle (I.hok.fresh hDle),⟨m,hn,fun i y v e1 e2 e3=>?_⟩,fun y c e=>?_,?_,fun y c e=>?_,fun p hp=>absurd (show p∈([]:List (Addr×Obj)) from hp) (by simp),I.hok.laid hk hDle hl,?_⟩
 ·have e1:(xs++Ns)[i]?=some y:=e1
  have e2:(w++σ)[i]?=some (some v):=e2
  rcases Cb i xs.length with hi|hi
  ·rw[Bg (by omega),hw,AE,As hi] at e2
   cases e2
  ·have e1':Ns[i-xs.length]?=some y:=by rw[A5 hi] at e1;exact e1
   have e2':σ[i-xs.length]?=some (some v):=by rw[A5 (by omega),hwl] at e2;exact e2
   have e3':gr (Eg sc X.env) y:=e3
   have ny:sc.names.lookup y≠some .local:=S.apart y (AK e1')
   have fr:sc.names.lookup y=some .free/\((Eg sc X.env).names.lookup y=some .cell\/(Eg sc X.env).names.lookup y=some .free):=by
    rcases e3' with h|h|h
    ·obtain⟨k',e,q⟩:=cO h
     rcases q with q|⟨_,q⟩
     ·subst q;exact absurd e ny
     ·cases q
    ·obtain⟨k',e,q⟩:=cO h
     rcases q with q|⟨q,_⟩
     ·subst q;exact absurd rfl (S.nocell _ (PySem.mem_of_lookup e))
     ·exact⟨by rw[e,q],.inl h⟩
    ·obtain⟨k',e,q⟩:=cO h
     rcases q with q|⟨_,q⟩
     ·exact⟨by rw[e,<-q],.inr h⟩
     ·cases q
   have ok:=S.free (y,.free) (PySem.mem_of_lookup fr.1) rfl
   obtain⟨m0,hn0,hl0⟩:=I.loc
   obtain⟨u,r,l⟩:=hl0 _ y v (S.sub _ y e1' fr.1) e2' (.inr ok)
   refine⟨u,r,.inr ⟨fr.2,?_⟩⟩
   rcases l with⟨k,_⟩|⟨_,c,ec,z⟩
   ·rcases ok with q|q <;> (rw[show X.env.kindOf y=some .local from k] at q;cases q)
   ·obtain⟨c',ec'⟩:=jC sc X.env.cells (S.cells I.ok) (PySem.mem_of_lookup fr.1)
    have:=bS sc X.env.cells ec'
    rw[ec] at this
    cases this
    obtain⟨o,ho,hd⟩:=z
    exact⟨c,ec',o,hk _ _ ho,hd⟩
 ·obtain⟨v,o,ho,hd⟩:=I.cell y c (bS sc X.env.cells e)
  exact⟨v,o,hk _ _ ho,hd⟩
 ·show upd H D ho C=none
  rw[upd_ne hDC]
  exact I.hok.fresh hC
 ·show upd H D ho c=none
  rw[upd_ne (B7 (B8 (cells y c e) hDle))]
  exact I.freeC y c (bS sc X.env.cells e)
 ·show (w++σ).length=(xs++Ns).length
  rw[AB,AB,I.len,hwl,S.len]
end
section
variable {X:Cx}{xs Ns:List Str}{sc:Scope}{elt iter tg:Expr}{ifs:List Expr}{pos:Pos}{wi:TI}{g:TG}{tc:TT}{te:TE}
end
end L2
namespace Sg
open PySem PyProof.Rows
section
variable {prog:CP}{w:World}{A:Around}{E:Value->CW->Prop}{s:CW}{a₀:Array Keyed}
end
end Sg
namespace Sg
open PySem PyProof.Rows
end Sg
namespace Sg
open PySem PyProof.Rows
section
variable {prog:CP}{w:World}{A:Around}{E:Value->CW->Prop}{s:CW}{a₀:Array Keyed}
end
end Sg
namespace Sg
open PySem PyProof.Rows
section
variable {prog:CP}{w:World}{A:Around}{E:Value->CW->Prop}{s:CW}{a₀:Array Keyed}
end
end Sg
namespace Sg
open PySem PyProof.Rows
section
variable {prog:CP}{w:World}{A:Around}{E:Value->CW->Prop}{s:CW}{a₀:Array Keyed}
end
end Sg
namespace Sg
open PySem PyProof.Rows
section
variable {prog:CP}{w:World}{A:Around}{E:Value->CW->Prop}{s:CW}
end
end Sg
namespace L2
open PySem PySem.Spec PyProof.Rows
theorem sr:∀ {ns:List Int}{us:List Value},au (ns.map V.int) us->Ed us ns
 | [],_,.nil=>.nil
 | n::ns,_,.cons r t=>by
  obtain⟨tk,rfl⟩:=r
  exact .cons n tk (sr t)
theorem kj:∀ {ns:List Int}{us:List Value},Ed us ns->au (ns.map V.int) us
 | _,_,.nil=>.nil
 | _,_,.cons n t h=>.cons ⟨t,rfl⟩ (kj h)
theorem ac.drawn {X:Cx}{pins:List (Addr×Obj)}{σ:St}{H:Hp}{s:CW}(d:Drawn)(I:ac X pins σ H s):ac X pins σ H { s with drawn:=d }:=⟨I.ok,I.os,I.bare,I.base,I.loc,I.cell,I.free,I.freeC,I.pin,I.hok,I.len⟩
inductive kA (ns:List Int)(H:Hp)(Q:VK):Prop
 | mk (q:∀ (D:Addr) (ys:List Int),ys.Perm ns->ys.Pairwise (·<=·)->H D=none->Q (.ref D) (upd H D (.lst (ys.map V.int)))):kA ns H Q
inductive qL (P:CP)(w:World)(xs:List V)(H:Hp)(Q:VK):Prop
 | mk (p:Addr)(ns:List Int)(e:xs=[.ref p])(h:H p=some (bY P w p (ns.map Sum.inl)))(hl:ns.length<64)(q:kA ns H Q):qL P w xs H Q
section
variable {X:Cx}
theorem oz {P:CP}{w:World}:∀ {ns:List Int}{el:List (Int×Value)},Paired (fun (k:aj) (e:Int×Value)=>(bo P w).is k e.2=true/\e.1=(bo P w).hash k) (ns.map Sum.inl) el->Ed (el.map (·.2)) ns
 | [],_,.nil=>.nil
 | n::ns,_,.cons r t=>by
  obtain⟨r,_⟩:=r
  rcases c0 (show eG (Sum.inl n) _=true from r) with⟨i,tk,e1,e2⟩|⟨x,tk,e1,e2⟩
  ·cases e1
   rw[Av,e2]
   exact .cons n tk (oz t)
  ·cases e1
theorem zU {us vs:List Value}(p:us.Perm vs):∀ {ns:List Int},Ed vs ns->∃ ms,Ed us ms/\ms.Perm ns:=by
 intro ns h
 have a:∀ v∈us,∃ n t,v=.int n t:=fun v hv=>h.all v (p.mem_iff.mp hv)
 refine⟨us.map numOf,intsAre_map us a,?_⟩
 rw[<-h.nums]
 exact p.map _
theorem Ag (P:CP)(w:World)(hc:X.calm=true)(e1:X.prog=P:=by rfl)(e2:X.w=w:=by rfl):bB X (.builtin "sorted") (qL P w):=by
 subst e1 e2
 intro pins s σ H xs us Q I r h
 obtain⟨p,ns,rfl,hq,hl,⟨q⟩⟩:=h
 obtain⟨u,rfl,rx⟩:=cv r
 cases rx
 obtain⟨⟨es,g,nd,el,pe,qe⟩,_,_⟩:=I.hok p _ hq
 have hh:X.A.in1.handled=none:=I.ok.hd hc
 have he:es.size=ns.length:=by have:=Paired.length qe;have:=pe.length_eq;simp at *;omega
 refine Calls.call_function_entry kind_sorted EE EF (args_sorted1 _) ?_
 unfold Builtin.«sorted»
 refine Df (m:=checkCount "sorted" 1 1 _) (Ds (Df (Ss.collect_set hh g (by omega) fun h' tk d vs keep hv=>?_)))
 obtain⟨ms,hI,hm⟩:=zU (hv.trans (pe.map (·.2)).symm) (oz qe)
 have hlen:vs.length=ns.length:=by rw[hI.length,hm.length_eq]
 refine Df (EG ?_ (by rw[hlen,Dq];omega))
 have oL:(h'.push (Ez "list" vs.toArray 0)).get? h'.objs.size=some (Ez "list" vs.toArray 0):=BZ _ rfl
 refine Df (Dg (DP EI (s:={ s with heap:=h'.push (Ez "list" vs.toArray 0),toks:=tk,drawn:=d }) ⟨_,oL,rfl⟩ EJ (list_sort_tree oL hI (by omega) fun out ns' h1 h2 h3=>⟨_,rfl,Ds ⟨_,rfl,?_⟩⟩) (args_list_sort _)))
 have I1:ac X pins σ H { s with heap:=h',toks:=tk,drawn:=d }:=(I.kept (t':=tk) keep).drawn d
 obtain⟨e,hat⟩:=sortedHeap_at (vs:=vs) (out:=out) oL
 refine⟨.ref h'.objs.size,_,I1.laid (s:={ s with heap:=h',toks:=tk,drawn:=d }) (t':=tk) (o:=.lst (ns'.map V.int)) (fun b u e=>?_) (B6 _) ⟨by rw[Ar,(h2.trans hm).length_eq,Dq];omega,out.toList,e,kj h1,hat⟩,rfl,q _ ns' (h2.trans hm) h3 (I1.hok.fresh (B6 _))⟩
 have hb:h'.get? b=some u:=e
 have hlt:=BX hb
 rw[sortedHeap_old (B7 hlt) (by rw[EH];exact Cf hlt)]
 exact BY _ hb
end
end L2
namespace Dx
open PySem PySem.Spec PySem.W PySem.Calls PyProof.Rows
def DE (h:Heap)(d:Addr)(es:Array DictEntry)(ep:Nat):Prop:=∃ o,h.get? d=some o/\o.ExactDict/\o.data=.dict es ep
theorem DE.keep {h h':Heap}{d:Addr}{es:Array DictEntry}{ep:Nat}(x:DE h d es ep)(k:∀ o,h.get? d=some o->h'.get? d=some o):DE h' d es ep:=by
 obtain⟨o,e,r⟩:=x
 exact⟨o,k o e,r⟩
theorem DE.lt {h:Heap}{d:Addr}{es:Array DictEntry}{ep:Nat}(x:DE h d es ep):d<h.objs.size:=by
 obtain⟨o,e,_⟩:=x
 exact BX e
theorem DE.ty {s:CW}{d:Addr}{es:Array DictEntry}{ep:Nat}(x:DE s.heap d es ep):s.TypeIs (.ref d) "dict":=by
 obtain⟨o,e,r,_⟩:=x
 exact⟨o,e,r.1⟩
section
variable {prog:CP}{w:World}{A:Around}{E:Value->CW->Prop}{s:CW}{d it:Addr}{es:Array DictEntry}{ep i:Nat}
theorem iter {Q:Value->CW->Prop}(hd:(d == CS)=false)(hm:DE s.heap d es ep)
  (q:Q (.ref s.heap.objs.size) { s with heap:=s.heap.push { cls:=.type "dict_keyiterator",data:=.fields #[.ref d,.int 0 0,.int es.size 0,.int ep 0] } }):wpAny (model prog w) A (Dk (.ref d)) Q E s:=by
 have hT:=hm.ty
 obtain⟨o,ho,hc,hdat⟩:=hm
 refine E3 hT PySem.F.slot_dict_iter (DP PySem.F.slot_dict_iter hT PySem.F.entry_dict_iter ?_ (PySem.F.args_dict_iter_1 _))
 unfold Builtin.«dict.__iter__» Builtin.Dict.dictSlotNone
 refine Df (Df (wpAny_notOrdered_dict hT ?_))
 show wpAny _ _ (pure (Value.ref d)) _ _ s
 refine Ds ?_
 show wpAny _ _ (Builtin.Dict.showsAll d >>= _) _ _ s
 unfold Builtin.Dict.showsAll
 rw[if_neg (by rw[hd];simp)]
 refine Df (Ds (Df (Fl ho hdat (Df (Fo ho hdat (Df (DR (Ds ⟨_,rfl,"dict_keyiterator",_,⟨_,BZ _ rfl,rfl⟩,PySem.F.slot_dict_keyiterator_next.lookup,?_⟩))))))))
 simpa [E2] using q
theorem next {e:DictEntry}{Q:Option Value->CW->Prop}(hit:s.heap.IsKeyIter it d i es.size ep)(hm:DE s.heap d es ep)(hx:es[i]?=some e)
  (q:∀ h',h'.IsKeyIter it d (i+1) es.size ep->Heap.SameBut it s.heap h'->Q (some e.key) { s with heap:=h' }):wpAny (model prog w) A (Eh (.ref it)) Q E s:=by
 have hT:=hit.typeIs
 obtain⟨o,ho,hc,hd⟩:=hit
 obtain⟨od,hod,hcd,hdd⟩:=hm
 have hown:Builtin.Dict_items.ownsTuple "dict_keyiterator"=false:=by decide
 obtain⟨hlt,he⟩:=Array.getElem?_eq_some_iff.mp hx
 unfold Eh
 refine Df (ED (DO (name:=Str.ofString "__next__") hT PySem.F.slot_dict_keyiterator_next (DP PySem.F.slot_dict_keyiterator_next hT PySem.F.entry_dict_keyiterator_next ?_ (PySem.F.args_dict_keyiterator_next_1 _))))
 refine Df (Ds (Df (Df ?_)))
 first|refine Df (Fp hT (Ds (Df (E6 ho hd ?_))))|refine Df (Fq hT (Ds (Df (E6 ho hd ?_))))
 simp only[hown,Bool.false_eq_true,if_false]
 show wpAny _ _ (if (Value.ref d == Value.none)=true then _ else _) _ _ s
 rw[if_neg (show ¬ ((Value.ref d == Value.none)=true) by simp)]
 refine Df (Ds (Df (Fl hod hdd ?_)))
 rw[if_neg (by simp)]
 refine Df (Ds (Df (Fo hod hdd ?_)))
 rw[if_neg (by simp)]
 refine Ds ?_
 simp only[show ¬ ((i:Int)<0) by omega,if_false,Cy,hx]
 refine Df ?_
 first|refine Df (Fp hT (Ds (Df (Fs hT ?_))))|refine Df (Fq hT (Ds (Df (Fs hT ?_))))
 show wpAny _ _ (setField (.ref it) 1 (E2 ((i:Int)+1)) >>= _) _ _ s
 refine Df (wpAny_setField ho hd (by simp) ?_)
 have hit':(s.heap.update it (Obj.mapFields fun z=>z.setIfInBounds 1 (E2 ((i:Int)+1)))).IsKeyIter it d (i+1) es.size ep :=
  ⟨_,B1 _ ho (Obj.isFreed_of_fields (Obj.data_mapFields hd _)),(Obj.cls_mapFields ..).trans hc,by rw[Obj.data_mapFields hd];simp[E2]⟩
 refine Df (Dg (Df (Fs (s:={ s with heap:=s.heap.update it (Obj.mapFields fun z=>z.setIfInBounds 1 (E2 ((i:Int)+1))) }) hit'.typeIs ?_)))
 show wpAny _ _ (pure e.key) _ _ _
 exact Ds (Ds ⟨_,rfl,Ds (q _ hit' (Heap.SameBut.update ..))⟩)
theorem stop {Q:Option Value->CW->Prop}(hh:A.handled=none)(hge:es.size<=i)(hit:s.heap.IsKeyIter it d i es.size ep)(hm:DE s.heap d es ep)
  (q:∀ h',Heap.ExtBut it s.heap h'->Q none { s with heap:=h' }):wpAny (model prog w) A (Eh (.ref it)) Q E s:=by
 have hT:=hit.typeIs
 obtain⟨o,ho,hc,hd⟩:=hit
 obtain⟨od,hod,hcd,hdd⟩:=hm
 have hown:Builtin.Dict_items.ownsTuple "dict_keyiterator"=false:=by decide
 unfold Eh
 refine Df (ED (DO (name:=Str.ofString "__next__") hT PySem.F.slot_dict_keyiterator_next (DP PySem.F.slot_dict_keyiterator_next hT PySem.F.entry_dict_keyiterator_next ?_ (PySem.F.args_dict_keyiterator_next_1 _))))
 refine Df (Ds (Df (Df ?_)))
 first|refine Df (Fp hT (Ds (Df (E6 ho hd ?_))))|refine Df (Fq hT (Ds (Df (E6 ho hd ?_))))
 simp only[hown,Bool.false_eq_true,if_false]
 show wpAny _ _ (if (Value.ref d == Value.none)=true then _ else _) _ _ s
 rw[if_neg (show ¬ ((Value.ref d == Value.none)=true) by simp)]
 refine Df (Ds (Df (Fl hod hdd ?_)))
 rw[if_neg (by simp)]
 refine Df (Ds (Df (Fo hod hdd ?_)))
 rw[if_neg (by simp)]
 refine Ds ?_
 simp only[show ¬ ((i:Int)<0) by omega,if_false,Cy,Cu hge]
 refine Df ?_
 first|refine Df (Fp hT (Ds ?_))|refine Df (Fq hT (Ds ?_))
 show wpAny _ _ (setField (.ref it) 0 .none >>= _) _ _ s
 refine Df (wpAny_setField ho hd (by simp) ?_)
 show wpAny _ _ (newExc (.type "StopIteration") [] >>= _) _ _ _
 simp only[newExc,newTuple]
 refine Df (Df (DR (Df (m:=E9 _ _) (E4 (a:=Value.none) (by first|rfl|(simp only[E9];rfl)) (DR ?_ (by size_fits)))) (by size_fits)))
 simp only[raiseNew]
 refine Df (Fa ?_)
 rw[show A.in1.handled=none from hh]
 refine Df (Ds (wpAny_throw ?thr))
 case thr=>exact Df (Fb (T:="StopIteration") (b:=true) ⟨_,BZ _ rfl,rfl⟩ Fc (Ds (q _ (((Heap.SameBut.update ..).extBut.push _).push _))))
theorem yA (hh:A.handled=none)(I:Addr)(hne:d≠I):Walks prog w A I [I,d] [I] es.size (fun i v=>∃ e,es[i]?=some e/\v=e.key) (fun i h=>h.IsKeyIter I d i es.size ep/\DE h d es ep) where
 sub:=fun b hb=>by simp at hb;simp[hb]
 frame:=fun _ _ _ st hk=>⟨st.1.at fun o e=>hk I (by simp) o e,st.2.keep fun o e=>hk d (by simp) o e⟩
 item:=fun i s Q E hi st hQ=>by
  obtain⟨e,hx⟩:∃ e,es[i]?=some e:=⟨es[i],Cv hi⟩
  refine next st.1 st.2 hx fun h' hit' hs'=>hQ e.key h' s.toks ⟨e,hx,rfl⟩ ⟨hit',st.2.keep fun o z=>?_⟩ fun b o hb z=>hs'.extBut b o (fun h=>hb (by simp[h])) z
  exact hs'.extBut d o hne z
 done:=fun s Q E st hQ=>stop hh (B6 _) st.1 st.2 fun h' he'=>hQ h' s.toks fun b o hb e=>he' b o (fun h=>hb (by simp[h])) e
 self:=fun _ _ _ _ st hQ=>wpAny_pyIter_keyiter st.1 hQ
theorem src (lo:(d == CS)=false):KdlSrc prog w "dict" d d es.size (fun i v=>∃ e,es[i]?=some e/\v=e.key) (fun h=>DE h d es ep) where
 type:=fun _ hm=>hm.ty
 there:=fun _ hm=>⟨hm.lt,hm.lt⟩
 keep:=fun _ _ hm hk=>hm.keep fun o e=>hk d (.inl rfl) o e
 notList:=by decide
 notTuple:=by decide
 hint:=fun _ _ _ _ hm hq=>kdl_hint_dict hm.ty hq
 iter:=fun _ s hh hm=>⟨_,_,(fun _ _ hq=>iter lo hm hq),yA hh _ (B7 hm.lt),⟨⟨_,BZ _ rfl,rfl,rfl⟩,hm.keep fun o e=>BY _ e⟩⟩
end
end Dx
namespace L2
open PySem PySem.Spec PySem.W PyProof.Rows
theorem sI {P:CP}{w:World}:∀ {es:List DictEntry}{kvs:List (aj×Value)}{ns:List Int},Pairs (bo P w) es kvs->kvs.map (·.1)=ns.map Sum.inl->Ed (es.map (·.key)) ns
 | _,_,[],.nil,_=>.nil
 | _,_,n::ns,.nil,h=>by cases h
 | _,_,[],.cons _ _ _,h=>by cases h
 | _,_,n::ns,.cons (kv:=kv) r _ t,h=>by
  rw[Av,Av] at h
  have h1:=(List.cons.inj h).1
  have h2:=(List.cons.inj h).2
  rcases c0 (show eG kv.1 _=true from r) with⟨i,tk,e1,e2⟩|⟨x,tk,e1,e2⟩
  ·rw[h1] at e1
   cases e1
   rw[Av,e2]
   exact .cons n tk (sI t h2)
  ·rw[h1] at e1
   cases e1
theorem qy {κ:Type}:∀ {a:List (κ×V)}{b:List (κ×Value)},KV a b->b.map (·.1)=a.map (·.1)
 | _,_,.nil=>rfl
 | _,_,.cons (a:=x) (b:=y) h t=>by rw[Av,Av,qy t,h.1]
inductive rN (xs:List V)(H:Hp)(Q:VK):Prop
 | mk (p:Addr)(kvs:List (aj×V))(ns:List Int)(e:xs=[.ref p])(h:H p=some (.dK kvs))(hk:kvs.map (·.1)=ns.map Sum.inl)(hl:ns.length<64)(q:kA ns H Q):rN xs H Q
theorem wW {X:Cx}(hc:X.calm=true):bB X (.builtin "sorted") rN:=by
 intro pins s σ H xs us Q I r h
 obtain⟨p,kvs,ns,rfl,hq,hk,hl,⟨q⟩⟩:=h
 obtain⟨u,rfl,rx⟩:=cv r
 cases rx
 obtain⟨z,hd,vs0,kv,o,es,ep,h1,h2,h3,h4,h5,h6⟩:=(show aY X.prog X.w H s.heap p (.dK kvs) from I.hok p _ hq)
 have hh:X.A.in1.handled=none:=I.ok.hd hc
 have hkk:vs0.map (·.1)=ns.map Sum.inl:=by
  rw[<-hk]
  exact qy kv
 have hes:=sI h5 hkk
 have hsz:es.size=ns.length:=by
  have:=hes.length
  rw[Ar,Cr] at this
  exact this
 refine Calls.call_function_entry kind_sorted EE EF (args_sorted1 _) ?_
 unfold Builtin.«sorted»
 refine Df (m:=checkCount "sorted" 1 1 _) (Ds (Df (kdu_collect (Dx.src (es:=es) (ep:=ep) hd) hh ⟨o,h1,h2,h3⟩ (by rw[hsz,Dq];omega) fun h' tk acc keep hacc=>?_)))
 have eacc:acc.toList=es.toList.map (·.key):=by
  refine Bk fun j=>?_
  rw[AE,Ct,Ct]
  by_cases hj:j<acc.size
  ·obtain⟨e,he,hv⟩:=hacc.2 j acc[j] (Cv hj)
   rw[Cv hj,he,hv]
   rfl
  ·have e1:=hacc.1
   rw[Cu (by omega),Cu (by omega)]
   rfl
 rw[eacc]
 generalize es.toList.map (·.key)=vs at hes
 have hlen:vs.length=ns.length:=hes.length
 refine Df (EG ?_ (by rw[hlen,Dq];omega))
 have oL:(h'.push (Ez "list" vs.toArray 0)).get? h'.objs.size=some (Ez "list" vs.toArray 0):=BZ _ rfl
 refine Df (Dg (DP EI (s:={ s with heap:=h'.push (Ez "list" vs.toArray 0),toks:=tk }) ⟨_,oL,rfl⟩ EJ (list_sort_tree oL hes (by omega) fun out ns' h1 h2 h3=>⟨_,rfl,Ds ⟨_,rfl,?_⟩⟩) (args_list_sort _)))
 have I1:ac X pins σ H { s with heap:=h',toks:=tk }:=I.kept (t':=tk) keep
 obtain⟨e,hat⟩:=sortedHeap_at (vs:=vs) (out:=out) oL
 refine⟨.ref h'.objs.size,_,I1.laid (s:={ s with heap:=h',toks:=tk }) (t':=tk) (o:=.lst (ns'.map V.int)) (fun b u e=>?_) (B6 _) ⟨by rw[Ar,h2.length_eq,Dq];omega,out.toList,e,kj h1,hat⟩,rfl,q _ ns' h2 h3 (I1.hok.fresh (B6 _))⟩
 have hb:h'.get? b=some u:=e
 have hlt:=BX hb
 rw[sortedHeap_old (B7 hlt) (by rw[EH];exact Cf hlt)]
 exact BY _ hb
end L2
namespace L2
open PySem PySem.Spec PyProof.Rows
section
variable {X:Cx}{a b c d:Expr}{ta tb tc td:TE}{pos:Pos}
end
end L2
namespace L2
open PySem PySem.Spec PyProof.Rows
section
variable {X:Cx}
end
end L2
namespace Pr
open PySem L2 PyProof.Rows Ent
abbrev dG:=Int×List En
def ck (n:Int)(prs:List dG):List En:=(prs.filter fun p=>decide (p.1=n)).flatMap (·.2)
def cV (H:Hp)(y:V)(p:dG):Prop:=∃ a v,y=.ref a/\H a=some (.tup [.int p.1,v])/\BT H v p.2
theorem cV.same {H H':Hp}(s:aa H H'){y:V}{p:dG}(h:cV H y p):cV H' y p:=by
 obtain⟨a,v,e,h1,h2⟩:=h
 exact⟨a,v,e,s _ _ h1,h2.same s⟩
theorem cV.tups {H H':Hp}(s:∀ b xs,H b=some (.tup xs)->H' b=some (.tup xs)){y:V}{p:dG}(h:cV H y p):cV H' y p:=by
 obtain⟨a,v,e,h1,h2⟩:=h
 exact⟨a,v,e,s _ _ h1,h2.tups s⟩
theorem oj (n:Int)(prs:List dG)(p:dG):ck n (prs++[p])=if p.1=n then ck n prs++p.2 else ck n prs:=by
 unfold ck
 rw[AS,List.flatMap_append]
 by_cases h:p.1=n
 ·rw[if_pos h];simp[h]
 ·rw[if_neg h];simp[h]
theorem xW {n:Int}{prs:List dG}(h:n∉prs.map (·.1)):ck n prs=[]:=by
 unfold ck
 rw[show prs.filter (fun p=>decide (p.1=n))=[] from ?_]
 ·rfl
 ·rw[BV]
  intro p hp z
  exact h (List.mem_map.mpr ⟨p,hp,of_decide_eq_true z⟩)
theorem kU {κ:Type}[DecidableEq κ](kvs:List (κ×V))(k:κ)(v:V):(aX kvs k v).map (·.1)=if k∈kvs.map (·.1) then kvs.map (·.1) else kvs.map (·.1)++[k]:=by
 unfold aX
 by_cases h:(kvs.any fun kv=>decide (kv.1=k))=true
 ·rw[if_pos h]
  obtain⟨x,hx,e⟩:=List.any_eq_true.mp h
  rw[if_pos (List.mem_map.mpr ⟨x,hx,of_decide_eq_true e⟩),AT]
  refine List.map_congr_left fun y _=>?_
  show (if y.1=k then (y.1,v) else y).1=y.1
  split <;> rfl
 ·rw[if_neg h,if_neg,Ax]
  ·rfl
  ·intro z
   obtain⟨x,hx,e⟩:=List.mem_map.mp z
   exact h (List.any_eq_true.mpr ⟨x,hx,decide_eq_true e⟩)
theorem cJ {α:Type}[DecidableEq α]:∀ {l zs:List α},l.Nodup->(∀ x∈l,x∈zs)->l.length<=zs.length
 | [],_,_,_=>B9 _
 | x::t,zs,nd,h=>by
  have nd':=List.nodup_cons.mp nd
  have hx:=h x AF
  have:=cJ (zs:=zs.erase x) nd'.2 fun y hy=>by
   have ne:y≠x:=fun z=>nd'.1 (z▸hy)
   exact(List.mem_erase_of_ne ne).mpr (h y (AD _ hy))
  rw[List.length_erase_of_mem hx] at this
  have:0<zs.length:=BS hx
  rw[Ay]
  omega
structure GD (H:Hp)(kvs:List (aj×V))(ns:List Int)(prs:List dG):Prop where
 k:kvs.map (·.1)=ns.map Sum.inl
 nd:ns.Nodup
 m:∀ n,n∈ns↔n∈prs.map (·.1)
 v:∀ n∈ns,∃ v,aJ kvs (.inl n)=some v/\BT H v (ck n prs)
 z:∀ n,n∉ns->aJ kvs (.inl n)=none
theorem GD.tups {H H':Hp}(s:∀ b xs,H b=some (.tup xs)->H' b=some (.tup xs)){kvs:List (aj×V)}{ns:List Int}{prs:List dG}(g:GD H kvs ns prs):GD H' kvs ns prs :=
 ⟨g.k,g.nd,g.m,fun n hn=>by obtain⟨v,e,h⟩:=g.v n hn;exact⟨v,e,h.tups s⟩,g.z⟩
theorem GD.put {H:Hp}{kvs:List (aj×V)}{ns:List Int}{prs:List dG}(g:GD H kvs ns prs){n:Int}{es:List En}{v:V}(h:BT H v (ck n prs++es)):∃ ns',GD H (aX kvs (.inl n) v) ns' (prs++[(n,es)]):=by
 have mk:(Sum.inl n:aj)∈kvs.map (·.1)↔n∈ns:=by
  rw[g.k,Bo]
  exact⟨fun⟨x,hx,e⟩=>by cases e;exact hx,fun h=>⟨n,h,rfl⟩⟩
 have mm:∀ x,x∈(prs++[(n,es)]).map (·.1)↔x∈ns\/x=n:=fun x=>by
  rw[Ax,A9,<-g.m]
  simp
 have vv:∀ x v',x≠n->aJ kvs (.inl x)=some v'->aJ (aX kvs (.inl n) v) (.inl x)=some v':=fun x v' hx e=>by
  rw[iF,if_neg (fun z=>hx (Sum.inl.inj z))];exact e
 have vn:aJ (aX kvs (.inl n) v) (.inl n)=some v:=by rw[iF,if_pos rfl]
 have gn:∀ x,x≠n->ck x (prs++[(n,es)])=ck x prs:=fun x hx=>by rw[oj,if_neg (fun z=>hx z.symm)]
 have ge:ck n (prs++[(n,es)])=ck n prs++es:=by rw[oj,if_pos rfl]
 by_cases hn:n∈ns
 ·refine⟨ns,?_,g.nd,fun x=>?_,fun x hx=>?_,fun x hx=>?_⟩
  ·rw[kU,if_pos (mk.mpr hn),g.k]
  ·rw[mm]
   exact⟨.inl,fun h=>h.elim id fun e=>e▸hn⟩
  ·by_cases e:x=n
   ·rw[e];exact⟨v,vn,by rw[ge];exact h⟩
   ·obtain⟨v',e1,h1⟩:=g.v x hx
    exact⟨v',vv x v' e e1,by rw[gn x e];exact h1⟩
  ·have e:x≠n:=fun z=>hx (z▸hn)
   rw[iF,if_neg (fun z=>e (Sum.inl.inj z))]
   exact g.z x hx
 ·refine⟨ns++[n],?_,?_,fun x=>?_,fun x hx=>?_,fun x hx=>?_⟩
  ·rw[kU,if_neg (fun z=>hn (mk.mp z)),g.k,Ax];rfl
  ·rw[A4]
   refine⟨g.nd,by simp,fun a ha b hb z=>?_⟩
   rw[List.mem_singleton.mp hb] at z
   exact hn (z▸ha)
  ·rw[mm,A9,Br]
  ·by_cases e:x=n
   ·rw[e];exact⟨v,vn,by rw[ge];exact h⟩
   ·have hx':x∈ns:=(List.mem_append.mp hx).elim id fun z=>absurd (List.mem_singleton.mp z) e
    obtain⟨v',e1,h1⟩:=g.v x hx'
    exact⟨v',vv x v' e e1,by rw[gn x e];exact h1⟩
  ·have e:x≠n:=fun z=>hx (Au _ (List.mem_singleton.mpr z))
   rw[iF,if_neg (fun z=>e (Sum.inl.inj z))]
   exact g.z x fun z=>hx (AJ _ z)
section
variable {P:CP}{w:World}{K:W.Frag}{mg:Str->Option Value}{base:Heap}{C:Addr}
inductive pc (vs:List V)(H:Hp)(Q:VK)(E:XK):Prop
 | mk (a:Addr)(xs:List V)(prs:List dG)(e:vs=[.ref a])(ha:H a=some (.lst xs))(hp:Paired (cV H) xs prs)(hl:prs.length<64)
  (q:∀ D ys (ms:List Int) H',aa H H'->H D=none->H' D=some (.lst ys)->Paired (cV H') ys (ms.map fun n=>(n,ck n prs))->ms.Nodup->ms.Pairwise (·<=·)->(∀ n,n∈ms↔n∈prs.map (·.1))->Q (.ref D) H'):pc vs H Q E
theorem iQ:aI ["pairs","found","number","bar"] ["pairs"] (ak g0):=aN
theorem cN {k:Nat}{A:Around}(hr:aZ k A):A.units+1<cLine:=by have:=hr.units;omega
set_option maxHeartbeats 4000000 in
theorem uX (T:Txt K mg C):aP P w K mg base 6 "gathered" ["pairs"] pc:=by
 refine aU T.f_gathered iQ (fun vs H Q E h=>?_) (fun f cdv A outer s H vs Q E hr h=>?_)
 ·obtain⟨a,xs,prs,rfl,_⟩:=h
  rfl
 ·obtain⟨a,xs,prs,rfl,ha,hp,hl,q⟩:=h
  refine⟨_,(al (aB (i:=1) iQ.nd rfl (Or.inr rfl) ix)
   (al (cH PassesOwn.never rfl (bK K (pv 0)) (jM K rfl (cF (br (i:=2) iQ.nd rfl (Or.inl rfl)) (cF (br (i:=3) iQ.nd rfl (Or.inl rfl)) gi)))
    (ar (j7 (cN hr) (pv 1) (pv 2) (aq (zT T) hr (az (jg (cN hr) (pv 1) (pv 2) (jw (empty T) hr) ⟨rfl,rfl,rfl,rfl⟩) (pv 3))) rfl)))
   (ar (aF (sx (xs:=["number"]) (Ns:=["pairs","found","number'","bar"]) rfl (eK _ iQ) (bK K (aQ (wW rfl) T.b_sorted EK (ap (pv 1)))) (pJ (eK _ iQ)) (fun _ _ _ _=>bZ) (fun _ _ _ _=>(bP (az (pv 0) (jI (cN hr) (pv 2) (pv 0) (fun _ _=>rfl)))))))))),?_⟩
  have xl:=Paired.length hp
  intro F hF
  have s1:aa H (upd H F (.dK [])):=aa.upd hF
  have hF1:(upd H F (.dK [])) F=some (.dK []):=ah
  generalize (upd H F (.dK []))=H1 at s1 hF1
  refine⟨_,rfl,a,rfl,⟨_,.of (s1 _ _ ha)⟩,eo (K:=K) (a:=a) (xs:=xs) (fun i σ H2=>∃ v2 v3 kvs ns,σ=[some (.ref a),some (.ref F),v2,v3]/\aa H H2/\H2 F=some (.dK kvs)/\GD H2 kvs ns (prs.take i)) ⟨_,_,[],[],rfl,s1,hF1,⟨rfl,AU,fun n=>by simp,(fun n h=>nomatch h),fun n _=>rfl⟩⟩ (fun i σ H2 _ ⟨_,_,_,_,_,s2,_⟩=>.of (s2 _ _ ha)) ?turn ?fin⟩
  case turn =>
   rintro i x σ H2 hx ⟨v2,v3,kvs,ns,rfl,s2,hF2,g⟩
   obtain⟨pr,hpr,t,bv,rfl,ht,hbv⟩:=Paired.get hp hx
   have kl:kvs.length<CQ:=by
    have e1:kvs.length=ns.length:=by have:=congrArg AW g.k;rw[Ar,Ar] at this;exact this
    have e2:=cJ g.nd fun n hn=>(g.m n).mp hn
    rw[Ar,AC] at e2
    rw[Dq]
    omega
   refine⟨t,_,rfl,.of (s2 _ _ ht),rfl,_,_,rfl,_,_,rfl,rfl,?_⟩
   refine⟨_,rfl,F,rfl,.inl ⟨kvs,.inl hF2⟩,_,rfl,rfl,fun e0 H3 s3 he0 hd3=>?_⟩
   have hF3:=s3 _ _ hF2
   refine⟨_,cb.k (k:=.inl pr.1) hF3,_,rfl,?_⟩
   have tk:prs.take (i+1)=prs.take i++[(pr.1,pr.2)]:=by rw[Aw,hpr];rfl
   have bx:BT H3 ((aJ kvs (.inl pr.1)).getD (.ref e0)) (ck pr.1 (prs.take i)):=by
    by_cases hn:pr.1∈ns
    ·obtain⟨v,e,h⟩:=g.v _ hn
     rw[e]
     exact h.same s3
    ·rw[g.z _ hn,xW (fun z=>hn ((g.m _).mpr z))]
     exact⟨e0,cn,rfl,hd3,.non rfl rfl⟩
   have s23:=s2.trans s3
   refine⟨_,_,_,_,rfl,bx.g,(hbv.same s23).g,fun p4 H4 b4 s4 hp4 ho4 hd4=>?_⟩
   have hF4:=s4 _ _ hF3
   refine⟨_,rfl,_,rfl,F,_,rfl,fj.k (k:=.inl pr.1) hF4 kl,?_⟩
   have tp:∀ b xs,H4 b=some (.tup xs)->(upd H4 F (.dK (aX kvs (.inl pr.1) (.ref p4)))) b=some (.tup xs):=fun b xs h=>by
    rw[upd_ne (fun z=>by rw[z,hF4] at h;cases h)];exact h
   obtain⟨ns',g'⟩:=((g.tups fun b xs h=>s4 _ _ (s3 _ _ h))).put (n:=pr.1) (es:=pr.2) (v:=.ref p4) ⟨p4,b4,rfl,hd4,ho4⟩
   refine⟨_,_,_,ns',rfl,fun b o h=>?_,ah,?_⟩
   ·rw[upd_ne (aR h hF)]
    exact s4 _ _ (s23 _ _ h)
   ·rw[tk]
    exact g'.tups tp
  case fin =>
   rintro σ H2 ⟨v2,v3,kvs,ns,rfl,s2,hF2,g⟩
   rw[xl,AI] at g
   have nl:ns.length<64:=by
    have:=cJ g.nd fun n hn=>(g.m n).mp hn
    rw[Ar] at this
    omega
   refine⟨_,rfl,F,kvs,ns,rfl,hF2,g.k,nl,⟨fun D ms pm srt hD=>?_⟩⟩
   have s3:aa H2 (upd H2 D (.lst (ms.map V.int))):=aa.upd hD
   have hD3:(upd H2 D (.lst (ms.map V.int))) D=some (.lst (ms.map V.int)):=ah
   generalize (upd H2 D (.lst (ms.map V.int)))=H3 at s3 hD3
   have hF3:=s3 _ _ hF2
   have g3:GD H3 kvs ns prs:=g.tups fun b xs h=>s3 _ _ h
   refine⟨D,rfl,⟨_,.of hD3⟩,fun G hG=>?_⟩
   refine xV (xs:=ms.map V.int) (fun i ys H4=>H4 G=some (.lst ys)/\aa H3 H4/\Paired (cV H4) ys ((ms.take i).map fun n=>(n,ck n prs))) ⟨ah,aa.upd hG,.nil⟩ (fun i ys H4 h=>⟨h.1,.of (h.2.1 _ _ hD3)⟩) (fun ys H4 h=>?_) (fun i x ys H4 u hu2 hi hx h=>?_)
   ·obtain⟨d1,d2,d3⟩:=h
    rw[Ar,AI] at d3
    exact q G ys ms H4 (s2.trans (s3.trans d2)) (s2.free (s3.free hG)) d1 d3 (pm.nodup_iff.mpr g.nd) srt fun n=>(pm.mem_iff).trans (g.m n)
   ·obtain⟨d1,d2,d3⟩:=h
    obtain⟨u1,rfl⟩:=iX hu2
    obtain⟨n,hn,rfl⟩:=eM hx
    rw[Ar] at hi
    have hnn:n∈ns:=pm.mem_iff.mp (AK hn)
    obtain⟨v,ev,bv⟩:=g3.v n hnn
    have ml:ms.length<64:=by rw[pm.length_eq];exact nl
    have yl:=Paired.length d3
    rw[Ar,AC] at yl
    refine⟨⟨[_],rfl,rfl⟩,cL ⟨_,rfl,_,rfl,_,rfl,F,v,rfl,by have:=cb.k (k:=.inl n) (d2 _ _ hF3);rw[ev] at this;exact this,cQ,fun t ht=>?_⟩⟩
    have s5:aa H4 (upd H4 t (.tup [.int n,v])):=aa.upd ht
    have ht5:(upd H4 t (.tup [.int n,v])) t=some (.tup [.int n,v]):=ah
    generalize (upd H4 t (.tup [.int n,v]))=H5 at s5 ht5
    have hG5:=s5 _ _ d1
    have tp:∀ b xs,H5 b=some (.tup xs)->(upd H5 G (.lst (ys++[.ref t]))) b=some (.tup xs):=fun b xs h=>by
     rw[upd_ne (fun z=>by rw[z,hG5] at h;cases h)];exact h
    refine bw.mk (by rw[Ar];exact hi) (by rw[Ar];omega) (by omega) hG5 ⟨ah,fun b o h=>?_,?_⟩
    ·rw[upd_ne (aR h hG)]
     exact s5 _ _ (d2 _ _ h)
    ·rw[Aw,hn,Ax]
     refine Paired.snoc ?_ (Paired.mapP d3 fun _ _ z=>(z.same s5).tups tp)
     exact cV.tups tp ⟨t,v,rfl,ht5,(bv.same d2).same s5⟩
def own (st:List Lad.Step)(r:Nat)(n:Int)(es:List En):List En:=es.filter fun e=>decide (Lad.ur st r e.1=n)
theorem tS (st:List Lad.Step)(r:Nat)(n:Int):∀ es:List En,ck n (es.map fun e=>(Lad.ur st r e.1,[e]))=own st r n es
 | []=>rfl
 | e::t=>by
  have ih:=tS st r n t
  unfold ck own at ih ⊢
  rw[Av,BW,BW]
  by_cases h:Lad.ur st r e.1=n
  ·rw[if_pos (decide_eq_true h),if_pos (decide_eq_true h),List.flatMap_cons,ih]
   rfl
  ·rw[if_neg (by simp[h]),if_neg (by simp[h]),ih]
theorem tj {e:En}(h:bN e) : -ba<e.1/\e.1<ba:=by
 have h1:=h.m
 have h30:((10:Nat) ^ 30)=1000000000000000000000000000000:=by decide +kernel
 have hW:ba=1000000000000000000000000000000:=rfl
 rw[h30] at h1
 omega
inductive nJ (C:Addr)(vs:List V)(H:Hp)(Q:VK)(E:XK):Prop
 | mk (x a:Addr)(o:HO)(xs:List V)(es:List En)(r:Nat)(b:Int)(ps:List Int)(af:List Lad.Step)(e:vs=[.ref x,.int (r:Int),.ref a])(hL:cu C H x b ps af)(ok:cf b ps af)(hr:r<=af.length)(ha:H a=some o)(ho:Ob o xs)(hx:Paired (cj H) xs es)(hl:es.length<64)(ek:∀ e∈es,bN e)
  (q:∀ D ys (ms:List Int) H',aa H H'->H D=none->H' D=some (.lst ys)->Paired (cV H') ys (ms.map fun n=>(n,own (aA b ps af) r n es))->ms.Nodup->ms.Pairwise (·<=·)->(∀ n,n∈ms↔∃ e∈es,Lad.ur (aA b ps af) r e.1=n)->Q (.ref D) H'):nJ C vs H Q E
theorem p6:aI ["ladder","roll","entries"] ["ladder","roll","entries"] (ak hX):=aN
set_option maxHeartbeats 4000000 in
theorem we (T:Txt K mg C):aP P w K mg base 7 "bars_of" ["ladder","roll","entries"] (nJ C):=by
 refine aU T.f_bars_of p6 (fun vs H Q E h=>?_) (fun f cdv A outer s H vs Q E hr h=>?_)
 ·obtain⟨x,a,o,xs,es,r,b,ps,af,rfl,_⟩:=h
  rfl
 ·obtain⟨x,a,o,xs,es,r,b,ps,af,rfl,hL,ok,hrl,ha,ho,hx,hl,ek,q⟩:=h
  refine⟨_,(al (cK (aq (lD T) hr (aW (pv 1) ag (ax bM (lF (pv 0) T.cl (ln T) hr) ag))))
   (ar (aF (aq (uX T) hr (ap (cx rfl (bQ p6) (fJ (pv 2)) (fun _ _ _ _=>bZ) (fun _ _ _ _=>(bP (az (lB (pv 1) T.cl (um T) hr (az (pv 2) (av da (pv 0) ag (fun _ _=>rfl)))) (aq (vR T) hr (ap (bn (ap (pv 0)))))))))))))),?_⟩
  obtain⟨dx,fa,fo,fc,hi⟩:=mG hL
  have xl:=Paired.length hx
  refine⟨_,rfl,_,rfl,x,dx,_,rfl,hi,jE _ _ _ (by decide) (by decide) (by decide),x,b,ps,af,rfl,hL,_,_,rfl,rfl,(r:Int),0,_,rfl,by omega,by omega,?_⟩
  refine⟨_,rfl,a,o,xs,rfl,ha,ho,fun J hJ D hD=>?_⟩
  refine gI hJ (fun i ys H1=>H1 D=some (.lst ys)/\aa H H1/\Paired (cV H1) ys ((es.take i).map fun e=>(Lad.ur (aA b ps af) r e.1,[e]))) ⟨ah,aa.upd hD,.nil⟩ (fun i ys H1 h=>⟨h.1,h.2.1 _ _ ha⟩) (fun ys H1 h=>?_) fun i v ys H1 hi' hv h=>?_
  ·obtain⟨d1,d2,d3⟩:=h
   rw[AL (by omega)] at d3
   refine⟨D,ys,_,rfl,d1,d3,by rw[Ar];exact hl,fun G zs ms H2 s2 hG hG2 hz nd srt mem=>?_⟩
   refine q G zs ms H2 (d2.trans s2) (d2.free hG) hG2 ?_ nd srt fun n=>?_
   ·have e:(fun n=>(n,ck n (es.map fun e=>(Lad.ur (aA b ps af) r e.1,[e]))))=fun n=>(n,own (aA b ps af) r n es):=funext fun n=>by rw[tS]
    rw[e] at hz
    exact hz
   ·rw[mem,AT,Bo]
    exact Iff.rfl
  ·obtain⟨d1,d2,d3⟩:=h
   obtain⟨e,he,b',ob,rfl,hb,hob⟩:=Paired.get hx hv
   have ew:=tj (ek e (AK he))
   have yl:=Paired.length d3
   rw[Ar,AC] at yl
   refine cL ⟨_,rfl,x,dx,_,rfl,d2 _ _ hi,jE _ _ _ (by decide) (by decide) (by decide),_,rfl,_,rfl,b',ob,_,_,_,rfl,rfl,d2 _ _ hb,hob,rfl,x,(r:Int),e.1,b,ps,af,rfl,hL.same d2,ok,by omega,by omega,ew.1,ew.2,fun H2 s2=>?_⟩
   rw[yh]
   refine⟨_,rfl,kP (by show 1<=1000;decide),fun l hl2=>?_⟩
   have s3:aa H2 (upd H2 l (.lst [.ref b'])):=aa.upd hl2
   have hl3:(upd H2 l (.lst [.ref b'])) l=some (.lst [.ref b']):=ah
   generalize (upd H2 l (.lst [.ref b']))=H3 at s3 hl3
   have s13:=s2.trans s3
   refine⟨l,_,[.ref b'],[e],rfl,hl3,.inl rfl,.cons ⟨b',ob,rfl,s13 _ _ (d2 _ _ hb),hob⟩ .nil,by show 1<64;decide,fun p4 H4 b4 s4 hp4 ho4 hd4=>⟨cQ,fun t ht=>?_⟩⟩
   have s5:aa H4 (upd H4 t (.tup [.int (Lad.ur (aA b ps af) r e.1),.ref p4])):=aa.upd ht
   have ht5:(upd H4 t (.tup [.int (Lad.ur (aA b ps af) r e.1),.ref p4])) t=some (.tup [.int (Lad.ur (aA b ps af) r e.1),.ref p4]):=ah
   generalize (upd H4 t (.tup [.int (Lad.ur (aA b ps af) r e.1),.ref p4]))=H5 at s5 ht5
   have s15:=s13.trans (s4.trans s5)
   have hD5:=s15 _ _ d1
   have tp:∀ b xs,H5 b=some (.tup xs)->(upd H5 D (.lst (ys++[.ref t]))) b=some (.tup xs):=fun b xs h=>by
    rw[upd_ne (fun z=>by rw[z,hD5] at h;cases h)];exact h
   refine bw.mk hi' (by omega) (by omega) hD5 ⟨ah,(d2.trans s15).but_ne hD,?_⟩
   rw[Aw,he,Ax]
   refine Paired.snoc ?_ (Paired.mapP d3 fun _ _ z=>(z.same s15).tups tp)
   exact cV.tups tp ⟨t,.ref p4,rfl,ht5,⟨p4,b4,rfl,am.same s5 _ _ hd4,ho4⟩⟩
end
end Pr
namespace L2
open PySem PySem.Spec PyProof.Rows
section
variable {prog:CP}{w:World}{A:Around}{R:Dt->CW->Prop}{s:CW}{elt t0 i0 t1 i1:Expr}{ifs:List Expr}{scope:Scope}{pos:Pos}{it acc:Value}{env:Env}
end
section
variable {X:Cx}{xs1 xs2 Ns:List Str}{sc:Scope}{elt iter tg i1 tg1:Expr}{ifs:List Expr}{pos:Pos}{wi wi2:TI}{g g2:TG}{tc:TT}{te:TE}
theorem nv {xs Ns:List Str}{x:Str}{i:Nat}{p1:Pos}(S:cI X xs Ns sc)(hx:x∈xs)(hi:(xs++Ns)[i]?=some x):∀ C fp s0 H0,PG (aD X xs Ns sc C fp s0 H0) (.Name x p1) (cY i):=fun C fp s0 H0=>by
 have lx:(Eg sc X.env).names.lookup x=some .local:=Es (S.loc x hx)
 exact br (X:=aD X xs Ns sc C fp s0 H0) (i:=i) S.all hi (.inl lx) (.inr lx)
end
end L2
namespace L2
open PySem PySem.Spec PyProof.Rows
inductive d0:HO->Prop
 | k (kvs:List (aj×V)):d0 (.dK kvs)
 | t (kvs:List (List aj×V)):d0 (.dT kvs)
section
variable {X:Cx}{pins:List (Addr×Obj)}{σ:St}{H:Hp}{s:CW}{a:Addr}{u:HO}{o:Obj}
theorem rL {P:CP}{w:World}{h:Heap}(hu:d0 u)(v:HO)(hv:∀ xs,H a≠some (.tup xs))(x:aY P w H h a u):aY P w (upd H a v) h a u:=by
 cases hu with
 | k kvs=>exact x
 | t kvs =>
  obtain⟨z,y,xs,r,rest⟩:=x
  exact⟨z,y,xs,Paired.mapP r fun p q z=>⟨z.1,by rw[upd_ne (fun e=>hv _ (by rw[<-e];exact z.2.1))];exact z.2.1,z.2.2⟩,rest⟩
theorem ac.swapDc (I:ac X pins σ H s){c v:HO}(e:H a=some c)(hc:∀ xs,c≠.tup xs)(hc2:∀ y,c≠.own y)(hc3:∀ ps,c≠.tbl ps)(h0:∀ o' u',X.H₀ a=some (.frz o' u')->c=.frz o' u'->v=.frz o' u')(new:aY X.prog X.w (upd H a v) s.heap a v):ac X pins σ (upd H a v) s:=by
 have na:∀ {b},H b=none->b≠a:=fun {b} q z=>by rw[z,e] at q;cases q
 refine⟨I.ok,I.os,I.bare,⟨I.base.keep,I.base.slot,fun b o q n hx=>?_,I.base.there,fun b xs q=>?_,fun b o' u' q=>?_,fun b ps q=>?_⟩,I.loc,I.cell,?_,fun y d q=>?_,fun p hp=>?_,fun b ob q=>?_,I.len⟩
 ·have z:=I.base.free b o q n hx
  rw[upd_ne (na z)];exact z
 ·have z:=I.base.tups b xs q
  rw[upd_ne (fun w=>by rw[w,e] at z;cases z;exact hc _ rfl)];exact z
 ·have z:=I.base.frzs b o' u' q
  by_cases hb:b=a
  ·subst hb
   rw[e] at z
   rw[ah,h0 o' u' q (Option.some.inj z)]
  ·rw[upd_ne hb];exact z
 ·obtain⟨m,z⟩:=I.base.tbls b ps q
  exact⟨m,by rw[upd_ne (fun w=>by rw[w,e] at z;cases z;exact hc3 _ rfl)];exact z⟩
 ·rw[upd_ne (na I.free)];exact I.free
 ·rw[upd_ne (na (I.freeC y d q))];exact I.freeC y d q
 ·obtain⟨e1,e2,e3⟩:=I.pin p hp
  exact⟨e1,by rw[upd_ne (na e2)];exact e2,e3⟩
 ·by_cases hb:b=a
  ·subst hb
   rw[ah] at q
   cases q
   exact new
  ·rw[upd_ne hb] at q
   refine(I.hok b ob q).stay (fun _ _ _ z=>z) (fun d z=>?_) fun d xs z=>?_
   ·rw[upd_ne (fun w=>by rw[w,e] at z;cases z;exact hc2 _ rfl)];exact z
   ·rw[upd_ne (fun w=>by rw[w,e] at z;cases z;exact hc _ rfl)];exact z
theorem ac.freeze (I:ac X pins σ H s)(hu:d0 u)(e:H a=some u)(ho:s.heap.get? a=some o):ac X pins σ (upd H a (.frz o u)) s:=by
 have hx:=I.hok a u e
 have ht:∀ xs,u≠.tup xs:=fun xs z=>by rw[z] at hu;cases hu
 refine I.swapDc e ht (fun y z=>by rw[z] at hu;cases hu) (fun y z=>by rw[z] at hu;cases hu) (fun o' u' _ z=>by rw[z] at hu;cases hu) ⟨ho,rL hu _ (fun xs q=>?_) hx⟩
 rw[e] at q
 exact ht xs (Option.some.inj q)
theorem ac.thaw (I:ac X pins σ H s)(hu:d0 u)(e:H a=some (.frz o u))(h0:∀ o' u',X.H₀ a≠some (.frz o' u')):ac X pins σ (upd H a u) s:=by
 obtain⟨_,hx⟩:=(show aY X.prog X.w H s.heap a (.frz o u) from I.hok a _ e)
 refine I.swapDc e (fun xs z=>nomatch z) (fun y z=>nomatch z) (fun ps z=>nomatch z) (fun o' u' q _=>absurd q (h0 o' u')) (rL hu _ (fun xs q=>?_) hx)
 rw[e] at q
 cases q
def wu (H0:Hp)(t:TE):TE:=fun σ H Q=>t σ H fun v H1=>∃ a o u,H1 a=some (.frz o u)/\d0 u/\(∀ o' u',H0 a≠some (.frz o' u'))/\Q v (upd H1 a u)
theorem y8 {e:Expr}{t:TE}{H0:Hp}(h:PE X e t)(h0:X.H₀=H0:=by rfl):PE X e (wu H0 t):=by
 subst h0
 refine⟨?_⟩
 intro pins s σ H Q I hq
 refine ai (h pins s σ H _ I hq) fun v s1 ⟨x,H1,I1,r,a,o,u,e,hu,h0,q⟩=>⟨x,_,I1.thaw hu e h0,r,q⟩
end
end L2
namespace L2
open PySem PySem.Spec PyProof.Rows
theorem j3 {P:CP}{w:World}:∀ {es:List DictEntry}{kvs:List (aj×Value)},Pairs (bo P w) es kvs->es.length=kvs.length/\∀ {i:Nat}{p:aj×Value},kvs[i]?=some p->∃ e,es[i]?=some e/\(bo P w).is p.1 e.key=true
 | _,_,.nil=>⟨rfl,fun h=>by simp at h⟩
 | _,_,.cons (kv:=kv) r _ t=>by
  obtain⟨h1,h2⟩:=j3 t
  refine⟨by rw[Ay,Ay,h1],fun {i p} h=>?_⟩
  cases i with
  | zero=>cases h;exact⟨_,rfl,r⟩
  | succ i=>exact h2 (show _=some p from h)
theorem pw {k:aj}{u:Value}(h:eG k u=true):aw (kV k) u:=by
 rcases c0 h with⟨i,t,rfl,rfl⟩|⟨x,t,rfl,rfl⟩
 ·exact⟨t,rfl⟩
 ·exact⟨t,rfl⟩
theorem xb {a:List (aj×V)}{b:List (aj×Value)}(h:KV a b){i:Nat}{p:aj×V}(hp:a[i]?=some p):∃ q,b[i]?=some q/\q.1=p.1:=by
 obtain⟨q,e,r⟩:=Paired.get h hp
 exact⟨q,e,r.1.symm⟩
def gL (a:Addr)(o:Obj)(kvs:List (aj×V)):It where
 go:=fun i H=>H a=some (.frz o (.dK kvs))/\i<kvs.length
 yld:=fun i H x H'=>H'=H/\∃ p:aj×V,x=kV p.1/\kvs[i]?=some p
 stop:=fun i H=>H a=some (.frz o (.dK kvs))/\kvs.length<=i
theorem zQ {P:Program} {w:World} {K:PySem.W.Frag} {tg:Expr} {a it:Addr} {o:Obj} {es:Array DictEntry} {ep:Nat} {kvs:List (aj × V)} (hne:it≠a) (hx:o.ExactDict) (hd:o.data=.dict es ep):eQ P w K tg (gL a o kvs) [it] it (fun i h=>h.IsKeyIter it a i es.size ep) where
  mem:=by simp
  obj:=fun i h st b hb=>by
    have e:b=it:=by simpa using hb
    subst e
    obtain ⟨o,e,c,d⟩:=st
    exact ⟨o,e,fun v z=>by rw [d] at z; cases z⟩
  keep:=fun i h h' st k=>st.at fun o e=>k it (by simp) o e
  item:=by
    intro X hP hw hK hc i pins s σ H E I hf st hg
    subst hP hw hK
    obtain ⟨hq,hlt⟩:=hg
    obtain ⟨ho,z,hsm,vs0,kv,o2,es2,ep2,h1,h2,h3,h4,h5,h6⟩:=(show aY X.prog X.w H s.heap a (.frz o (.dK kvs)) from I.hok a _ hq)
    rw [ho] at h1
    cases h1
    rw [hd] at h3
    cases h3
    obtain ⟨f0,f1,f2,f3,f4,f5⟩:=hf it (by simp)
    obtain ⟨p,hp⟩:∃ p,kvs[i]?=some p:=⟨kvs[i],List.getElem?_eq_getElem hlt⟩
    obtain ⟨q,hq2,eq⟩:=xb kv hp
    obtain ⟨e,he,hk⟩:=(j3 h5).2 hq2
    rw [Array.getElem?_toList] at he
    rw [eq] at hk
    refine Dx.next st ⟨o,ho,hx,hd⟩ he fun h' st' sb=>?_
    have I1:ac X pins σ H { s with heap:=h' }:=I.turned (t':=s.toks) (fun b o hb e=>(sb.2 b hb).trans e) f0 f1 f3 f4 f5
    obtain ⟨oi,ei,ci,di⟩:=id st'
    exact ⟨_,rfl,kO (s:={ s with heap:=h' }) ei ci di (by decide) ⟨kV p.1,H,I1,pw hk,⟨rfl,p,rfl,hp⟩,st',fun b hb=>(hf b hb).1⟩⟩
  done:=by
    intro X hP hw hK hc i pins s σ H E I hf st hg
    subst hP hw hK
    obtain ⟨hq,hle⟩:=hg
    obtain ⟨ho,z,hsm,vs0,kv,o2,es2,ep2,h1,h2,h3,h4,h5,h6⟩:=(show aY X.prog X.w H s.heap a (.frz o (.dK kvs)) from I.hok a _ hq)
    rw [ho] at h1
    cases h1
    rw [hd] at h3
    cases h3
    obtain ⟨f0,f1,f2,f3,f4,f5⟩:=hf it (by simp)
    have hlen:kvs.length=vs0.length:=Paired.length kv
    have hes:=(j3 h5).1
    rw [Array.length_toList] at hes
    exact Dx.stop (I.ok.hd hc) (by omega) st ⟨o,ho,hx,hd⟩ fun h' eb=>⟨rfl,I.turned (t':=s.toks) (fun b o hb e=>eb b o hb e) f0 f1 f3 f4 f5⟩
  self:=fun _ _ _ _ _ st h=>wpAny_pyIter_keyiter st h
inductive kR (te:TE)(σ:St)(H:Hp)(R:It->Hp->Prop):Prop
 | mk (h:te σ H fun x H1=>∃ a kvs,x=.ref a/\H1 a=some (.dK kvs)/\∀ o,R (gL a o kvs) (upd H1 a (.frz o (.dK kvs)))):kR te σ H R
theorem kW {X:Cx}{tg e:Expr}{te:TE}(he:PE X e te):PI X tg e (kR te):=by
 intro pins s σ H R I h
 obtain⟨h⟩:=h
 refine ai (he pins s σ H _ I h) fun v s1 ⟨x,H1,I1,r1,a,kvs,e,hq,q⟩=>?_
 subst e
 cases r1
 obtain⟨z,hsm,vs0,kv,o,es,ep,h1,h2,h3,h4,h5,h6⟩:=(show aY X.prog X.w H1 s1.heap a (.dK kvs) from I1.hok a _ hq)
 refine Dx.iter hsm ⟨o,h1,h2,h3⟩ ?_
 have I2:ac X pins σ H1 { s1 with heap:=s1.heap.push { cls:=.type "dict_keyiterator",data:=.fields #[.ref a,.int 0 0,.int es.size 0,.int ep 0] } }:=I1.kept (t':=s1.toks) fun b o e=>BY _ e
 have hlt:=BX h1
 refine⟨s1.heap.objs.size,[s1.heap.objs.size],_,_,_,rfl,I2.freeze (.k kvs) hq (BY _ h1),zQ (Cc hlt) h2 h3,⟨_,BZ _ rfl,rfl,rfl⟩,fun b hb=>?_,q o⟩
 have e:b=s1.heap.objs.size:=by simpa using hb
 subst e
 exact I1.fpOk (B6 _) (by rw[upd_ne (Cc hlt)];exact I1.hok.fresh (B6 _))
end L2
namespace L2
open PySem PySem.Spec PyProof.Rows
section
variable {prog:CP}{w:World}{A:Around}{R:Dt->CW->Prop}{s:CW}{elt t0 i0 t1 i1:Expr}{ifs:List Expr}{scope:Scope}{pos:Pos}{it acc:Value}{env:Env}
theorem ut (elt t0 i0 t1 i1:Expr)(ifs:List Expr)(scope:Scope)(pos:Pos)(it acc:Value)(env:Env) :
  Ek (.SetComp elt [⟨t0,i0,[],0⟩,⟨t1,i1,ifs,0⟩] scope pos) 0 it acc env=(do
   C6 i0.pos
   match <-Eh it with
   | none=>pure (.done .next)
   | some v =>
    Ei t0 it v
    Db t0 env v
    let x <-eval i1 env
    C6 i1.pos
    let x <-Do i1 env x
    let _ <-runOwn (.compStart (.SetComp elt [⟨t0,i0,[],0⟩,⟨t1,i1,ifs,0⟩] scope pos) 1 (<-C7 [x] (Dk x)) acc env) env
    again (.compLoop (.SetComp elt [⟨t0,i0,[],0⟩,⟨t1,i1,ifs,0⟩] scope pos) 0 it acc env)):=by
 unfold Ek
 simp only[List.getElem?_cons_zero,List.getElem?_cons_succ,bind_assoc,pure_bind,Co,List.forIn_nil]
 rfl
theorem yk (elt t0 i0 t1 i1:Expr)(ifs:List Expr)(scope:Scope)(pos:Pos)(it acc:Value)(env:Env) :
 Ek (.SetComp elt [⟨t0,i0,[],0⟩,⟨t1,i1,ifs,0⟩] scope pos) 1 it acc env=(do
  C6 i1.pos
  match <-Eh it with
  | none=>pure (.done .next)
  | some v =>
   Ei t1 it v
   Db t1 env v
   let mut ok:=true
   for c in ifs do
    if ok then ok <-isTrue c env (eval c env)
   if ok then
    (do let y <-eval elt env;C6 elt.pos;let _ <-call (.builtin "set.add") [acc,y])
   again (.compLoop (.SetComp elt [⟨t0,i0,[],0⟩,⟨t1,i1,ifs,0⟩] scope pos) 1 it acc env)):=by rfl
theorem ve {E:Value->CW->Prop}
  (h0:Du (model prog w) A (.compLoop (.SetComp elt [⟨t0,i0,[],0⟩,⟨t1,i1,ifs,0⟩] scope pos) 1 it acc env) R s)
  (h:wpAny (model prog w) A (Dk it) (fun it' s'=>Du (model prog w) A (.compLoop (.SetComp elt [⟨t0,i0,[],0⟩,⟨t1,i1,ifs,0⟩] scope pos) 1 it' acc env) R s')
   (notedBy (model prog w) A env fun x s'=>R (.error x) s') s) :
  Du (model prog w) A (.compStart (.SetComp elt [⟨t0,i0,[],0⟩,⟨t1,i1,ifs,0⟩] scope pos) 1 it acc env) R s:=by
 refine Fh ?_
 show wpAny _ _ ((Fi (.SetComp elt [⟨t0,i0,[],0⟩,⟨t1,i1,ifs,0⟩] scope pos) 1 it acc env).onRaise (fun x=>do El x env;C6 Fj)) _ _ s
 refine Fk ?_
 unfold Fi
 show wpAny _ _ (ask >>= _) _ _ s
 refine Df (EW (wpAny_ite ?_))
 split
 ·first
   | exact Df (Ds (Ds (And.intro rfl h0)))
   | exact Ds (And.intro rfl h0)
 ·first
   | exact Df (EC (Df (Dh (Df (C1 h (fun it' s' h'=>Ds (And.intro rfl h')) fun _ _ x=>x)))))
   | (refine Df (EC ?_);show wpAny _ _ (C6 i1.pos >>= _) _ _ s;exact Df (Dh (Df (C1 h (fun it' s' h'=>Ds (And.intro rfl h')) fun _ _ x=>x))))
theorem xu (I:Nat->CW->Prop)
  (turn:∀ n s,I n s->wpAny (model prog w) A (Eh it) (fun r s1=>match r with
   | none=>R (.ok .next) s1
   | some v=>wpAny (model prog w) A (Ei t0 it v) (fun _ s1=>wpAny (model prog w) A (Db t0 env v) (fun _ s2 =>
    wpAny (model prog w) A (eval i1 env) (fun x s3=>wpAny (model prog w) A (Dk x) (fun it2 s4 =>
     Du (model prog w) A (.compStart (.SetComp elt [⟨t0,i0,[],0⟩,⟨t1,i1,ifs,0⟩] scope pos) 1 it2 acc env) (fun r s5=>match r with|.ok _=>∃ m,m<n/\I m s5|.error _=>False) s4) (fun _ _=>False) s3) (fun _ _=>False) s2) (fun _ _=>False) s1) (fun _ _=>False) s1) (fun _ _=>False) s)
  (n:Nat) (h:I n s) (hs:∀ v,Do i1 env v=pure v) :
  Du (model prog w) A (.compLoop (.SetComp elt [⟨t0,i0,[],0⟩,⟨t1,i1,ifs,0⟩] scope pos) 0 it acc env) R s:=by
 refine Ej rfl I (fun n s hI=>?_) n h
 show wpAny _ A ((Ek (.SetComp elt [⟨t0,i0,[],0⟩,⟨t1,i1,ifs,0⟩] scope pos) 0 it acc env).onRaise (fun x=>do El x env;Em x)) _ _ s
 refine Eo ?_
 rw[ut]
 refine Df (Dh (Df (C1 (turn n s hI) (fun r s1 h1=>?_) fun _ _ h'=>h'.elim)))
 cases r with
 | none=>exact Ds h1
 | some v =>
  refine Df (C1 h1 (fun _ s1 h1=>?_) fun _ _ h'=>h'.elim)
  refine Df (C1 h1 (fun _ s2 h2=>Df (C1 h2 (fun x s3 h3=>?_) fun _ _ h'=>h'.elim)) fun _ _ h'=>h'.elim)
  refine Df (Dh ?_)
  rw[hs]
  refine Df (Ds (Df (Dg (C1 h3 (fun it2 s4 h4=>?_) fun _ _ h'=>h'.elim))))
  refine Df (wpAny_runOwn ?_)
  rw[Around.mark_none]
  refine DC h4 fun r s5 h5=>?_
  cases r with
  | ok f=>exact Ds ⟨rfl,h5⟩
  | error e=>exact h5.elim
theorem zj (I:Nat->CW->Prop)
  (turn:∀ n s,I n s->wpAny (model prog w) A (Eh it) (fun r s1=>match r with
   | none=>R (.ok .next) s1
   | some v=>wpAny (model prog w) A (Ei t1 it v) (fun _ s1=>wpAny (model prog w) A (Db t1 env v) (fun _ s2 =>
    wpAny (model prog w) A (forIn ifs true fun c r=>if r=true then do let ok <-isTrue c env (eval c env);pure (ForInStep.yield ok) else pure (ForInStep.yield r)) (fun ok s3 =>
     if ok=true then wpAny (model prog w) A (eval elt env) (fun x s4 =>
      wpAny (model prog w) A (call (.builtin "set.add") [acc,x]) (fun _ s5=>∃ m,m<n/\I m s5) (fun _ _=>False) s4) (fun _ _=>False) s3
     else ∃ m,m<n/\I m s3) (fun _ _=>False) s2) (fun _ _=>False) s1) (fun _ _=>False) s1) (fun _ _=>False) s)
  (n:Nat) (h:I n s) :
  Du (model prog w) A (.compLoop (.SetComp elt [⟨t0,i0,[],0⟩,⟨t1,i1,ifs,0⟩] scope pos) 1 it acc env) R s:=by
 refine Ej rfl I (fun n s hI=>?_) n h
 show wpAny _ A ((Ek (.SetComp elt [⟨t0,i0,[],0⟩,⟨t1,i1,ifs,0⟩] scope pos) 1 it acc env).onRaise (fun x=>do El x env;Em x)) _ _ s
 refine Eo ?_
 rw[yk]
 refine Df (Dh (Df (C1 (turn n s hI) (fun r s1 h1=>?_) fun _ _ h'=>h'.elim)))
 cases r with
 | none=>exact Ds h1
 | some v =>
  refine Df (C1 h1 (fun _ s1 h1=>?_) fun _ _ h'=>h'.elim)
  refine Df (C1 h1 (fun _ s2 h2=>Df (C1 h2 (fun ok s3 h3=>?_) fun _ _ h'=>h'.elim)) fun _ _ h'=>h'.elim)
  cases ok with
  | false=>exact Ds ⟨rfl,h3⟩
  | true =>
   exact Df (Df (C1 h3 (fun x s4 h4=>Df (Dh (Df (C1 h4 (fun _ s5 h5=>Ds (Ds ⟨rfl,h5⟩)) fun _ _ h'=>h'.elim)))) fun _ _ h'=>h'.elim))
end
def kq (P:Program) (w:World) (n:Nat) (g:TG) (tc:TT) (te:TE) (σ:St) (J:It) (D:Addr) (ks:List aj) (H:Hp) (Fin:List aj→Hp→Prop):Prop :=
  ∃ W:Nat→Nat→List aj→Hp→Prop,(∃ m,W 0 m ks H)∧∀ i m ks H,W i m ks H→H D=some (bY P w D ks) ∧
    ((J.stop i H∧Fin ks H)∨(J.go i H∧∀ x H' (u:St),u.length=n→J.yld i H x H'→g x (u++σ) H' fun σ2 H2=>(∃ u2:St,u2.length=n∧σ2=u2++σ)∧tc σ2 H2 fun b H3=>if b=true then te σ2 H3 fun y H4=>H4 D=some (bY P w D ks)∧ks.length < 1000∧∃ k,y=kV k∧∃ m',m' < m∧W (i + 1) m' (fh ks k) (upd H4 D (bY P w D (fh ks k)))
      else ∃ m',m' < m∧W (i + 1) m' ks H3))
def mS (P:Program) (w:World) (n1 n2:Nat) (g:TG) (wi2:TI) (g2:TG) (tc:TT) (te:TE) (σ:St) (J:It) (D:Addr) (Fin:Hp→Prop) (H0:Hp):Prop :=
  ∃ W:Nat→Nat→List aj→Hp→Prop,(∃ m,W 0 m [] (upd H0 D (bY P w D [])))∧∀ i m ys H,W i m ys H→H D=some (bY P w D ys) ∧
    ((J.stop i H∧Fin H)∨(J.go i H∧∀ x H' (v u:St),v.length=n2→u.length=n1→J.yld i H x H'→g x (v++(u++σ)) H' fun σ2 H2=>∃ u2:St,u2.length=n1∧σ2=v++(u2++σ)∧wi2 σ2 H2 fun J2 H3 =>
      kq P w n2 g2 tc te (u2++σ) J2 D ys H3 fun zs H4=>∃ a o uu,H4 a=some (.frz o uu)∧d0 uu∧(∀ o' u',H0 a≠some (.frz o' u'))∧∃ m',m' < m∧W (i + 1) m' zs (upd H4 a uu)))
def uf (P:CP)(w:World)(n1 n2:Nat)(wi:TI)(g:TG)(wi2:TI)(g2:TG)(tc:TT)(te:TE):TE:=fun σ H Q=>wi σ H fun J H1=>∀ D,H1 D=none->mS P w n1 n2 g wi2 g2 tc te σ J D (fun H2=>Q (.ref D) H2) H1
section
variable {X:Cx}{xs1 xs2 Ns:List Str}{sc:Scope}{elt iter tg i1 tg1:Expr}{ifs:List Expr}{pos:Pos}{wi wi2:TI}{g g2:TG}{tc:TT}{te:TE}
theorem wy {pins:List (Addr×Obj)}{σ:St}{H:Hp}{s:CW}{it:Addr}{fp:List Addr}{tn:Nat->Heap->Prop}{J:It}{Fin:Addr->Hp->Prop}{RR:Value->Addr->Dt->CW->Prop}{E:Value->CW->Prop}
  (hc:X.calm=true) (S:cI X (xs2++xs1) Ns sc) (I:ac X pins σ H s) (T:eQ X.prog X.w X.K tg J fp it tn) (st:tn 0 s.heap) (hf:∀ b∈fp,a0 X pins H b) (hg:∀ C s0 H0,PG (aD X (xs2++xs1) Ns sc C fp s0 H0) tg g)
  (hi2:∀ C s0 H0,PI (aD X (xs2++xs1) Ns sc C fp s0 H0) tg1 i1 wi2) (hg2:∀ C s0 H0,PG (aD X (xs2++xs1) Ns sc C fp s0 H0) tg1 g2)
  (ht:∀ C s0 H0,dH (aD X (xs2++xs1) Ns sc C fp s0 H0) ifs tc) (he:∀ C s0 H0,PE (aD X (xs2++xs1) Ns sc C fp s0 H0) elt te) (q:∀ D,H D=none->mS X.prog X.w xs1.length xs2.length g wi2 g2 tc te σ J D (Fin D) H)
  (hR:∀ D C H2 s2 m,s.heap.objs.size<=C->ac X pins σ H2 s2->H2 C=none->s2.heap.Ns C m->Fin D H2->RR (.ref D) C (.ok .next) s2)
  (hs2:∀ C v,Do i1 (Ef sc (b7 sc X.env.cells) C X.env) v=pure v) :
  wpAny (model X.prog X.w) X.A (newSet (.type "set")) (fun acc s3=>wpAny (model X.prog X.w) X.A (Ep sc X.env.globals (b7 sc X.env.cells) [] X.env.qual none .none (some X.env)) (fun cenv s4 =>
   Du (model X.prog X.w) X.A (.compStart (.SetComp elt [⟨tg,iter,[],0⟩,⟨tg1,i1,ifs,0⟩] sc pos) 0 (.ref it) acc { cenv with scope:=Eg sc X.env }) (RR acc cenv.locals) s4) E s3) E s:=by
 have hlt:∀ b∈fp,b<s.heap.objs.size:=fun b hb=>by
  obtain⟨o,e,_⟩:=T.obj 0 _ st b hb
  exact BX e
 refine Ss.new fun oS hS=>Er S.nocell (by intro y hy;simp at hy) (fun h1 hns1 hsb1=>?_) S.kind
 dsimp only at hns1 hsb1 ⊢
 generalize hH2:s.heap.push oS=G at hns1 hsb1 hS ⊢
 have hC:G.objs.size=s.heap.objs.size+1:=by rw[<-hH2,B0]
 have hCle:s.heap.objs.size<=G.objs.size:=by rw[hC];exact Cd _
 have hDC:G.objs.size≠s.heap.objs.size:=by rw[hC];exact Ck _
 have old:∀ b o,s.heap.get? b=some o->h1.get? b=some o:=fun b o e=>hsb1.extBut b o (B7 (B8 (BX e) hCle)) (BY _ (hH2▸BY _ e))
 have hacc:aY X.prog X.w (upd H s.heap.objs.size (bY X.prog X.w s.heap.objs.size [])) h1 s.heap.objs.size (bY X.prog X.w s.heap.objs.size []):=qj ⟨#[],hS.at fun o e=>hsb1.extBut _ _ (Ne.symm hDC) (BY _ e),AU,[],List.Perm.refl _,.nil⟩
 have hDn:H s.heap.objs.size=none:=I.hok.fresh (B6 _)
 obtain⟨W,⟨m0,w0⟩,turn⟩:=q s.heap.objs.size hDn
 have st1:tn 0 h1:=T.keep _ _ _ st fun b _ o e=>old b o e
 have I1:=fun tk=>I.startSN (tk:=tk) (w:=(xs2++xs1).map fun _=>none) S hf hlt rfl rfl hCle hDC old hns1 hacc
 have fr1:∀ b∈fp,upd H s.heap.objs.size (bY X.prog X.w s.heap.objs.size []) b=none:=fun b hb=>by rw[upd_ne (B7 (hlt b hb))];exact(hf b hb).1
 have loop:∀ s3:CW,s3={ s with heap:=h1,toks:=s.toks+([]:List (Str×Value)).length } ->
   Du (model X.prog X.w) X.A (.compLoop (.SetComp elt [⟨tg,iter,[],0⟩,⟨tg1,i1,ifs,0⟩] sc pos) 0 (.ref it) (.ref s.heap.objs.size) (Ef sc (b7 sc X.env.cells) G.objs.size X.env))
    (RR (.ref s.heap.objs.size) G.objs.size) s3:=by
  rintro s3 rfl
  have fpk:∀ {H':Hp},(∀ b∈fp,H' b=none)->∀ b∈fp,a0 (aD X (xs2++xs1) Ns sc G.objs.size fp s H) [] H' b:=fun hn b hb =>
   ⟨hn b hb,B7 (B8 (hlt b hb) hCle),(I.okLN (C:=G.objs.size) S hCle hf hlt).exfs b hb,.inl hb,fun y c e=>(hf b hb).2.2.2.2.1 y c (bS sc X.env.cells e),fun p hp=>absurd (show p∈([]:List (Addr×Obj)) from hp) (by simp)⟩
  refine xu (fun n s'=>∃ i v u ys H',v.length=xs2.length/\u.length=xs1.length/\ac (aD X (xs2++xs1) Ns sc G.objs.size fp s H) [] (v++(u++σ)) H' s'/\tn i s'.heap/\(∀ b∈fp,H' b=none)/\W i n ys H') ?_ m0 ⟨0,xs2.map fun _=>none,xs1.map fun _=>none,[],_,Ar _,Ar _,by rw[<-Bz,<-Ax];exact I1 _,st1,fr1,w0⟩ (hs2 _)
  rintro n s3 ⟨i,v0,u0,ys,H3,hv0,hu0,I3,st3,fr3,w3⟩
  obtain⟨hD3,turn3⟩:=turn i n ys H3 w3
  rcases turn3 with⟨stop,fin⟩|⟨go,step⟩
  ·refine ai (T.done (aD X (xs2++xs1) Ns sc G.objs.size fp s H) rfl rfl rfl hc i [] s3 _ H3 _ I3 (fpk fr3) st3 stop) fun r s4 ⟨hr,I4⟩=>?_
   subst hr
   obtain⟨m4,hn4,_⟩:=I4.loc
   exact hR _ _ H3 s4 m4 hCle (I.endLN I4 hf) I4.free hn4 fin
  ·refine ai (T.item (aD X (xs2++xs1) Ns sc G.objs.size fp s H) rfl rfl rfl hc i [] s3 _ H3 _ I3 (fpk fr3) st3 go) fun r s4 ⟨uu,hr,h4⟩=>?_
   subst hr
   refine ai h4 fun _ s5 ⟨y,H5,I5,r5,y5,st5,fr5⟩=>?_
   have I5':=I5.pinned (fpk fr5) (T.obj _ _ st5)
   refine ai (hg G.objs.size s H _ s5 _ H5 y uu _ I5' r5 (step y H5 v0 u0 hv0 hu0 y5)) fun _ s6 ⟨σ6,H6,I6,⟨u6,hu6,e6,q6⟩⟩=>?_
   subst e6
   refine ai (hi2 G.objs.size s H _ s6 _ H6 _ I6 q6) fun v7 s7 h7=>ai h7 fun itv s8 h8=>?_
   obtain⟨it2,fp2,tn2,J2,H8,e8,I8,T2,st8,f8,q8⟩:=h8
   subst e8
   obtain⟨W2,⟨m20,w20⟩,turn2⟩:=q8
   have again:∀ {H8:Hp}{s8:CW}{zs:List aj}{w6:St},w6.length=xs2.length->ac (aD X (xs2++xs1) Ns sc G.objs.size fp s H) ([]++cX fp s5.heap) (w6++(u6++σ)) H8 s8->(∃ m',m'<n/\W (i+1) m' zs H8)->∃ m,m<n/\∃ i v u ys H',v.length=xs2.length/\u.length=xs1.length/\ac (aD X (xs2++xs1) Ns sc G.objs.size fp s H) [] (v++(u++σ)) H' s8/\tn i s8.heap/\(∀ b∈fp,H' b=none)/\W i m ys H':=fun {H8 s8 zs w6} hw6 I8 ⟨m',hm,w8⟩=>by
    refine⟨m',hm,i+1,w6,u6,zs,H8,hw6,hu6,I8.unpinned,T.keep _ _ _ st5 fun b hb o e=>(I8.pin (b,o) (Au _ (Au _ (dh hb e)))).1,fun b hb=>?_,w8⟩
    obtain⟨o,e,d⟩:=T.obj _ _ st5 b hb
    exact(I8.pin (b,o) (Au _ (Au _ (dh hb e)))).2.1
   have loop2:∀ s9:CW,s9=s8->Du (model X.prog X.w) X.A (.compLoop (.SetComp elt [⟨tg,iter,[],0⟩,⟨tg1,i1,ifs,0⟩] sc pos) 1 (.ref it2) (.ref s.heap.objs.size) (Ef sc (b7 sc X.env.cells) G.objs.size X.env))
     (fun r s5=>match r with|.ok _=>∃ m,m<n/\∃ i v u ys H',v.length=xs2.length/\u.length=xs1.length/\ac (aD X (xs2++xs1) Ns sc G.objs.size fp s H) [] (v++(u++σ)) H' s5/\tn i s5.heap/\(∀ b∈fp,H' b=none)/\W i m ys H'|.error _=>False) s9:=by
    rintro s9 rfl
    have fpk2:∀ {H':Hp},(∀ b∈fp2,H' b=none)->∀ b∈fp2,a0 (aD X (xs2++xs1) Ns sc G.objs.size fp s H) ([]++cX fp s5.heap) H' b:=fun hn b hb=>⟨hn b hb,(f8 b hb).2⟩
    refine zj (fun m s'=>∃ j v zs H',v.length=xs2.length/\ac (aD X (xs2++xs1) Ns sc G.objs.size fp s H) ([]++cX fp s5.heap) (v++(u6++σ)) H' s'/\tn2 j s'.heap/\(∀ b∈fp2,H' b=none)/\W2 j m zs H') ?_ m20 ⟨0,v0,ys,H8,hv0,I8,st8,fun b hb=>(f8 b hb).1,w20⟩
    rintro mm sA ⟨j,vA,zs,HA,hvA,IA,stA,frA,wA⟩
    obtain⟨hDA,turnA⟩:=turn2 j mm zs HA wA
    rcases turnA with⟨stop2,fin2⟩|⟨go2,step2⟩
    ·refine ai (T2.done (aD X (xs2++xs1) Ns sc G.objs.size fp s H) rfl rfl rfl hc j _ sA _ HA _ IA (fpk2 frA) stA stop2) fun r sB ⟨hr,IB⟩=>?_
     subst hr
     obtain⟨aT,oT,uT,eT,dT,h0T,wT⟩:=fin2
     exact again hvA (IB.thaw dT eT h0T) wT
    ·refine ai (T2.item (aD X (xs2++xs1) Ns sc G.objs.size fp s H) rfl rfl rfl hc j _ sA _ HA _ IA (fpk2 frA) stA go2) fun r sB ⟨u2,hr,hB⟩=>?_
     subst hr
     refine ai hB fun _ sC ⟨yC,HC,IC,rC,yC',stC,frC⟩=>?_
     have IC':=IC.pinned (fpk2 frC) (T2.obj _ _ stC)
     refine ai (hg2 G.objs.size s H _ sC _ HC yC u2 _ IC' rC (step2 yC HC vA hvA yC')) fun _ sD ⟨σD,HD,ID,⟨wD,hwD,eD⟩,qD⟩=>?_
     subst eD
     refine ai (ht G.objs.size s H _ sD _ HD _ ID qD) fun ok sE ⟨HE,IE,qE⟩=>?_
     have again2:∀ {H8:Hp}{s8:CW}{zs:List aj},ac (aD X (xs2++xs1) Ns sc G.objs.size fp s H) (([]++cX fp s5.heap)++cX fp2 sC.heap) (wD++(u6++σ)) H8 s8->(∃ m',m'<mm/\W2 (j+1) m' zs H8)->∃ m,m<mm/\∃ j v zs H',v.length=xs2.length/\ac (aD X (xs2++xs1) Ns sc G.objs.size fp s H) ([]++cX fp s5.heap) (v++(u6++σ)) H' s8/\tn2 j s8.heap/\(∀ b∈fp2,H' b=none)/\W2 j m zs H':=fun {H8 s8 zs} I8 ⟨m',hm,w8⟩=>by
      refine⟨m',hm,j+1,wD,zs,H8,hwD,I8.unpinned,T2.keep _ _ _ stC fun b hb o e=>(I8.pin (b,o) (Au _ (Au _ (dh hb e)))).1,fun b hb=>?_,w8⟩
      obtain⟨o,e,d⟩:=T2.obj _ _ stC b hb
      exact(I8.pin (b,o) (Au _ (Au _ (dh hb e)))).2.1
     cases ok with
     | false =>
      rw[if_neg Bool.false_ne_true] at qE ⊢
      exact again2 IE qE
     | true =>
      rw[if_pos rfl] at qE ⊢
      refine ai (he G.objs.size s H _ sE _ HE _ IE qE) fun z sF ⟨zv,HF,IF,rF,hDF,hzF,kF,eF,wF⟩=>?_
      subst eF
      exact uV (X:=aD X (xs2++xs1) Ns sc G.objs.size fp s H) IF hDF rF hzF fun sG IG=>again2 IG wF
   exact ve (E:=fun _ _=>False) (loop2 _ rfl) (T2.self X.A 0 _ _ _ st8 (loop2 _ rfl))
 exact vO (loop _ rfl) (T.self X.A 0 _ _ _ st1 (loop _ rfl))
theorem wj (hc:X.calm=true)(S:cI X (xs2++xs1) Ns sc)(hi:PI X tg iter wi)(hg:∀ C fp s0 H0,PG (aD X (xs2++xs1) Ns sc C fp s0 H0) tg g)(hi2:∀ C fp s0 H0,PI (aD X (xs2++xs1) Ns sc C fp s0 H0) tg1 i1 wi2)(hg2:∀ C fp s0 H0,PG (aD X (xs2++xs1) Ns sc C fp s0 H0) tg1 g2)
  (ht:∀ C fp s0 H0,dH (aD X (xs2++xs1) Ns sc C fp s0 H0) ifs tc) (he:∀ C fp s0 H0,PE (aD X (xs2++xs1) Ns sc C fp s0 H0) elt te)
  (hs:∀ v,Do iter X.env v=pure v:=by intro _;rfl) (hs2:∀ C v,Do i1 (Ef sc (b7 sc X.env.cells) C X.env) v=pure v:=by intro _ _;rfl):PE X (.SetComp elt [⟨tg,iter,[],0⟩,⟨tg1,i1,ifs,0⟩] sc pos) (uf X.prog X.w xs1.length xs2.length wi g wi2 g2 tc te):=by
 refine⟨?_⟩
 intro pins s σ H Q I h
 rw[vY]
 refine Eu (use:=none) rfl hs (jm (S.cells I.ok)) S.kind S.names (ai (hi pins s σ H _ I h) fun v s1 h1=>ai h1 fun itv s2 h2=>?_)
 obtain⟨it,fp,tn,J,H2,e,I2,T,st2,f2,q2⟩:=h2
 subst e
 refine wy (RR:=fun acc C=>Ev (model X.prog X.w) X.A X.xe none (EP X pins σ Q) acc C) (Fin:=fun D H3=>Q (.ref D) H3) hc S I2 T st2 f2 (fun C s0 H0=>hg C fp s0 H0) (fun C s0 H0=>hi2 C fp s0 H0) (fun C s0 H0=>hg2 C fp s0 H0) (fun C s0 H0=>ht C fp s0 H0) (fun C s0 H0=>he C fp s0 H0) q2 ?_ hs2
 intro D C H3 s3 m hC I3 hn hN q3
 refine⟨m,hN,fun h' hs'=>⟨.ref D,H3,I3.butC hs' (Ca I2.sz hC) hn (Cc (B8 I2.lt hC)) (fun y c e=>?_) (fun p hp=>?_),rfl,q3⟩⟩
 ·obtain⟨v,z⟩:=I2.cell y c e
  exact B7 (B8 z.lt hC)
 ·exact B7 (B8 (BX (I2.pin p hp).1) hC)
end
end L2
namespace L2
open PySem PySem.Spec PyProof.Rows
section
variable {X:Cx}{xs Ns:List Str}{sc:Scope}{tg iter elt:Expr}{ifs:List Expr}{pos:Pos}{wi:TI}{g:TG}{tc:TT}{te:TE}
end
end L2
namespace L2
open PySem PySem.Spec PyProof.Rows
theorem yF (elt vx target iter:Expr)(ifs:List Expr)(scope:Scope)(pos:Pos)(it:Value)(d:Addr)(env:Env):Ek (.DictComp elt vx [⟨target,iter,ifs,0⟩] scope pos) 0 it (.ref d) env=(do
 C6 iter.pos
 match <-Eh it with
 | none=>pure (.done .next)
 | some v =>
  Ei target it v
  Db target env v
  let mut yes:=true
  for c in ifs do
   if yes then yes <-isTrue c env (eval c env)
  if yes then
   (do let kv <-eval elt env;let vv <-C7 [kv] (eval vx env);C6 { elt.pos with endLine:=vx.pos.endLine,endCol:=vx.pos.endCol };C7 [kv,vv] (dictSet d kv vv))
  again (.compLoop (.DictComp elt vx [⟨target,iter,ifs,0⟩] scope pos) 0 it (.ref d) env)):=by rfl
theorem yB {prog:CP}{w:World}{A:Around}{R:Dt->CW->Prop}{s:CW}{elt vx target iter ifs rest scope pos it acc env}(h0:Du (model prog w) A (.compLoop (.DictComp elt vx (⟨target,iter,ifs,0⟩::rest) scope pos) 0 it acc env) R s)
  (h:wpAny (model prog w) A (Dk it) (fun it' s'=>Du (model prog w) A (.compLoop (.DictComp elt vx (⟨target,iter,ifs,0⟩::rest) scope pos) 0 it' acc env) R s') (notedBy (model prog w) A env fun x s'=>R (.error x) s') s):Du (model prog w) A (.compStart (.DictComp elt vx (⟨target,iter,ifs,0⟩::rest) scope pos) 0 it acc env) R s:=by
 refine Fh ?_
 show wpAny _ _ ((Fi (.DictComp elt vx (⟨target,iter,ifs,0⟩::rest) scope pos) 0 it acc env).onRaise (fun x=>do El x env;C6 Fj)) _ _ s
 refine Fk (m:=Fi (.DictComp elt vx (⟨target,iter,ifs,0⟩::rest) scope pos) 0 it acc env) ?_
 unfold Fi
 show wpAny _ A (ask >>= _) _ _ s
 have fin:wpAny (model prog w) A (do C6 iter.pos;again (.compLoop (.DictComp elt vx (⟨target,iter,ifs,0⟩::rest) scope pos) 0 (<-Dk it) acc env)) (fun r s'=>match r with|.done f=>R (.ok f) s'|.again c'=>c'.quiet=true/\Du (model prog w) A c' R s') (notedBy (model prog w) A env fun x s'=>R (.error x) s') s :=
  Df (Dh (Df (C1 h (fun _ _ z=>Ds ⟨rfl,z⟩) fun _ _ z=>z)))
 refine Df (EW (wpAny_ite ?_))
 split
 ·first|exact Ds ⟨rfl,h0⟩|exact Df (Ds (Ds ⟨rfl,h0⟩))
 ·first|exact Df (EC fin)|(refine Df (EC ?_);exact fin)
theorem wV {prog:CP}{w:World}{A:Around}{R:Dt->CW->Prop}{s:CW}{elt vx target iter:Expr}{ifs:List Expr}{scope:Scope}{pos:Pos}{it:Value}{d:Addr}{env:Env}(I:Nat->CW->Prop)
  (turn:∀ n s,I n s->wpAny (model prog w) A (Eh it) (fun r s1=>match r with
   | none=>R (.ok .next) s1
   | some v=>wpAny (model prog w) A (Ei target it v) (fun _ s1=>wpAny (model prog w) A (Db target env v) (fun _ s2 =>
    wpAny (model prog w) A (forIn ifs true fun c r=>if r=true then do let ok <-isTrue c env (eval c env);pure (ForInStep.yield ok) else pure (ForInStep.yield r)) (fun ok s3 =>
     if ok=true then wpAny (model prog w) A (eval elt env) (fun x s4=>wpAny (model prog w) A (eval vx env) (fun y s4 =>
      wpAny (model prog w) A (dictSet d x y) (fun _ s5=>∃ m,m<n/\I m s5) (fun _ _=>False) s4) (fun _ _=>False) s4) (fun _ _=>False) s3
     else ∃ m,m<n/\I m s3) (fun _ _=>False) s2) (fun _ _=>False) s1) (fun _ _=>False) s1) (fun _ _=>False) s)
  (n:Nat) (h:I n s) :
  Du (model prog w) A (.compLoop (.DictComp elt vx [⟨target,iter,ifs,0⟩] scope pos) 0 it (.ref d) env) R s:=by
 refine Ej rfl I (fun n s hI=>?_) n h
 show wpAny _ A ((Ek (.DictComp elt vx [⟨target,iter,ifs,0⟩] scope pos) 0 it (.ref d) env).onRaise (fun x=>do El x env;Em x)) _ _ s
 refine Eo ?_
 rw[yF]
 refine Df (Dh (Df (C1 (turn n s hI) (fun r s1 h1=>?_) fun _ _ h'=>h'.elim)))
 cases r with
 | none=>exact Ds h1
 | some v =>
  refine Df (C1 h1 (fun _ s1 h1=>?_) fun _ _ h'=>h'.elim)
  refine Df (C1 h1 (fun _ s2 h2=>Df (C1 h2 (fun ok s3 h3=>?_) fun _ _ h'=>h'.elim)) fun _ _ h'=>h'.elim)
  cases ok with
  | false=>exact Ds ⟨rfl,h3⟩
  | true =>
   exact Df (Df (C1 h3 (fun x s4 h4=>Df (Dg (C1 h4 (fun y s5 h5=>Df (Dh (Dg (C1 h5 (fun _ s6 h6=>Ds ⟨rfl,h6⟩) fun _ _ h'=>h'.elim)))) fun _ _ h'=>h'.elim))) fun _ _ h'=>h'.elim))
def lZ (n:Nat) (g:TG) (tc:TT) (te tv:TE) (σ:St) (J:It) (D:Addr) (Fin:Hp→Prop) (H:Hp):Prop :=
  ∃ W:Nat→Nat→List (aj × V)→Hp→Prop,(∃ m,W 0 m [] (upd H D (.dK [])))∧∀ i m ks H,W i m ks H→H D=some (.dK ks) ∧
    ((J.stop i H∧Fin H)∨(J.go i H∧∀ x H' (u:St),u.length=n→J.yld i H x H'→g x (u++σ) H' fun σ2 H2=>(∃ u2:St,u2.length=n∧σ2=u2++σ)∧tc σ2 H2 fun b H3=>if b=true then te σ2 H3 fun y H4=>tv σ2 H4 fun z H5=>H5 D=some (.dK ks)∧ks.length < sizeLine∧∃ k,y=kV k∧∃ m',m' < m∧W (i + 1) m' (aX ks k z) (upd H5 D (.dK (aX ks k z)))
      else ∃ m',m' < m∧W (i + 1) m' ks H3))
def vj (n:Nat)(wi:TI)(g:TG)(tc:TT)(te tv:TE):TE:=fun σ H Q=>wi σ H fun J H1=>∀ D,H1 D=none->lZ n g tc te tv σ J D (fun H2=>Q (.ref D) H2) H1
section
variable {X:Cx}{pins:List (Addr×Obj)}{σ:St}{H:Hp}{s:CW}
theorem wq {D:Addr}{ks:List (aj×V)}{k:aj}{u r:Value}{v:V}{Q:CW->Prop}{E:Value->CW->Prop}(I:ac X pins σ H s)(hD:H D=some (.dK ks))(ru:aw (kV k) u)(rv:aw v r)(hz:ks.length<CQ)
  (h:∀ s',ac X pins σ (upd H D (.dK (aX ks k v))) s'->Q s'):wpAny (model X.prog X.w) X.A (dictSet D u r) (fun _ s'=>Q s') E s:=by
 obtain⟨z,hd,vs,rel,dd⟩:=tz I.hok hD
 have hz2:vs.length<=CQ:=by rw[<-rel.length];exact z
 have hl:(aX ks k v).length<=CQ:=by have:=li ks k v;omega
 refine wpAny_dictSet_pairs (hsz:=hz2) (iH ru) dd fun h' dd' hs=>h _ ?_
 have he:∃ q,h'.get? D=some q:=let ⟨q,_,_,hq,_⟩:=dd';⟨q,hq⟩
 exact lV I (by rw[hD];exact True.intro) hs he (pH hl hd (rel.put k rv) dd')
end
section
variable {X:Cx}{xs Ns:List Str}{sc:Scope}{elt vx iter tg:Expr}{ifs:List Expr}{pos:Pos}{wi:TI}{g:TG}{tc:TT}{te tv:TE}
theorem xK {pins:List (Addr×Obj)}{σ:St}{H:Hp}{s:CW}{it:Addr}{fp:List Addr}{tn:Nat->Heap->Prop}{J:It}{Fin:Addr->Hp->Prop}{RR:Value->Addr->Dt->CW->Prop}{E:Value->CW->Prop}
  (hc:X.calm=true) (S:cI X xs Ns sc) (I:ac X pins σ H s) (T:eQ X.prog X.w X.K tg J fp it tn) (st:tn 0 s.heap) (hf:∀ b∈fp,a0 X pins H b) (hg:∀ C s0 H0,PG (aD X xs Ns sc C fp s0 H0) tg g)
  (ht:∀ C s0 H0,dH (aD X xs Ns sc C fp s0 H0) ifs tc) (he:∀ C s0 H0,PE (aD X xs Ns sc C fp s0 H0) elt te) (hv:∀ C s0 H0,PE (aD X xs Ns sc C fp s0 H0) vx tv) (q:∀ D,H D=none->lZ xs.length g tc te tv σ J D (Fin D) H)
  (hR:∀ D C H2 s2 m,s.heap.objs.size<=C->ac X pins σ H2 s2->H2 C=none->s2.heap.Ns C m->Fin D H2->RR (.ref D) C (.ok .next) s2) :
  wpAny (model X.prog X.w) X.A newDict (fun acc s3=>wpAny (model X.prog X.w) X.A (Ep sc X.env.globals (b7 sc X.env.cells) [] X.env.qual none .none (some X.env)) (fun cenv s4 =>
   Du (model X.prog X.w) X.A (.compStart (.DictComp elt vx [⟨tg,iter,ifs,0⟩] sc pos) 0 (.ref it) acc { cenv with scope:=Eg sc X.env }) (RR acc cenv.locals) s4) E s3) E s:=by
 have hlt:∀ b∈fp,b<s.heap.objs.size:=fun b hb=>by
  obtain⟨o,e,_⟩:=T.obj 0 _ st b hb
  exact BX e
 refine DR (Er S.nocell (by intro y hy;simp at hy) (fun h1 hns1 hsb1=>?_) S.kind)
 dsimp only at hns1 hsb1 ⊢
 generalize hH2:s.heap.push { cls:=.type "dict",dict:=none,data:=.dict #[] }=G at hns1 hsb1 ⊢
 have hC:G.objs.size=s.heap.objs.size+1:=by rw[<-hH2,B0]
 have hCle:s.heap.objs.size<=G.objs.size:=by rw[hC];exact Cd _
 have hDC:G.objs.size≠s.heap.objs.size:=by rw[hC];exact Ck _
 have old:∀ b o,s.heap.get? b=some o->h1.get? b=some o:=fun b o e=>hsb1.extBut b o (B7 (B8 (BX e) hCle)) (BY _ (hH2▸BY _ e))
 have hemp:aY X.prog X.w (upd H s.heap.objs.size (.dK [])) (s.heap.push { cls:=.type "dict",data:=.dict #[] }) s.heap.objs.size (.dK []):=pF s.heap I.big
 have hacc:aY X.prog X.w (upd H s.heap.objs.size (.dK [])) h1 s.heap.objs.size (.dK []):=by
  obtain⟨z,y,vs,r,ob,es,ep,e,cc⟩:=hemp
  exact⟨z,y,vs,r,ob,es,ep,hsb1.extBut _ _ (Ne.symm hDC) (BY _ (hH2▸e)),cc⟩
 have hDn:H s.heap.objs.size=none:=I.hok.fresh (B6 _)
 obtain⟨W,⟨m0,w0⟩,turn⟩:=q s.heap.objs.size hDn
 have st1:tn 0 h1:=T.keep _ _ _ st fun b _ o e=>old b o e
 have I1:=fun tk=>I.startSN (tk:=tk) (w:=xs.map fun _=>none) S hf hlt rfl rfl hCle hDC old hns1 hacc
 have fr1:∀ b∈fp,upd H s.heap.objs.size (.dK []) b=none:=fun b hb=>by rw[upd_ne (B7 (hlt b hb))];exact(hf b hb).1
 have loop:∀ s3:CW,s3={ s with heap:=h1,toks:=s.toks+([]:List (Str×Value)).length } ->
   Du (model X.prog X.w) X.A (.compLoop (.DictComp elt vx [⟨tg,iter,ifs,0⟩] sc pos) 0 (.ref it) (.ref s.heap.objs.size) (Ef sc (b7 sc X.env.cells) G.objs.size X.env))
    (RR (.ref s.heap.objs.size) G.objs.size) s3:=by
  rintro s3 rfl
  have fpk:∀ {H':Hp},(∀ b∈fp,H' b=none)->∀ b∈fp,a0 (aD X xs Ns sc G.objs.size fp s H) [] H' b:=fun hn b hb =>
   ⟨hn b hb,B7 (B8 (hlt b hb) hCle),(I.okLN (C:=G.objs.size) S hCle hf hlt).exfs b hb,.inl hb,fun y c e=>(hf b hb).2.2.2.2.1 y c (bS sc X.env.cells e),fun p hp=>absurd (show p∈([]:List (Addr×Obj)) from hp) (by simp)⟩
  refine wV (fun n s'=>∃ i w ys H',w.length=xs.length/\ac (aD X xs Ns sc G.objs.size fp s H) [] (w++σ) H' s'/\tn i s'.heap/\(∀ b∈fp,H' b=none)/\W i n ys H') ?_ m0 ⟨0,_,[],_,Ar _,I1 _,st1,fr1,w0⟩
  rintro n s3 ⟨i,v0,ys,H3,hv0,I3,st3,fr3,w3⟩
  obtain⟨hD3,turn3⟩:=turn i n ys H3 w3
  rcases turn3 with⟨stop,fin⟩|⟨go,step⟩
  ·refine ai (T.done (aD X xs Ns sc G.objs.size fp s H) rfl rfl rfl hc i [] s3 _ H3 _ I3 (fpk fr3) st3 stop) fun r s4 ⟨hr,I4⟩=>?_
   subst hr
   obtain⟨m4,hn4,_⟩:=I4.loc
   exact hR _ _ H3 s4 m4 hCle (I.endLN I4 hf) I4.free hn4 fin
  ·refine ai (T.item (aD X xs Ns sc G.objs.size fp s H) rfl rfl rfl hc i [] s3 _ H3 _ I3 (fpk fr3) st3 go) fun r s4 ⟨u,hr,h4⟩=>?_
   subst hr
   refine ai h4 fun _ s5 ⟨y,H5,I5,r5,y5,st5,fr5⟩=>?_
   have I5':=I5.pinned (fpk fr5) (T.obj _ _ st5)
   refine ai (hg G.objs.size s H _ s5 _ H5 y u _ I5' r5 (step y H5 v0 hv0 y5)) fun _ s6 ⟨σ6,H6,I6,⟨w6,hw6,e6⟩,q6⟩=>?_
   subst e6
   refine ai (ht G.objs.size s H _ s6 _ H6 _ I6 q6) fun ok s7 ⟨H7,I7,q7⟩=>?_
   have again:∀ {H8:Hp}{s8:CW}{zs:List (aj×V)},ac (aD X xs Ns sc G.objs.size fp s H) ([]++cX fp s5.heap) (w6++σ) H8 s8->(∃ m',m'<n/\W (i+1) m' zs H8)->∃ m,m<n/\∃ i w ys H',w.length=xs.length/\ac (aD X xs Ns sc G.objs.size fp s H) [] (w++σ) H' s8/\tn i s8.heap/\(∀ b∈fp,H' b=none)/\W i m ys H':=fun {H8 s8 zs} I8 ⟨m',hm,w8⟩=>by
    refine⟨m',hm,i+1,w6,zs,H8,hw6,I8.unpinned,T.keep _ _ _ st5 fun b hb o e=>(I8.pin (b,o) (Au _ (Au _ (dh hb e)))).1,fun b hb=>?_,w8⟩
    obtain⟨o,e,d⟩:=T.obj _ _ st5 b hb
    exact(I8.pin (b,o) (Au _ (Au _ (dh hb e)))).2.1
   cases ok with
   | false =>
    rw[if_neg Bool.false_ne_true] at q7 ⊢
    exact again I7 q7
   | true =>
    rw[if_pos rfl] at q7 ⊢
    refine ai (he G.objs.size s H _ s7 _ H7 _ I7 q7) fun z s8 ⟨zv,H8,I8,r8,q8⟩=>?_
    refine ai (hv G.objs.size s H _ s8 _ H8 _ I8 q8) fun y s9 ⟨yv,H9,I9,r9,hD9,hz9,k9,e9,w9⟩=>?_
    subst e9
    exact wq (X:=aD X xs Ns sc G.objs.size fp s H) I9 hD9 r8 r9 hz9 fun s9 I9=>again I9 w9
 exact yB (loop _ rfl) (T.self X.A 0 _ _ _ st1 (loop _ rfl))
theorem wv {i:Nat}{y:Str}{py spos:Pos}(hN0:X.N.Nodup)(hc:X.calm=true)(hi':X.N[i]?=some y)(hy:X.env.scope.names.lookup y=some .local)(S:cI X xs Ns sc)(hi:PI X tg iter wi)(hg:∀ C fp s0 H0,PG (aD X xs Ns sc C fp s0 H0) tg g)(ht:∀ C fp s0 H0,dH (aD X xs Ns sc C fp s0 H0) ifs tc)(he:∀ C fp s0 H0,PE (aD X xs Ns sc C fp s0 H0) elt te)(hv:∀ C fp s0 H0,PE (aD X xs Ns sc C fp s0 H0) vx tv)
  (hsw:Da (.DictComp elt vx [⟨tg,iter,ifs,0⟩] sc pos) (some (.Name y py)) spos.line X.env=pure true:=by rfl) (hs:∀ v,Do iter X.env v=pure v:=by intro _;rfl) :
  PS X (.Assign [.Name y py] (.DictComp elt vx [⟨tg,iter,ifs,0⟩] sc pos) spos) (j9 (vj xs.length wi g tc te tv) (cY i)):=by
 refine⟨?_⟩
 intro pins s σ H Dn I h
 rw[Ew _ _ _ _ hsw]
 refine Df (Dh (Df ?_))
 show wpAny _ X.A (do let _ <-Ex (.DictComp elt vx [⟨tg,iter,ifs,0⟩] sc pos) sc X.env _ newDict false (eval iter X.env) (some (Db (.Name y py) X.env))) _ _ s
 refine Df (C1 (Eu (use:=some (Db (.Name y py) X.env)) (Q:=fun _ s'=>SP X pins Dn .next s') rfl hs (jm (S.cells I.ok)) S.kind S.names
  (ai (hi pins s σ H _ I h) fun v s1 h1=>ai h1 fun itv s2 h2=>?_)) (fun _ s' hq=>Ds (Ds hq)) fun _ _ e=>e)
 obtain⟨it,fp,tn,J,H2,e,I2,T,st2,f2,q2⟩:=h2
 subst e
 refine xK (RR:=fun acc C=>Ev (model X.prog X.w) X.A X.xe (some (Db (.Name y py) X.env)) (fun _ s'=>SP X pins Dn .next s') acc C) (Fin:=fun D H3=>cY i (.ref D) σ H3 Dn.nx) hc S I2 T st2 f2 (fun C s0 H0=>hg C fp s0 H0) (fun C s0 H0=>ht C fp s0 H0) (fun C s0 H0=>he C fp s0 H0) (fun C s0 H0=>hv C fp s0 H0) q2 ?_
 intro D C H3 s3 m hC I3 hn hN q3
 show wpAny _ _ (Db (.Name y py) X.env (.ref D)) _ _ s3
 have cne:∀ y c,X.env.cells.lookup y=some c->c≠C:=fun y c e=>by
  obtain⟨v,z⟩:=I2.cell y c e
  exact B7 (B8 z.lt hC)
 refine De (mi I3 hN0 hi' (.inl hy) (show aw (.ref D) (.ref D) from rfl) (fun s4 I4 ⟨a,hs4,ha⟩=>?_) (.inr hy))
 have haC:C≠a:=by
  rcases ha with e|e
  ·rw[e];exact Cc (B8 I2.lt hC)
  ·exact Ne.symm (cne y a e)
 refine⟨m,hN.sameBut hs4 haC,fun h' hs'=>⟨_,H3,I4.butC hs' (Ca I2.sz hC) hn (Cc (B8 I2.lt hC)) cne (fun p hp=>?_),q3⟩⟩
 exact B7 (B8 (BX (I2.pin p hp).1) hC)
end
end L2
namespace Srt
open PySem
end Srt
namespace L2
open PySem PySem.Spec PySem.W PyProof.Rows
open Classical in
section
variable {X:Cx}{pins:List (Addr×Obj)}{σ:St}{H:Hp}{s:CW}
end
end L2
namespace L2
open PySem PySem.Spec PySem.W PyProof.Rows
section
variable {X:Cx}
end
end L2
namespace L2
open PySem PySem.Spec PyProof.Rows
section
variable {prog:CP}{w:World}{A:Around}{E:Value->CW->Prop}{s:CW}
end
section
variable {X:Cx}
end
end L2
namespace L2
open PySem PySem.Spec PySem.W PyProof.Rows
section
variable {X:Cx}{pins:List (Addr×Obj)}{σ:St}{H:Hp}{s:CW}
end
section
variable {X:Cx}
end
end L2
namespace Srt
open PySem
end Srt
namespace L2
open PySem PySem.Spec PySem.W PyProof.Rows
section
variable {X:Cx}{pins:List (Addr×Obj)}{σ:St}{H:Hp}{s:CW}
end
end L2
namespace Ss
open PySem PySem.Spec
section
variable {prog:CP}{w:World}{K:Type}[DecidableEq K]{knd:KeyKind prog w K}{A:Around}{R:Dt->CW->Prop}{E:Value->CW->Prop}{I:Addr}{fp wr:List Addr}{n:Nat}{P:Nat->Value->Prop}{St:Nat->Heap->Prop}
end
section
variable {prog:CP}{w:World}{A:Around}{E:Value->CW->Prop}{s:CW}
end
section
variable {prog:CP}{w:World}{K:Type}[DecidableEq K]{knd:KeyKind prog w K}{A:Around}{E:Value->CW->Prop}{s:CW}
end
end Ss
namespace L2
open PySem PySem.Spec PyProof.Rows
section
variable {X:Cx}
end
end L2
namespace L2
open PySem PySem.Spec PyProof.Rows
section
variable {X:Cx}
end
end L2
namespace L2
open PySem PySem.Spec PyProof.Rows
abbrev fK (n i:Nat)(Pv:Nat->Prop):Prop:=∃ m',m'<n-i/\m'=n-(i+1)/\i+1<=n/\Pv (i+1)
theorem jJ {n i:Nat}{Pv:Nat->Prop}(hi:i<n)(h:Pv (i+1)):fK n i Pv:=⟨n-(i+1),by omega,rfl,hi,h⟩
theorem vG {P:CP}{w:World}{K:W.Frag}{a:Addr}{xs:List V}{n1 n2:Nat}{g:TG}{wi2:TI}{g2:TG}{tc:TT}{te:TE}{σ:St}{D:Addr}{Fin:Hp->Prop}{H0:Hp}(Pv:Nat->List aj->Hp->Prop)(h0:Pv 0 [] (upd H0 D (bY P w D [])))
  (hD:∀ i ks H,Pv i ks H->H D=some (bY P w D ks)/\bj K H a xs) (hend:∀ ks H,Pv xs.length ks H->Fin H)
  (hgo:∀ i x ks H (v u:St),v.length=n2->u.length=n1->i<xs.length->xs[i]?=some x->Pv i ks H->g x (v++(u++σ)) H fun σ2 H2=>∃ u2:St,u2.length=n1/\σ2=v++(u2++σ)/\wi2 σ2 H2 fun J2 H3 =>
   kq P w n2 g2 tc te (u2++σ) J2 D ks H3 fun zs H4=>∃ b o uu,H4 b=some (.frz o uu)/\d0 uu/\(∀ o' u',H0 b≠some (.frz o' u'))/\fK xs.length i fun j=>Pv j zs (upd H4 b uu)):mS P w n1 n2 g wi2 g2 tc te σ (fx K a) D Fin H0:=by
 refine⟨fun i m ks H=>m=xs.length-i/\i<=xs.length/\Pv i ks H,⟨xs.length,rfl,B9 _,h0⟩,?_⟩
 rintro i m ks H ⟨rfl,hi,p⟩
 refine⟨(hD i ks H p).1,?_⟩
 by_cases hlt:i<xs.length
 ·refine .inr ⟨⟨xs,xs[i],(hD _ _ _ p).2,As hlt⟩,fun x H' v u hv hu y=>?_⟩
  obtain⟨e,y⟩:=y
  subst e
  exact hgo i x ks _ v u hv hu hlt (y xs (hD _ _ _ p).2) p
 ·obtain rfl:i=xs.length:=by omega
  exact .inl ⟨⟨xs,(hD _ _ _ p).2,B6 _⟩,hend ks H p⟩
theorem wB {P:CP}{w:World}{a:Addr}{o:Obj}{kvs:List (aj×V)}{n:Nat}{g:TG}{tc:TT}{te:TE}{σ:St}{D:Addr}{ks0:List aj}{H0:Hp}{Fin:List aj->Hp->Prop}(Pv:Nat->List aj->Hp->Prop)(h0:Pv 0 ks0 H0)
  (hD:∀ i ks H,Pv i ks H->H D=some (bY P w D ks)/\H a=some (.frz o (.dK kvs))) (hend:∀ ks H,Pv kvs.length ks H->Fin ks H)
  (hgo:∀ i p ks H (u:St),u.length=n->i<kvs.length->kvs[i]?=some p->Pv i ks H->g (kV p.1) (u++σ) H fun σ2 H2=>(∃ u2:St,u2.length=n/\σ2=u2++σ)/\tc σ2 H2 fun b H3=>if b=true then te σ2 H3 fun y H4=>H4 D=some (bY P w D ks)/\ks.length<1000/\∃ k,y=kV k/\fK kvs.length i fun j=>Pv j (fh ks k) (upd H4 D (bY P w D (fh ks k)))
   else fK kvs.length i fun j=>Pv j ks H3):kq P w n g tc te σ (gL a o kvs) D ks0 H0 Fin:=by
 refine⟨fun i m ks H=>m=kvs.length-i/\i<=kvs.length/\Pv i ks H,⟨kvs.length,rfl,B9 _,h0⟩,?_⟩
 rintro i m ks H ⟨rfl,hi,p⟩
 refine⟨(hD i ks H p).1,?_⟩
 by_cases hlt:i<kvs.length
 ·refine .inr ⟨⟨(hD _ _ _ p).2,hlt⟩,fun x H' u hu y=>?_⟩
  obtain⟨e,q,ex,hq⟩:=y
  subst e ex
  exact hgo i q ks _ u hu hlt hq p
 ·obtain rfl:i=kvs.length:=by omega
  exact .inl ⟨⟨(hD _ _ _ p).2,B6 _⟩,hend ks H p⟩
end L2
namespace Pr
open PySem L2 PyProof.Rows Ent
def fL (ns:List Int)(n:Int):List Int:=if n∈ns then ns else ns++[n]
theorem mU {n:Int}{ns:List Int}:(Sum.inl n:aj)∈ns.map Sum.inl↔n∈ns:=by
 rw[Bo]
 exact⟨fun⟨x,hx,e⟩=>by cases e;exact hx,fun h=>⟨n,h,rfl⟩⟩
theorem xG (ns:List Int)(n:Int):fh (ns.map Sum.inl) (.inl n)=(fL ns n).map Sum.inl:=by
 unfold fL
 by_cases h:n∈ns
 ·rw[if_pos h,rn (mU.mpr h)]
 ·rw[if_neg h,tL (fun z=>h (mU.mp z)),Ax];rfl
theorem xo {ns:List Int}{n x:Int}:x∈fL ns n↔x∈ns\/x=n:=by
 unfold fL
 by_cases h:n∈ns
 ·rw[if_pos h];exact⟨.inl,fun z=>z.elim id fun e=>e▸h⟩
 ·rw[if_neg h,A9,Br]
theorem zm {ns:List Int}{n:Int}(h:ns.Nodup):(fL ns n).Nodup:=by
 unfold fL
 by_cases z:n∈ns
 ·rw[if_pos z];exact h
 ·rw[if_neg z,A4]
  exact⟨h,by simp,fun a ha b hb e=>z (by rw[List.mem_singleton.mp hb] at e;exact e▸ha)⟩
def ca (d:PyData):Prop:=∃ es:List En,(∀ e∈es,bN e)/\es.length<=1000/\bD es d
theorem sT:ca cn:=⟨[],(fun _ h=>nomatch h),by decide,.non rfl rfl⟩
theorem ca.noL {d:PyData}(h:ca d):L2.noL d=true:=by
 obtain⟨es,_,_,o⟩:=h
 exact lX o
theorem ca.lf {d:PyData}(h:ca d):Lf d/\d.bulk<=40/\d.depth<=2:=by
 obtain⟨es,k,l,o⟩:=h
 exact yy k l o
structure DD (H:Hp)(kvs:List (aj×V))(ns:List Int)(f:Int->PyData):Prop where
 k:kvs.map (·.1)=ns.map Sum.inl
 nd:ns.Nodup
 v:∀ n∈ns,∃ p,aJ kvs (.inl n)=some (.ref p)/\am H (f n) (.ref p)
 z:∀ n,n∉ns->aJ kvs (.inl n)=none/\f n=cn
 b:∀ n,ca (f n)
theorem DD.tups {H H':Hp}(s:∀ b xs,H b=some (.tup xs)->H' b=some (.tup xs)){kvs:List (aj×V)}{ns:List Int}{f:Int->PyData}(g:DD H kvs ns f):DD H' kvs ns f :=
 ⟨g.k,g.nd,fun n hn=>by obtain⟨p,e,h⟩:=g.v n hn;exact⟨p,e,am.tups s _ _ (g.b n).noL h⟩,g.z,g.b⟩
theorem DD.len {H:Hp}{kvs:List (aj×V)}{ns:List Int}{f:Int->PyData}(g:DD H kvs ns f):kvs.length=ns.length:=by
 have:=congrArg AW g.k
 rw[Ar,Ar] at this
 exact this
theorem DD.key {H:Hp}{kvs:List (aj×V)}{ns:List Int}{f:Int->PyData}(g:DD H kvs ns f){i:Nat}{p:aj×V}(h:kvs[i]?=some p):∃ n,p.1=.inl n/\ns[i]?=some n:=by
 have:(kvs.map (·.1))[i]?=some p.1:=by rw[AE,h];rfl
 rw[g.k,AE] at this
 cases hn:ns[i]? with
 | none=>rw[hn] at this;cases this
 | some n=>rw[hn] at this;exact⟨n,(Option.some.inj this).symm,rfl⟩
def eV (f g:Int->PyData)(n:Int):PyData:=.tuple [.int n,f n,g n]
def dR (ms:List Int)(f g:Int->PyData):List PyData:=(ms.filter fun n=>!PyData.eqv (f n) (g n)).map (eV f g)
def dg (f g:Int->PyData)(H:Hp)(x:V)(n:Int):Prop:=∃ t p q,x=.ref t/\H t=some (.tup [.int n,.ref p,.ref q])/\am H (f n) (.ref p)/\am H (g n) (.ref q)
theorem dg.tups {f g:Int->PyData}{H H':Hp}(s:∀ b xs,H b=some (.tup xs)->H' b=some (.tup xs)){x:V}{n:Int}(bf:ca (f n))(bg:ca (g n))(h:dg f g H x n):dg f g H' x n:=by
 obtain⟨t,p,q,e,h1,h2,h3⟩:=h
 exact⟨t,p,q,e,s _ _ h1,am.tups s _ _ bf.noL h2,am.tups s _ _ bg.noL h3⟩
theorem dg.dat {f g:Int->PyData}{H:Hp}{x:V}{n:Int}(h:dg f g H x n):am H (eV f g n) x:=by
 obtain⟨t,p,q,rfl,h1,h2,h3⟩:=h
 unfold eV am
 refine⟨t,_,rfl,h1,?_⟩
 unfold ay
 refine⟨_,_,rfl,by unfold am;rfl,?_⟩
 unfold ay
 refine⟨_,_,rfl,h2,?_⟩
 unfold ay
 refine⟨_,_,rfl,h3,?_⟩
 unfold ay
 rfl
theorem ma {f g:Int->PyData}{H:Hp}:∀ {ys:List V}{ns:List Int},Paired (dg f g H) ys ns->ay H (ns.map (eV f g)) ys
 | _,_,.nil=>by unfold ay;rfl
 | _,_,.cons r t=>by
  rw[Av]
  unfold ay
  exact⟨_,_,rfl,r.dat,ma t⟩
section
variable {P:CP}{w:World}{K:W.Frag}{mg:Str->Option Value}{base:Heap}{C:Addr}
inductive o6 (vs:List V)(H:Hp)(Q:VK)(E:XK):Prop
 | mk (a b:Addr)(ka kb:List (aj×V))(na nb zs:List Int)(f g:Int->PyData)(e:vs=[.ref a,.ref b])(ha:H a=some (.dK ka))(hb:H b=some (.dK kb))(A:DD H ka na f)(B:DD H kb nb g)(hz:zs.length<64)(za:∀ n∈na,n∈zs)(zb:∀ n∈nb,n∈zs)
  (q:∀ D ys (ms:List Int) H',aa H H'->H D=none->H' D=some (.lst ys)->ms.Nodup->ms.Pairwise (·<=·)->(∀ n,n∈ms↔n∈na\/n∈nb)->ay H' (dR ms f g) ys->ys.length<=ms.length->Q (.ref D) H'):o6 vs H Q E
theorem ip:aI ["one","other","numbers","rows"] ["one","other"] (ak fQ):=aN
set_option maxHeartbeats 8000000 in
theorem uH (T:Txt K mg C):aP P w K mg base 2 "unlike_bars" ["one","other"] o6:=by
 refine aU T.f_unlike_bars ip (fun vs H Q E h=>?_) (fun f cdv A outer s H vs Q E hr h=>?_)
 ·obtain⟨a,b,ka,kb,na,nb,zs,f,g,rfl,_⟩:=h
  rfl
 ·obtain⟨a,b,ka,kb,na,nb,zs,f,g,rfl,ha,hb,DA,DB,hz,za,zb,q⟩:=h
  refine⟨_,(al (aB (i:=2) ip.nd rfl (Or.inl rfl) (aQ (Ag P w rfl) T.b_sorted EK (ap (wj (xs1:=["bars"]) (xs2:=["number"]) (Ns:=["one","other","numbers","rows"]) rfl (eK _ ip) (rQ K (bP (az (pv 0) (pv 1)))) (fun C fp s0 H0=>nv (i:=1) (eK _ ip) (by decide) rfl C fp s0 H0) (fun _ _ _ _=>kW (pv 1)) (fun C fp s0 H0=>nv (i:=0) (eK _ ip) (by decide) rfl C fp s0 H0) (fun _ _ _ _=>bZ) (fun _ _ _ _=>(pv 0))))))
   (al (iZ (i:=3) rfl rfl rfl (bQ ip) (bK K (pv 2)) (fun _ _ _ _=>bZ) (fun _ _ _ _=>(bP (aW (pv 0) (jg (cN hr) (pv 1) (pv 0) (jw (empty T) hr) ⟨rfl,rfl,rfl,rfl⟩) (jg (cN hr) (pv 2) (pv 0) (jw (empty T) hr) ⟨rfl,rfl,rfl,rfl⟩)))))
   (ar (aF (cx rfl (bQ ip) (bK K (pv 3)) (fun _ _ _ _=>(iy (bO (mD hr) (av (bp K) (pv 0) ag (fun _ _=>rfl)) (av (bp K) (pv 0) ag (fun _ _=>rfl)) (bu _)))) (fun _ _ _ _=>(pv 0))))))),?_⟩
  have la:=DA.len
  have lb:=DB.len
  have len64:∀ {ns:List Int},ns.Nodup->(∀ n∈ns,n∈na\/n∈nb)->ns.length<64:=fun {ns} nd h=>by
   have:=cJ nd fun n hn=>(h n hn).elim (za n) (zb n)
   omega
  refine⟨_,rfl,_,rfl,cQ,fun t ht=>?_⟩
  have s1:aa H (upd H t (.tup [.ref a,.ref b])):=aa.upd ht
  have ht1:(upd H t (.tup [.ref a,.ref b])) t=some (.tup [.ref a,.ref b]):=ah
  generalize (upd H t (.tup [.ref a,.ref b]))=H1 at s1 ht1
  refine⟨t,rfl,⟨_,.of ht1⟩,fun D hD=>?_⟩
  have D0:H D=none:=s1.free hD
  refine vG (K:=K) (a:=t) (xs:=[.ref a,.ref b]) (fun i ks H2=>∃ ns:List Int,ks=ns.map Sum.inl/\ns.Nodup/\(∀ n,n∈ns↔(0<i/\n∈na)\/(1<i/\n∈nb))/\H2 D=some (bY P w D ks)/\aa H1 H2)
   ⟨[],rfl,AU,fun n=>by simp,ah,aa.upd hD⟩ (fun i ks H2 ⟨ns,_,_,_,h1,h2⟩=>⟨h1,.of (h2 _ _ ht1)⟩) ?fin ?turn
  case turn =>
   rintro i x ks H2 v u hv hu hi hx ⟨ns,rfl,nd,mem,hD2,s2⟩
   have core:∀ (c:Addr) (kc:List (aj×V)) (nc:List Int),H1 c=some (.dK kc)->kc.map (·.1)=nc.map Sum.inl->(∀ n∈nc,n∈na\/n∈nb)->(∀ n,((0<i/\n∈na)\/(1<i/\n∈nb))\/n∈nc↔(0<i+1/\n∈na)\/(1<i+1/\n∈nb))->x=.ref c ->
     cY 1 x (v++(u++[some (.ref a),some (.ref b),none,none])) H2 fun σ2 H2=>∃ u2:L2.St,u2.length=1/\σ2=v++(u2++[some (.ref a),some (.ref b),none,none])/\kR (iN 1) σ2 H2 fun J2 H3 =>
      kq P w 1 (cY 0) jY (iN 0) (u2++[some (.ref a),some (.ref b),none,none]) J2 D (ns.map Sum.inl) H3 fun zs H4=>∃ b o uu,H4 b=some (.frz o uu)/\d0 uu/\(∀ o' u',H1 b≠some (.frz o' u'))/\fK 2 i fun j=>(∃ ns:List Int,zs=ns.map Sum.inl/\ns.Nodup/\(∀ n,n∈ns↔(0<j/\n∈na)\/(1<j/\n∈nb))/\(upd H4 b uu) D=some (bY P w D zs)/\aa H1 (upd H4 b uu)):=by
    intro c kc nc hc hk hin hmem ex
    subst ex
    obtain⟨u1,rfl⟩:=iX hu
    obtain⟨v1,rfl⟩:=iX hv
    refine⟨[some (.ref c)],rfl,rfl,⟨⟨_,rfl,c,kc,rfl,s2 _ _ hc,fun o=>?_⟩⟩⟩
    have ncD:c≠D:=aR hc hD
    have kl:kc.length=nc.length:=by have:=congrArg AW hk;rw[Ar,Ar] at this;exact this
    have frz1:∀ b' o',H1 b'=some o'->b'≠c->(upd H2 c (.frz o (.dK kc))) b'=some o':=fun b' o' h1 h2=>by rw[upd_ne h2];exact s2 _ _ h1
    refine wB (a:=c) (o:=o) (kvs:=kc) (fun j ks H3=>∃ ms:List Int,ks=ms.map Sum.inl/\ms.Nodup/\(∀ n,n∈ms↔n∈ns\/n∈nc.take j)/\H3 D=some (bY P w D ks)/\H3 c=some (.frz o (.dK kc))/\∀ b' o',H1 b'=some o'->b'≠c->H3 b'=some o')
     ⟨ns,rfl,nd,fun n=>by simp,by rw[upd_ne (Ne.symm ncD)];exact hD2,ah,frz1⟩ (fun j ks H3 ⟨_,_,_,_,h1,h2,_⟩=>⟨h1,h2⟩) ?_ ?_
    ·rintro ks H3 ⟨ms,rfl,nd3,mem3,hD3,hc3,s3⟩
     refine⟨c,o,.dK kc,hc3,.k _,(fun o' u' z=>by rw[hc] at z;cases z),jJ hi ⟨ms,rfl,nd3,fun n=>?_,?_,fun b' o' h1=>?_⟩⟩
     ·rw[mem3,AL (by omega),mem];exact hmem n
     ·rw[upd_ne (Ne.symm ncD)];exact hD3
     ·by_cases z:b'=c
      ·subst z;rw[ah];rw[hc] at h1;exact h1
      ·rw[upd_ne z];exact s3 _ _ h1 z
    ·rintro j p ks H3 w1 hw1 hj hp ⟨ms,rfl,nd3,mem3,hD3,hc3,s3⟩
     obtain⟨w2,rfl⟩:=iX hw1
     have hp2:(kc.map (·.1))[j]?=some p.1:=by rw[AE,hp];rfl
     rw[hk,AE] at hp2
     obtain⟨n,hn,en⟩:∃ n,nc[j]?=some n/\p.1=.inl n:=by
      cases hn:nc[j]? with
      | none=>rw[hn] at hp2;cases hp2
      | some n=>rw[hn] at hp2;exact⟨n,rfl,(Option.some.inj hp2).symm⟩
     rw[en]
     have mm:∀ y,y∈fL ms n↔y∈ns\/y∈nc.take (j+1):=fun y=>by
      rw[xo,mem3,Aw,hn,A9]
      simp[or_assoc]
     have l3:ms.length<64:=len64 nd3 fun y hy=>by
      rcases (mem3 y).mp hy with z|z
      ·rcases (mem y).mp z with⟨_,z⟩|⟨_,z⟩
       ·exact .inl z
       ·exact .inr z
      ·exact hin y (Bn z)
     refine⟨⟨[_],rfl,rfl⟩,cL ⟨_,rfl,hD3,by rw[Ar];omega,.inl n,rfl,jJ hj ⟨fL ms n,xG ms n,zm nd3,mm,ah,?_,fun b' o' h1 h2=>?_⟩⟩⟩
     ·rw[upd_ne ncD];exact hc3
     ·rw[upd_ne (aR h1 hD)];exact s3 _ _ h1 h2
   have hi2:i<2:=hi
   rcases (show i=0\/i=1 by omega) with e|e
   ·subst e
    exact core a ka na (s1 _ _ ha) DA.k (fun n hn=>.inl hn) (fun n=>⟨fun h=>h.elim (fun z=>z.elim (fun y=>absurd y.1 (by decide)) fun y=>absurd y.1 (by decide)) fun z=>.inl ⟨by decide,z⟩,fun h=>h.elim (fun z=>.inr z.2) fun z=>absurd z.1 (by decide)⟩) (Option.some.inj hx).symm
   ·subst e
    exact core b kb nb (s1 _ _ hb) DB.k (fun n hn=>.inr hn) (fun n=>⟨fun h=>h.elim (fun z=>z.elim (fun y=>.inl ⟨by decide,y.2⟩) fun y=>absurd y.1 (by decide)) fun z=>.inr ⟨by decide,z⟩,fun h=>h.elim (fun z=>.inl (.inl ⟨by decide,z.2⟩)) fun z=>.inr z.2⟩) (Option.some.inj hx).symm
  case fin =>
   rintro ks H2 ⟨ns,rfl,nd,mem,hD2,s2⟩
   have mem2:∀ n,n∈ns↔n∈na\/n∈nb:=fun n=>(mem n).trans ⟨fun h=>h.imp (·.2) (·.2),fun h=>h.imp (fun z=>⟨by show 0<2;decide,z⟩) fun z=>⟨by show 1<2;decide,z⟩⟩
   have l64:=len64 nd fun n hn=>(mem2 n).mp hn
   refine⟨D,ns,rfl,hD2,l64,⟨fun G ms pm srt hG=>?_⟩⟩
   have s3:aa H2 (upd H2 G (.lst (ms.map V.int))):=aa.upd hG
   have hG3:(upd H2 G (.lst (ms.map V.int))) G=some (.lst (ms.map V.int)):=ah
   generalize (upd H2 G (.lst (ms.map V.int)))=H3 at s3 hG3
   have s03:aa H H3:=s1.trans (s2.trans s3)
   have ml:ms.length<64:=by rw[pm.length_eq];exact l64
   have mem3:∀ n,n∈ms↔n∈na\/n∈nb:=fun n=>(pm.mem_iff).trans (mem2 n)
   have A3:=DA.tups fun b xs h=>s03 _ _ h
   have B3:=DB.tups fun b xs h=>s03 _ _ h
   refine⟨_,rfl,G,rfl,⟨_,.of hG3⟩,fun R hR=>?_⟩
   refine iu (xs:=ms.map V.int) (fun i ys H4=>H4 R=some (.lst ys)/\aa H3 H4/\Paired (dg f g H4) ys (ms.take i)) ⟨ah,aa.upd hR,.nil⟩ (fun i ys H4 h=>⟨h.1,.of (h.2.1 _ _ hG3)⟩) (fun ys H4 h=>?_) fun i x ys H4 hi hx h=>?go
   case go =>
    obtain⟨d1,d2,d3⟩:=h
    obtain⟨n,hn,rfl⟩:=eM hx
    rw[Ar] at hi
    have yl:=Paired.length d3
    rw[AC] at yl
    have s04:=s03.trans d2
    have got:∀ {kc:List (aj×V)}{nc:List Int}{h:Int->PyData}{H5:Hp}{e0:Addr},DD H5 kc nc h->am H5 cn (.ref e0)->∃ p,(aJ kc (.inl n)).getD (.ref e0)=.ref p/\am H5 (h n) (.ref p):=fun {kc nc h H5 e0} D5 h0=>by
     by_cases z:n∈nc
     ·obtain⟨p,e,hp⟩:=D5.v n z
      rw[e]
      exact⟨p,rfl,hp⟩
     ·obtain⟨e,e2⟩:=D5.z n z
      rw[e,e2]
      exact⟨e0,rfl,h0⟩
    refine cL ⟨_,rfl,_,rfl,a,rfl,.inl ⟨ka,.inl (s04 _ _ ha)⟩,_,rfl,rfl,fun e0 H5 s5 he0 hd5=>?_⟩
    have s05:=s04.trans s5
    refine⟨_,cb.k (k:=.inl n) (s05 _ _ ha),?_⟩
    obtain⟨p,ep,hp⟩:=got (DA.tups fun b xs h=>s05 _ _ h) hd5
    rw[ep]
    refine⟨_,rfl,b,rfl,.inl ⟨kb,.inl (s05 _ _ hb)⟩,_,rfl,rfl,fun e1 H6 s6 he1 hd6=>?_⟩
    have s06:=s05.trans s6
    refine⟨_,cb.k (k:=.inl n) (s06 _ _ hb),?_⟩
    obtain⟨p2,ep2,hp2⟩:=got (DB.tups fun b xs h=>s06 _ _ h) hd6
    rw[ep2]
    refine⟨dE,fun t7 ht7=>?_⟩
    have s7:aa H6 (upd H6 t7 (.tup [.int n,.ref p,.ref p2])):=aa.upd ht7
    have h7:(upd H6 t7 (.tup [.int n,.ref p,.ref p2])) t7=some (.tup [.int n,.ref p,.ref p2]):=ah
    generalize (upd H6 t7 (.tup [.int n,.ref p,.ref p2]))=H7 at s7 h7
    have s47:=s5.trans (s6.trans s7)
    have hR7:=s47 _ _ d1
    have tp:∀ b xs,H7 b=some (.tup xs)->(upd H7 R (.lst (ys++[.ref t7]))) b=some (.tup xs):=fun b xs h=>by
     rw[upd_ne (fun z=>by rw[z,hR7] at h;cases h)];exact h
    refine bw.mk (by rw[Ar];exact hi) (by rw[Ar];omega) (by omega) hR7 ⟨ah,fun b o h=>?_,?_⟩
    ·rw[upd_ne (aR h hR)]
     exact s47 _ _ (d2 _ _ h)
    ·rw[Aw,hn]
     refine Paired.snoc ?_ (Paired.mapP d3 fun _ m z=>z.tups (fun b xs h=>tp _ _ (s47 _ _ h)) (DA.b m) (DB.b m))
     exact dg.tups tp (DA.b n) (DB.b n) ⟨t7,p,p2,rfl,h7,am.same (s6.trans s7) _ _ hp,am.same s7 _ _ hp2⟩
   obtain⟨d1,d2,d3⟩:=h
   rw[Ar,AI] at d3
   have rl:=Paired.length d3
   refine⟨_,rfl,R,rfl,⟨_,.of d1⟩,fun Z hZ=>?_⟩
   refine iu (xs:=ys) (fun i zs H5=>H5 Z=some (.lst zs)/\aa H4 H5/\Paired (dg f g H5) zs ((ms.take i).filter fun n=>!PyData.eqv (f n) (g n))/\zs.length<=i) ⟨ah,aa.upd hZ,.nil,B6 _⟩ (fun i zs H5 h=>⟨h.1,.of (h.2.1 _ _ d1)⟩) (fun zs H5 h=>?_) fun i x zs H5 hi hx h=>?go2
   case go2 =>
    obtain⟨c1,c2,c3,c4⟩:=h
    obtain⟨n,hn,t8,p8,q8,rfl,h8,dp,dq⟩:=Paired.get d3 hx
    obtain⟨lf,_,pf⟩:=(DA.b n).lf
    obtain⟨lg,_,_⟩:=(DB.b n).lf
    have tk:(ms.take (i+1)).filter (fun n=>!PyData.eqv (f n) (g n))=(ms.take i).filter (fun n=>!PyData.eqv (f n) (g n))++(if (!PyData.eqv (f n) (g n))=true then [n] else []):=by
     rw[Aw,hn,AS]
     congr 1
     by_cases z:(!PyData.eqv (f n) (g n))=true
     ·simp[z]
     ·simp[z]
    refine⟨_,rfl,t8,_,_,_,rfl,rfl,.of (c2 _ _ h8),rfl,_,rfl,t8,_,_,_,rfl,rfl,.of (c2 _ _ h8),rfl,f n,g n,am.same c2 _ _ dp,am.same c2 _ _ dq,lf.cl,lg.cl,by omega,_,rfl,?_⟩
    rw[if_pos (rfl:true=true)]
    cases hc:(!PyData.eqv (f n) (g n)) with
    | true =>
     refine bV ⟨_,rfl,bw.mk hi (by omega) (by omega) c1 ⟨ah,c2.but_ne hZ,?_,by rw[AB];show zs.length+1<=i+1;omega⟩⟩
     have tp:∀ b xs,H5 b=some (.tup xs)->(upd H5 Z (.lst (zs++[.ref t8]))) b=some (.tup xs):=fun b xs h=>by
      rw[upd_ne (fun z=>by rw[z,c1] at h;cases h)];exact h
     rw[tk,if_pos hc]
     exact Paired.snoc (dg.tups tp (DA.b n) (DB.b n) ⟨t8,p8,q8,rfl,c2 _ _ h8,am.same c2 _ _ dp,am.same c2 _ _ dq⟩) (Paired.mapP c3 fun _ m z=>z.tups tp (DA.b m) (DB.b m))
    | false =>
     refine cm (cC.mk hi ⟨c1,c2,?_,by omega⟩)
     rw[tk,if_neg (by rw[hc];exact Bool.false_ne_true),AR]
     exact c3
   obtain⟨c1,c2,c3,c4⟩:=h
   rw[AL (by omega)] at c3
   exact q Z zs ms H5 (s03.trans (d2.trans c2)) (s03.free (d2.free hZ)) c1 (pm.nodup_iff.mpr nd) srt mem3 (ma c3) (by omega)
end
end Pr
namespace L2
open PySem PySem.Spec PyProof.Rows
theorem yo {K:W.Frag}{a:Addr}{xs:List V}{n:Nat}{g:TG}{tc:TT}{te tv:TE}{σ:St}{D:Addr}{Fin:Hp->Prop}{H0:Hp}(Pv:Nat->List (aj×V)->Hp->Prop)(h0:Pv 0 [] (upd H0 D (.dK [])))
  (hD:∀ i ks H,Pv i ks H->H D=some (.dK ks)/\aS K H a xs) (hend:∀ ks H,Pv xs.length ks H->Fin H)
  (hgo:∀ i x ks H (u:St),u.length=n->i<xs.length->xs[i]?=some x->Pv i ks H->g x (u++σ) H fun σ2 H2=>(∃ u2:St,u2.length=n/\σ2=u2++σ)/\tc σ2 H2 fun b H3=>if b=true then te σ2 H3 fun y H4=>tv σ2 H4 fun z H5=>H5 D=some (.dK ks)/\ks.length<CQ/\∃ k,y=kV k/\fK xs.length i fun j=>Pv j (aX ks k z) (upd H5 D (.dK (aX ks k z)))
   else fK xs.length i fun j=>Pv j ks H3):lZ n g tc te tv σ (dS K a) D Fin H0:=by
 refine⟨fun i m ks H=>m=xs.length-i/\i<=xs.length/\Pv i ks H,⟨xs.length,rfl,B9 _,h0⟩,?_⟩
 rintro i m ks H ⟨rfl,hi,p⟩
 refine⟨(hD i ks H p).1,?_⟩
 by_cases hlt:i<xs.length
 ·refine .inr ⟨⟨xs,xs[i],(hD _ _ _ p).2,As hlt⟩,fun x H' u hu y=>?_⟩
  obtain⟨e,y⟩:=y
  subst e
  exact hgo i x ks _ u hu hlt (y xs (hD _ _ _ p).2) p
 ·obtain rfl:i=xs.length:=by omega
  exact .inl ⟨⟨xs,(hD _ _ _ p).2,B6 _⟩,hend ks H p⟩
theorem qo {f:Str}{v:V}:∀ {fs:List (Str×V)}{u:V},fs.lookup f=some u->(bt f v fs).length=fs.length
 | [],u,h=>by cases h
 | (g,x)::r,u,h=>by
  rw[show bt f v ((g,x)::r)=(if g=f then (g,v)::r else (g,x)::bt f v r) from rfl]
  by_cases e:g=f
  ·rw[if_pos e];rfl
  ·rw[if_neg e,Ay,Ay,qo (u:=u)]
   rw[AM] at h
   have:(f == g)=false:=beq_eq_false_iff_ne.mpr fun z=>e z.symm
   rw[this] at h
   exact h
end L2
namespace Pr
open PySem L2 PyProof.Rows Ent
noncomputable def bd (es:List En):PyData:=by
 classical
 exact if h:∃ d,bD es d then h.choose else cn
theorem ja {es:List En}{d:PyData}(k:Ent.Keyed es)(h:bD es d):d=bd es:=by
 have hx:∃ d,bD es d:=⟨d,h⟩
 unfold bd
 rw[dif_pos hx]
 exact bD.one (List.Perm.refl _) k h hx.choose_spec
theorem lr:bd []=cn:=(ja (by unfold Ent.Keyed;exact AU) (.non rfl rfl)).symm
theorem BT.dat {H:Hp}{v:V}{es:List En}(k:Ent.Keyed es)(h:BT H v es):∃ p,v=.ref p/\am H (bd es) (.ref p)/\bD es (bd es):=by
 obtain⟨p,b,e,d,o⟩:=h
 rw[<-ja k o]
 exact⟨p,e,d,o⟩
structure DV (H:Hp)(kvs:List (aj×V))(ns:List Int)(f:Int->PyData):Prop where
 k:kvs.map (·.1)=ns.map Sum.inl
 nd:ns.Nodup
 v:∀ n∈ns,∃ p,aJ kvs (.inl n)=some (.ref p)/\am H (f n) (.ref p)/\ca (f n)
 z:∀ n,n∉ns->aJ kvs (.inl n)=none
theorem DV.nil {H:Hp}{f:Int->PyData}:DV H [] [] f:=⟨rfl,AU,(fun _ h=>nomatch h),fun _ _=>rfl⟩
theorem DV.tups {H H':Hp}(s:∀ b xs,H b=some (.tup xs)->H' b=some (.tup xs)){kvs:List (aj×V)}{ns:List Int}{f:Int->PyData}(g:DV H kvs ns f):DV H' kvs ns f :=
 ⟨g.k,g.nd,fun n hn=>by obtain⟨p,e,h,b⟩:=g.v n hn;exact⟨p,e,am.tups s _ _ b.noL h,b⟩,g.z⟩
theorem DV.len {H:Hp}{kvs:List (aj×V)}{ns:List Int}{f:Int->PyData}(g:DV H kvs ns f):kvs.length=ns.length:=by
 have:=congrArg AW g.k
 rw[Ar,Ar] at this
 exact this
theorem DV.put {H:Hp}{kvs:List (aj×V)}{ns:List Int}{f:Int->PyData}(g:DV H kvs ns f){n:Int}{p:Addr}(hn:n∉ns)(d:am H (f n) (.ref p))(b:ca (f n)):DV H (aX kvs (.inl n) (.ref p)) (ns++[n]) f:=by
 have hz:=g.z n hn
 have e:=rs (kvs:=kvs) (.ref p) hz
 have vs:∀ j,aJ (aX kvs (.inl n) (.ref p)) (.inl j)=if j=n then some (.ref p) else aJ kvs (.inl j):=fun j=>by
  rw[iF]
  by_cases z:j=n
  ·rw[if_pos z,if_pos (by rw[z])]
  ·rw[if_neg z,if_neg (fun y=>z (Sum.inl.inj y))]
 refine⟨?_,?_,fun j hj=>?_,fun j hj=>?_⟩
 ·rw[e,Ax,g.k,Ax];rfl
 ·rw[A4]
  exact⟨g.nd,by simp,fun a ha b hb e=>hn (by rw[List.mem_singleton.mp hb] at e;exact e▸ha)⟩
 ·rw[vs]
  by_cases z:j=n
  ·rw[if_pos z,z];exact⟨p,rfl,d,b⟩
  ·rw[if_neg z]
   exact g.v j ((List.mem_append.mp hj).elim id fun y=>absurd (List.mem_singleton.mp y) z)
 ·rw[vs,if_neg (fun z=>hj (Au _ (List.mem_singleton.mpr z)))]
  exact g.z j fun z=>hj (AJ _ z)
theorem DV.dd {H:Hp}{kvs:List (aj×V)}{ns:List Int}{f g:Int->PyData}(h:DV H kvs ns f)(h1:∀ n∈ns,g n=f n)(h2:∀ n,n∉ns->g n=cn):DD H kvs ns g:=by
 refine⟨h.k,h.nd,fun n hn=>?_,fun n hn=>⟨h.z n hn,h2 n hn⟩,fun n=>?_⟩
 ·obtain⟨p,e,d,_⟩:=h.v n hn
  rw[h1 n hn]
  exact⟨p,e,d⟩
 ·by_cases z:n∈ns
  ·obtain⟨p,_,_,b⟩:=h.v n z
   rw[h1 n z]
   exact b
  ·rw[h2 n z];exact sT
theorem mN {st:List Lad.Step}{r:Nat}{n:Int}{es:List En}(k:Ent.Keyed es):Ent.Keyed (own st r n es):=by
 unfold Ent.Keyed at k ⊢
 exact List.Sublist.nodup (List.Sublist.map _ BD) k
theorem jQ {st:List Lad.Step}{r:Nat}{n:Int}{es:List En}(h:¬ ∃ e∈es,Lad.ur st r e.1=n):own st r n es=[]:=by
 unfold own
 rw[BV]
 exact fun e he z=>h ⟨e,he,of_decide_eq_true z⟩
theorem rG {st:List Lad.Step}{r:Nat}{n:Int}{es:List En}{d:PyData}(ek:∀ e∈es,bN e)(hl:es.length<=1000)(h:bD (own st r n es) d):ca d :=
 ⟨_,fun e he=>ek e (List.mem_filter.mp he).1,Ca (AO _ _) hl,h⟩
def aV (b e n:Int):Bool:=decide (b<=n) && decide (n<e)
noncomputable def cz (st:List Lad.Step) (r:Nat) (b e:Int) (es:List En) (n:Int):PyData:=if aV b e n=true then bd (own st r n es) else cn
theorem qI {f g:Int->PyData}(ms:List Int)(hf:∀ n,ca (f n))(hg:∀ n,ca (g n)):L2.noLs (dR ms f g)=true:=by
 unfold dR
 induction ms.filter fun n=>!PyData.eqv (f n) (g n) with
 | nil=>rfl
 | cons n t ih =>
  rw[Av]
  unfold L2.noLs
  rw[ih,Bool.and_true]
  unfold eV L2.noL L2.noLs L2.noLs L2.noLs
  rw[(hf n).noL,(hg n).noL]
  rfl
structure kh (fs:List (Str×V))(x:Addr)(r b e:Int)(kn:Addr):Prop where
 l:fs.lookup ("ladder" : Str)=some (.ref x)
 r:fs.lookup ("roll" : Str)=some (.int r)
 b:fs.lookup ("first_number" : Str)=some (.int b)
 e:fs.lookup ("number_behind" : Str)=some (.int e)
 k:fs.lookup ("known" : Str)=some (.ref kn)
 n:fs.lookup ("news" : Str)=none
 len:fs.length<=5
def dj (D:Addr)(H:Hp)(p x:Addr)(r b e:Int)(kn:Addr):Prop:=∃ dx fs,H p=some (.ins D dx fs)/\kh fs x r b e kn
theorem dj.same {D:Addr}{H H':Hp}{p x:Addr}{r b e:Int}{kn:Addr}(s:aa H H')(h:dj D H p x r b e kn):dj D H' p x r b e kn:=by
 obtain⟨dx,fs,h,f⟩:=h
 exact⟨dx,fs,s _ _ h,f⟩
theorem kh.put {fs:List (Str×V)}{x:Addr}{r b e:Int}{kn:Addr}(h:kh fs x r b e kn)(F:Addr):kh (bt "known" (.ref F) fs) x r b e F :=
 ⟨by rw[bm,if_neg (by decide)];exact h.l,by rw[bm,if_neg (by decide)];exact h.r,by rw[bm,if_neg (by decide)];exact h.b,by rw[bm,if_neg (by decide)];exact h.e,by rw[bm,if_pos rfl],by rw[bm,if_neg (by decide)];exact h.n,by rw[qo h.k];exact h.len⟩
end Pr
namespace L2
open PySem PySem.Spec PyProof.Rows
section
variable {X:Cx}
inductive pM (K:W.Frag)(xs:List V)(H:Hp)(Q:VK):Prop
 | mk (p:Addr)(ns:List Int)(e:xs=[.ref p])(h:aS K H p (ns.map V.int))(hl:ns.length<64)(q:kA ns H Q):pM K xs H Q
theorem vm (K:W.Frag)(ek:X.K=K:=by rfl):bB X (.builtin "sorted") (pM K):=by
 subst ek
 intro pins s σ H xs us Q I r h
 obtain⟨p,ns,rfl,hq,hl,⟨q⟩⟩:=h
 obtain⟨u,rfl,rx⟩:=cv r
 cases rx
 obtain⟨its,rv,pl,hz⟩:=I.list hq
 have hI:=sr rv
 have hlen:its.length=ns.length:=hI.length
 refine sorted_ints pl.isList hI (by omega) fun o ns' h1 h2 h3=>?_
 obtain⟨e,he⟩:=sortedAll_at s.heap its o
 have hs:s.heap.objs.size<=s.heap.objs.size+1:=Cd _
 have hln:ns'.length<=CQ:=by rw[h2.length_eq,Dq];omega
 exact⟨.ref (s.heap.objs.size+1),_,I.laid (t':=s.toks) (o:=.lst (ns'.map V.int)) (fun b u e=>sortedAll_old e) hs ⟨by rw[Ar];exact hln,o.toList,e,kj h1,he⟩,rfl,q _ ns' h2 h3 (I.hok.fresh hs)⟩
inductive qW (vs:List V)(H:Hp)(Q:VK):Prop
 | mk (a:Addr)(kvs:List (aj×V))(e:vs=[.ref a])(h:H a=some (.dK kvs))(q:∀ l,H l=none->Q (.ref l) (upd H l (.lst (kvs.map fun kv=>kV kv.1)))):qW vs H Q
theorem qU {P:CP}{w:World}:∀ {es:List DictEntry}{vs:List (aj×Value)}{kvs:List (aj×V)},Pairs (bo P w) es vs->KV kvs vs->au (kvs.map fun kv=>kV kv.1) (es.map (·.key))
 | _,_,_,.nil,.nil=>.nil
 | _,_,_,.cons (kv:=kv) r _ t,.cons (a:=a) h t2=>by
  refine .cons ?_ (qU t t2)
  have e:a.1=kv.1:=h.1
  show aw (kV a.1) _
  rw[e]
  exact pw r
theorem oy (hc:X.calm=true):bB X (.type "list") qW:=by
 intro pins s σ H xs us Q I r h
 obtain⟨a,kvs,rfl,ha,q⟩:=h
 obtain⟨u,rfl,ru⟩:=cv r
 cases ru
 obtain⟨z,hd,vs0,kv,o,es,ep,h1,h2,h3,h4,h5,h6⟩:=(show aY X.prog X.w H s.heap a (.dK kvs) from I.hok a _ ha)
 have hlen:es.size=kvs.length:=by
  have e1:=(j3 h5).1
  have e2:kvs.length=vs0.length:=Paired.length kv
  rw[Cr] at e1
  omega
 have hh:X.A.handled=none:=I.ok.hd hc
 refine W.kdl_call (Dx.src (es:=es) (ep:=ep) hd) hh ⟨o,h1,h2,h3⟩ (by rw[hlen];exact z) fun h' tk acc c hk hS hacc=>?_
 have hf:H s.heap.objs.size=none:=I.hok.fresh (B6 _)
 have ea:acc.toList=es.toList.map (·.key):=by
  refine Bk fun j=>?_
  rw[AE,Ct,Ct]
  by_cases hj:j<acc.size
  ·obtain⟨e,he,hv⟩:=hacc.2 j acc[j] (Cv hj)
   rw[Cv hj,he,hv]
   rfl
  ·have e1:=hacc.1
   rw[Cu (by omega),Cu (by omega)]
   rfl
 refine⟨.ref s.heap.objs.size,_,I.laid (o:=.lst (kvs.map fun kv=>kV kv.1)) (t':=tk) hk (B6 _) ⟨by rw[Ar];exact z,_,c,qU h5 kv,?_⟩,rfl,q _ hf⟩
 rw[hS,<-ea,Array.toArray_toList]
def wM (H0:Hp)(t:TS):TS:=fun D σ H=>t { D with nx:=fun σ1 H1=>∃ a o u,H1 a=some (.frz o u)/\d0 u/\(∀ o' u',H0 a≠some (.frz o' u'))/\D.nx σ1 (upd H1 a u) } σ H
theorem x9 {st:Stmt}{t:TS}{H0:Hp}(h:PS X st t)(h0:X.H₀=H0:=by rfl):PS X st (wM H0 t):=by
 subst h0
 refine⟨?_⟩
 intro pins s σ H D I hq
 refine ai (h pins s σ H _ I hq) fun f s1 q=>?_
 cases f with
 | next =>
  obtain⟨σ',H',I',a,o,u,e,hu,h0,q⟩:=q
  exact⟨σ',_,I'.thaw hu e h0,q⟩
 | brk=>exact q
 | cont=>exact q
 | ret v=>exact q
theorem vq {a:Addr}{o:Obj}{kvs:List (aj×V)}{g:TG}{tb:TS}{D:dy}{σ:St}{H:Hp}(Pv:Nat->St->Hp->Prop)(h0:Pv 0 σ H)(hl:∀ i σ H,i<=kvs.length->Pv i σ H->H a=some (.frz o (.dK kvs)))
  (hs:∀ i p σ H,kvs[i]?=some p->Pv i σ H->g (kV p.1) σ H fun σ2 H2=>tb { D with nx:=Pv (i+1),ct:=Pv (i+1),bk:=D.nx } σ2 H2) (hd:∀ σ H,Pv kvs.length σ H->D.nx σ H) :
  ∃ W:Nat->Nat->St->Hp->Prop,(∃ m,W 0 m σ H)/\∀ i m σ H,W i m σ H ->
   ((gL a o kvs).stop i H/\D.nx σ H)\/((gL a o kvs).go i H/\∃ N:St->Hp->Prop,(∀ σ' H',N σ' H'->∃ m',m'<m/\W (i+1) m' σ' H')/\∀ x H',(gL a o kvs).yld i H x H'->g x σ H' fun σ2 H2=>tb { D with nx:=N,ct:=N,bk:=D.nx } σ2 H2):=by
 refine⟨fun i m σ H=>m=kvs.length-i/\i<=kvs.length/\Pv i σ H,⟨kvs.length,rfl,B9 _,h0⟩,?_⟩
 rintro i m σ H ⟨rfl,hi,p⟩
 by_cases hlt:i<kvs.length
 ·refine .inr ⟨⟨hl _ _ _ hi p,hlt⟩,Pv (i+1),fun σ' H' q=>⟨_,by omega,rfl,hlt,q⟩,fun x H' y=>?_⟩
  obtain⟨e,q,ex,hq⟩:=y
  subst e ex
  exact hs i q σ _ hq p
 ·obtain rfl:i=kvs.length:=by omega
  exact .inl ⟨⟨hl _ _ _ hi p,B6 _⟩,hd σ H p⟩
theorem zH {a:Addr}{o:Obj}{kvs:List (aj×V)}{tc:TT}{te:TE}{g:TG}{k:Nat}{σ:St}{D:Addr}{Fin:Hp->Prop}{H:Hp}(Pv:Nat->List V->Hp->Prop)(h0:Pv 0 [] (upd H D (.lst [])))
  (hD:∀ i ys H,Pv i ys H->H D=some (.lst ys)/\H a=some (.frz o (.dK kvs))) (hend:∀ ys H,Pv kvs.length ys H->Fin H)
  (hgo:∀ i p ys H (u:St),u.length=k->i<kvs.length->kvs[i]?=some p->Pv i ys H->g (kV p.1) (u++σ) H fun σ2 H2=>(∃ u2:St,u2.length=k/\σ2=u2++σ)/\tc σ2 H2 fun b H3=>if b=true then te σ2 H3 (bw kvs.length i D ys Pv) else cC kvs.length i ys Pv H3):jc k g tc te σ (gL a o kvs) D Fin H:=by
 refine rS Pv h0 (fun i ys H p=>(hD i ys H p).1) (fun ys H p=>⟨⟨(hD _ _ _ p).2,B6 _⟩,hend ys H p⟩) fun i ys H hi p=>?_
 refine⟨⟨(hD _ _ _ p).2,hi⟩,fun x H' u hu y=>?_⟩
 obtain⟨e,q,ex,hq⟩:=y
 subst e ex
 exact hgo i q ys _ u hu hi hq p
end
end L2
namespace Pr
open PySem L2 PyProof.Rows Ent
structure DL (H:Hp)(kvs:List (aj×V))(ns:List Int)(g:Int->List En):Prop where
 k:kvs.map (·.1)=ns.map Sum.inl
 nd:ns.Nodup
 v:∀ n∈ns,∃ l xs,aJ kvs (.inl n)=some (.ref l)/\H l=some (.lst xs)/\Paired (aM H) xs (g n)
 i:∀ n m l,aJ kvs (.inl n)=some (.ref l)->aJ kvs (.inl m)=some (.ref l)->n=m
 z:∀ n,n∉ns->aJ kvs (.inl n)=none
theorem DL.same {H H':Hp}(s:aa H H'){kvs:List (aj×V)}{ns:List Int}{g:Int->List En}(h:DL H kvs ns g):DL H' kvs ns g :=
 ⟨h.k,h.nd,fun n hn=>by obtain⟨l,xs,e,h1,h2⟩:=h.v n hn;exact⟨l,xs,e,s _ _ h1,Paired.mapP h2 fun _ _ z=>z.same s⟩,h.i,h.z⟩
theorem pY {st:List Lad.Step}{r:Nat}{n:Int}{es:List En}{k:Nat}{e:En}(h:es[k]?=some e):own st r n (es.take (k+1))=own st r n (es.take k)++(if Lad.ur st r e.1=n then [e] else []):=by
 unfold own
 rw[Aw,h,AS]
 by_cases z:Lad.ur st r e.1=n <;> simp[z]
theorem zx {kvs:List (aj×V)}{ns:List Int}(hk:kvs.map (·.1)=ns.map Sum.inl){n:Int}:(Sum.inl n:aj)∈kvs.map (·.1)↔n∈ns:=by rw[hk];exact mU
theorem dL (kvs:List (aj×V))(n j:Int)(y:V):aJ (aX kvs (.inl n) y) (.inl j)=if j=n then some y else aJ kvs (.inl j):=by
 rw[iF]
 by_cases z:j=n
 ·rw[if_pos z,if_pos (by rw[z])]
 ·rw[if_neg z,if_neg (fun y=>z (Sum.inl.inj y))]
theorem aM.tp {H H':Hp}(s:∀ b xs,H b=some (.tup xs)->H' b=some (.tup xs)){x:V}{e:En}(h:aM H x e):aM H' x e:=by
 obtain⟨a,e1,h⟩:=h
 exact⟨a,e1,s _ _ h⟩
theorem DL.mono {H H':Hp}{kvs:List (aj×V)}{ns:List Int}{g:Int->List En}(h:DL H kvs ns g)(k1:∀ m∈ns,∀ l xs,aJ kvs (.inl m)=some (.ref l)->H l=some (.lst xs)->H' l=some (.lst xs))(k2:∀ b xs,H b=some (.tup xs)->H' b=some (.tup xs)):DL H' kvs ns g :=
 ⟨h.k,h.nd,fun n hn=>by obtain⟨l,xs,e,h1,h2⟩:=h.v n hn;exact⟨l,xs,e,k1 n hn _ _ e h1,Paired.mapP h2 fun _ _ z=>z.tp k2⟩,h.i,h.z⟩
theorem DL.new {H:Hp}{kvs:List (aj×V)}{ns:List Int}{g:Int->List En}(h:DL H kvs ns g){n:Int}{L:Addr}(hn:n∉ns)(hL:H L=some (.lst []))(hg:g n=[])(fr:∀ m∈ns,aJ kvs (.inl m)≠some (.ref L)):DL H (aX kvs (.inl n) (.ref L)) (ns++[n]) g:=by
 refine⟨?_,?_,fun j hj=>?_,fun j m l h1 h2=>?_,fun j hj=>?_⟩
 ·rw[rs (kvs:=kvs) (.ref L) (h.z n hn),Ax,h.k,Ax];rfl
 ·rw[A4]
  exact⟨h.nd,by simp,fun a ha b hb e=>hn (by rw[List.mem_singleton.mp hb] at e;exact e▸ha)⟩
 ·rw[dL]
  by_cases z:j=n
  ·rw[if_pos z,z,hg];exact⟨L,[],rfl,hL,.nil⟩
  ·rw[if_neg z]
   exact h.v j ((List.mem_append.mp hj).elim id fun y=>absurd (List.mem_singleton.mp y) z)
 ·have key:∀ k,k≠n->aJ (aX kvs (.inl n) (.ref L)) (.inl k)≠some (.ref L):=fun k hk z=>by
   rw[dL,if_neg hk] at z
   by_cases m:k∈ns
   ·exact fr k m z
   ·rw[h.z k m] at z;cases z
  by_cases z1:j=n
  ·by_cases z2:m=n
   ·rw[z1,z2]
   ·rw[dL,if_pos z1] at h1
    cases h1
    exact absurd h2 (key m z2)
  ·by_cases z2:m=n
   ·rw[dL,if_pos z2] at h2
    cases h2
    exact absurd h1 (key j z1)
   ·rw[dL,if_neg z1] at h1
    rw[dL,if_neg z2] at h2
    exact h.i j m l h1 h2
 ·rw[dL,if_neg (fun z=>hj (Au _ (List.mem_singleton.mpr z)))]
  exact h.z j fun z=>hj (AJ _ z)
theorem DL.app {H:Hp}{kvs:List (aj×V)}{ns:List Int}{g g':Int->List En}(h:DL H kvs ns g){n:Int}{l:Addr}{xs:List V}{x:V}{e:En}(hv:aJ kvs (.inl n)=some (.ref l))(hl:H l=some (.lst xs))(hx:aM H x e)(h1:g' n=g n++[e])(h2:∀ m,m≠n->g' m=g m)(hs:∀ m l' ys,aJ kvs (.inl m)=some (.ref l')->H l'=some (.lst ys)->m=n->l'=l/\ys=xs):DL (upd H l (.lst (xs++[x]))) kvs ns g':=by
 refine⟨h.k,h.nd,fun m hm=>?_,h.i,h.z⟩
 obtain⟨l',ys,e1,e2,e3⟩:=h.v m hm
 by_cases z:m=n
 ·obtain⟨rfl,rfl⟩:=hs m l' ys e1 e2 z
  refine⟨l',ys++[x],e1,ah,?_⟩
  rw[z] at e3 ⊢
  rw[h1]
  exact Paired.snoc (hx.wr hl) (Paired.mapP e3 fun _ _ y=>y.wr hl)
 ·have ne:l'≠l:=fun y=>z (h.i m n l (y▸e1) hv)
  refine⟨l',ys,e1,by rw[upd_ne ne];exact e2,?_⟩
  rw[h2 m z]
  exact Paired.mapP e3 fun _ _ y=>y.wr hl
section
variable {P:CP}{w:World}{K:W.Frag}{mg:Str->Option Value}{base:Heap}{C:Addr}
inductive nS (vs:List V)(H:Hp)(Q:VK)(E:XK):Prop
 | mk (t:Addr)(r:Nat)(L:Addr)(xs:List V)(es:List En)(b:Int)(ps:List Int)(af:List Lad.Step)(e:vs=[.ref t,.int (r:Int),.ref L])(h:db H t b ps af)(ok:cf b ps af)(hr:r<=af.length)(ha:H L=some (.lst xs))(hx:Paired (aM H) xs es)(hl:es.length<64)(ek:∀ e∈es,bN e)(ky:Ent.Keyed es)
  (q:∀ F kvs ns H',aa H H'->H F=none->H' F=some (.dK kvs)->DV H' kvs ns (fun n=>bd (own (aA b ps af) r n es))->(∀ n,n∈ns↔∃ e∈es,Lad.ur (aA b ps af) r e.1=n)->Q (.ref F) H'):nS vs H Q E
theorem jF:aI ["_law_ladder_here","_law_roll","_law_entries","_law_found","_law_entry","_law_number_here"] ["_law_ladder_here","_law_roll","_law_entries"] (ak fT):=aN
set_option maxHeartbeats 8000000 in
theorem qM (T:Txt K mg C):aP P w K mg base 3 "_law_bars" ["_law_ladder_here","_law_roll","_law_entries"] nS:=by
 refine aU T.f_law_bars jF (fun vs H Q E h=>?_) (fun f cdv A outer s H vs Q E hr h=>?_)
 ·obtain⟨t,r,L,xs,es,b,ps,af,rfl,_⟩:=h
  rfl
 ·obtain⟨t,r,L,xs,es,b,ps,af,rfl,hT,ok,hrl,ha,hx,hl,ek,ky,q⟩:=h
  refine⟨_,(al (aB (i:=3) jF.nd rfl (Or.inl rfl) ix)
   (al (cH PassesOwn.never rfl (bK K (pv 2)) (br (i:=4) jF.nd rfl (Or.inl rfl))
    (al (aB (i:=5) jF.nd rfl (Or.inl rfl) (aq (pS T) hr (aW (pv 0) (pv 1) (av (bp K) (pv 4) ag (fun _ _=>rfl)))))
    (nR (bA (pC (qY (cN hr) (pv 5) (pv 3)))
     (ar (j7 (cN hr) (pv 3) (pv 5) (bn b9) rfl))
     bE)
    (ar (cK (fg K PySem.F.plainAttrs_list PySem.F.slot_list_append PySem.F.type_list_append dU (jI (cN hr) (pv 3) (pv 5) (fun _ _=>rfl)) (ap (pv 4))))))))
   (al (cH PassesOwn.never rfl (bK K (ed (oy rfl) T.b_list ES (ap (pv 3)))) (br (i:=5) jF.nd rfl (Or.inl rfl))
    (ar (j7 (cN hr) (pv 3) (pv 5) (aq (zX T) hr (ap (jI (cN hr) (pv 3) (pv 5) (fun _ _=>rfl)))) rfl)))
   (ar (aF (pv 3)))))),?_⟩
  have xl:=Paired.length hx
  intro F hF
  have s1:aa H (upd H F (.dK [])):=aa.upd hF
  have hF1:(upd H F (.dK [])) F=some (.dK []):=ah
  generalize (upd H F (.dK []))=H1 at s1 hF1
  refine⟨_,rfl,L,rfl,⟨_,.of (s1 _ _ ha)⟩,eo (K:=K) (a:=L) (xs:=xs) (fun i σ H2=>∃ v4 v5 kvs ns,σ=[some (.ref t),some (.int (r:Int)),some (.ref L),some (.ref F),v4,v5]/\aa H H2/\H2 F=some (.dK kvs)/\DL H2 kvs ns (fun n=>own (aA b ps af) r n (es.take i))/\(∀ n,n∈ns↔∃ e∈es.take i,Lad.ur (aA b ps af) r e.1=n)/\∀ m l',aJ kvs (.inl m)=some (.ref l')->H l'=none)
   ⟨none,none,[],[],rfl,s1,hF1,⟨rfl,AU,(fun _ h=>nomatch h),(fun n m l h=>by cases h),fun _ _=>rfl⟩,(fun n=>by simp),(fun m l' h=>by cases h)⟩ (fun i σ H2 _ ⟨_,_,_,_,_,s2,_⟩=>.of (s2 _ _ ha)) ?turn ?fin⟩
  case turn =>
   rintro i x σ H2 hxi ⟨v4,v5,kvs,ns,rfl,s2,hF2,dl,mem,fr⟩
   obtain⟨e,he,u,rfl,hu⟩:=Paired.get hx hxi
   have hil:i<es.length:=(List.getElem?_eq_some_iff.mp he).1
   refine⟨_,rfl,_,rfl,_,rfl,u,_,_,_,rfl,rfl,.of (s2 _ _ hu),rfl,t,r,e.1,b,ps,af,rfl,hT.same s2,ok,hrl,fun H3 s3=>?_⟩
   generalize hn:Lad.ur (aA b ps af) r e.1=n
   have s03:=s2.trans s3
   have hF3:=s3 _ _ hF2
   have dl3:=dl.same s3
   have nl:ns.length<64:=by
    have:=cJ dl.nd (zs:=(es.take i).map fun e=>Lad.ur (aA b ps af) r e.1) fun m hm=>by
     obtain⟨e',he',ee⟩:=(mem m).mp hm
     exact List.mem_map.mpr ⟨e',he',ee⟩
    rw[Ar,AC] at this
    omega
   have kl:kvs.length=ns.length:=by have:=congrArg AW dl.k;rw[Ar,Ar] at this;exact this
   refine⟨fun σ2 H4=>∃ kvs4 ns4 l,σ2=[some (.ref t),some (.int (r:Int)),some (.ref L),some (.ref F),some (.ref u),some (.int n)]/\aa H H4/\H4 F=some (.dK kvs4)/\DL H4 kvs4 ns4 (fun n=>own (aA b ps af) r n (es.take i))/\(∀ m,m∈ns4↔m∈ns\/m=n)/\aJ kvs4 (.inl n)=some (.ref l)/\(∀ m l',aJ kvs4 (.inl m)=some (.ref l')->H l'=none),?_,?_⟩
   ·refine⟨_,rfl,_,rfl,F,_,rfl,cb.k (k:=.inl n) hF3,_,rfl,cE (fun hc=>?_) (fun hc=>?_)⟩
    ·have hnn:n∉ns:=fun z=>by
      obtain⟨l,ys,e1,_⟩:=dl.v n z
      rw[e1] at hc
      cases hc
     refine⟨B9 _,fun Lx hLx=>?_⟩
     have s4:aa H3 (upd H3 Lx (.lst [])):=aa.upd hLx
     have hL4:(upd H3 Lx (.lst [])) Lx=some (.lst []):=ah
     generalize (upd H3 Lx (.lst []))=H4 at s4 hL4
     have hF4:=s4 _ _ hF3
     have nLF:Lx≠F:=fun z=>by rw[z,hF4] at hL4;cases hL4
     refine⟨_,rfl,_,rfl,F,_,rfl,fj.k (k:=.inl n) hF4 (by rw[kl,Dq];omega),?_⟩
     have tp:∀ b' ys,H4 b'=some (.tup ys)->(upd H4 F (.dK (aX kvs (.inl n) (.ref Lx)))) b'=some (.tup ys):=fun b' ys h=>by
      rw[upd_ne (fun z=>by rw[z,hF4] at h;cases h)];exact h
     have d5:=(dl3.same s4).mono (H':=upd H4 F (.dK (aX kvs (.inl n) (.ref Lx)))) (fun m hm l ys _ h=>by rw[upd_ne (fun z=>by rw[z,hF4] at h;cases h)];exact h) tp
     refine⟨aX kvs (.inl n) (.ref Lx),ns++[n],Lx,rfl,fun b' o' h=>?_,ah,d5.new hnn (by rw[upd_ne nLF];exact hL4) (jQ fun z=>hnn ((mem n).mpr z)) (fun m hm z=>?_),fun m=>by rw[A9,Br],by rw[dL,if_pos rfl],fun m l' h=>?_⟩
     ·rw[upd_ne (aR h hF)];exact s4 _ _ (s03 _ _ h)
     ·obtain⟨l,ys,e1,e2,_⟩:=dl3.v m hm
      rw[e1] at z
      cases z
      rw[hLx] at e2
      cases e2
     ·rw[dL] at h
      by_cases z:m=n
      ·rw[if_pos z] at h
       cases h
       exact s03.free hLx
      ·rw[if_neg z] at h
       exact fr m l' h
    ·have hnn:n∈ns:=by
      by_cases z:n∈ns
      ·exact z
      ·rw[dl.z n z] at hc
       exact absurd rfl hc
     obtain⟨l,ys,e1,_⟩:=dl3.v n hnn
     exact⟨kvs,ns,l,rfl,s03,hF3,dl3,fun m=>⟨.inl,fun h=>h.elim id fun z=>z▸hnn⟩,e1,fr⟩
   ·rintro σ2 H4 ⟨kvs4,ns4,l,rfl,s04,hF4,dl4,mem4,hv4,fr4⟩
    obtain⟨l',ys,e1,e2,e3⟩:=dl4.v n ((mem4 n).mpr (.inr rfl))
    rw[hv4] at e1
    cases e1
    have yl:=Paired.length e3
    have ol:=AO (fun e=>decide (Lad.ur (aA b ps af) r e.1=n)) (es.take i)
    rw[AC] at ol
    have yl2:ys.length=(List.filter (fun e=>decide (Lad.ur (aA b ps af) r e.1=n)) (es.take i)).length:=yl
    refine⟨_,rfl,_,rfl,F,.ref l,rfl,by have:=cb.k (k:=.inl n) hF4;rw[hv4] at this;exact this,.inl ⟨rfl,_,.of e2⟩,_,rfl,l,ys,_,rfl,rfl,e2,cR (by omega),?_⟩
    have nlF:F≠l:=fun z=>by rw[z,e2] at hF4;cases hF4
    refine⟨_,_,kvs4,ns4,rfl,fun b' o' h=>?_,by rw[upd_ne nlF];exact hF4,?_,fun m=>?_,fr4⟩
    ·rw[upd_ne (aR h (fr4 n l hv4))];exact s04 _ _ h
    ·refine dl4.app hv4 e2 ⟨u,rfl,s04 _ _ hu⟩ (by show own _ _ _ _=own _ _ _ _++[e];rw[pY he,if_pos hn]) (fun m hm=>by show own _ _ _ _=own _ _ _ _;rw[pY he,if_neg (fun z=>hm (z.symm.trans hn)),AR]) fun m l2 ys2 g1 g2 g3=>?_
     rw[g3,hv4] at g1
     cases g1
     rw[e2] at g2
     cases g2
     exact⟨rfl,rfl⟩
    ·rw[mem4,mem,Aw,he]
     constructor
     ·rintro (⟨e',h1,h2⟩|z)
      ·exact⟨e',AJ _ h1,h2⟩
      ·exact⟨e,Au _ (by simp),by rw[hn,z]⟩
     ·rintro⟨e',h1,h2⟩
      rcases List.mem_append.mp h1 with z|z
      ·exact .inl ⟨e',z,h2⟩
      ·have:e'=e:=by simpa using z
       subst this
       exact .inr (by rw[<-h2,hn])
  case fin =>
   rintro σ H2 ⟨v4,v5,kvs,ns,rfl,s2,hF2,dl,mem,fr⟩
   rw[xl,AI] at mem
   have dl:DL H2 kvs ns (fun n=>own (aA b ps af) r n es):=by
    rw[xl,AI] at dl
    exact dl
   have nl:ns.length<64:=by
    have:=cJ dl.nd (zs:=es.map fun e=>Lad.ur (aA b ps af) r e.1) fun m hm=>by
     obtain⟨e',he',ee⟩:=(mem m).mp hm
     exact List.mem_map.mpr ⟨e',he',ee⟩
    rw[Ar] at this
    omega
   have kl:kvs.length=ns.length:=by have:=congrArg AW dl.k;rw[Ar,Ar] at this;exact this
   refine⟨_,rfl,F,kvs,rfl,hF2,fun G hG=>?_⟩
   have ek':(kvs.map fun kv=>kV kv.1)=ns.map V.int:=by
    have:(kvs.map (·.1)).map kV=(ns.map Sum.inl).map kV:=by rw[dl.k]
    rw[AT,AT] at this
    exact this
   rw[ek']
   have s3:aa H2 (upd H2 G (.lst (ns.map V.int))):=aa.upd hG
   have hG3:(upd H2 G (.lst (ns.map V.int))) G=some (.lst (ns.map V.int)):=ah
   generalize (upd H2 G (.lst (ns.map V.int)))=H3 at s3 hG3
   have dl3:=dl.same s3
   have hF3:=s3 _ _ hF2
   have s03:=s2.trans s3
   have nGF:G≠F:=fun z=>by rw[z,hF2] at hG;cases hG
   refine⟨G,rfl,⟨_,.of hG3⟩,eo (K:=K) (a:=G) (xs:=ns.map V.int) (fun i σ H4=>∃ v5 kv4,σ=[some (.ref t),some (.int (r:Int)),some (.ref L),some (.ref F),v4,v5]/\(∀ b' o',H3 b'=some o'->b'≠F->H4 b'=some o')/\H4 F=some (.dK kv4)/\kv4.map (·.1)=ns.map Sum.inl/\(∀ m∈ns.take i,∃ p,aJ kv4 (.inl m)=some (.ref p)/\am H4 (bd (own (aA b ps af) r m es)) (.ref p)/\ca (bd (own (aA b ps af) r m es)))/\∀ m,m∉ns.take i->aJ kv4 (.inl m)=aJ kvs (.inl m))
    ⟨v5,kvs,rfl,fun _ _ h _=>h,hF3,dl.k,(fun m hm=>by simp at hm),fun _ _=>rfl⟩ (fun i σ H4 _ ⟨_,_,_,c4,_⟩=>.of (c4 _ _ hG3 nGF)) ?turn2 ?fin2⟩
   case turn2 =>
    rintro i x σ H4 hxi ⟨v5,kv4,rfl,c4,hF4,k4,b4,z4⟩
    obtain⟨n,hn,rfl⟩:=eM hxi
    have hmem:n∈ns:=AK hn
    have hnt:n∉ns.take i:=fun hm=>by
     have nd':=List.Nodup.sublist (Bb (i+1) ns) dl.nd
     rw[Aw,hn] at nd'
     exact(List.nodup_append.mp nd').2.2 n hm n (by simp) rfl
    obtain⟨l,ys,e1,e2,e3⟩:=dl3.v n hmem
    have nlF:l≠F:=fun z=>by rw[z,hF3] at e2;cases e2
    have tp34:∀ b' ys,H3 b'=some (.tup ys)->H4 b'=some (.tup ys):=fun b' ys h=>c4 _ _ h (fun z=>by rw[z,hF3] at h;cases h)
    have hv:aJ kv4 (.inl n)=some (.ref l):=by rw[z4 n hnt];exact e1
    have yl2:=AO (fun e=>decide (Lad.ur (aA b ps af) r e.1=n)) es
    refine⟨_,rfl,_,rfl,F,.ref l,rfl,by have:=cb.k (k:=.inl n) hF4;rw[hv] at this;exact this,l,ys,own (aA b ps af) r n es,rfl,c4 _ _ e2 nlF,Paired.mapP e3 fun _ _ z=>z.tp tp34,Cj yl2 hl,fun e he=>ek e (List.mem_filter.mp he).1,fun p H5 bb s5 hp0 ob5 d5=>?_⟩
    have hF5:=s5 _ _ hF4
    have kl4:kv4.length=ns.length:=by have:=congrArg AW k4;rw[Ar,Ar] at this;exact this
    refine⟨_,rfl,_,rfl,F,_,rfl,fj.k (k:=.inl n) hF5 (by rw[kl4,Dq];omega),?_⟩
    have tp:∀ b' ys,H5 b'=some (.tup ys)->(upd H5 F (.dK (aX kv4 (.inl n) (.ref p)))) b'=some (.tup ys):=fun b' ys h=>by
     rw[upd_ne (fun z=>by rw[z,hF5] at h;cases h)];exact h
    refine⟨_,aX kv4 (.inl n) (.ref p),rfl,fun b' o' h hb=>by rw[upd_ne hb];exact s5 _ _ (c4 _ _ h hb),ah,by rw[kU,if_pos ((zx k4).mpr hmem)];exact k4,fun m hm=>?_,fun m hm=>?_⟩
    ·rw[dL]
     by_cases z:m=n
     ·rw[if_pos z,z]
      have eb:=ja (mN ky) ob5
      rw[eb] at d5 ob5
      exact⟨p,rfl,am.tups tp _ _ (lX ob5) d5,rG ek (by omega) ob5⟩
     ·rw[if_neg z]
      rw[Aw,hn] at hm
      obtain⟨p',g1,g2,g3⟩:=b4 m ((List.mem_append.mp hm).elim id fun y=>absurd (by simpa using y) z)
      exact⟨p',g1,am.tups (fun b' ys h=>tp _ _ (s5 _ _ h)) _ _ g3.noL g2,g3⟩
    ·rw[Aw,hn] at hm
     have z:m≠n:=fun z=>hm (Au _ (by simp[z]))
     rw[dL,if_neg z]
     exact z4 m fun y=>hm (AJ _ y)
   case fin2 =>
    rintro σ H4 ⟨v5,kv4,rfl,c4,hF4,k4,b4,z4⟩
    rw[Ar,AI] at b4 z4
    exact⟨_,rfl,q F kv4 ns H4 (fun b' o' h=>c4 _ _ (s03 _ _ h) (aR h hF)) hF hF4 ⟨k4,dl.nd,b4,fun n hn=>by rw[z4 n hn];exact dl.z n hn⟩ mem⟩
end
end Pr
namespace L2
open PySem PySem.Spec PyProof.Rows
section
variable {X:Cx}{pins:List (Addr×Obj)}{σ:St}{H:Hp}{s:CW}{pos:Pos}
end
end L2
namespace Pr
open PySem L2 PyProof.Rows Ent
section
variable {P:CP}{w:World}{K:W.Frag}{mg:Str->Option Value}{base:Heap}{C:Addr}
inductive oG (vs:List V)(H:Hp)(Q:VK)(E:XK):Prop
 | mk (F:Addr)(b e:Int)(kvs:List (aj×V))(ns:List Int)(f:Int->PyData)(e0:vs=[.ref F,.int b,.int e])(hF:H F=some (.dK kvs))(hd:DV H kvs ns f)(hl:ns.length<64)
  (q:∀ G kw H',aa H H'->H G=none->H' G=some (.dK kw)->DV H' kw (ns.filter (aV b e)) f->Q (.ref G) H'):oG vs H Q E
theorem mV:aI ["_law_bars_here","_law_begin","_law_end","_law_found","_law_number_here"] ["_law_bars_here","_law_begin","_law_end"] (ak gp):=aN
set_option maxHeartbeats 4000000 in
theorem nz (T:Txt K mg C):aP P w K mg base 1 "_law_within" ["_law_bars_here","_law_begin","_law_end"] oG:=by
 refine aU T.f_law_within mV (fun vs H Q E h=>?_) (fun f cdv A outer s H vs Q E hr h=>?_)
 ·obtain⟨F,b,e,kvs,ns,f,rfl,_⟩:=h
  rfl
 ·obtain⟨F,b,e,kvs,ns,f,rfl,hF,hd,hl,q⟩:=h
  refine⟨_,(al (aB (i:=3) mV.nd rfl (Or.inl rfl) ix)
   (al (x9 (cH PassesOwn.never rfl (kW (pv 0)) (br (i:=4) mV.nd rfl (Or.inl rfl))
    (ar (bA (lG gk fP (pv 1) (pv 4) (pv 2))
     (ar (j7 (cN hr) (pv 3) (pv 4) (jI (cN hr) (pv 0) (pv 4) (fun _ _=>rfl)) rfl))
     bE))))
   (ar (aF (pv 3))))),?_⟩
  intro G hG
  have s1:aa H (upd H G (.dK [])):=aa.upd hG
  have hG1:(upd H G (.dK [])) G=some (.dK []):=ah
  generalize (upd H G (.dK []))=H1 at s1 hG1
  have nFG:F≠G:=aR hF hG
  have hlen:=hd.len
  refine⟨⟨_,rfl,F,kvs,rfl,s1 _ _ hF,fun o=>?_⟩⟩
  refine vq (a:=F) (o:=o) (kvs:=kvs) (fun i σ H2=>∃ v4 kw,σ=[some (.ref F),some (.int b),some (.int e),some (.ref G),v4]/\H2 F=some (.frz o (.dK kvs))/\(∀ b' o',H b'=some o'->b'≠F->H2 b'=some o')/\H2 G=some (.dK kw)/\DV H2 kw ((ns.take i).filter (aV b e)) f)
   ⟨none,[],rfl,ah,fun b' o' h hb=>by rw[upd_ne hb];exact s1 _ _ h,by rw[upd_ne (Ne.symm nFG)];exact hG1,DV.nil⟩ (fun i σ H2 _ ⟨_,_,_,h,_⟩=>h) ?turn ?fin
  case fin =>
   rintro σ H2 ⟨v4,kw,rfl,hF2,c2,hG2,d2⟩
   rw[AL (by omega)] at d2
   refine⟨F,o,.dK kvs,hF2,.k _,(fun o' u' z=>by have z':H F=some (.frz o' u'):=z;rw[hF] at z';cases z'),_,rfl,?_⟩
   have tp:∀ b' ys,H2 b'=some (.tup ys)->(upd H2 F (.dK kvs)) b'=some (.tup ys):=fun b' ys h=>by
    rw[upd_ne (fun z=>by rw[z,hF2] at h;cases h)];exact h
   refine q G kw _ (fun b' o' h=>?_) hG (by rw[upd_ne (Ne.symm nFG)];exact hG2) (d2.tups tp)
   by_cases z:b'=F
   ·subst z;rw[ah];rw[hF] at h;exact h
   ·rw[upd_ne z];exact c2 _ _ h z
  case turn =>
   rintro i p σ H2 hp ⟨v4,kw,rfl,hF2,c2,hG2,d2⟩
   have hk:(kvs.map (·.1))[i]?=some p.1:=by rw[AE,hp];rfl
   rw[hd.k,AE] at hk
   obtain⟨n,hn,en⟩:∃ n,ns[i]?=some n/\p.1=.inl n:=by
    cases hn:ns[i]? with
    | none=>rw[hn] at hk;cases hk
    | some n=>rw[hn] at hk;exact⟨n,rfl,(Option.some.inj hk).symm⟩
   rw[en]
   have fil:(ns.take (i+1)).filter (aV b e)=(ns.take i).filter (aV b e)++(if aV b e n=true then [n] else []):=by
    rw[Aw,hn,AS]
    congr 1
    by_cases z:aV b e n=true
    ·simp[z]
    ·simp[z]
   have no:aV b e n=false->∃ v4 kw',[some (V.ref F),some (.int b),some (.int e),some (.ref G),some (.int n)]=[some (V.ref F),some (.int b),some (.int e),some (.ref G),v4]/\H2 F=some (.frz o (.dK kvs))/\(∀ b' o',H b'=some o'->b'≠F->H2 b'=some o')/\H2 G=some (.dK kw')/\DV H2 kw' ((ns.take (i+1)).filter (aV b e)) f:=fun z=>⟨_,kw,rfl,hF2,c2,hG2,by rw[fil,if_neg (by rw[z];exact Bool.false_ne_true),AR];exact d2⟩
   refine⟨_,rfl,_,rfl,_,_,rfl,rfl,_,rfl,?_⟩
   by_cases c1:b<=n
   ·refine fq (decide_eq_true c1) ⟨_,rfl,_,_,rfl,rfl,?_⟩
    by_cases c2':n<e
    ·have z:aV b e n=true:=by unfold aV;rw[decide_eq_true c1,decide_eq_true c2'];rfl
     obtain⟨pv',ev,dv,bv⟩:=hd.v n (AK hn)
     have dv2:am H2 (f n) (.ref pv'):=am.tups (fun b' ys h=>c2 _ _ h (fun z=>by rw[z,hF] at h;cases h)) _ _ bv.noL dv
     refine⟨_,rfl,fq (decide_eq_true c2') ?_⟩
     refine⟨_,rfl,_,rfl,F,.ref pv',rfl,.inl ⟨kvs,.inl n,.inr ⟨o,hF2⟩,rfl,ev.symm⟩,_,rfl,_,rfl,G,_,rfl,fj.k (k:=.inl n) hG2 ?_,?_⟩
     ·rw[d2.len,Dq]
      have:=AO (aV b e) (ns.take i)
      rw[AC] at this
      omega
     have tp:∀ b' ys,H2 b'=some (.tup ys)->(upd H2 G (.dK (aX kw (.inl n) (.ref pv')))) b'=some (.tup ys):=fun b' ys h=>by
      rw[upd_ne (fun z=>by rw[z,hG2] at h;cases h)];exact h
     refine⟨_,aX kw (.inl n) (.ref pv'),rfl,by rw[upd_ne nFG];exact hF2,fun b' o' h hb=>by rw[upd_ne (aR h hG)];exact c2 _ _ h hb,ah,?_⟩
     rw[fil,if_pos z]
     refine(d2.put (n:=n) (p:=pv') (fun hm=>?_) dv2 bv).tups tp
     have nd':=List.Nodup.sublist (Bb (i+1) ns) hd.nd
     rw[Aw,hn] at nd'
     exact(List.nodup_append.mp nd').2.2 n (List.mem_filter.mp hm).1 n (by simp) rfl
    ·exact⟨_,rfl,fm (decide_eq_false c2') (no (by unfold aV;rw[decide_eq_false c2',Bool.and_false]))⟩
   ·refine fm (decide_eq_false c1) ?_
    exact⟨_,rfl,cm (no (by unfold aV;rw[decide_eq_false c1];rfl))⟩
inductive nC (vs:List V)(H:Hp)(Q:VK)(E:XK):Prop
 | mk (a b:Addr)(ka kb:List (aj×V))(na nb zs:List Int)(f g:Int->PyData)(e:vs=[.ref a,.ref b])(hab:a≠b)(ha:H a=some (.dK ka))(hb:H b=some (.dK kb))(A:DD H ka na f)(B:DD H kb nb g)(hz:zs.length<64)(za:∀ n∈na,n∈zs)(zb:∀ n∈nb,n∈zs)
  (q:∀ D ys (ms:List Int) H',aa H H'->H D=none->H' D=some (.lst ys)->ms.Nodup->ms.Pairwise (·<=·)->(∀ n,n∈ms↔n∈na\/n∈nb)->ay H' (dR ms f g) ys->ys.length<=63->Q (.ref D) H'):nC vs H Q E
theorem gj:aI ["_law_one","_law_other","_law_found","_law_number_here","_law_before_here","_law_behind"] ["_law_one","_law_other"] (ak gy):=aN
set_option maxHeartbeats 8000000 in
theorem Af (T:Txt K mg C):aP P w K mg base 1 "_law_unlike" ["_law_one","_law_other"] nC:=by
 refine aU T.f_law_unlike gj (fun vs H Q E h=>?_) (fun f cdv A outer s H vs Q E hr h=>?_)
 ·obtain⟨a,b,ka,kb,na,nb,zs,f,g,rfl,_⟩:=h
  rfl
 ·obtain⟨a,b,ka,kb,na,nb,zs,f,g,rfl,hab,ha,hb,DA,DB,hz,za,zb,q⟩:=h
  refine⟨_,(al (aB (i:=2) gj.nd rfl (Or.inl rfl) (bn b9))
   (al (cH PassesOwn.never rfl (bK K (aQ (vm K) T.b_sorted EK (ap (ax jU (ed (oy rfl) T.b_list ES (ap (pv 0))) (y8 (sx (xs:=["_law_number_here"]) (Ns:=["_law_one","_law_other","_law_found","_law_number_here'","_law_before_here","_law_behind"]) rfl (eK _ gj) (kW (pv 1)) (pJ (eK _ gj)) (fun _ _ _ _=>(iy (pC (qY (cN hr) (pv 0) (pv 1))))) (fun _ _ _ _=>(pv 0)))))))) (br (i:=3) gj.nd rfl (Or.inl rfl))
    (al (aB (i:=4) gj.nd rfl (Or.inl rfl) (jg (cN hr) (pv 0) (pv 3) (bP (aO ag (aO ag (aO cq (aW cq cq cq))))) ⟨rfl,rfl,rfl,rfl⟩))
    (al (aB (i:=5) gj.nd rfl (Or.inl rfl) (jg (cN hr) (pv 1) (pv 3) (bP (aO ag (aO ag (aO cq (aW cq cq cq))))) ⟨rfl,rfl,rfl,rfl⟩))
    (ar (bA (bO (mD hr) (pv 4) (pv 5) (bu _))
     (ar (cK (fg K PySem.F.plainAttrs_list PySem.F.slot_list_append PySem.F.type_list_append dU (pv 2) (ap (bP (aW (pv 3) (pv 4) (pv 5)))))))
     bE)))))
   (ar (aF (pv 2))))),?_⟩
  have la:=DA.len
  have lb:=DB.len
  have na64:na.length<64:=by have:=cJ DA.nd za;omega
  refine⟨B9 _,fun R hR=>?_⟩
  have s1:aa H (upd H R (.lst [])):=aa.upd hR
  have hR1:(upd H R (.lst [])) R=some (.lst []):=ah
  generalize (upd H R (.lst []))=H1 at s1 hR1
  refine⟨_,rfl,a,ka,rfl,s1 _ _ ha,fun L hL=>?_⟩
  have eka:(ka.map fun kv=>kV kv.1)=na.map V.int:=by
   have:(ka.map (·.1)).map kV=(na.map Sum.inl).map kV:=by rw[DA.k]
   rw[AT,AT] at this
   exact this
  rw[eka]
  have s2:aa H1 (upd H1 L (.lst (na.map V.int))):=aa.upd hL
  have hL2:(upd H1 L (.lst (na.map V.int))) L=some (.lst (na.map V.int)):=ah
  generalize (upd H1 L (.lst (na.map V.int)))=H2 at s2 hL2
  have s02:=s1.trans s2
  refine⟨⟨_,rfl,b,kb,rfl,s02 _ _ hb,fun o D hD=>?_⟩⟩
  have hb2:=s02 _ _ hb
  have nbD:D≠b:=fun z=>by rw[z,ah] at hD;cases hD
  have hD2:H2 D=none:=by rw[upd_ne nbD] at hD;exact hD
  have fno:∀ {n:Int},(aJ ka (.inl n)).isSome=true↔n∈na:=fun {n}=>by
   by_cases z:n∈na
   ·obtain⟨p,e,_⟩:=DA.v n z
    rw[e];exact⟨fun _=>z,fun _=>rfl⟩
   ·rw[(DA.z n z).1];exact⟨fun h=>(by cases h),fun h=>absurd h z⟩
  refine zH (a:=b) (o:=o) (kvs:=kb) (fun i ys H3=>H3 D=some (.lst ys)/\H3 b=some (.frz o (.dK kb))/\(∀ b' o',H2 b'=some o'->b'≠b->H3 b'=some o')/\ys=((nb.take i).filter fun n=>!decide (n∈na)).map V.int)
   ⟨ah,by rw[upd_ne (Ne.symm nbD)];exact ah,fun b' o' h hb'=>by rw[upd_ne (aR h hD2),upd_ne hb'];exact h,rfl⟩ (fun i ys H3 h=>⟨h.1,h.2.1⟩) (fun ys H3 h=>?_) (fun i p ys H3 u hu hi hp h=>?go)
  case go =>
   obtain⟨d1,d2,d3,rfl⟩:=h
   obtain⟨u1,rfl⟩:=iX hu
   obtain⟨n,en,hn⟩:=DB.key hp
   rw[en]
   have tk:(nb.take (i+1)).filter (fun n=>!decide (n∈na))=(nb.take i).filter (fun n=>!decide (n∈na))++(if (!decide (n∈na))=true then [n] else []):=by
    rw[Aw,hn,AS]
    congr 1
    by_cases z:n∈na
    ·simp[z]
    ·simp[z]
   have yl:=AO (fun n=>!decide (n∈na)) (nb.take i)
   rw[AC] at yl
   have nb64:nb.length<64:=by have:=cJ DB.nd zb;omega
   refine⟨⟨[_],rfl,rfl⟩,_,rfl,_,rfl,a,_,rfl,cb.k (k:=.inl n) (d3 _ _ (s02 _ _ ha) hab),_,rfl,?_⟩
   by_cases z:n∈na
   ·refine fm (by rw[fno.mpr z];rfl) (cC.mk hi ⟨d1,d2,d3,?_⟩)
    rw[tk,if_neg (by simp[z]),AR]
   ·have hx:(aJ ka (.inl n)).isSome=false:=by rw[(DA.z n z).1];rfl
    refine fq (by rw[hx];rfl) ⟨_,rfl,bw.mk hi (by omega) (by rw[Ar];omega) d1 ⟨ah,by rw[upd_ne (Ne.symm nbD)];exact d2,fun b' o' h hb'=>by rw[upd_ne (aR h hD2)];exact d3 _ _ h hb',?_⟩⟩
    rw[tk,if_pos (by simp[z]),Ax]
    rfl
  obtain⟨d1,d2,d3,rfl⟩:=h
  rw[AL (by omega)] at d1
  refine⟨b,o,.dK kb,d2,.k _,(fun o' u' z=>by have z':H b=some (.frz o' u'):=z;rw[hb] at z';cases z'),?_⟩
  have s23:aa H2 (upd H3 b (.dK kb)):=fun b' o' h=>by
   by_cases z:b'=b
   ·subst z;rw[ah];rw[hb2] at h;exact h
   ·rw[upd_ne z];exact d3 _ _ h z
  have hD3:(upd H3 b (.dK kb)) D=some (.lst ((nb.filter fun n=>!decide (n∈na)).map V.int)):=by rw[upd_ne nbD];exact d1
  generalize (upd H3 b (.dK kb))=H4 at s23 hD3
  have s04:=s02.trans s23
  have nb64:nb.length<64:=by have:=cJ DB.nd zb;omega
  have fl:=AO (fun n=>!decide (n∈na)) nb
  refine⟨L,D,_,_,rfl,rfl,s23 _ _ hL2,hD3,by rw[Ar,Ar,Dq];omega,fun M hM=>?_⟩
  rw[<-Ax]
  have nd4:(na++nb.filter fun n=>!decide (n∈na)).Nodup:=by
   rw[A4]
   refine⟨DA.nd,List.Nodup.sublist BD DB.nd,fun x hx y hy z=>?_⟩
   have:=(List.mem_filter.mp hy).2
   rw[<-z] at this
   simp[hx] at this
  have mem4:∀ n,n∈(na++nb.filter fun n=>!decide (n∈na))↔n∈na\/n∈nb:=fun n=>by
   rw[A9,Bs]
   by_cases z:n∈na
   ·simp[z]
   ·simp[z]
  have l64:(na++nb.filter fun n=>!decide (n∈na)).length<64:=by
   have:=cJ nd4 (zs:=zs) fun n hn=>((mem4 n).mp hn).elim (za n) (zb n)
   omega
  generalize (na++nb.filter fun n=>!decide (n∈na))=us at nd4 mem4 l64
  have s5:aa H4 (upd H4 M (.lst (us.map V.int))):=aa.upd hM
  have hM5:(upd H4 M (.lst (us.map V.int))) M=some (.lst (us.map V.int)):=ah
  generalize (upd H4 M (.lst (us.map V.int)))=H5 at s5 hM5
  refine⟨M,us,rfl,.of hM5,l64,⟨fun G ms pm srt hG=>?_⟩⟩
  have s6:aa H5 (upd H5 G (.lst (ms.map V.int))):=aa.upd hG
  have hG6:(upd H5 G (.lst (ms.map V.int))) G=some (.lst (ms.map V.int)):=ah
  generalize (upd H5 G (.lst (ms.map V.int)))=H6 at s6 hG6
  have s06:=s04.trans (s5.trans s6)
  have s16:aa H1 H6:=s2.trans (s23.trans (s5.trans s6))
  have hR6:=s16 _ _ hR1
  have nGR:G≠R:=fun z=>by rw[z] at hG;have:=s2.trans (s23.trans s5) _ _ hR1;rw[hG] at this;cases this
  have ml:ms.length<64:=by rw[pm.length_eq];exact l64
  have memm:∀ n,n∈ms↔n∈na\/n∈nb:=fun n=>(pm.mem_iff).trans (mem4 n)
  refine⟨G,rfl,⟨_,.of hG6⟩,eo (K:=K) (a:=G) (xs:=ms.map V.int) (fun i σ H7=>∃ v3 v4 v5 ys,σ=[some (.ref a),some (.ref b),some (.ref R),v3,v4,v5]/\(∀ b' o',H6 b'=some o'->b'≠R->H7 b'=some o')/\H7 R=some (.lst ys)/\Paired (dg f g H7) ys ((ms.take i).filter fun n=>!PyData.eqv (f n) (g n))/\ys.length<=i)
   ⟨none,none,none,[],rfl,fun _ _ h _=>h,hR6,.nil,B6 _⟩ (fun i σ H7 _ ⟨_,_,_,_,_,c,_⟩=>.of (c _ _ hG6 nGR)) ?turn ?fin⟩
  case fin =>
   rintro σ H7 ⟨v3,v4,v5,ys,rfl,c7,hR7,p7,l7⟩
   rw[Ar] at l7
   rw[Ar,AI] at p7
   exact⟨_,rfl,q R ys ms H7 (fun b' o' h=>c7 _ _ (s06 _ _ h) (aR h hR)) hR hR7 (pm.nodup_iff.mpr nd4) srt memm (ma p7) (by omega)⟩
  case turn =>
   rintro i x σ H7 hxi ⟨v3,v4,v5,ys,rfl,c7,hR7,p7,l7⟩
   obtain⟨n,hn,rfl⟩:=eM hxi
   have hil:i<ms.length:=(List.getElem?_eq_some_iff.mp hn).1
   have c07:∀ b' o',H b'=some o'->H7 b'=some o':=fun b' o' h=>c7 _ _ (s06 _ _ h) (aR h hR)
   have s07:aa H H7:=c07
   have got:∀ {kc:List (aj×V)}{nc:List Int}{h:Int->PyData}{H5:Hp}{e0:Addr},DD H5 kc nc h->am H5 cn (.ref e0)->∃ p,(aJ kc (.inl n)).getD (.ref e0)=.ref p/\am H5 (h n) (.ref p):=fun {kc nc h H5 e0} D5 h0=>by
    by_cases z:n∈nc
    ·obtain⟨p,e,hp⟩:=D5.v n z
     rw[e]
     exact⟨p,rfl,hp⟩
    ·obtain⟨e,e2⟩:=D5.z n z
     rw[e,e2]
     exact⟨e0,rfl,h0⟩
   refine⟨_,rfl,a,rfl,.inl ⟨ka,.inl (s07 _ _ ha)⟩,_,rfl,dt (by show 6<=1000;decide),fun e0 he0=>?_⟩
   have s8:aa H7 (upd H7 e0 (.tup [.int 0,.int 0,.non,.non,.non,.non])):=aa.upd he0
   have h8:am (upd H7 e0 (.tup [.int 0,.int 0,.non,.non,.non,.non])) cn (.ref e0):=jL ah
   generalize (upd H7 e0 (.tup [.int 0,.int 0,.non,.non,.non,.non]))=H8 at s8 h8
   have s08:=s07.trans s8
   refine⟨_,cb.k (k:=.inl n) (s08 _ _ ha),?_⟩
   obtain⟨p,ep,hp⟩:=got (DA.tups fun b xs h=>s08 _ _ h) h8
   rw[ep]
   refine⟨_,rfl,b,rfl,.inl ⟨kb,.inl (s08 _ _ hb)⟩,_,rfl,dt (by show 6<=1000;decide),fun e1 he1=>?_⟩
   have s9:aa H8 (upd H8 e1 (.tup [.int 0,.int 0,.non,.non,.non,.non])):=aa.upd he1
   have h9:am (upd H8 e1 (.tup [.int 0,.int 0,.non,.non,.non,.non])) cn (.ref e1):=jL ah
   generalize (upd H8 e1 (.tup [.int 0,.int 0,.non,.non,.non,.non]))=H9 at s9 h9
   have s09:=s08.trans s9
   refine⟨_,cb.k (k:=.inl n) (s09 _ _ hb),?_⟩
   obtain⟨p2,ep2,hp2⟩:=got (DB.tups fun b xs h=>s09 _ _ h) h9
   rw[ep2]
   obtain⟨lf,_,pf⟩:=(DA.b n).lf
   obtain⟨lg,_,_⟩:=(DB.b n).lf
   have s79:=s8.trans s9
   have tk:(ms.take (i+1)).filter (fun n=>!PyData.eqv (f n) (g n))=(ms.take i).filter (fun n=>!PyData.eqv (f n) (g n))++(if (!PyData.eqv (f n) (g n))=true then [n] else []):=by
    rw[Aw,hn,AS]
    congr 1
    by_cases z:(!PyData.eqv (f n) (g n))=true
    ·simp[z]
    ·simp[z]
   refine⟨_,rfl,_,rfl,f n,g n,am.same s9 _ _ hp,hp2,lf.cl,lg.cl,by omega,_,rfl,?_⟩
   rw[if_pos (rfl:true=true)]
   cases hc:(!PyData.eqv (f n) (g n)) with
   | true =>
    have hR9:=s79 _ _ hR7
    refine bV ⟨_,rfl,.inl ⟨rfl,_,.of hR9⟩,_,rfl,_,rfl,_,rfl,dE,fun t ht=>?_⟩
    have sA:aa H9 (upd H9 t (.tup [.int n,.ref p,.ref p2])):=aa.upd ht
    have hA:(upd H9 t (.tup [.int n,.ref p,.ref p2])) t=some (.tup [.int n,.ref p,.ref p2]):=ah
    generalize (upd H9 t (.tup [.int n,.ref p,.ref p2]))=HA at sA hA
    have hRA:=sA _ _ hR9
    refine⟨R,ys,_,rfl,rfl,hRA,cR (by omega),?_⟩
    have tp:∀ b xs,HA b=some (.tup xs)->(upd HA R (.lst (ys++[.ref t]))) b=some (.tup xs):=fun b xs h=>by
     rw[upd_ne (fun z=>by rw[z,hRA] at h;cases h)];exact h
    refine⟨_,_,_,ys++[.ref t],rfl,fun b' o' h hb'=>by rw[upd_ne hb'];exact sA _ _ (s79 _ _ (c7 _ _ h hb')),ah,?_,by rw[AB];show ys.length+1<=i+1;omega⟩
    rw[tk,if_pos hc]
    refine Paired.snoc (dg.tups tp (DA.b n) (DB.b n) ⟨t,p,p2,rfl,hA,am.same (s9.trans sA) _ _ hp,am.same sA _ _ hp2⟩) (Paired.mapP p7 fun _ m z=>z.tups (fun b xs h=>tp _ _ (sA _ _ (s79 _ _ h))) (DA.b m) (DB.b m))
   | false =>
    refine cm ⟨_,_,_,ys,rfl,fun b' o' h hb'=>s79 _ _ (c7 _ _ h hb'),s79 _ _ hR7,?_,by omega⟩
    rw[tk,if_neg (by rw[hc];exact Bool.false_ne_true),AR]
    exact Paired.mapP p7 fun _ m z=>z.tups (fun b xs h=>s79 _ _ h) (DA.b m) (DB.b m)
theorem y9 {d:Int}(h0 : -ba<d)(h1:d<ba):d.natAbs<10 ^ 30:=by
 have n30:(10:Nat) ^ 30=1000000000000000000000000000000:=by decide +kernel
 have hW:ba=1000000000000000000000000000000:=rfl
 rw[n30];omega
theorem rH {d:Int}(h:d.natAbs<10 ^ 30) : -ba<d/\d<ba:=by
 have n30:(10:Nat) ^ 30=1000000000000000000000000000000:=by decide +kernel
 have hW:ba=1000000000000000000000000000000:=rfl
 rw[n30] at h;omega
inductive nM (vs:List V)(H:Hp)(Q:VK)(E:XK):Prop
 | mk (p t:Addr)(b:Int)(ps:List Int)(af:List Lad.Step)(e:vs=[.ref p,.ref t])(hp:bc H p)(hT:∀ H',But p H H'->db H' t b ps af)(ok:cf b ps af)(q:∀ d H',-ba<d->d<ba->But p H H'->bc H' p->Q (.int d) H'):nM vs H Q E
theorem lL:aI ["_law_pot_here","_law_ladder_here","_law_way","_law_round_all"] ["_law_pot_here","_law_ladder_here"] (ak ik):=aN
set_option maxHeartbeats 4000000 in
theorem sU (T:Txt K mg C):aP P w K mg base 3 "_law_moment" ["_law_pot_here","_law_ladder_here"] nM:=by
 refine aU T.f_law_moment lL (fun vs H Q E h=>?_) (fun f cdv A outer s H vs Q E hr h=>?_)
 ·obtain⟨p,t,b,ps,af,rfl,_⟩:=h
  rfl
 ·obtain⟨p,t,b,ps,af,rfl,hp,hT,ok,q⟩:=h
  refine⟨_,(al (aB (i:=2) lL.nd rfl (Or.inl rfl) (aq (take T) hr (az (pv 0) ag)))
   (al (bA (bO eR (pv 2) ag (bu _))
    (ar (aF (aq (mz T) hr (ap (pv 0)))))
    bE)
   (al (aB (i:=3) lL.nd rfl (Or.inl rfl) (aQ (iE K rfl) T.b_sum EN (ap (aq (tt T) hr (ap (av (bp K) (pv 1) ag (fun _ _=>rfl)))))))
   (ar (aF (aq (tH T) hr (aW (pv 0) (av (bp K) (pv 1) ag (fun _ _=>rfl)) (av (bi K) (bn (aO ag (aW (pv 3) (ax dX ag (pv 3)) (ax dX (ax dk ag ag) (pv 3))))) (pv 2) (fun _ _=>rfl))))))))),?_⟩
  have e6:(10:Int) ^ (6:Int).toNat=1000000:=by decide +kernel
  refine⟨_,rfl,p,_,rfl,hp,by decide +kernel,by decide +kernel,fun d1 H1 a1 b1 c1 hp1=>?_⟩
  refine⟨_,rfl,rfl,_,rfl,cE (fun hc=>?_) (fun hc=>?_)⟩
  ·exact⟨_,rfl,p,rfl,hp1,fun d H2 hd c2 hp2=>q d H2 (rH hd).1 (rH hd).2 (c1.trans c2) hp2⟩
  have hd4:d1≠4:=fun z=>hc (by rw[z];rfl)
  obtain⟨pa,ra,us,h1,h2,h3,h4⟩:=hT H1 c1
  obtain⟨pok,plen,_⟩:=kL ok.p
  have szb:=kZ ok.p
  refine⟨_,rfl,t,_,_,_,rfl,rfl,.of h1,rfl,pa,ps,rfl,h2,pok,by omega,fun l H2 s2 hl0 hl2=>?_⟩
  refine⟨l,_,rfl,.inl (.of hl2),?_⟩
  have hs0:=szb.g.sum
  have hs1:=szb.s
  generalize (Lad.bars ps).sum=S at hs0 hs1
  refine⟨_,rfl,_,rfl,t,_,_,_,rfl,rfl,.of (s2 _ _ h1),rfl,?_⟩
  refine⟨_,rfl,_,rfl,_,_,rfl,rfl,.inl ⟨by decide,by decide⟩,_,_,rfl,rfl,⟨by decide +kernel,by decide +kernel,by decide +kernel⟩,?_⟩
  rw[e6]
  refine⟨_,rfl,_,_,rfl,rfl,.inl ⟨by decide,by decide⟩,dt (by show 4<=1000;decide),fun l3 hl3=>?_⟩
  refine⟨_,rfl,l3,_,_,_,rfl,rfl,.of ah,cw (S:=[3,S,20*S,1000000*S]) a1 (by show d1<4;omega),?_⟩
  have hf:0<=[3,S,20*S,1000000*S].getD d1.toNat 0/\[3,S,20*S,1000000*S].getD d1.toNat 0<2 ^ 200:=by
   refine iT (Pp:=fun v=>0<=v/\v<2 ^ 200) ?_ (by show d1.toNat<4;omega)
   intro v hv
   simp only[Bp,Bq,or_false] at hv
   rcases hv with rfl|rfl|rfl|rfl
   ·decide
   ·omega
   ·omega
   ·omega
  generalize [3,S,20*S,1000000*S].getD d1.toNat 0=far at hf
  have s3:aa H1 (upd H2 l3 (.lst [.int 3,.int S,.int (20*S),.int (1000000*S)])):=s2.trans (aa.upd hl3)
  refine⟨p,b,far,rfl,hp1.same s3,hf.1,hf.2,fun d H4 g1 g2 c4 hp4=>q d H4 g1 g2 ((c1.trans s3.but).trans c4) hp4⟩
inductive qQ (vs:List V)(H:Hp)(Q:VK)(E:XK):Prop
 | mk (p t:Addr)(b:Int)(ps:List Int)(af:List Lad.Step)(e:vs=[.ref p,.ref t])(hp:bc H p)(hT:∀ H',But p H H'->db H' t b ps af)(ok:cf b ps af)
  (q:∀ s (r:Nat) b0 e0 H',r<=af.length->-eg<b0->b0<e0->e0<eg->But p H H'->bc H' p->H s=none->H' s=some (.tup [.int (r:Int),.int b0,.int e0])->Q (.ref s) H'):qQ vs H Q E
theorem jh:aI ["_law_pot_here","_law_ladder_here","_law_roll","_law_middle","_law_way","_law_begin"] ["_law_pot_here","_law_ladder_here"] (ak gC):=aN
set_option maxHeartbeats 4000000 in
theorem nQ (T:Txt K mg C):aP P w K mg base 4 "_law_span" ["_law_pot_here","_law_ladder_here"] qQ:=by
 refine aU T.f_law_span jh (fun vs H Q E h=>?_) (fun f cdv A outer s H vs Q E hr h=>?_)
 ·obtain⟨p,t,b,ps,af,rfl,_⟩:=h
  rfl
 ·obtain⟨p,t,b,ps,af,rfl,hp,hT,ok,q⟩:=h
  refine⟨_,(al (aB (i:=2) jh.nd rfl (Or.inl rfl) (aq (take T) hr (az (pv 0) (ax bU (aQ (iw K) T.b_len EM (ap (av (bp K) (pv 1) ag (fun _ _=>rfl)))) ag))))
   (al (aB (i:=3) jh.nd rfl (Or.inl rfl) (aq (pS T) hr (aW (pv 1) (pv 2) (aq (sU T) hr (az (pv 0) (pv 1))))))
   (al (aB (i:=4) jh.nd rfl (Or.inl rfl) (aq (take T) hr (az (pv 0) ag)))
   (al (bA (bO eR (pv 4) ag (bu _))
    (ar (aF (bP (aW (pv 2) (ax bM ag (ax dk ag ag)) (ax bM (ax dk ag ag) ag)))))
    bE)
   (al (aB (i:=5) jh.nd rfl (Or.inl rfl) (ax bM (pv 3) (aq (take T) hr (az (pv 0) (av (bi K) (bn (aO ag (aW ag ag ag))) (pv 4) (fun _ _=>rfl))))))
   (ar (aF (bP (aW (pv 2) (pv 5) (ax bU (ax bU (pv 5) ag) (aq (take T) hr (az (pv 0) (av (bi K) (bn (aO ag (aW ag ag ag))) (pv 4) (fun _ _=>rfl)))))))))))))),?_⟩
  have e40:(10:Int) ^ (40:Int).toNat=eg:=by decide +kernel
  have hW4:eg=10000000000000000000000000000000000000000:=rfl
  have hW3:ba=1000000000000000000000000000000:=rfl
  obtain⟨pa,ra,us,h1,h2,h3,h4⟩:=hT H (fun _ _ h _=>h)
  have ul:us.length=af.length:=Paired.length h4
  have rl:=(kg ok.r).1
  refine⟨_,rfl,_,rfl,t,_,_,_,rfl,rfl,.of h1,rfl,ra,_,rfl,.inl (.of h3),_,_,rfl,rfl,p,_,rfl,hp,by omega,by omega,fun d1 H1 a1 b1 c1 hp1=>?_⟩
  obtain⟨r,rfl⟩:∃ r:Nat,d1=r:=⟨d1.toNat,by omega⟩
  have hrl:r<=af.length:=by omega
  refine⟨_,rfl,_,rfl,_,rfl,_,rfl,p,t,b,ps,af,rfl,hp1,fun H' c=>hT H' (c1.trans c),ok,fun m H2 m0 m1 c2 hp2=>?_⟩
  have c02:=c1.trans c2
  refine⟨t,r,m,b,ps,af,rfl,hT H2 c02,ok,hrl,fun H3 s3=>?_⟩
  have far:=pK ok r m0 m1
  generalize Lad.ur (aA b ps af) r m=mid at far
  have hp3:=hp2.same s3
  have c03:But p H H3:=c02.trans s3.but
  refine⟨_,rfl,p,_,rfl,hp3,by decide +kernel,by decide +kernel,fun d2 H4 a2 b2 c4 hp4=>?_⟩
  have c04:=c03.trans c4
  refine⟨_,rfl,rfl,_,rfl,cE (fun hc=>?_) (fun hc=>?_)⟩
  ·refine⟨_,rfl,_,_,rfl,rfl,⟨by decide +kernel,by decide +kernel,by decide +kernel⟩,_,_,rfl,rfl,_,_,rfl,rfl,⟨by decide +kernel,by decide +kernel,by decide +kernel⟩,_,_,rfl,rfl,dE,fun s5 hs5=>?_⟩
   rw[e40]
   exact q s5 r _ _ _ hrl (by omega) (by omega) (by omega) (c04.trans (aa.upd hs5).but) (hp4.same (aa.upd hs5)) (But.free c04 hs5 hp4) ah
  ·have hd2:d2≠0:=fun z=>hc (by rw[z];rfl)
   refine⟨_,rfl,_,rfl,dt (by show 4<=1000;decide),fun l1 hl1=>?_⟩
   refine⟨_,rfl,l1,_,_,_,rfl,rfl,.of ah,cw (S:=[1,1,3,40]) a2 b2,?_⟩
   have hm:1<=[1,1,3,(40:Int)].getD d2.toNat 0/\[1,1,3,(40:Int)].getD d2.toNat 0<=40:=by
    refine iT (Pp:=fun v=>1<=v/\v<=40) ?_ (by show d2.toNat<4;omega)
    decide +kernel
   generalize [1,1,3,(40:Int)].getD d2.toNat 0=mm at hm
   refine⟨p,_,rfl,hp4.same (aa.upd hl1),by omega,by omega,fun d3 H5 a3 b3 c5 hp5=>⟨_,_,rfl,rfl,?_⟩⟩
   have c05:But p H H5:=(c04.trans (aa.upd hl1).but).trans c5
   refine⟨_,rfl,_,rfl,_,rfl,_,_,rfl,rfl,_,rfl,dt (by show 4<=1000;decide),fun l2 hl2=>?_⟩
   refine⟨_,rfl,l2,_,_,_,rfl,rfl,.of ah,cw (S:=[1,1,5,100]) a2 b2,?_⟩
   have hm2:1<=[1,1,5,(100:Int)].getD d2.toNat 0/\[1,1,5,(100:Int)].getD d2.toNat 0<=100:=by
    refine iT (Pp:=fun v=>1<=v/\v<=100) ?_ (by show d2.toNat<4;omega)
    decide +kernel
   generalize [1,1,5,(100:Int)].getD d2.toNat 0=mm2 at hm2
   refine⟨p,_,rfl,hp5.same (aa.upd hl2),by omega,by omega,fun d4 H6 a4 b4 c6 hp6=>⟨_,_,rfl,rfl,dE,fun s7 hs7=>?_⟩⟩
   have c06:But p H H6:=(c05.trans (aa.upd hl2).but).trans c6
   exact q s7 r _ _ _ hrl (by omega) (by omega) (by omega) (c06.trans (aa.upd hs7).but) (hp6.same (aa.upd hs7)) (But.free c06 hs7 hp6) ah
inductive oW (vs:List V)(H:Hp)(Q:VK)(E:XK):Prop
 | mk (p t L:Addr)(b:Int)(ps:List Int)(af:List Lad.Step)(xs:List V)(es:List En)(e:vs=[.ref p,.ref t,.ref L])(hp:bc H p)(hT:∀ H',But p H H'->db H' t b ps af)(ok:cf b ps af)(hL:H L=some (.lst xs))(nL:L≠p)(hx:Paired (aM H) xs es)(hl:es.length<63)(ek:∀ e∈es,bN e)(ky:Ent.Keyed es)
  (q:∀ L' xs' es' en H',But p H H'->bc H' p->H L'=none->H' L'=some (.lst xs')->Paired (aM H') xs' es'->es'.length<=es.length+1->(∀ e∈es',bN e)->Ent.Keyed es'->(∀ e∈es',e∈es\/e=en)->Q (.ref L') H'):oW vs H Q E
theorem iS:aI ["_law_pot_here","_law_ladder_here","_law_entries","_law_key_here","_law_left","_law_moment_here","_law_value"] ["_law_pot_here","_law_ladder_here","_law_entries"] (ak fY):=aN
theorem vI {es:List En}{e:En}(k:Ent.Keyed es)(h:∀ x∈es,x.2.1≠e.2.1):Ent.Keyed (es++[e]):=by
 unfold Ent.Keyed at k ⊢
 rw[Ax,A4]
 refine⟨k,by simp,fun a ha c hc z=>?_⟩
 obtain⟨x,hx,rfl⟩:=List.mem_map.mp ha
 have:c=e.2.1:=by simpa using hc
 exact h x hx (z.trans this)
set_option maxHeartbeats 8000000 in
theorem step (T:Txt K mg C):aP P w K mg base 4 "_law_step" ["_law_pot_here","_law_ladder_here","_law_entries"] oW:=by
 refine aU T.f_law_step iS (fun vs H Q E h=>?_) (fun f cdv A outer s H vs Q E hr h=>?_)
 ·obtain⟨p,t,L,b,ps,af,xs,es,rfl,_⟩:=h
  rfl
 ·obtain⟨p,t,L,b,ps,af,xs,es,rfl,hp,hT,ok,hL,nL,hx,hl,ek,ky,q⟩:=h
  refine⟨_,(al (aB (i:=3) iS.nd rfl (Or.inr rfl) (aq (key T) hr (ap (pv 0))))
   (nR (bA (PW.pt (lP (bO eR (aq (take T) hr (az (pv 0) ag)) ag (bu _)) (tT (bO (mD hr) (pv 2) (bn b9) (bu _)))))
    (ar (aB (i:=3) iS.nd rfl (Or.inr rfl) (av (bp K) (av (bi K) (pv 2) (aq (take T) hr (az (pv 0) (aQ (iw K) T.b_len EM (ap (pv 2))))) (fun _ _=>rfl)) ag (fun _ _=>rfl))))
    bE)
   (al (iZ (i:=4) rfl rfl rfl (bQ iS) (bK K (pv 2)) (fun _ _ _ _=>(iy (bO mJ (av (bp K) (pv 0) ag (fun _ _=>rfl)) (pv 4) (bu _)))) (fun _ _ _ _=>(pv 0)))
   (al (aB (i:=5) iS.nd rfl (Or.inl rfl) (aq (sU T) hr (az (pv 0) (pv 1))))
   (al (aB (i:=6) iS.nd rfl (Or.inl rfl) (aq (mz T) hr (ap (pv 0))))
   (al (bA (bO eR (aq (take T) hr (az (pv 0) ag)) ag (bu _))
    (ar (aF (pv 4)))
    bE)
   (ar (aF (ax jU (pv 4) (bn (ap (bP (aW (pv 5) (pv 3) (pv 6)))))))))))))),?_⟩
  have xl:=Paired.length hx
  refine⟨_,rfl,p,rfl,hp,fun k1 H1 hk1 c1 hp1=>?_⟩
  refine⟨fun σ2 H2=>∃ k,σ2=[some (.ref p),some (.ref t),some (.ref L),some (.str k),none,none,none]/\jn k/\But p H H2/\bc H2 p,?_,?_⟩
  ·-- one of those that are there
   refine⟨_,rfl,p,_,rfl,hp1,by decide +kernel,by decide +kernel,fun d1 H2 a1 b1 c2 hp2=>?_⟩
   have c02:=c1.trans c2
   have hL2:=c02 _ _ hL nL
   have tp2:∀ b' ys,H b'=some (.tup ys)->H2 b'=some (.tup ys):=fun b' ys h=>c02 _ _ h (fun z=>by obtain⟨x,y,hh⟩:=hp;rw[z,hh] at h;cases h)
   have hx2:Paired (aM H2) xs es:=Paired.mapP hx fun _ _ z=>z.tp tp2
   refine⟨rfl,_,rfl,cE (fun hc=>?_) (fun hc=>?_)⟩
   ·refine⟨_,rfl,B9 _,fun Z hZ=>?_⟩
    have sZ:aa H2 (upd H2 Z (.lst [])):=aa.upd hZ
    have hZ3:(upd H2 Z (.lst [])) Z=some (.lst []):=ah
    generalize (upd H2 Z (.lst []))=H3 at sZ hZ3
    have hx3:=Paired.mapP hx2 fun _ _ z=>z.same sZ
    refine⟨.list (es.map eD),.list [],tq (sZ _ _ hL2) hx3,mC hZ3,n4 ek,rfl,by have:=mo es;simp only[PyData.depth];omega,_,rfl,?_⟩
    rw[if_pos (rfl:true=true),eq_nil]
    by_cases hes:es.isEmpty=true
    ·exact fm (by rw[hes];rfl) ⟨k1,rfl,hk1,c02.trans sZ.but,hp2.same sZ⟩
    ·have hes':es.isEmpty=false:=by simpa using hes
     have hel:0<es.length:=by
      cases es with
      | nil=>exact absurd rfl hes
      | cons _ _=>exact Nat.succ_pos _
     refine fq (by rw[hes'];rfl) ⟨_,rfl,_,rfl,_,rfl,L,_,rfl,.inl (.of (sZ _ _ hL2)),p,_,rfl,hp2.same sZ,by omega,by omega,fun d2 H4 a2 b2 c4 hp4=>?_⟩
     have c04:But p H H4:=(c02.trans sZ.but).trans c4
     have hL4:=c04 _ _ hL nL
     have tp4:∀ b' ys,H b'=some (.tup ys)->H4 b'=some (.tup ys):=fun b' ys h=>c04 _ _ h (fun z=>by obtain⟨x,y,hh⟩:=hp;rw[z,hh] at h;cases h)
     obtain⟨m,rfl⟩:∃ m:Nat,d2=m:=⟨d2.toNat,by omega⟩
     have hd2:m<xs.length:=by omega
     obtain⟨e,he,u,eu,hu⟩:=Paired.get hx (As hd2)
     refine⟨L,xs,(m:Int),.ref u,rfl,rfl,.of hL4,?_,u,_,_,_,rfl,rfl,.of (tp4 _ _ hu),bz (j:=1) rfl,?_⟩
     ·refine bz ?_
      rw[As hd2]
      exact congrArg some eu
     ·exact⟨e.2.1,rfl,(ek e (AK he)).k,c04,hp4⟩
   ·exact⟨k1,rfl,hk1,c02,hp2⟩
  ·rintro σ2 H2 ⟨k,rfl,hk,c02,hp2⟩
   have hL2:=c02 _ _ hL nL
   have tp2:∀ b' ys,H b'=some (.tup ys)->H2 b'=some (.tup ys):=fun b' ys h=>c02 _ _ h (fun z=>by obtain⟨x,y,hh⟩:=hp;rw[z,hh] at h;cases h)
   have hx2:Paired (aM H2) xs es:=Paired.mapP hx fun _ _ z=>z.tp tp2
   refine⟨_,rfl,L,rfl,⟨_,.of hL2⟩,fun D hD=>?_⟩
   have nD:=hp2.ne hD
   refine iu (xs:=xs) (fun i zs H3=>H3 D=some (.lst zs)/\aa H2 H3/\Paired (aM H2) zs ((es.take i).filter fun e=>!decide (e.2.1=k))/\zs.length<=i) ⟨ah,aa.upd hD,.nil,B6 _⟩ (fun i zs H3 h=>⟨h.1,.of (h.2.1 _ _ hL2)⟩) (fun zs H3 h=>?_) fun i v zs H3 hi hv h=>?go
   case go =>
    obtain⟨d1,d2,d3,d4⟩:=h
    obtain⟨e,he,u,rfl,hu⟩:=Paired.get hx2 hv
    have tk:(es.take (i+1)).filter (fun e=>!decide (e.2.1=k))=(es.take i).filter (fun e=>!decide (e.2.1=k))++(if (!decide (e.2.1=k))=true then [e] else []):=by
     rw[Aw,he,AS]
     congr 1
     by_cases z:e.2.1=k
     ·simp[z]
     ·simp[z]
    refine⟨_,rfl,u,_,_,_,rfl,rfl,.of (d2 _ _ hu),bz (j:=1) rfl,_,rfl,rfl,_,rfl,?_⟩
    by_cases z:e.2.1=k
    ·refine fm (by rw[z];simp) (cC.mk hi ⟨d1,d2,?_,by omega⟩)
     rw[tk,if_neg (by simp[z]),AR]
     exact d3
    ·refine fq (by simp[z]) ⟨_,rfl,bw.mk hi (by omega) (by omega) d1 ⟨ah,d2.but_ne hD,?_,by rw[AB];show zs.length+1<=i+1;omega⟩⟩
     rw[tk,if_pos (by simp[z])]
     exact Paired.snoc ⟨u,rfl,hu⟩ d3
   obtain⟨d1,d2,d3,d4⟩:=h
   rw[AL (by omega)] at d3
   have fsub:∀ e∈es.filter (fun e=>!decide (e.2.1=k)),e∈es/\e.2.1≠k:=fun e he=>by
    obtain⟨h1,h2⟩:=List.mem_filter.mp he
    exact⟨h1,by simpa using h2⟩
   have fky:Ent.Keyed (es.filter fun e=>!decide (e.2.1=k)):=by
    unfold Ent.Keyed at ky ⊢
    exact List.Sublist.nodup (List.Sublist.map _ BD) ky
   have fle:=AO (fun e=>!decide (e.2.1=k)) es
   generalize es.filter (fun e=>!decide (e.2.1=k))=fs at d3 fsub fky fle
   have c03:But p H H3:=c02.trans d2.but
   have hp3:=hp2.same d2
   have hD0:H D=none:=But.free c02 hD hp2
   refine⟨_,rfl,_,rfl,p,t,b,ps,af,rfl,hp3,fun H' c=>hT H' (c03.trans c),ok,fun m H4 m0 m1 c4 hp4=>?_⟩
   refine⟨_,rfl,p,rfl,hp4,fun v H5 hv5 c5 hp5=>?_⟩
   refine⟨_,rfl,p,_,rfl,hp5,by decide +kernel,by decide +kernel,fun d H6 a6 b6 c6 hp6=>⟨rfl,_,rfl,?_⟩⟩
   have c36:But p H3 H6:=(c4.trans c5).trans c6
   have c06:=c03.trans c36
   have hD6:=c36 _ _ d1 nD
   have tp26:∀ b' ys,H2 b'=some (.tup ys)->H6 b'=some (.tup ys):=fun b' ys h=>c36 _ _ (d2 _ _ h) (fun z=>by obtain⟨x,y,hh⟩:=hp2;rw[z,hh] at h;cases h)
   have d36:Paired (aM H6) zs fs:=Paired.mapP d3 fun _ _ z=>z.tp tp26
   refine cE (fun hc=>?_) (fun hc=>?_)
   ·exact⟨_,rfl,q D zs fs (0,"",0) H6 c06 hp6 hD0 hD6 d36 (by omega) (fun e he=>ek e (fsub e he).1) fky fun e he=>.inl (fsub e he).1⟩
   ·refine⟨_,rfl,_,rfl,_,rfl,_,rfl,dE,fun u hu=>?_⟩
    have s7:aa H6 (upd H6 u (.tup [.int m,.str k,.int v])):=aa.upd hu
    have hu7:(upd H6 u (.tup [.int m,.str k,.int v])) u=some (.tup [.int m,.str k,.int v]):=ah
    generalize (upd H6 u (.tup [.int m,.str k,.int v]))=H7 at s7 hu7
    refine⟨Cq (cR (by decide)),fun l2 hl2=>?_⟩
    have s8:aa H7 (upd H7 l2 (.lst [.ref u])):=aa.upd hl2
    have hl8:(upd H7 l2 (.lst [.ref u])) l2=some (.lst [.ref u]):=ah
    generalize (upd H7 l2 (.lst [.ref u]))=H8 at s8 hl8
    have s68:=s7.trans s8
    have zl:=Paired.length d3
    refine⟨D,l2,_,_,rfl,rfl,s68 _ _ hD6,hl8,by show zs.length+1<=CQ;rw[Dq];omega,fun M hM=>?_⟩
    have s9:aa H8 (upd H8 M (.lst (zs++[.ref u]))):=aa.upd hM
    have c09:But p H (upd H8 M (.lst (zs++[.ref u]))):=c06.trans (s68.trans s9).but
    have eok:bN (m,k,v):=⟨y9 m0 m1,hv5,hk⟩
    have M6:H6 M=none:=s68.free hM
    refine q M (zs++[.ref u]) (fs++[(m,k,v)]) (m,k,v) _ c09 (hp6.same (s68.trans s9)) (But.free c06 M6 hp6) ah (Paired.snoc ⟨u,rfl,s9 _ _ (s8 _ _ hu7)⟩ (Paired.mapP d36 fun _ _ z=>z.same (s68.trans s9))) (by rw[AB];show fs.length+1<=es.length+1;omega) (fun e he=>?_) (vI fky fun x hx=>(fsub x hx).2) fun e he=>?_
    ·rcases List.mem_append.mp he with z|z
     ·exact ek e (fsub e z).1
     ·rw[List.mem_singleton.mp z];exact eok
    ·rcases List.mem_append.mp he with z|z
     ·exact .inl (fsub e z).1
     ·exact .inr (List.mem_singleton.mp z)
inductive p5 (C Dc:Addr)(vs:List V)(H:Hp)(Q:VK)(E:XK):Prop
 | mk (p dx x:Addr)(r:Nat)(b e bb:Int)(ps:List Int)(af:List Lad.Step)(e0:vs=[.ref p,.ref x,.int (r:Int),.int b,.int e])(hp:H p=some (.ins Dc dx []))(hL:cu C H x bb ps af)(hr:r<=af.length)(b0 : -eg<b)(be:b<e)(e1:e<eg)
  (q:∀ kn H',But p H H'->H kn=none->kn≠p->H' kn=some (.dK [])->dj Dc H' p x (r:Int) b e kn->Q .non H'):p5 C Dc vs H Q E
theorem wk:aI ["self","ladder","roll","begin","end"] ["self","ladder","roll","begin","end"] (ak fb):=aN
set_option maxHeartbeats 4000000 in
theorem uw (T:Txt K mg C){f:Addr}{fd:Dw}(F:bI K "__init__" "Follower.__init__" fb f fd):ce P w K mg base cD 5 f fd ["self","ladder","roll","begin","end"] (p5 C (bH mg "Follower")):=by
 refine F.ok wk (fun vs H Q E h=>?_) (fun cdv A outer s H vs Q E hr h=>?_)
 ·obtain⟨p,dx,x,r,b,e,bb,ps,af,rfl,_⟩:=h
  rfl
 ·obtain⟨p,dx,x,r,b,e,bb,ps,af,rfl,hp,hL,hrl,b0,be,e1,q⟩:=h
  refine⟨_,(al (cK (aq (lD T) hr (aW (pv 2) ag (ax bM (lF (pv 1) T.cl (ln T) hr) ag))))
   (al (cK (aq (rT T) hr (ap (pv 3))))
   (al (cK (aq (rT T) hr (ap (pv 4))))
   (al (bA (bO gk (pv 4) (pv 3) (bu _)) ju bE)
   (al (eJ (pv 0) (pv 1) rfl)
   (al (eJ (pv 0) (pv 2) rfl)
   (al (eJ (pv 0) (pv 3) rfl)
   (al (eJ (pv 0) (pv 4) rfl)
   (ar (eJ (pv 0) ix rfl)))))))))),?_⟩
  obtain⟨ldx,fa,fo,fc,hi⟩:=mG hL
  refine⟨_,rfl,_,rfl,x,ldx,_,rfl,hi,jE _ _ _ (by decide) (by decide) (by decide),x,bb,ps,af,rfl,hL,_,_,rfl,rfl,(r:Int),0,_,rfl,by omega,by omega,?_⟩
  refine⟨_,rfl,b,rfl,b0,by omega,?_⟩
  refine⟨_,rfl,e,rfl,by omega,e1,?_⟩
  refine⟨_,rfl,_,rfl,_,_,rfl,rfl,_,rfl,fm (decide_eq_false (by omega)) ?_⟩
  refine⟨_,rfl,_,rfl,p,_,dx,_,rfl,hp,T.cl_Follower,T.n_Follower_ladder,by decide,?_⟩
  refine⟨_,rfl,_,rfl,p,_,dx,_,rfl,ah,T.cl_Follower,T.n_Follower_roll,by show 1<1000;decide,?_⟩
  rw[kY]
  refine⟨_,rfl,_,rfl,p,_,dx,_,rfl,ah,T.cl_Follower,T.n_Follower_first_number,by show 2<1000;decide,?_⟩
  rw[kY]
  refine⟨_,rfl,_,rfl,p,_,dx,_,rfl,ah,T.cl_Follower,T.n_Follower_number_behind,by show 3<1000;decide,?_⟩
  rw[kY]
  intro kn hkn
  have nk:kn≠p:=fun z=>by rw[z,ah] at hkn;cases hkn
  have hk0:H kn=none:=by rw[upd_ne nk] at hkn;exact hkn
  refine⟨_,rfl,p,_,dx,_,rfl,by rw[upd_ne (Ne.symm nk)];exact ah,T.cl_Follower,T.n_Follower_known,by show 4<1000;decide,?_⟩
  refine q kn _ (fun c o h n=>?_) hk0 nk (by rw[upd_ne nk];exact ah) ⟨dx,_,ah,?_⟩
  ·rw[upd_ne n,upd_ne (aR h hk0),upd_ne n];exact h
  ·constructor
   ·rw[bm,if_neg (by decide),bm,if_neg (by decide),bm,if_neg (by decide),bm,if_neg (by decide),bm,if_pos rfl]
   ·rw[bm,if_neg (by decide),bm,if_neg (by decide),bm,if_neg (by decide),bm,if_pos rfl]
   ·rw[bm,if_neg (by decide),bm,if_neg (by decide),bm,if_pos rfl]
   ·rw[bm,if_neg (by decide),bm,if_pos rfl]
   ·rw[bm,if_pos rfl]
   ·rw[bm,if_neg (by decide),bm,if_neg (by decide),bm,if_neg (by decide),bm,if_neg (by decide),bm,if_neg (by decide)];rfl
   ·show 5<=5;decide
inductive se (C Dc:Addr)(vs:List V)(H:Hp)(Q:VK)(E:XK):Prop
 | mk (p x kn a:Addr)(o:HO)(r:Nat)(b e bb:Int)(ps:List Int)(af:List Lad.Step)(kk:List (aj×V))(nk zs:List Int)(f:Int->PyData)(xs:List V)(es:List En)(e0:vs=[.ref p,.ref a])(hF:dj Dc H p x (r:Int) b e kn)(hL:cu C H x bb ps af)(ok:cf bb ps af)(hr:r<=af.length)(hk:H kn=some (.dK kk))(hd:DD H kk nk f)
  (ha:H a=some o) (ho:Ob o xs) (hx:Paired (cj H) xs es) (hl:es.length<64) (ek:∀ e∈es,bN e) (ky:Ent.Keyed es) (hz:zs.length<64) (z1:∀ n∈nk,n∈zs) (z2:∀ e∈es,Lad.ur (aA bb ps af) r e.1∈zs)
  (q:∀ D ys (ms:List Int) F kf nf H',But p H H'->H D=none->H' D=some (.lst ys)->ms.Nodup->ms.Pairwise (·<=·)->(∀ n,n∈ms↔n∈nk\/n∈nf)->ay H' (dR ms f (cz (aA bb ps af) r b e es)) ys->ys.length<=63->H F=none->H' F=some (.dK kf)->DD H' kf nf (cz (aA bb ps af) r b e es)->(∀ n,n∈nf↔aV b e n=true/\∃ e∈es,Lad.ur (aA bb ps af) r e.1=n)->dj Dc H' p x (r:Int) b e F->Q (.ref D) H'):se C Dc vs H Q E
theorem iI:aI ["self","entries","bars","found","told"] ["self","entries"] (ak il):=aN
set_option maxHeartbeats 8000000 in
theorem o9 (T:Txt K mg C):iz P w K mg base (bH mg "Follower") 8 "news" ["self","entries"] (se C (bH mg "Follower")):=by
 refine mZ T.m_Follower_news iI (fun vs H Q E h=>?_) (fun f cdv A outer s H vs Q E hr h=>?_)
 ·obtain⟨p,x,kn,a,o,r,b,e,bb,ps,af,kk,nk,zs,f,xs,es,rfl,_⟩:=h
  rfl
 ·obtain⟨p,x,kn,a,o,r,b,e,bb,ps,af,kk,nk,zs,f,xs,es,rfl,hF,hL,ok,hrl,hk,hd,ha,ho,hx,hl,ek,ky,hz,z1,z2,q⟩:=h
  refine⟨_,(al (aB (i:=2) iI.nd rfl (Or.inl rfl) (aq (we T) hr (aW (i8 K (pv 0) rfl) (i8 K (pv 0) rfl) (pv 1))))
   (al (wv (i:=3) (xs:=["number","bar"]) (Ns:=["self","entries","bars","found","told"]) iI.nd rfl rfl rfl (eK _ iI) (bK K (pv 2)) (wn rfl (eK _ iI)) (fun _ _ _ _=>(iy (lG gk fP (i8 K (pv 2) rfl) (pv 0) (i8 K (pv 2) rfl)))) (fun _ _ _ _=>pv 0) (fun _ _ _ _=>pv 1))
   (al (aB (i:=4) iI.nd rfl (Or.inl rfl) (aq (uH T) hr (az (i8 K (pv 0) rfl) (pv 3))))
   (al (eJ (pv 0) (pv 3) rfl)
   (ar (aF (pv 4))))))),?_⟩
  obtain⟨dx,fs,hp,ff⟩:=hF
  refine⟨_,rfl,p,_,dx,fs,_,rfl,hp,T.cl_Follower,T.n_Follower_ladder,ff.l,?_⟩
  refine⟨_,rfl,p,_,dx,fs,_,rfl,hp,T.cl_Follower,T.n_Follower_roll,ff.r,_,rfl,?_⟩
  refine⟨x,a,o,xs,es,r,bb,ps,af,rfl,hL,ok,hrl,ha,ho,hx,hl,ek,fun B ys ms H1 s1 hB0 hB hP nd srt mem=>?_⟩
  have yl:=Paired.length hP
  rw[Ar] at yl
  have ml:ms.length<=es.length:=by
   have:ms.length<=(es.map fun e=>Lad.ur (aA bb ps af) r e.1).length:=cJ nd fun n hn=>by
    obtain⟨e',he,ee⟩:=(mem n).mp hn
    exact List.mem_map.mpr ⟨e',he,ee⟩
   rw[Ar] at this
   exact this
  have hp1:=s1 _ _ hp
  refine⟨_,rfl,B,rfl,⟨_,.of hB⟩,fun F hF0=>?_⟩
  have hFH:H F=none:=s1.free hF0
  refine yo (K:=K) (a:=B) (xs:=ys) (fun i kvs H2=>H2 F=some (.dK kvs)/\aa H1 H2/\DV H2 kvs ((ms.take i).filter (aV b e)) (fun n=>bd (own (aA bb ps af) r n es))) ⟨ah,aa.upd hF0,DV.nil⟩ (fun i kvs H2 h=>⟨h.1,.of (h.2.1 _ _ hB)⟩) ?fin ?turn
  case turn =>
   rintro i y kvs H2 u hu hi hy ⟨d1,d2,d3⟩
   obtain⟨u1,u2,rfl⟩:=oo hu
   obtain⟨pr,hpr,t,v,rfl,ht,hv⟩:=Paired.get hP hy
   rw[AE] at hpr
   obtain⟨n,hn,rfl⟩:∃ n,ms[i]?=some n/\(n,own (aA bb ps af) r n es)=pr:=by
    cases hn:ms[i]? with
    | none=>rw[hn] at hpr;cases hpr
    | some n=>rw[hn] at hpr;exact⟨n,rfl,Option.some.inj hpr⟩
   have fil:(ms.take (i+1)).filter (aV b e)=(ms.take i).filter (aV b e)++(if aV b e n=true then [n] else []):=by
    rw[Aw,hn,AS]
    congr 1
    by_cases z:aV b e n=true
    ·simp[z]
    ·simp[z]
   have hp2:=d2 _ _ hp1
   refine⟨t,_,rfl,.of (d2 _ _ ht),rfl,_,_,rfl,_,_,rfl,rfl,⟨[some (.int n),some v],rfl,rfl⟩,?_⟩
   refine⟨_,rfl,p,_,dx,fs,_,rfl,hp2,T.cl_Follower,T.n_Follower_first_number,ff.b,_,rfl,_,_,rfl,rfl,_,rfl,?_⟩
   have no:aV b e n=false->fK ys.length i fun j=>H2 F=some (.dK kvs)/\aa H1 H2/\DV H2 kvs ((ms.take j).filter (aV b e)) (fun n=>bd (own (aA bb ps af) r n es)):=fun z=>jJ hi ⟨d1,d2,by rw[fil,if_neg (by rw[z];exact Bool.false_ne_true),AR];exact d3⟩
   by_cases c1:b<=n
   ·refine fq (decide_eq_true c1) ⟨_,rfl,p,_,dx,fs,_,rfl,hp2,T.cl_Follower,T.n_Follower_number_behind,ff.e,_,_,rfl,rfl,?_⟩
    by_cases c2:n<e
    ·have z:aV b e n=true:=by unfold aV;rw[decide_eq_true c1,decide_eq_true c2];rfl
     refine⟨_,rfl,fq (decide_eq_true c2) ⟨_,rfl,_,rfl,d1,by rw[d3.len,Dq];have:=AO (aV b e) (ms.take i);rw[AC] at this;omega,.inl n,rfl,jJ hi ⟨ah,d2.but_ne hF0,?_⟩⟩⟩
     have tp:∀ b' xs',H2 b'=some (.tup xs')->(upd H2 F (.dK (aX kvs (.inl n) v))) b'=some (.tup xs'):=fun b' xs' h=>by
      rw[upd_ne (fun z=>by rw[z,d1] at h;cases h)];exact h
     obtain⟨p2,ev,dv,ov⟩:=BT.dat (mN ky) (hv.same d2)
     subst ev
     rw[fil,if_pos z]
     refine(d3.put (n:=n) (p:=p2) (fun hm=>?_) dv (rG ek (by omega) ov)).tups tp
     have h1:=(List.mem_filter.mp hm).1
     have nd':=List.Nodup.sublist (Bb (i+1) ms) nd
     rw[Aw,hn] at nd'
     exact(List.nodup_append.mp nd').2.2 n h1 n (by simp) rfl
    ·exact⟨_,rfl,fm (decide_eq_false c2) (no (by unfold aV;rw[decide_eq_false c2,Bool.and_false]))⟩
   ·refine fm (decide_eq_false c1) ?_
    exact⟨_,rfl,cm (no (by unfold aV;rw[decide_eq_false c1];rfl))⟩
  case fin =>
   rintro kvs H2 ⟨d1,d2,d3⟩
   rw[AL (by omega)] at d3
   have memf:∀ n,n∈ms.filter (aV b e)↔aV b e n=true/\∃ e∈es,Lad.ur (aA bb ps af) r e.1=n:=fun n=>by
    rw[Bs,mem];exact And.comm
   have DF:DD H2 kvs (ms.filter (aV b e)) (cz (aA bb ps af) r b e es):=d3.dd (fun n hn=>by unfold cz;rw[if_pos ((memf n).mp hn).1]) fun n hn=>by
    unfold cz
    by_cases z:aV b e n=true
    ·rw[if_pos z,jQ (fun y=>hn ((memf n).mpr ⟨z,y⟩)),lr]
    ·rw[if_neg z]
   have s02:=s1.trans d2
   have hp2:=s02 _ _ hp
   refine⟨_,rfl,p,_,dx,fs,_,rfl,hp2,T.cl_Follower,T.n_Follower_known,ff.k,_,rfl,?_⟩
   refine⟨kn,F,kk,kvs,nk,_,zs,f,_,rfl,s02 _ _ hk,d1,hd.tups fun b xs h=>s02 _ _ h,DF,hz,z1,fun n hn=>?_,fun D zs' us H3 s3 hD0 hD nd3 srt3 mem3 dat3 len3=>?_⟩
   ·obtain⟨_,e',he,ee⟩:=(memf n).mp hn
    rw[<-ee]
    exact z2 e' he
   have hp3:=s3 _ _ hp2
   refine⟨_,rfl,_,rfl,p,_,dx,fs,rfl,hp3,T.cl_Follower,T.n_Follower_known,by have:=ff.len;omega,_,rfl,?_⟩
   have nFp:F≠p:=fun z=>by rw[z,hp2] at d1;cases d1
   have nDp:D≠p:=fun z=>by rw[z,hp2] at hD0;cases hD0
   have tp:∀ b' xs',H3 b'=some (.tup xs')->(upd H3 p (.ins (bH mg "Follower") dx (bt "known" (.ref F) fs))) b'=some (.tup xs'):=fun b' xs' h=>by
    rw[upd_ne (fun z=>by rw[z,hp3] at h;cases h)];exact h
   have ul:us.length<=63:=by
    have:=cJ nd3 (zs:=zs) fun n hn=>by
     rcases (mem3 n).mp hn with y|y
     ·exact z1 n y
     ·obtain⟨_,e',he,ee⟩:=(memf n).mp y
      rw[<-ee];exact z2 e' he
    omega
   refine q D zs' us F kvs _ _ (fun c o h n=>by rw[upd_ne n];exact s3 _ _ (s02 _ _ h)) (s02.free hD0) (by rw[upd_ne nDp];exact hD) nd3 srt3 mem3 (ay.tups tp _ _ ?_ dat3) (by omega) hFH (by rw[upd_ne nFp];exact s3 _ _ d1) ((DF.tups fun b xs h=>s3 _ _ h).tups tp) memf ⟨dx,_,ah,ff.put F⟩
   exact qI us (fun n=>hd.b n) fun n=>DF.b n
end
end Pr
namespace L2
open PySem PySem.Spec PyProof.Rows
inductive iJ:Value->PyData->Prop
 | none:iJ .none .none
 | bool (b:Bool):iJ (.bool b) (.bool b)
 | int (i:Int) (t:Tok):iJ (.int i t) (.int i)
 | str (x:Str) (t:Tok):iJ (.str x t) (.str x)
def xp (a:Addr)(kvs:List (PyData×PyData))(h:Heap):Prop :=
 (a == CS)=false/\∃ o es n,h.get? a=some o/\o.cls=.type "dict"/\o.data=.dict es n/\Paired iJ (es.toList.map (·.key)) (kvs.map (·.1))/\Paired iJ (es.toList.map (·.val)) (kvs.map (·.2))
def qz (a:Addr)(kvs:List (PyData×PyData)):HO:=.ext (xp a kvs)
section
variable {X:Cx}{pins:List (Addr×Obj)}{σ:St}{H:Hp}{s:CW}
end
section
variable {X:Cx}
end
end L2
namespace L2
open PySem PySem.Spec PyProof.Rows
inductive gK (H:Hp):V->Value->Prop
 | s {x:V}{t:Value} (h:fI H x t):gK H x t
 | non:gK H .non (.type "NoneType")
 | str (x:Str):gK H (.str x) (.type "str")
 | dK {a:Addr}{kvs:List (aj×V)} (h:H a=some (.dK kvs)):gK H (.ref a) (.type "dict")
 | lit {a:Addr}{kvs:List (PyData×PyData)} (h:H a=some (qz a kvs)):gK H (.ref a) (.type "dict")
section
variable {X:Cx}
theorem zA {pins:List (Addr×Obj)}{σ:St}{H:Hp}{s:CW}{x:V}{u t:Value}(I:ac X pins σ H s)(rx:aw x u)(ty:gK H x t):∃ Hx:Heap->Prop,W.KitX X.K u t Hx/\Hx s.heap/\u≠.builtin "__main__.__loader__#opaque":=by
 cases ty with
 | s h=>exact mj I rx h
 | non=>cases (show u=Value.none from rx);exact⟨_,W.kitx_none,True.intro,fun z=>nomatch z⟩
 | str y=>obtain⟨t,q⟩:=(show ∃ t,u=Value.str y t from rx);cases q;exact⟨_,W.kitx_str,True.intro,fun z=>nomatch z⟩
 | @dK a kvs h =>
  cases (show u=Value.ref a from rx)
  obtain⟨_,_,_,_,o,_,_,e,c,_⟩:=(show aY X.prog X.w H s.heap a (.dK kvs) from I.hok a _ h)
  exact⟨_,W.kitx_dict,⟨o,e,c.1⟩,fun z=>nomatch z⟩
 | @lit a kvs h =>
  cases (show u=Value.ref a from rx)
  obtain⟨⟨_,o,_,_,e,c,_⟩,_⟩:=(show aY X.prog X.w H s.heap a (qz a kvs) from I.hok a _ h)
  exact⟨_,W.kitx_dict,⟨o,e,c⟩,fun z=>nomatch z⟩
inductive nY (K:W.Frag)(xs:List V)(H:Hp)(Q:VK):Prop
 | mk (x:V)(t:Value)(T:String)(b:Bool)(e:xs=[x,.ty T])(h:gK H x t)(k:W.kitOne K t (.type T)=some b)(q:Q (.bl b) H):nY K xs H Q
theorem z9 (K:W.Frag)(ek:X.K=K:=by rfl):bB X (.builtin "isinstance") (nY K):=by
 subst ek
 intro pins s σ H xs us Q I r h
 obtain⟨x,t,T,b,rfl,ty,e,q⟩:=h
 obtain⟨u,w',rfl,rx,rt⟩:=gO r
 cases rt
 obtain⟨Hx,Z,p,hx⟩:=zA I rx ty
 exact W.kia_one Z I.kIn p e hx fun tk=>⟨.bl b,H,I.tok tk,rfl,q⟩
end
end L2
namespace Pr
open PySem L2 PyProof.Rows Ent
theorem qg:∀ {l l':List Int},l.Perm l'->l.Pairwise (·<=·)->l'.Pairwise (·<=·)->l=l'
 | [],l',p,_,_=>(List.Perm.nil_eq p)
 | a::t,[],p,_,_=>by have:=p.length_eq;simp at this
 | a::t,b::t',p,s,s'=>by
  have ab:a=b:=by
   have h1:=List.pairwise_cons.mp s
   have h2:=List.pairwise_cons.mp s'
   have ha:=p.mem_iff.mp (AF (a:=a) (l:=t))
   have hb:=p.mem_iff.mpr (AF (a:=b) (l:=t'))
   rcases List.mem_cons.mp ha with e|e
   ·exact e
   ·rcases List.mem_cons.mp hb with e'|e'
    ·exact e'.symm
    ·have:=h1.1 b e'
     have:=h2.1 a e
     omega
  subst ab
  rw[qg (List.perm_cons _ |>.mp p) (List.pairwise_cons.mp s).2 (List.pairwise_cons.mp s').2]
theorem xY {ms ms':List Int}(nd:ms.Nodup)(nd':ms'.Nodup)(s:ms.Pairwise (·<=·))(s':ms'.Pairwise (·<=·))(h:∀ n,n∈ms↔n∈ms'):ms=ms' :=
 qg ((List.perm_ext_iff_of_nodup nd nd').mpr h) s s'
theorem xM {es fs:List En}(p:fs.Perm es)(k:Ent.Keyed es):bd fs=bd es:=by
 have kf:Ent.Keyed fs:=by
  unfold Ent.Keyed at k ⊢
  exact(p.map _).nodup_iff.mpr k
 by_cases h:∃ d,bD es d
 ·obtain⟨d,hd⟩:=h
  rw[<-ja k hd,<-ja kf (hd.perm p.symm)]
 ·have h':¬ ∃ d,bD fs d:=fun⟨d,hd⟩=>h ⟨d,hd.perm p⟩
  unfold bd
  rw[dif_neg h,dif_neg h']
theorem xU {st:List Lad.Step}{r:Nat}{b e:Int}{es fs:List En}(p:fs.Perm es)(k:Ent.Keyed es):cz st r b e fs=cz st r b e es:=by
 funext n
 unfold cz
 by_cases z:aV b e n=true
 ·rw[if_pos z,if_pos z]
  exact xM (p.filter _) (mN k)
 ·rw[if_neg z,if_neg z]
theorem wl {f:Int->PyData}(ms:List Int)(h:∀ n,ca (f n)):dR ms f f=[]:=by
 unfold dR
 rw[List.filter_eq_nil_iff.mpr]
 ·rfl
 ·intro n _ z
  rw[SeqAt.eqv_refl (f n) (h n).lf.1.cl] at z
  cases z
theorem oY {f g:Int->PyData}(hf:∀ n,ca (f n))(hg:∀ n,ca (g n)):∀ ns:List Int,PyData.bulkAll (ns.map (eV f g))<=100*ns.length/\PyData.depthAll (ns.map (eV f g))<=3
 | []=>by simp[PyData.bulkAll,PyData.depthAll]
 | n::t=>by
  obtain⟨h1,h2⟩:=oY hf hg t
  have h3:=(hf n).lf.2
  have h4:=(hg n).lf.2
  rw[Av,Ay]
  constructor
  ·simp only[PyData.bulkAll,eV,PyData.bulk]
   omega
  ·simp only[PyData.depthAll,eV,PyData.depth]
   omega
theorem t6 {f g:Int->PyData}{ms:List Int}(hf:∀ n,ca (f n))(hg:∀ n,ca (g n))(hm:∀ n∈ms,n.natAbs<10 ^ 40)(hl:ms.length<=63):L2.Fit (.list (dR ms f g)):=by
 have fl:=AO (fun n=>!PyData.eqv (f n) (g n)) ms
 have hb:=oY hf hg (ms.filter fun n=>!PyData.eqv (f n) (g n))
 refine Lf.fit (jW fun d hd=>?_) ?_ ?_
 ·obtain⟨n,hn,rfl⟩:=List.mem_map.mp hd
  refine jO fun d hd=>?_
  simp only[Bp,Bq,or_false] at hd
  rcases hd with rfl|rfl|rfl
  ·exact eX (hm n (List.mem_filter.mp hn).1)
  ·exact(hf n).lf.1
  ·exact(hg n).lf.1
 ·unfold dR
  simp only[PyData.bulk]
  omega
 ·unfold dR
  simp only[PyData.depth]
  omega
theorem lI {H:Hp}{a:Addr}{ys:List V}{ds:List PyData}(h:H a=some (.lst ys))(d:ay H ds ys):am H (.list ds) (.ref a):=by
 unfold am
 exact⟨a,ys,rfl,h,d⟩
theorem cu.keep {C:Addr}{H H':Hp}{x:Addr}{b:Int}{ps:List Int}{af:List Lad.Step}(h:cu C H x b ps af)(k1:∀ o,H x=some o->H' x=some o)(k2:∀ b' ys,H b'=some (.tup ys)->H' b'=some (.tup ys)):cu C H' x b ps af:=by
 obtain⟨dx,a,o,c,us,h1,h2,h3,h4,h5⟩:=h
 refine⟨dx,a,o,c,us,k1 _ h1,k2 _ _ h2,k2 _ _ h3,k2 _ _ h4,Paired.mono (fun _ _ z=>?_) h5⟩
 obtain⟨r,l,e,g1,g2⟩:=z
 exact⟨r,l,e,k2 _ _ g1,k2 _ _ g2⟩
def jS (D:Addr)(H0 H:Hp)(x:V)(e:En):Prop:=∃ a,x=.ref a/\H a=some (.lst (fO e))/\H0 a=none/\a≠D
theorem jS.l {D:Addr}{H0 H:Hp}{x:V}{e:En}(h:jS D H0 H x e):gs H x e:=by
 obtain⟨a,e1,h1,_⟩:=h
 exact⟨a,e1,h1⟩
section
variable {P:CP}{w:World}{K:W.Frag}{mg:Str->Option Value}{base:Heap}{C:Addr}
inductive qr (C Dc:Addr)(vs:List V)(H:Hp)(Q:VK)(E:XK):Prop
 | mk (fp sp kn L t x kf:Addr)(r:Nat)(b0 e0 b:Int)(ps:List Int)(af:List Lad.Step)(kk kl:List (aj×V))(nk nl zs:List Int)(f:Int->PyData)(xs:List V)(es:List En)(e:vs=[.ref fp,.ref sp,.ref kn,.ref L,.ref t])(hF:dj Dc H fp x (r:Int) b0 e0 kf)(hs:H sp=some (.tup [.int (r:Int),.int b0,.int e0]))(hkf:H kf=some (.dK kk))(hdk:DD H kk nk f)(hkn:H kn=some (.dK kl))(hdl:DD H kl nl f)(hkl:∀ n,n∈nk↔n∈nl)
  (hL:cu C H x b ps af) (hT:db H t b ps af) (ok:cf b ps af) (hr:r<=af.length) (ha:H L=some (.lst xs)) (hx:Paired (aM H) xs es) (hl:es.length<64) (ek:∀ e∈es,bN e) (ky:Ent.Keyed es) (hz:zs.length<64) (z1:∀ n∈nk,n∈zs) (z2:∀ e∈es,Lad.ur (aA b ps af) r e.1∈zs) (z3:∀ n∈zs,n.natAbs<10 ^ 40)
  (q:∀ F kf' nf H',But fp H H'->H F=none->H' F=some (.dK kf')->DD H' kf' nf (cz (aA b ps af) r b0 e0 es)->(∀ n,n∈nf↔aV b0 e0 n=true/\∃ e∈es,Lad.ur (aA b ps af) r e.1=n)->dj Dc H' fp x (r:Int) b0 e0 F->Q (.bl true) H'):qr C Dc vs H Q E
theorem ft:aI ["_law_follower","_law_span_here","_law_known","_law_entries","_law_told","_law_now","_law_due","_law_handed","_law_kept","_law_found","_law_good","_law_one"] ["_law_follower","_law_span_here","_law_known","_law_entries","_law_told"] (ak fR):=aN
set_option maxHeartbeats 16000000 in
theorem uG (T:Txt K mg C):aP P w K mg base 9 "_law_told_right" ["_law_follower","_law_span_here","_law_known","_law_entries","_law_told"] (qr C (bH mg "Follower")):=by
 refine aU T.f_law_told_right ft (fun vs H Q E h=>?_) (fun f cdv A outer s H vs Q E hr h=>?_)
 ·obtain⟨fp,sp,kn,L,t,x,kf,r,b0,e0,b,ps,af,kk,kl,nk,nl,zs,f,xs,es,rfl,_⟩:=h
  rfl
 ·obtain⟨fp,sp,kn,L,t,x,kf,r,b0,e0,b,ps,af,kk,kl,nk,nl,zs,f,xs,es,rfl,hF,hs,hkf,hdk,hkn,hdl,hkl,hL,hT,ok,hrl,ha,hx,hl,ek,ky,hz,z1,z2,z3,q⟩:=h
  refine⟨_,(al (aB (i:=5) ft.nd rfl (Or.inl rfl) (aq (nz T) hr (aW (aq (qM T) hr (aW (pv 4) (av (bp K) (pv 1) ag (fun _ _=>rfl)) (pv 3))) (av (bp K) (pv 1) ag (fun _ _=>rfl)) (av (bp K) (pv 1) ag (fun _ _=>rfl)))))
   (al (aB (i:=6) ft.nd rfl (Or.inl rfl) (aq (Af T) hr (az (pv 2) (pv 5))))
   (al (iZ (i:=7) rfl rfl rfl (bQ ft) (bK K (pv 3)) (fun _ _ _ _=>bZ) (fun _ _ _ _=>(ed (x8 K) T.b_list ES (ap (pv 0)))))
   (al (aB (i:=8) ft.nd rfl (Or.inl rfl) (aQ (kt hr) T.b_repr Ft (ap (pv 7))))
   (al (aB (i:=9) ft.nd rfl (Or.inl rfl) (lB (pv 0) T.cl_Follower (o9 T) hr (ap (pv 7))))
   (al (aB (i:=10) ft.nd rfl (Or.inl rfl) (cT (aQ (z9 K) T.b_isinstance ER (az (pv 9) (ji rfl T.b_list ES))) (cT (fV eR (aQ (kt hr) T.b_repr Ft (ap (pv 9))) (aQ (kt hr) T.b_repr Ft (ap (pv 6))) (bu _)) (dD (fV eR (aQ (kt hr) T.b_repr Ft (ap (pv 7))) (pv 8) (bu _))))))
   (al (bA (dY (pv 10))
    (ar (cK (fg K PySem.F.plainAttrs_list PySem.F.slot_list_append PySem.F.type_list_append dU (pv 9) (ap cq))))
    bE)
   (al (cH PassesOwn.never rfl (bK K (pv 7)) (br (i:=11) ft.nd rfl (Or.inl rfl))
    (ar (cK (uL PySem.F.plainAttrs_list PySem.F.slot_list_clear PySem.F.type_list_clear wK (pv 11)))))
   (ar (aF (cT (pv 10) (dD (fV (qF hr) (lB (pv 0) T.cl_Follower (o9 T) hr (ap (ed gq T.b_tuple EL (ap (z7 K (pv 3) (dI dN ag)))))) (bn b9) (bu _)))))))))))))),?_⟩
  have xl:=Paired.length hx
  refine⟨_,rfl,_,rfl,sp,_,_,_,rfl,rfl,.of hs,rfl,_,rfl,t,r,L,xs,es,b,ps,af,rfl,hT,ok,hrl,ha,hx,hl,ek,ky,fun B kb nb H1 s1 hB0 hB1 dvB memB=>?_⟩
  have nb64:nb.length<64:=by
   have:=cJ dvB.nd (zs:=zs) fun n hn=>by
    obtain⟨e',he',ee⟩:=(memB n).mp hn
    rw[<-ee];exact z2 e' he'
   omega
  refine⟨_,rfl,sp,_,_,_,rfl,rfl,.of (s1 _ _ hs),rfl,_,rfl,sp,_,_,_,rfl,rfl,.of (s1 _ _ hs),rfl,B,b0,e0,kb,nb,_,rfl,hB1,dvB,nb64,fun G kw H2 s2 hG0 hG2 dvG=>?_⟩
  have s02:=s1.trans s2
  have memG:∀ n,n∈nb.filter (aV b0 e0)↔aV b0 e0 n=true/\∃ e∈es,Lad.ur (aA b ps af) r e.1=n:=fun n=>by
   rw[Bs,memB];exact And.comm
  have ddG:DD H2 kw (nb.filter (aV b0 e0)) (cz (aA b ps af) r b0 e0 es):=dvG.dd (fun n hn=>by unfold cz;rw[if_pos ((memG n).mp hn).1]) fun n hn=>by
   unfold cz
   by_cases z:aV b0 e0 n=true
   ·rw[if_pos z,jQ (fun y=>hn ((memG n).mpr ⟨z,y⟩)),lr]
   ·rw[if_neg z]
  have zG:∀ n∈nb.filter (aV b0 e0),n∈zs:=fun n hn=>by
   obtain⟨_,e',he',ee⟩:=(memG n).mp hn
   rw[<-ee];exact z2 e' he'
  have nkG:kn≠G:=fun z=>by rw[z] at hkn;have:=s1 _ _ hkn;rw[hG0] at this;cases this
  refine⟨_,rfl,_,rfl,kn,G,kl,kw,nl,_,zs,f,_,rfl,nkG,s02 _ _ hkn,hG2,hdl.tups (fun b' ys h=>s02 _ _ h),ddG,hz,(fun n hn=>z1 n ((hkl n).mpr hn)),zG,fun R1 ys1 ms1 H3 s3 hR10 hR1 nd1 srt1 mem1 dat1 iX=>?_⟩
  have s03:=s02.trans s3
  refine⟨_,rfl,L,rfl,⟨_,.of (s03 _ _ ha)⟩,fun D hD=>?_⟩
  have hx3:Paired (aM H3) xs es:=Paired.mapP hx fun _ _ z=>z.same s03
  refine iu (xs:=xs) (fun i zs H4=>H4 D=some (.lst zs)/\aa H3 H4/\Paired (jS D H3 H4) zs (es.take i)) ⟨ah,aa.upd hD,.nil⟩ (fun i zs H4 h=>⟨h.1,.of (h.2.1 _ _ (s03 _ _ ha))⟩) (fun zs4 H4 h=>?_) fun i v zs4 H4 hi hv h=>?go
  case go =>
   obtain⟨d1,d2,d3⟩:=h
   obtain⟨e,he,u,rfl,hu⟩:=Paired.get hx3 hv
   have zl:=Paired.length d3
   rw[AC] at zl
   refine cL ⟨_,rfl,u,_,rfl,.inr (.of (d2 _ _ hu)),fun l hl5=>?_⟩
   have s5:aa H4 (upd H4 l (.lst (fO e))):=aa.upd hl5
   have hl6:(upd H4 l (.lst (fO e))) l=some (.lst (fO e)):=ah
   have nlD:l≠D:=fun z=>by rw[z,d1] at hl5;cases hl5
   generalize (upd H4 l (.lst (fO e)))=H5 at s5 hl6
   refine bw.mk hi (by omega) (by omega) (s5 _ _ d1) ⟨ah,(d2.trans s5).but_ne hD,?_⟩
   rw[Aw,he]
   refine Paired.snoc ⟨l,rfl,by rw[upd_ne nlD];exact hl6,d2.free hl5,nlD⟩ (Paired.mapP d3 fun _ _ z=>?_)
   obtain⟨a,e1,g1,g2,g3⟩:=z
   exact⟨a,e1,by rw[upd_ne g3];exact s5 _ _ g1,g2,g3⟩
  obtain⟨d1,d2,d3⟩:=h
  rw[AL (by omega)] at d3
  have s04:=s03.trans d2
  have zl4:=Paired.length d3
  refine⟨_,rfl,D,_,rfl,oq d1 (Paired.mapP d3 fun _ _ z=>z.l),rW ek (by omega),?_⟩
  obtain⟨dx,fs,hfp,ff⟩:=id hF
  have hF4:dj (bH mg "Follower") H4 fp x (r:Int) b0 e0 kf:=hF.same s04
  refine⟨_,rfl,fp,dx,fs,rfl,s04 _ _ hfp,ff.n,_,rfl,fp,x,kf,D,_,r,b0,e0,b,ps,af,kk,nk,zs,f,zs4,es,rfl,hF4,hL.same s04,ok,hrl,s04 _ _ hkf,hdk.tups (fun b' ys h=>s04 _ _ h),d1,.inl rfl,Paired.mapP d3 fun _ _ z=>z.l.g,hl,ek,ky,hz,z1,z2,fun R2 ys2 ms2 F2 kf2 nf2 H6 c6 hR20 hR2 nd2 srt2 mem2 dat2 oo hF20 hF2 dd2 memF2 fol2=>?_⟩
  have hfp4:=s04 _ _ hfp
  have hms:ms2=ms1:=xY nd2 nd1 srt2 srt1 fun n=>by rw[mem2,mem1,hkl,memF2,memG]
  subst hms
  have nfp:∀ {b':Addr}{o:HO},H4 b'=some o->(∀ C' dx' fs',o≠.ins C' dx' fs')->b'≠fp:=fun {b' o} h n z=>by
   rw[z,hfp4] at h
   exact n _ _ _ (Option.some.inj h).symm
  have tp46:∀ b' ys,H4 b'=some (.tup ys)->H6 b'=some (.tup ys):=fun b' ys h=>c6 _ _ h (nfp h fun _ _ _ z=>nomatch z)
  have ls46:∀ b' ys,H4 b'=some (.lst ys)->H6 b'=some (.lst ys):=fun b' ys h=>c6 _ _ h (nfp h fun _ _ _ z=>nomatch z)
  have zms:∀ n∈ms2,n∈zs:=fun n hn=>by
   rcases (mem1 n).mp hn with y|y
   ·exact z1 n ((hkl n).mpr y)
   ·exact zG n y
  have ml:ms2.length<=63:=by have:=cJ nd2 zms;omega
  have fit:=t6 (ms:=ms2) hdk.b dd2.b (fun n hn=>z3 n (zms n hn)) ml
  have dat16:ay H6 (dR ms2 f (cz (aA b ps af) r b0 e0 es)) ys1:=ay.tups (fun b' ys h=>tp46 _ _ (d2 _ _ h)) _ _ (qI ms2 hdk.b dd2.b) dat1
  have hR16:=ls46 _ _ (d2 _ _ hR1)
  have hD6:=ls46 _ _ d1
  have d36:Paired (jS D H3 H6) zs4 es:=Paired.mapP d3 fun _ _ z=>by
   obtain⟨a,e1,g1,g2,g3⟩:=z
   exact⟨a,e1,ls46 _ _ g1,g2,g3⟩
  refine⟨_,rfl,.ref R2,.type "list","list",true,rfl,.s (.lst hR2),rfl,true,rfl,bV ?_⟩
  refine⟨_,rfl,R2,_,rfl,lI hR2 dat2,fit,_,rfl,R1,_,rfl,lI hR16 dat16,fit,rfl,_,rfl,fq (decide_eq_true rfl) ?_⟩
  refine⟨_,rfl,D,_,rfl,oq hD6 (Paired.mapP d36 fun _ _ z=>z.l),rW ek (by omega),_,rfl,rfl,?_⟩
  rw[show decide (V.str (PyData.shown (.list (es.map eL)))=V.str (PyData.shown (.list (es.map eL))))=true from decide_eq_true rfl]
  refine⟨_,rfl,_,rfl,bV ?_⟩
  refine⟨_,rfl,.inl ⟨rfl,_,.of hR2⟩,R2,ys2,_,rfl,rfl,hR2,cR (by omega),?_⟩
  have nR2D:D≠R2:=fun z=>by rw[z,hR20] at d1;cases d1
  have k67:∀ b' o,H6 b'=some o->b'≠R2->(upd H6 R2 (.lst (ys2++[.non]))) b'=some o:=fun b' o h n=>by rw[upd_ne n];exact h
  have hR27:(upd H6 R2 (.lst (ys2++[.non]))) R2=some (.lst (ys2++[.non])):=ah
  generalize (upd H6 R2 (.lst (ys2++[.non])))=H7 at k67 hR27
  have nl67:∀ b' o,H6 b'=some o->(∀ ys,o≠.lst ys)->H7 b'=some o:=fun b' o h n=>k67 _ _ h fun z=>by
   rw[z,hR2] at h
   exact n _ (Option.some.inj h).symm
  have k37:∀ b' o,H3 b'=some o->b'≠fp->H7 b'=some o:=fun b' o h n=>k67 _ _ (c6 _ _ (d2 _ _ h) n) fun z=>by
   have:=d2 _ _ h
   rw[z,hR20] at this
   cases this
  have hD7:=k67 _ _ hD6 nR2D
  have in7:∀ z∈zs4,∃ a ys,z=.ref a/\a≠D/\H3 a=none/\H7 a=some (.lst ys):=fun z hzz=>by
   obtain⟨j,hj,ej⟩:=AX hzz
   obtain⟨e,he,a,e1,g1,g2,g3⟩:=Paired.get d3 (As hj)
   refine⟨a,_,by rw[<-ej];exact e1,g3,g2,k67 _ _ (ls46 _ _ g1) fun z=>?_⟩
   rw[z,hR20] at g1
   cases g1
  refine⟨_,rfl,D,rfl,⟨_,.of hD7⟩,eo (K:=K) (a:=D) (xs:=zs4) (fun i σ H8=>∃ v11 kept,σ=[some (.ref fp),some (.ref sp),some (.ref kn),some (.ref L),some (.ref t),some (.ref G),some (.ref R1),some (.ref D),some kept,some (.ref R2),some (.bl true),v11]/\(∀ b' o,H7 b'=some o->(∀ ys,o≠.lst ys)->H8 b'=some o)/\(∀ b' o,H3 b'=some o->b'≠fp->H8 b'=some o)/\H8 D=some (.lst zs4)/\∀ z∈zs4,∃ a ys,z=.ref a/\a≠D/\H3 a=none/\H8 a=some (.lst ys))
   ⟨none,_,rfl,fun _ _ h _=>h,k37,hD7,in7⟩ (fun i σ H8 _ ⟨_,_,_,_,_,h,_⟩=>.of h) ?turn ?fin⟩
  case turn =>
   rintro i z σ H8 hz8 ⟨v11,kept,rfl,n8,k8,hD8,in8⟩
   obtain⟨a,ys,rfl,ga,gn,g8⟩:=in8 _ (AK hz8)
   refine⟨_,rfl,.inl ⟨rfl,_,.of g8⟩,a,ys,rfl,rfl,g8,?_⟩
   refine⟨_,kept,rfl,fun b' o h n=>?_,fun b' o h n=>?_,by rw[upd_ne (Ne.symm ga)];exact hD8,fun z hzz=>?_⟩
   ·rw[upd_ne (fun z=>by have:=n8 _ _ h n;rw[z,g8] at this;exact n _ (Option.some.inj this).symm)]
    exact n8 _ _ h n
   ·rw[upd_ne (aR h gn)];exact k8 _ _ h n
   ·obtain⟨a',ys',e1,e2,e3,e4⟩:=in8 z hzz
    by_cases y:a'=a
    ·exact⟨a',[],e1,e2,e3,by rw[y];exact ah⟩
    ·exact⟨a',ys',e1,e2,e3,by rw[upd_ne y];exact e4⟩
  case fin =>
   rintro σ H8 ⟨v11,kept,rfl,n8,k8,hD8,in8⟩
   have n68:∀ b' o,H6 b'=some o->(∀ ys,o≠.lst ys)->H8 b'=some o:=fun b' o h n=>n8 _ _ (nl67 _ _ h n) n
   have k08:But fp H H8:=fun b' o h n=>k8 _ _ (s03 _ _ h) n
   have tp68:∀ b' ys,H6 b'=some (.tup ys)->H8 b'=some (.tup ys):=fun b' ys h=>n68 _ _ h fun _ z=>nomatch z
   obtain⟨dx2,fs2,hfp6,ff2⟩:=id fol2
   have hfp8:=n68 _ _ hfp6 fun _ z=>nomatch z
   have hF28:=n68 _ _ hF2 fun _ z=>nomatch z
   have tp08:∀ b' ys,H b'=some (.tup ys)->H8 b'=some (.tup ys):=fun b' ys h=>k08 _ _ h fun z=>by rw[z,hfp] at h;cases h
   have nLfp:L≠fp:=fun z=>by rw[z,hfp] at ha;cases ha
   have hL8:=k08 _ _ ha nLfp
   have nxfp:x≠fp:=fun z=>by
    obtain⟨ldx,a1,a2,a3,hh⟩:=mG hL
    rw[z,hfp] at hh
    have e2:fs=fA a1 a2 a3:=by injection (Option.some.inj hh)
    have:=ff.r
    rw[e2,jE _ _ _ (by decide) (by decide) (by decide)] at this
    cases this
   have lad8:cu C H8 x b ps af:=hL.keep (fun o h=>k08 _ _ h nxfp) tp08
   refine⟨_,rfl,true,rfl,bV ?_⟩
   refine⟨_,rfl,fp,dx2,fs2,rfl,hfp8,ff2.n,_,rfl,_,rfl,L,xs,rfl,rfl,.of hL8,fun p9 hp9=>⟨p9,_,xs.reverse,rfl,ah,.inl rfl,fun l HA sA hlA=>?_⟩⟩
   have s8A:aa H8 HA:=(aa.upd hp9).trans sA
   have hxA:Paired (cj HA) xs.reverse es.reverse:=Paired.mapP (Paired.reverse hx) fun _ _ z=>((z.tp tp08).same s8A).g
   have pm:es.reverse.Perm es:=List.reverse_perm es
   have kyr:Ent.Keyed es.reverse:=by unfold Ent.Keyed at ky ⊢;exact(pm.map _).nodup_iff.mpr ky
   refine⟨fp,x,F2,l,_,r,b0,e0,b,ps,af,kf2,nf2,zs,_,xs.reverse,es.reverse,rfl,⟨dx2,fs2,s8A _ _ hfp8,ff2⟩,lad8.same s8A,ok,hrl,s8A _ _ hF28,dd2.tups (fun b' ys h=>s8A _ _ (tp68 _ _ h)),hlA,.inr rfl,hxA,by rw[By];exact hl,fun e he=>ek e (pm.mem_iff.mp he),kyr,hz,?_,fun e he=>z2 e (pm.mem_iff.mp he),fun R3 ys3 ms3 F3 kf3 nf3 HB cB hR30 hR3 nd3 srt3 mem3 dat3 len3 hF30 hF3 dd3 memF3 fol3=>?_⟩
   ·intro n hn
    obtain⟨_,e',he',ee⟩:=(memF2 n).mp hn
    rw[<-ee];exact z2 e' he'
   rw[xU pm ky] at dat3 dd3
   rw[wl ms3 dd2.b] at dat3
   refine⟨B9 _,fun Z hZ=>?_⟩
   have sZ:aa HB (upd HB Z (.lst [])):=aa.upd hZ
   have hZZ:(upd HB Z (.lst [])) Z=some (.lst []):=ah
   generalize (upd HB Z (.lst []))=HC at sZ hZZ
   refine⟨.list [],.list [],am.same sZ _ _ (lI hR3 dat3),mC hZZ,rfl,rfl,by decide,?_⟩
   have c0C:But fp H HC:=fun b' o h n=>sZ _ _ (cB _ _ (s8A _ _ (k08 _ _ h n)) n)
   have hF30':H F3=none:=by
    cases hh:H F3 with
    | none=>rfl
    | some o =>
     by_cases y:F3=fp
     ·rw[y,s8A _ _ hfp8] at hF30;cases hF30
     ·rw[s8A _ _ (k08 _ _ hh y)] at hF30;cases hF30
   refine q F3 kf3 nf3 HC c0C hF30' (sZ _ _ hF3) (dd3.tups fun b' ys h=>sZ _ _ h) (fun n=>?_) (fol3.same sZ)
   rw[memF3]
   exact and_congr_right fun _=>⟨fun⟨e,h1,h2⟩=>⟨e,pm.mem_iff.mp h1,h2⟩,fun⟨e,h1,h2⟩=>⟨e,pm.mem_iff.mpr h1,h2⟩⟩
inductive FS (Dc:Addr)(H:Hp)(p k x:Addr)(r:Nat)(b0 e0:Int)(st:List Lad.Step)(all:List En):Prop
 | mk (kf:Addr)(kk kl:List (aj×V))(nk nl:List Int)(f:Int->PyData)(hF:dj Dc H p x (r:Int) b0 e0 kf)(hkf:H kf=some (.dK kk))(hdk:DD H kk nk f)(hk:H k=some (.dK kl))(hdl:DD H kl nl f)(hm:∀ n,n∈nk↔n∈nl)(ha:∀ n∈nk,∃ e∈all,Lad.ur st r e.1=n):FS Dc H p k x r b0 e0 st all
theorem FS.keep {Dc:Addr}{H H':Hp}{p k x:Addr}{r:Nat}{b0 e0:Int}{st:List Lad.Step}{all all':List En}(h:FS Dc H p k x r b0 e0 st all)(hk:∀ b o,H b=some o->(∀ ys,o≠.lst ys)->(∃ C dx fs,o=.ins C dx fs/\b≠p)\/H' b=some o)(ha:∀ e∈all,e∈all'):FS Dc H' p k x r b0 e0 st all':=by
 obtain⟨kf,kk,kl,nk,nl,f,⟨dx,fs,hp,ff⟩,g2,g3,g4,g5,g6,g7⟩:=h
 have keep:∀ b o,H b=some o->(∀ ys,o≠.lst ys)->(∀ C dx fs,o≠.ins C dx fs)->H' b=some o:=fun b o h1 h2 h3=>(hk b o h1 h2).elim (fun⟨C,dx,fs,e,_⟩=>absurd e (h3 _ _ _)) id
 have tp:∀ b ys,H b=some (.tup ys)->H' b=some (.tup ys):=fun b ys h=>keep _ _ h (fun _ z=>nomatch z) fun _ _ _ z=>nomatch z
 have hp':H' p=some (.ins Dc dx fs):=(hk _ _ hp fun _ z=>nomatch z).elim (fun⟨_,_,_,_,n⟩=>absurd rfl n) id
 exact⟨kf,kk,kl,nk,nl,f,⟨dx,fs,hp',ff⟩,keep _ _ g2 (fun _ z=>nomatch z) (fun _ _ _ z=>nomatch z),g3.tups tp,keep _ _ g4 (fun _ z=>nomatch z) (fun _ _ _ z=>nomatch z),g5.tups tp,g6,fun n hn=>by obtain⟨e,he,ee⟩:=g7 n hn;exact⟨e,ha e he,ee⟩⟩
theorem FS.same {Dc:Addr}{H H':Hp}{p k x:Addr}{r:Nat}{b0 e0:Int}{st:List Lad.Step}{all:List En}(h:FS Dc H p k x r b0 e0 st all)(s:aa H H'):FS Dc H' p k x r b0 e0 st all:=h.keep (fun _ _ h _=>.inr (s _ _ h)) fun _ h=>h
theorem FS.pot {Dc:Addr}{H H':Hp}{p k x a:Addr}{r:Nat}{b0 e0:Int}{st:List Lad.Step}{all:List En}{ys:List V}(h:FS Dc H p k x r b0 e0 st all)(ha:H a=some (.lst ys))(c:But a H H'):FS Dc H' p k x r b0 e0 st all:=h.keep (fun b o h n=>.inr (c _ _ h fun z=>by rw[z,ha] at h;exact n _ (Option.some.inj h).symm)) fun _ h=>h
theorem FS.other {Dc:Addr}{H H':Hp}{p k x a C' dx':Addr}{fs':List (Str×V)}{r:Nat}{b0 e0:Int}{st:List Lad.Step}{all:List En}(h:FS Dc H p k x r b0 e0 st all)(ha:H a=some (.ins C' dx' fs'))(n:a≠p)(c:But a H H'):FS Dc H' p k x r b0 e0 st all:=h.keep (fun b o h _=>by
 by_cases z:b=a
 ·refine .inl ⟨C',dx',fs',?_,z▸n⟩
  rw[z,ha] at h
  exact(Option.some.inj h).symm
 ·exact .inr (c _ _ h z)) fun _ h=>h
theorem FS.more {Dc:Addr}{H:Hp}{p k x:Addr}{r:Nat}{b0 e0:Int}{st:List Lad.Step}{all all':List En}(h:FS Dc H p k x r b0 e0 st all)(ha:∀ e∈all,e∈all'):FS Dc H p k x r b0 e0 st all':=h.keep (fun _ _ h _=>.inr h) ha
theorem sameBut {H H1 H2:Hp}{p:Addr}(s:aa H H1)(n:H p=none)(b:But p H1 H2):aa H H2:=fun c o h=>b c o (s c o h) (aR h n)
theorem iA {f:Nat->Addr}{j:Nat}(h:j<2):bX [V.ref (f 0),V.ref (f 1)] (j:Int)=some (.ref (f j)):=by
 rcases (show j=0\/j=1 by omega) with rfl|rfl <;> rfl
theorem yR {f:Nat->Addr}{j:Nat}{g:Addr}(h:j<2):[V.ref (f 0),V.ref (f 1)].set j (.ref g)=[.ref ((fun i=>if i=j then g else f i) 0),.ref ((fun i=>if i=j then g else f i) 1)]:=by
 rcases (show j=0\/j=1 by omega) with rfl|rfl <;> rfl
theorem jG {H:Hp}:DD H [] [] (fun _=>cn):=⟨rfl,AU,(fun _ h=>nomatch h),fun _ _=>⟨rfl,rfl⟩,fun _=>sT⟩
inductive jo (K:W.Frag)(vs:List V)(H:Hp)(Q:VK)(E:XK):Prop
 | mk (a:Addr)(ns:List Int)(h0_:vs=[.ref a])(h1_:aS K H a (ns.map V.int))(h2_:ns.length<=63)(h3_:∀ H',Q (.bl true) H'):jo K vs H Q E
theorem cW:aI ["_law_script","_law_told","_law_ladder_here","_law_pot_here","_law_spans","_law_followers","_law_known","_law_entries","_law_k","_law_asked","_law_j"] ["_law_script"] (ak eZ):=aN
inductive dQ (Dc:Addr)(H9 H:Hp)(FL KN E x:Addr)(pf kn:Nat->Addr)(r:Nat->Nat)(b0 e0:Nat->Int)(st:List Lad.Step)(es all:List En)(xs:List V)(m:Nat):Prop
 | mk (s:aa H9 H)(hF:H FL=some (.lst [.ref (pf 0),.ref (pf 1)]))(hK:H KN=some (.lst [.ref (kn 0),.ref (kn 1)]))(hE:H E=some (.lst xs))(hx:Paired (aM H) xs es)(nKE:KN≠E)(fs:∀ j,j<2->FS Dc H (pf j) (kn j) x (r j) (b0 j) (e0 j) st all)(ek:∀ e∈es,bN e)(ky:Ent.Keyed es)(sub:∀ e∈es,e∈all)(ae:∀ e∈all,bN e)(la:all.length<=m)(le:es.length<=m):dQ Dc H9 H FL KN E x pf kn r b0 e0 st es all xs m
theorem dQ.same {Dc:Addr}{H9 H H':Hp}{FL KN E x:Addr}{pf kn:Nat->Addr}{r:Nat->Nat}{b0 e0:Nat->Int}{st:List Lad.Step}{es all:List En}{xs:List V}{m:Nat}(h:dQ Dc H9 H FL KN E x pf kn r b0 e0 st es all xs m)(s2:aa H H'):dQ Dc H9 H' FL KN E x pf kn r b0 e0 st es all xs m:=by
 obtain⟨h1,h2,h3,h4,h5,h6,h7,h8,h9,h10,h11,h12,h13⟩:=h
 exact⟨h1.trans s2,s2 _ _ h2,s2 _ _ h3,s2 _ _ h4,Paired.mapP h5 fun _ _ z=>z.same s2,h6,fun j hj=>(h7 j hj).same s2,h8,h9,h10,h11,h12,h13⟩
theorem dQ.but {Dc:Addr}{H9 H H':Hp}{FL KN E x p:Addr}{pf kn:Nat->Addr}{r:Nat->Nat}{b0 e0:Nat->Int}{st:List Lad.Step}{es all:List En}{xs:List V}{m:Nat}(h:dQ Dc H9 H FL KN E x pf kn r b0 e0 st es all xs m)(hp:bc H p)(c:But p H H')(n9:H9 p=none)(nF:FL≠p)(nK:KN≠p)(nE:E≠p):dQ Dc H9 H' FL KN E x pf kn r b0 e0 st es all xs m:=by
 obtain⟨h1,h2,h3,h4,h5,h6,h7,h8,h9,h10,h11,h12,h13⟩:=h
 obtain⟨y1,y2,hy⟩:=hp
 exact⟨sameBut h1 n9 c,c _ _ h2 nF,c _ _ h3 nK,c _ _ h4 nE,Paired.mapP h5 fun _ _ z=>z.tp fun b ys h=>c _ _ h fun z=>(by rw[z,hy] at h;cases h),h6,fun j hj=>(h7 j hj).pot hy c,h8,h9,h10,h11,h12,h13⟩
set_option maxHeartbeats 16000000 in
theorem ub (T:Txt K mg C){fa:Addr}{fd:Dw}(FL:bI K "law" "law" eZ fa fd):ce P w K mg base cD 10 fa fd ["_law_script"] (jo K):=by
 obtain⟨f0,fd0,F0,M,bL⟩:=T.m_init
 obtain⟨f1,fd1,F1,M1,bF⟩:=T.m_Follower_init
 refine FL.ok cW (fun vs H Q E h=>?_) (fun cdv A outer s H vs Q E hr h=>?_)
 ·obtain⟨a,ns,rfl,_⟩:=h
  rfl
 ·obtain⟨a,ns,rfl,ha,hlen,k⟩:=h
  refine⟨_,(al (aB (i:=1) cW.nd rfl (Or.inl rfl) (aq (zc T) hr (ap (aq (pot T) hr (ap (aq (cell T) hr (az (pv 0) ag)))))))
   (al (aB (i:=2) cW.nd rfl (Or.inr rfl) (oX M (wY T F0) (hr.mono (by decide)) rfl T.mgC bL .nil iq (aW (av (bp K) (pv 1) ag (fun _ _=>rfl)) (av (bp K) (pv 1) ag (fun _ _=>rfl)) (av (bp K) (pv 1) ag (fun _ _=>rfl)))))
   (al (aB (i:=3) cW.nd rfl (Or.inl rfl) (aq (pot T) hr (ap (ax bU (aq (cell T) hr (az (pv 0) ag)) ag))))
   (al (aB (i:=4) cW.nd rfl (Or.inl rfl) (bn (az (aq (nQ T) hr (az (pv 3) (pv 1))) (aq (nQ T) hr (az (pv 3) (pv 1))))))
   (al (iZ (i:=5) rfl rfl rfl (bQ cW) (bK K (pv 4)) (fun _ _ _ _=>bZ) (fun _ _ _ _=>(oX M1 (uw T F1) (hr.mono (by decide)) rfl T.mg_Follower bF .nil iq (aO (pv 3) (aW (av (bp K) (pv 0) ag (fun _ _=>rfl)) (av (bp K) (pv 0) ag (fun _ _=>rfl)) (av (bp K) (pv 0) ag (fun _ _=>rfl)))))))
   (al (aB (i:=6) cW.nd rfl (Or.inl rfl) (bn (az ix ix)))
   (al (aB (i:=7) cW.nd rfl (Or.inl rfl) (bn b9))
   (al (cH PassesOwn.never rfl (zB rfl T.b_range (az ag (aQ (mH rfl) T.b_max EQ (az ag (aQ (qV rfl) T.b_min EO (az (aQ (iw K) T.b_len EM (ap (pv 0))) ag)))))) (br (i:=8) cW.nd rfl (Or.inl rfl))
    (al (aB (i:=3) cW.nd rfl (Or.inl rfl) (aq (pot T) hr (ap (ax bU (aq (cell T) hr (az (pv 0) (pv 8))) (pv 8)))))
    (al (aB (i:=7) cW.nd rfl (Or.inl rfl) (aq (step T) hr (aW (pv 3) (pv 1) (pv 7))))
    (al (aB (i:=9) cW.nd rfl (Or.inl rfl) (av (bi K) (bn (aO (bn (ap ag)) (aW (bn (ap ag)) (bn (az ag ag)) (bn b9)))) (aq (take T) hr (az (pv 3) ag)) (fun _ _=>rfl)))
    (ar (cH PassesOwn.never rfl (bK K (pv 9)) (br (i:=10) cW.nd rfl (Or.inl rfl))
     (al (bA (fw (dY (aq (uG T) hr (aO (av (bi K) (pv 5) (pv 10) (fun _ _=>rfl)) (aO (av (bi K) (pv 4) (pv 10) (fun _ _=>rfl)) (aW (av (bi K) (pv 6) (pv 10) (fun _ _=>rfl)) (pv 7) (pv 1)))))))
      (ar (aF qh))
      bE)
     (ar (iB (aq (nz T) hr (aW (aq (qM T) hr (aW (pv 1) (av (bp K) (av (bi K) (pv 4) (pv 10) (fun _ _=>rfl)) ag (fun _ _=>rfl)) (pv 7))) (av (bp K) (av (bi K) (pv 4) (pv 10) (fun _ _=>rfl)) ag (fun _ _=>rfl)) (av (bp K) (av (bi K) (pv 4) (pv 10) (fun _ _=>rfl)) ag (fun _ _=>rfl)))) (jR (pv 6) (pv 10) jd))))))))))
   (ar (aF qh)))))))))),?_⟩
  refine⟨_,rfl,a,ns,0,rfl,ha,by decide,fun n0=>⟨n0,rfl,fun p H1 s1 hp0 hp1=>⟨p,rfl,hp1,fun t b ps af H2 ok c2 hT hp2 _ ht0=>?_⟩⟩⟩
  have s2:aa H H2:=sameBut s1 hp0 c2
  obtain⟨pa,ra,us,g1,g2,g3,g4⟩:=id hT
  refine⟨_,rfl,t,_,_,_,rfl,rfl,.of g1,rfl,_,rfl,t,_,_,_,rfl,rfl,.of g1,rfl,_,rfl,t,_,_,_,rfl,rfl,.of g1,rfl,?_⟩
  intro x dx hx hdx hne
  have sM:aa H2 (upd (upd H2 dx (.own x)) x (.ins C dx [])):=(aa.upd hdx).trans (aa.upd (by rw[upd_ne (Ne.symm hne)];exact hx))
  refine⟨x,dx,b,pa,_,ps,ra,_,us,af,rfl,ah,sM _ _ g2,.inl rfl,sM _ _ g3,.inl rfl,Paired.mono (fun _ _ z=>(z.same sM).g) g4,ok,fun H5 c5 hL5=>⟨rfl,?_⟩⟩
  have s25:aa H2 H5:=fun c o h=>c5 c o (sM c o h) (aR h hx)
  have s05:aa H H5:=s2.trans s25
  have hT5:db H5 t b ps af:=hT.same s25
  clear sM c5 hx hdx g1 g2 g3 g4
  refine⟨_,rfl,a,ns,1,rfl,s05.seq ha,by decide,fun n1=>⟨_,_,rfl,rfl,_,rfl,fun p2 H6 s6 hp60 hp6=>?_⟩⟩
  have s56:∀ H',But p2 H6 H'->aa H5 H':=fun H' c=>sameBut s6 hp60 c
  refine⟨_,rfl,_,rfl,p2,t,b,ps,af,rfl,hp6,fun H' c=>hT5.same (s56 H' c),ok,fun sp0 r0 b00 e00 H7 g1 g2 g3 g4 c7 hp7 hs00 hs0=>?_⟩
  refine⟨_,rfl,_,rfl,p2,t,b,ps,af,rfl,hp7,fun H' c=>hT5.same (s56 H' (c7.trans c)),ok,fun sp1 r1 b01 e01 H8 g5 g6 g7 g8 c8 hp8 hs10 hs1=>⟨cQ,fun SP hSP=>?_⟩⟩
  have hs0':H8 sp0=some (.tup [.int (r0:Int),.int b00,.int e00]):=c8 _ _ hs0 fun z=>by obtain⟨y1,y2,hy⟩:=hp7;rw[z,hy] at hs0;cases hs0
  have s58:=s56 H8 (c7.trans c8)
  have s8':aa H8 (upd H8 SP (.lst [.ref sp0,.ref sp1])):=aa.upd hSP
  have hSP9:(upd H8 SP (.lst [.ref sp0,.ref sp1])) SP=some (.lst [.ref sp0,.ref sp1]):=ah
  generalize (upd H8 SP (.lst [.ref sp0,.ref sp1]))=H9 at s8' hSP9
  have s59:=s58.trans s8'
  have s09:=s05.trans s59
  have hT9:=hT5.same s59
  have hL9:=hL5.same s59
  obtain⟨spf,rf,bf,ef,hsp9,hspl,hr9,hb9,he9,hbe9⟩:∃ (spf:Nat->Addr) (rf:Nat->Nat) (bf ef:Nat->Int),(∀ j,j<2->H9 (spf j)=some (.tup [.int (rf j:Int),.int (bf j),.int (ef j)]))/\[V.ref sp0,V.ref sp1]=[.ref (spf 0),.ref (spf 1)]/\(∀ j,j<2->rf j<=af.length)/\(∀ j,j<2->-eg<bf j)/\(∀ j,j<2->ef j<eg)/\∀ j,j<2->bf j<ef j:=by
   refine⟨fun j=>if j=0 then sp0 else sp1,fun j=>if j=0 then r0 else r1,fun j=>if j=0 then b00 else b01,fun j=>if j=0 then e00 else e01,fun j hj=>?_,rfl,fun j hj=>?_,fun j hj=>?_,fun j hj=>?_,fun j hj=>?_⟩ <;> rcases (show j=0\/j=1 by omega) with rfl|rfl
   ·exact s8' _ _ hs0'
   ·exact s8' _ _ hs1
   ·exact g1
   ·exact g5
   ·exact g2
   ·exact g6
   ·exact g4
   ·exact g8
   ·exact g3
   ·exact g7
  rw[hspl] at hSP9
  clear hspl hs0 hs0' hs1 c7 c8 s56 s6 hp7 hp8 s8'
  refine⟨_,rfl,SP,rfl,⟨_,.of hSP9⟩,fun D hD=>?_⟩
  refine iu (xs:=[.ref (spf 0),.ref (spf 1)]) (fun i ys HA=>HA D=some (.lst ys)/\aa H9 HA/\∃ pk:List (Addr×Addr),ys=pk.map (fun q=>V.ref q.1)/\pk.length=i/\(pk.map (·.1)).Nodup/\∀ (j:Nat) q,pk[j]?=some q->dj (bH mg "Follower") HA q.1 x (rf j:Int) (bf j) (ef j) q.2/\HA q.2=some (.dK [])/\H9 q.1=none/\q.1≠D/\q.2≠D) ⟨ah,aa.upd hD,[],rfl,rfl,AU,fun j q h=>by simp at h⟩ (fun i ys HA h=>⟨h.1,.of (h.2.1 _ _ hSP9)⟩) (fun ys HA h=>?_) fun i v ys HA hi hv h=>?go
  case go =>
   obtain⟨d1,d2,pk,rfl,pl,pn,pf⟩:=h
   have hi2:i<2:=hi
   have hv2:v=.ref (spf i):=by
    rcases (show i=0\/i=1 by omega) with e|e <;> (rw[e] at hv ⊢;exact(Option.some.inj hv).symm)
   subst hv2
   have hu:=d2 _ _ (hsp9 i hi2)
   refine cL ⟨_,rfl,_,rfl,spf i,_,_,_,rfl,rfl,.of hu,rfl,_,rfl,spf i,_,_,_,rfl,rfl,.of hu,rfl,_,rfl,spf i,_,_,_,rfl,rfl,.of hu,rfl,?_⟩
   intro pp dx hpp hdx hne
   have sM:aa HA (upd (upd HA dx (.own pp)) pp (.ins (bH mg "Follower") dx [])):=(aa.upd hdx).trans (aa.upd (by rw[upd_ne (Ne.symm hne)];exact hpp))
   refine⟨pp,dx,x,rf i,bf i,ef i,b,ps,af,rfl,ah,(hL9.same d2).same sM,hr9 i hi2,hb9 i hi2,hbe9 i hi2,he9 i hi2,fun kn HB cB hkn0 hkp hkn hfol=>⟨rfl,?_⟩⟩
   have sAB:aa HA HB:=fun c o h=>cB c o (sM c o h) (aR h hpp)
   have hkA:HA kn=none:=by
    cases hh:HA kn with
    | none=>rfl
    | some o=>rw[sM _ _ hh] at hkn0;cases hkn0
   have nDp:pp≠D:=fun z=>by rw[z,d1] at hpp;cases hpp
   have nDk:kn≠D:=fun z=>by rw[z,d1] at hkA;cases hkA
   have dB:=sAB _ _ d1
   have up:∀ b' o,HB b'=some o->b'≠D->(upd HB D (.lst (pk.map (fun q=>V.ref q.1)++[.ref pp]))) b'=some o:=fun b' o h n=>by rw[upd_ne n];exact h
   refine bw.mk hi (by show 2<=1000;decide) (by rw[Ar,pl];exact B6 _) dB ⟨ah,(d2.trans sAB).but_ne hD,pk++[(pp,kn)],by rw[Ax];rfl,by rw[AB,pl];rfl,?_,fun j q hq=>?_⟩
   ·rw[Ax,A4]
    refine⟨pn,by simp,fun y hy z hz e=>?_⟩
    have ez:z=pp:=by simpa using hz
    obtain⟨q',hq',eq'⟩:=List.mem_map.mp hy
    obtain⟨j',hj',ej'⟩:=AX hq'
    obtain⟨⟨dx',fs',hh,_⟩,_⟩:=pf j' q' (by rw[As hj',ej'])
    rw[eq',e,ez,hpp] at hh
    cases hh
   ·rcases Cb j pk.length with z|z
    ·rw[Bg z] at hq
     obtain⟨⟨dx',fs',hh,ff⟩,f2,f3,f4,f5⟩:=pf j q hq
     exact⟨⟨dx',fs',up _ _ (sAB _ _ hh) f4,ff⟩,up _ _ (sAB _ _ f2) f5,f3,f4,f5⟩
    ·have ej:j=pk.length:=by
      have:=(List.getElem?_eq_some_iff.mp hq).1
      rw[AB] at this
      have e1:([(pp,kn)]:List (Addr×Addr)).length=1:=rfl
      omega
     rw[ej,A5 (B6 _),Cp] at hq
     have eq':(pp,kn)=q:=Option.some.inj hq
     subst eq'
     obtain⟨dx',fs',hh,ff⟩:=hfol
     rw[ej,pl]
     exact⟨⟨dx',fs',up _ _ hh nDp,ff⟩,up _ _ hkn nDk,d2.free hpp,nDp,nDk⟩
  obtain⟨d1,d2,pk,rfl,pl,pn,pf⟩:=h
  have pl2:pk.length=2:=pl
  obtain⟨q0,q1,rfl⟩:∃ q0 q1,pk=[q0,q1]:=by
   match pk,pl2 with
   | [q0,q1],_=>exact⟨q0,q1,rfl⟩
  have F0':=pf 0 q0 rfl
  have F1':=pf 1 q1 rfl
  have hne01:q0.1≠q1.1:=fun z=>by
   simp only[Av,Bi,BI,Br] at pn
   exact pn.1 z
  intro k0 hk0 k1 hk1
  refine⟨cQ,fun KN hKN=>?_⟩
  refine⟨B9 _,fun E0 hE0=>?_⟩
  have t1:aa HA (upd HA k0 (.dK [])):=aa.upd hk0
  have u1:(upd HA k0 (.dK [])) k0=some (.dK []):=ah
  generalize (upd HA k0 (.dK []))=HB at *
  have t2:aa HB (upd HB k1 (.dK [])):=aa.upd hk1
  have u2:(upd HB k1 (.dK [])) k1=some (.dK []):=ah
  generalize (upd HB k1 (.dK []))=HC at *
  have t3:aa HC (upd HC KN (.lst [.ref k0,.ref k1])):=aa.upd hKN
  have u3:(upd HC KN (.lst [.ref k0,.ref k1])) KN=some (.lst [.ref k0,.ref k1]):=ah
  generalize (upd HC KN (.lst [.ref k0,.ref k1]))=HD at *
  have t4:aa HD (upd HD E0 (.lst [])):=aa.upd hE0
  have u4:(upd HD E0 (.lst [])) E0=some (.lst []):=ah
  have nKE:KN≠E0:=aR u3 hE0
  generalize (upd HD E0 (.lst []))=HE at *
  have tAE:aa HA HE:=t1.trans (t2.trans (t3.trans t4))
  have hLS:dQ (bH mg "Follower") H9 HE D KN E0 x (fun j=>if j=0 then q0.1 else q1.1) (fun j=>if j=0 then k0 else k1) rf bf ef (aA b ps af) [] [] [] 0:=by
   refine⟨d2.trans tAE,tAE _ _ d1,t4 _ _ u3,u4,.nil,nKE,fun j hj=>?_,(fun _ h=>nomatch h),by unfold Ent.Keyed;exact AU,(fun _ h=>nomatch h),(fun _ h=>nomatch h),B6 _,B6 _⟩
   rcases (show j=0\/j=1 by omega) with rfl|rfl
   ·exact⟨q0.2,[],[],[],[],_,F0'.1.same tAE,tAE _ _ F0'.2.1,jG,t4 _ _ (t3 _ _ (t2 _ _ u1)),jG,fun _=>Iff.rfl,fun _ h=>nomatch h⟩
   ·exact⟨q1.2,[],[],[],[],_,F1'.1.same tAE,tAE _ _ F1'.2.1,jG,t4 _ _ (t3 _ _ u2),jG,fun _=>Iff.rfl,fun _ h=>nomatch h⟩
  have hpne:∀ i j,i<2->j<2->i≠j->(fun j=>if j=0 then q0.1 else q1.1) i≠(fun j=>if j=0 then q0.1 else q1.1) j:=fun i j hi hj hij=>by
   rcases (show i=0\/i=1 by omega) with rfl|rfl <;> rcases (show j=0\/j=1 by omega) with rfl|rfl
   ·exact absurd rfl hij
   ·exact hne01
   ·exact fun z=>hne01 z.symm
   ·exact absurd rfl hij
  have hp9:∀ j,j<2->H9 ((fun j=>if j=0 then q0.1 else q1.1) j)=none:=fun j hj=>by
   rcases (show j=0\/j=1 by omega) with rfl|rfl
   ·exact F0'.2.2.1
   ·exact F1'.2.2.1
  have hKN9:H9 KN=none:=by
   cases hh:H9 KN with
   | none=>rfl
   | some o=>have:=(d2.trans (t1.trans t2)) _ _ hh;rw[hKN] at this;cases this
  generalize (fun j=>if j=0 then q0.1 else q1.1)=pf' at hLS hpne hp9
  generalize (fun j=>if j=0 then k0 else k1)=kn0 at hLS
  have s0E:=s09.trans (d2.trans tAE)
  clear tAE t1 t2 t3 t4 u1 u2 u3 u4 hk0 hk1 hKN hE0 F0' F1' hne01 pf pn pl pl2 d1 d2 hD nKE
  refine⟨_,rfl,a,_,rfl,.inl (s0E.seq ha),_,_,rfl,_,_,rfl,_,_,rfl,⟨by decide,by decide,by repeat' split <;> omega,by repeat' split <;> omega⟩,?_⟩
  refine lA (fun i σ HX=>∃ v3 E v8 v9 v10 kn es all xs,σ=[some (.ref a),some (.ref t),some (.ref x),v3,some (.ref SP),some (.ref D),some (.ref KN),some (.ref E),v8,v9,v10]/\dQ (bH mg "Follower") H9 HX D KN E x pf' kn rf bf ef (aA b ps af) es all xs i) ⟨_,E0,_,_,_,kn0,[],[],[],rfl,hLS⟩ ?_ ?_
  ·rintro i σ HX hi ⟨v3,E,v8,v9,v10,kn,es,all,xs,rfl,ls⟩
   have hi40:i<40:=by
    revert hi
    repeat' split
    all_goals omega
   obtain⟨l1,l2,l3,l4,l5,l6,l7,l8,l9,l10,l11,l12,l13⟩:=id ls
   refine⟨_,rfl,_,rfl,a,ns,_,rfl,(s09.trans l1).seq ha,by omega,fun nk=>⟨_,rfl,_,_,rfl,rfl,_,rfl,fun pp H10 sP hpo hpp=>?_⟩⟩
   have n9p:H9 pp=none:=by
    cases hh:H9 pp with
    | none=>rfl
    | some o=>rw[l1 _ _ hh] at hpo;cases hpo
   have nEp:E≠pp:=fun z=>by rw[z,hpo] at l4;cases l4
   have nDp:D≠pp:=fun z=>by rw[z,hpo] at l2;cases l2
   have nKp:KN≠pp:=fun z=>by rw[z,hpo] at l3;cases l3
   refine⟨_,rfl,_,rfl,_,rfl,pp,t,E,b,ps,af,xs,es,rfl,hpp,(fun H' c=>hT9.same (l1.trans (sameBut sP hpo c))),ok,sP _ _ l4,nEp,Paired.mapP l5 fun _ _ z=>z.same sP,by omega,l8,l9,fun E' xs' es' en H11 c11 hp11 hE'0 hE' hx' le' ek' ky' sub'=>?_⟩
   have nKE':KN≠E':=fun z=>by have:=sP _ _ l3;rw[z,hE'0] at this;cases this
   have nEp':E'≠pp:=hpp.ne hE'0
   have ls11:=(ls.same sP).but hpp c11 n9p nDp nKp nEp
   obtain⟨all',a1,a2,a3,a4⟩:∃ all':List En,(∀ e∈all,e∈all')/\(∀ e∈es',e∈all')/\(∀ e∈all',bN e)/\all'.length<=i+1:=by
    by_cases hen:en∈es'
    ·refine⟨all++[en],fun e he=>AJ _ he,fun e he=>?_,fun e he=>?_,by rw[AB];show all.length+1<=i+1;omega⟩
     ·rcases sub' e he with z|z
      ·exact AJ _ (l10 e z)
      ·exact Au _ (List.mem_singleton.mpr z)
     ·rcases List.mem_append.mp he with z|z
      ·exact l11 e z
      ·rw[List.mem_singleton.mp z];exact ek' en hen
    ·refine⟨all,fun e he=>he,fun e he=>?_,l11,by omega⟩
     rcases sub' e he with z|z
     ·exact l10 e z
     ·exact absurd (z▸he) hen
   have ls12:dQ (bH mg "Follower") H9 H11 D KN E' x pf' kn rf bf ef (aA b ps af) es' all' xs' (i+1):=by
    obtain⟨m1,m2,m3,m4,m5,m6,m7,m8,m9,m10,m11,m12,m13⟩:=ls11
    exact⟨m1,m2,m3,hE',hx',nKE',fun j hj=>(m7 j hj).more a1,ek',ky',a2,a3,a4,by omega⟩
   clear ls11 ls l2 l3 l4 l5 l6 l7 l8 l9 l10 l11 l12 l13
   refine⟨kP (by show 1<=1000;decide),fun A0 hA0=>?_⟩
   have t1:aa H11 (upd H11 A0 (.lst [.int 0])):=aa.upd hA0
   have u1:(upd H11 A0 (.lst [.int 0])) A0=some (.lst [.int 0]):=ah
   generalize (upd H11 A0 (.lst [.int 0]))=HB at t1 u1
   refine⟨kP (by show 1<=1000;decide),fun A1 hA1=>?_⟩
   have t2:aa HB (upd HB A1 (.lst [.int 1])):=aa.upd hA1
   have u2:(upd HB A1 (.lst [.int 1])) A1=some (.lst [.int 1]):=ah
   generalize (upd HB A1 (.lst [.int 1]))=HC at t2 u2
   refine⟨cQ,fun A2 hA2=>?_⟩
   have t3:aa HC (upd HC A2 (.lst [.int 1,.int 0])):=aa.upd hA2
   have u3:(upd HC A2 (.lst [.int 1,.int 0])) A2=some (.lst [.int 1,.int 0]):=ah
   generalize (upd HC A2 (.lst [.int 1,.int 0]))=HD at t3 u3
   refine⟨B9 _,fun A3 hA3=>?_⟩
   have t4:aa HD (upd HD A3 (.lst [])):=aa.upd hA3
   have u4:(upd HD A3 (.lst [])) A3=some (.lst []):=ah
   generalize (upd HD A3 (.lst []))=HE' at t4 u4
   refine⟨kP (by show 4<=1000;decide),fun AA hAA=>?_⟩
   have t5:aa HE' (upd HE' AA (.lst [.ref A0,.ref A1,.ref A2,.ref A3])):=aa.upd hAA
   have u5:(upd HE' AA (.lst [.ref A0,.ref A1,.ref A2,.ref A3])) AA=some (.lst [.ref A0,.ref A1,.ref A2,.ref A3]):=ah
   generalize (upd HE' AA (.lst [.ref A0,.ref A1,.ref A2,.ref A3]))=HF at t5 u5
   have t1F:aa H11 HF:=t1.trans (t2.trans (t3.trans (t4.trans t5)))
   have hpF:=hp11.same t1F
   have npp:∀ {b':Addr}{o:HO},H11 b'=none->HF b'=some o->b'≠pp:=fun {b' o} h1 h2 z=>by
    obtain⟨y1,y2,hy⟩:=hp11
    rw[z,hy] at h1
    cases h1
   have w0:=(t2.trans (t3.trans (t4.trans t5))) _ _ u1
   have w1:=(t3.trans (t4.trans t5)) _ _ u2
   have w2:=(t4.trans t5) _ _ u3
   have w3:=t5 _ _ u4
   refine⟨_,rfl,pp,_,rfl,hpF,by decide +kernel,by decide +kernel,fun d HG aG bG cG hpG=>?_⟩
   have lsG:=(ls12.same t1F).but hpF cG n9p nDp nKp nEp'
   have hAAG:=cG _ _ u5 (npp (t1.free (t2.free (t3.free (t4.free hAA)))) u5)
   obtain⟨lq,js,hget,hlq,hjs⟩:∃ (lq:Addr) (js:List Nat),bX [V.ref A0,V.ref A1,V.ref A2,V.ref A3] d=some (.ref lq)/\HG lq=some (.lst (js.map fun j:Nat=>V.int (j:Int)))/\∀ j∈js,j<2:=by
    rcases (show d=0\/d=1\/d=2\/d=3 by omega) with rfl|rfl|rfl|rfl
    ·exact⟨A0,[0],rfl,cG _ _ w0 (npp hA0 w0),by decide⟩
    ·exact⟨A1,[1],rfl,cG _ _ w1 (npp (t1.free hA1) w1),by decide⟩
    ·exact⟨A2,[1,0],rfl,cG _ _ w2 (npp (t1.free (t2.free hA2)) w2),by decide⟩
    ·exact⟨A3,[],rfl,cG _ _ w3 (npp (t1.free (t2.free (t3.free hA3))) w3),fun _ h=>nomatch h⟩
   refine⟨AA,_,_,.ref lq,rfl,rfl,.of hAAG,hget,?_⟩
   have nlq:lq≠KN:=fun z=>by
    obtain⟨_,_,m3,_⟩:=lsG
    rw[z,m3] at hlq
    have:=Option.some.inj hlq
    injection this with e
    cases js with
    | nil=>cases e
    | cons j0 jr=>cases e
   clear t1 t2 t3 t4 t5 u1 u2 u3 u4 u5 w0 w1 w2 w3 hget hAAG
   refine⟨_,rfl,lq,rfl,⟨_,.of hlq⟩,eo (K:=K) (a:=lq) (xs:=js.map fun j:Nat=>V.int (j:Int)) (fun i' σ HY=>∃ v10 kn,σ=[some (.ref a),some (.ref t),some (.ref x),some (.ref pp),some (.ref SP),some (.ref D),some (.ref KN),some (.ref E'),some (.int (2+(i:Int))),some (.ref lq),v10]/\dQ (bH mg "Follower") H9 HY D KN E' x pf' kn rf bf ef (aA b ps af) es' all' xs' (i+1)/\HY lq=some (.lst (js.map fun j:Nat=>V.int (j:Int)))) ⟨_,kn,rfl,lsG,hlq⟩ (fun i' σ HY _ ⟨_,_,_,_,h⟩=>.of h) ?turn ?fin⟩
   case fin =>
    rintro σ HY ⟨v10',kn',rfl,lsY,_⟩
    exact⟨_,E',_,_,_,kn',es',all',xs',rfl,lsY⟩
   case turn =>
    rintro i' jv σ HY hjv ⟨v10',kn',rfl,lsY,hlqY⟩
    obtain⟨j,hjm,rfl⟩:∃ j:Nat,j∈js/\jv=.int (j:Int):=by
     obtain⟨j,h1,h2⟩:=List.mem_map.mp (AK hjv)
     exact⟨j,h1,h2.symm⟩
    have hj:=hjs j hjm
    obtain⟨m1,m2,m3,m4,m5,m6,m7,m8,m9,m10,m11,m12,m13⟩:=id lsY
    obtain⟨kf,kk,kl,nk,nl,f,hF,hkf,hdk,hk,hdl,hm,hal⟩:=m7 j hj
    obtain⟨dxj,fsj,hpj,_⟩:=id hF
    have hzl:(all'.map fun e=>Lad.ur (aA b ps af) (rf j) e.1).length<64:=by rw[Ar];omega
    have hW3:ba=1000000000000000000000000000000:=rfl
    have n40:(10:Nat) ^ 40=10000000000000000000000000000000000000000:=by decide +kernel
    refine⟨_,rfl,_,rfl,D,_,_,_,rfl,rfl,.of m2,iA hj,_,rfl,_,rfl,SP,_,_,_,rfl,rfl,.of (m1 _ _ hSP9),iA hj,_,rfl,_,rfl,KN,_,_,_,rfl,rfl,.of m3,iA hj,_,rfl,_,rfl,pf' j,spf j,kn' j,E',t,x,kf,rf j,bf j,ef j,b,ps,af,kk,kl,nk,nl,all'.map (fun e=>Lad.ur (aA b ps af) (rf j) e.1),f,xs',es',rfl,hF,m1 _ _ (hsp9 j hj),hkf,hdk,hk,hdl,hm,hL9.same m1,hT9.same m1,ok,hr9 j hj,m4,m5,by omega,m8,m9,hzl,(fun n hn=>?_),(fun e he=>List.mem_map.mpr ⟨e,m10 e he,rfl⟩),(fun n hn=>?_),fun F kf' nf HZ cZ hF0 hF' dd' mem' fol'=>⟨_,rfl,cm ?_⟩⟩
    ·obtain⟨e,he,ee⟩:=hal n hn
     exact List.mem_map.mpr ⟨e,he,ee⟩
    ·obtain⟨e,he,rfl⟩:=List.mem_map.mp hn
     have ew:=tj (m11 e he)
     have:=pK ok (rf j) ew.1 ew.2
     rw[n40]
     omega
    have s9Z:aa H9 HZ:=sameBut m1 (hp9 j hj) cZ
    have nl':∀ {b':Addr}{o:HO},HY b'=some o->(∀ C' dx' fs',o≠.ins C' dx' fs')->b'≠pf' j:=fun {b' o} h n z=>by
     rw[z,hpj] at h
     exact n _ _ _ (Option.some.inj h).symm
    have hEZ:=cZ _ _ m4 (nl' m4 fun _ _ _ z=>nomatch z)
    have hDZ:=cZ _ _ m2 (nl' m2 fun _ _ _ z=>nomatch z)
    have hKZ:=cZ _ _ m3 (nl' m3 fun _ _ _ z=>nomatch z)
    have hlqZ:=cZ _ _ hlqY (nl' hlqY fun _ _ _ z=>nomatch z)
    have hxZ:Paired (aM HZ) xs' es':=Paired.mapP m5 fun _ _ z=>z.tp fun b' ys h=>cZ _ _ h (nl' h fun _ _ _ z=>nomatch z)
    refine⟨_,rfl,_,rfl,_,rfl,SP,_,_,_,rfl,rfl,.of (s9Z _ _ hSP9),iA hj,spf j,_,_,_,rfl,rfl,.of (s9Z _ _ (hsp9 j hj)),rfl,_,rfl,t,rf j,E',xs',es',b,ps,af,rfl,hT9.same s9Z,ok,hr9 j hj,hEZ,hxZ,by omega,m8,m9,fun B kb nb HW sW hB0 hB dvB memB=>?_⟩
    have nb64:nb.length<64:=by
     have:=cJ dvB.nd (zs:=all'.map fun e=>Lad.ur (aA b ps af) (rf j) e.1) fun n hn=>by
      obtain⟨e',he',ee⟩:=(memB n).mp hn
      exact List.mem_map.mpr ⟨e',m10 e' he',ee⟩
     omega
    have s9W:=s9Z.trans sW
    refine⟨_,rfl,_,rfl,SP,_,_,_,rfl,rfl,.of (s9W _ _ hSP9),iA hj,spf j,_,_,_,rfl,rfl,.of (s9W _ _ (hsp9 j hj)),rfl,_,rfl,_,rfl,SP,_,_,_,rfl,rfl,.of (s9W _ _ hSP9),iA hj,spf j,_,_,_,rfl,rfl,.of (s9W _ _ (hsp9 j hj)),rfl,B,bf j,ef j,kb,nb,_,rfl,hB,dvB,nb64,fun G kw HV sV hG0 hG dvG=>?_⟩
    have sZV:=sW.trans sV
    have hKV:=sZV _ _ hKZ
    have memG:∀ n,n∈nb.filter (aV (bf j) (ef j))↔aV (bf j) (ef j) n=true/\∃ e∈es',Lad.ur (aA b ps af) (rf j) e.1=n:=fun n=>by
     rw[Bs,memB];exact And.comm
    have ddG:DD HV kw (nb.filter (aV (bf j) (ef j))) (cz (aA b ps af) (rf j) (bf j) (ef j) es'):=dvG.dd (fun n hn=>by unfold cz;rw[if_pos ((memG n).mp hn).1]) fun n hn=>by
     unfold cz
     by_cases z:aV (bf j) (ef j) n=true
     ·rw[if_pos z,jQ (fun y=>hn ((memG n).mpr ⟨z,y⟩)),lr]
     ·rw[if_neg z]
    have eix:cS [V.ref (kn' 0),V.ref (kn' 1)].length (j:Int)=some j:=by
     rcases (show j=0\/j=1 by omega) with rfl|rfl <;> rfl
    refine⟨_,rfl,_,rfl,KN,_,_,_,rfl,rfl,hKV,eix,?_⟩
    rw[yR hj]
    have cU:But KN HV (upd HV KN (.lst [.ref ((fun i=>if i=j then G else kn' i) 0),.ref ((fun i=>if i=j then G else kn' i) 1)])):=L2.But.upd
    have hKU:(upd HV KN (.lst [.ref ((fun i=>if i=j then G else kn' i) 0),.ref ((fun i=>if i=j then G else kn' i) 1)])) KN=some (.lst [.ref ((fun i=>if i=j then G else kn' i) 0),.ref ((fun i=>if i=j then G else kn' i) 1)]):=ah
    generalize (upd HV KN (.lst [.ref ((fun i=>if i=j then G else kn' i) 0),.ref ((fun i=>if i=j then G else kn' i) 1)]))=HU at cU hKU
    have nlU:∀ b' o,HV b'=some o->(∀ ys,o≠.lst ys)->HU b'=some o:=fun b' o h n=>cU _ _ h fun z=>by
     rw[z,hKV] at h
     exact n _ (Option.some.inj h).symm
    have tpU:∀ b' ys,HV b'=some (.tup ys)->HU b'=some (.tup ys):=fun b' ys h=>nlU _ _ h fun _ z=>nomatch z
    have nDK:D≠KN:=fun z=>by
     rw[z,hKZ] at hDZ
     have e1:=Option.some.inj hDZ
     injection e1 with e2
     injection e2 with e3 e4
     injection e3 with e5
     have hk0:=(m7 0 (by decide))
     obtain⟨kf0,kk0,kl0,nk0,nl0,f0',⟨dx0,fs0,hp0',_⟩,_,_,hk0',_⟩:=hk0
     rw[e5,hp0'] at hk0'
     cases hk0'
    refine⟨_,fun i=>if i=j then G else kn' i,rfl,⟨sameBut (s9Z.trans sZV) hKN9 cU,cU _ _ (sZV _ _ hDZ) nDK,hKU,cU _ _ (sZV _ _ hEZ) (Ne.symm m6),Paired.mapP hxZ fun _ _ z=>(z.same sZV).tp tpU,m6,fun j' hj'=>?_,m8,m9,m10,m11,m12,m13⟩,cU _ _ (sZV _ _ hlqZ) nlq⟩
    by_cases z:j'=j
    ·subst z
     show FS _ _ _ (if j'=j' then G else kn' j') _ _ _ _ _ _
     rw[if_pos rfl]
     have fol2:dj (bH mg "Follower") HZ (pf' j') x (rf j':Int) (bf j') (ef j') F:=fol'
     obtain⟨dxF,fsF,hpF',ffF⟩:=fol2
     refine⟨F,kf',kw,nf,_,_,⟨dxF,fsF,nlU _ _ (sZV _ _ hpF') (fun _ z=>nomatch z),ffF⟩,nlU _ _ (sZV _ _ hF') (fun _ z=>nomatch z),dd'.tups (fun b' ys h=>tpU _ _ (sZV _ _ h)),nlU _ _ hG (fun _ z=>nomatch z),ddG.tups tpU,fun n=>by rw[mem',memG],fun n hn=>?_⟩
     obtain⟨_,e,he,ee⟩:=(mem' n).mp hn
     exact⟨e,m10 e he,ee⟩
    ·show FS _ _ _ (if j'=j then G else kn' j') _ _ _ _ _ _
     rw[if_neg z]
     exact(((m7 j' hj').other hpj (hpne j j' hj hj' (Ne.symm z)) cZ).same sZV).pot hKV cU
  ·rintro σ HX ⟨v3,E,v8,v9,v10,kn,es,all,xs,rfl,ls⟩
   exact k _
theorem law_all (T:Txt K mg C){fa:Addr}(hmg:mg "law"=some (.ref fa)) :
  ∃ fd:Dw,(∀ (s:CW) (u:Value),Dy s fd ⟨[u],[]⟩ [("_law_script",u)])/\∀ base:Heap,K.In base->base.Ns CU mg->ce P w K mg base cD 10 fa fd ["_law_script"] (jo K):=by
 obtain⟨f,fd,F⟩:=T.f_law
 have e:=hmg.symm.trans F.m
 cases e
 obtain⟨oc,od,kV,doc,pm,an,cdv,ct,osl,rfl,lk,hcd⟩:=F.fn.ex
 exact⟨_,fun s u=>.of_eq rfl,fun base _ _=>ub T F.fn⟩
theorem walk {l:W.OpenLaw}{q:CP}{loose:List Str}{XP:(Str->Option Value)->Heap->Prop}{YP:World->Heap->Prop}{d:DefRec}{K:Params->W.Frag}(hn:l.most=some 63)(hdf:d.params.defaults=[])
  (hY:∀ (w:World) (h:Heap),YP w h->(K w.params).In h)
  (F:∀ (w:World) (mg:Str->Option Value) (fa:Addr) (h:Heap),(K w.params).In h->h.Ns CU mg->mg d.name=some (.ref fa) ->
   ∃ fd:Dw,(∀ (s:CW) (u:Value),Dy s fd ⟨[u],[]⟩ [("_law_script",u)])/\∀ base:Heap,(K w.params).In base->base.Ns CU mg->ce l.prog w (K w.params) mg base cD 10 fa fd ["_law_script"] (jo (K w.params))) :
  W.WalkO q loose XP YP l.row.toRowW d [] (fun f vs=>PySem.call f vs) :=
 L2.walk_of (n:=63) (k:=10) (x:="_law_script") (CX:=fun _=>cD) (sp:=fun w=>jo (K w.params)) hn (by decide) hdf ⟨rfl,by decide,by decide,rfl⟩ hY F (fun _ _ a ns hl _ hS=>⟨a,ns,rfl,hS,hl,fun _=>rfl⟩) fun _ _ _ _ _ z=>z
end
end Pr
namespace L2
open PySem PyProof.Rows
variable {K:W.Frag}{x qual:Str}{st:Stmt}{g:Addr}{fd:Dw}{p q r s t u v:Str}
end L2
namespace L2
open PySem PyProof.Rows
variable {K:W.Frag}{h:Heap}{mg:Str->Option Value}{x q:Str}{st:Stmt}{ps:List Str}{C:Addr}
end L2
namespace Pr
open PySem L2 PyProof.Rows
set_option maxHeartbeats 0 in
theorem txt_mk {K:W.Frag}{h:Heap}{mg:Str->Option Value}{C:Addr}(X:K.In h)(G:h.Ns CU mg){f1:Addr}{od1 an1:Option Addr}{sl1:Array (Option Value)}{oc1 kV1 dc1 pm1 cd1 ct1:Value}{f2:Addr}{od2 an2:Option Addr}{sl2:Array (Option Value)}{oc2 kV2 dc2 pm2 cd2 ct2:Value}{f3:Addr}{od3 an3:Option Addr}{sl3:Array (Option Value)}{oc3 kV3 dc3 pm3 cd3 ct3:Value}{f4:Addr}{od4 an4:Option Addr}{sl4:Array (Option Value)}{oc4 kV4 dc4 pm4 cd4 ct4:Value}{f5:Addr}{od5 an5:Option Addr}{sl5:Array (Option Value)}{oc5 kV5 dc5 pm5 cd5 ct5:Value}{f6:Addr}{od6 an6:Option Addr}{sl6:Array (Option Value)}{oc6 kV6 dc6 pm6 cd6 ct6:Value}{f7:Addr}{od7 an7:Option Addr}{sl7:Array (Option Value)}{oc7 kV7 dc7 pm7 cd7 ct7:Value}{f8:Addr}{od8 an8:Option Addr}{sl8:Array (Option Value)}{oc8 kV8 dc8 pm8 cd8 ct8:Value}{f9:Addr}{od9 an9:Option Addr}{sl9:Array (Option Value)}{oc9 kV9 dc9 pm9 cd9 ct9:Value}{f10:Addr}{od10 an10:Option Addr}{sl10:Array (Option Value)}{oc10 kV10 dc10 pm10 cd10 ct10:Value}{f11:Addr}{od11 an11:Option Addr}{sl11:Array (Option Value)}{oc11 kV11 dc11 pm11 cd11 ct11:Value}{f12:Addr}{od12 an12:Option Addr}{sl12:Array (Option Value)}{oc12 kV12 dc12 pm12 cd12 ct12:Value}{f13:Addr}{od13 an13:Option Addr}{sl13:Array (Option Value)}{oc13 kV13 dc13 pm13 cd13 ct13:Value}{f14:Addr}{od14 an14:Option Addr}{sl14:Array (Option Value)}{oc14 kV14 dc14 pm14 cd14 ct14:Value}{f15:Addr}{od15 an15:Option Addr}{sl15:Array (Option Value)}{oc15 kV15 dc15 pm15 cd15 ct15:Value}{f16:Addr}{od16 an16:Option Addr}{sl16:Array (Option Value)}{oc16 kV16 dc16 pm16 cd16 ct16:Value}{f17:Addr}{od17 an17:Option Addr}{sl17:Array (Option Value)}{oc17 kV17 dc17 pm17 cd17 ct17:Value}{f18:Addr}{od18 an18:Option Addr}{sl18:Array (Option Value)}{oc18 kV18 dc18 pm18 cd18 ct18:Value}{f19:Addr}{od19 an19:Option Addr}{sl19:Array (Option Value)}{oc19 kV19 dc19 pm19 cd19 ct19:Value}{f20:Addr}{od20 an20:Option Addr}{sl20:Array (Option Value)}{oc20 kV20 dc20 pm20 cd20 ct20:Value}{f21:Addr}{od21 an21:Option Addr}{sl21:Array (Option Value)}{oc21 kV21 dc21 pm21 cd21 ct21:Value}{f22:Addr}{od22 an22:Option Addr}{sl22:Array (Option Value)}{oc22 kV22 dc22 pm22 cd22 ct22:Value}{f23:Addr}{od23 an23:Option Addr}{sl23:Array (Option Value)}{oc23 kV23 dc23 pm23 cd23 ct23:Value}{f24:Addr}{od24 an24:Option Addr}{sl24:Array (Option Value)}{oc24 kV24 dc24 pm24 cd24 ct24:Value}{f25:Addr}{od25 an25:Option Addr}{sl25:Array (Option Value)}{oc25 kV25 dc25 pm25 cd25 ct25:Value}{f26:Addr}{od26 an26:Option Addr}{sl26:Array (Option Value)}{oc26 kV26 dc26 pm26 cd26 ct26:Value}{f27:Addr}{od27 an27:Option Addr}{sl27:Array (Option Value)}{oc27 kV27 dc27 pm27 cd27 ct27:Value}{f28:Addr}{od28 an28:Option Addr}{sl28:Array (Option Value)}{oc28 kV28 dc28 pm28 cd28 ct28:Value}{f29:Addr}{od29 an29:Option Addr}{sl29:Array (Option Value)}{oc29 kV29 dc29 pm29 cd29 ct29:Value}{f30:Addr}{od30 an30:Option Addr}{sl30:Array (Option Value)}{oc30 kV30 dc30 pm30 cd30 ct30:Value}{f31:Addr}{od31 an31:Option Addr}{sl31:Array (Option Value)}{oc31 kV31 dc31 pm31 cd31 ct31:Value}{f32:Addr}{od32 an32:Option Addr}{sl32:Array (Option Value)}{oc32 kV32 dc32 pm32 cd32 ct32:Value}{f33:Addr}{od33 an33:Option Addr}{sl33:Array (Option Value)}{oc33 kV33 dc33 pm33 cd33 ct33:Value}{f34:Addr}{od34 an34:Option Addr}{sl34:Array (Option Value)}{oc34 kV34 dc34 pm34 cd34 ct34:Value}{f35:Addr}{od35 an35:Option Addr}{sl35:Array (Option Value)}{oc35 kV35 dc35 pm35 cd35 ct35:Value}{f36:Addr}{od36 an36:Option Addr}{sl36:Array (Option Value)}{oc36 kV36 dc36 pm36 cd36 ct36:Value}{f37:Addr}{od37 an37:Option Addr}{sl37:Array (Option Value)}{oc37 kV37 dc37 pm37 cd37 ct37:Value}{f38:Addr}{od38 an38:Option Addr}{sl38:Array (Option Value)}{oc38 kV38 dc38 pm38 cd38 ct38:Value}{f39:Addr}{od39 an39:Option Addr}{sl39:Array (Option Value)}{oc39 kV39 dc39 pm39 cd39 ct39:Value}{f40:Addr}{od40 an40:Option Addr}{sl40:Array (Option Value)}{oc40 kV40 dc40 pm40 cd40 ct40:Value}{f41:Addr}{od41 an41:Option Addr}{sl41:Array (Option Value)}{oc41 kV41 dc41 pm41 cd41 ct41:Value}{f42:Addr}{od42 an42:Option Addr}{sl42:Array (Option Value)}{oc42 kV42 dc42 pm42 cd42 ct42:Value}{f43:Addr}{od43 an43:Option Addr}{sl43:Array (Option Value)}{oc43 kV43 dc43 pm43 cd43 ct43:Value}{f44:Addr}{od44 an44:Option Addr}{sl44:Array (Option Value)}{oc44 kV44 dc44 pm44 cd44 ct44:Value}{f45:Addr}{od45 an45:Option Addr}{sl45:Array (Option Value)}{oc45 kV45 dc45 pm45 cd45 ct45:Value}{t_WIDE_END:Tok}{t_NUMBER_END:Tok}{t_MOST_PARTS:Tok}{t_MOST_LENGTH:Tok}{t_MOST_ROWS:Tok}{t_MOST_SIZES:Tok}{t_MOST_SIZE:Tok}{f46:Addr}{od46 an46:Option Addr}{sl46:Array (Option Value)}{oc46 kV46 dc46 pm46 cd46 ct46:Value}{f47:Addr}{od47 an47:Option Addr}{sl47:Array (Option Value)}{oc47 kV47 dc47 pm47 cd47 ct47:Value}{f48:Addr}{od48 an48:Option Addr}{sl48:Array (Option Value)}{oc48 kV48 dc48 pm48 cd48 ct48:Value}{f49:Addr}{od49 an49:Option Addr}{sl49:Array (Option Value)}{oc49 kV49 dc49 pm49 cd49 ct49:Value}{f50:Addr}{od50 an50:Option Addr}{sl50:Array (Option Value)}{oc50 kV50 dc50 pm50 cd50 ct50:Value}{f51:Addr}{od51 an51:Option Addr}{sl51:Array (Option Value)}{oc51 kV51 dc51 pm51 cd51 ct51:Value}{q_Follower:Addr}{f52:Addr}{od52 an52:Option Addr}{sl52:Array (Option Value)}{oc52 kV52 dc52 pm52 cd52 ct52:Value}{f53:Addr}{od53 an53:Option Addr}{sl53:Array (Option Value)}{oc53 kV53 dc53 pm53 cd53 ct53:Value}
   (aC:W.nsIn K CU "Ladder"=some (some (.ref C)))
   (a1:W.nsIn K CU "empty"=some (some (.ref f1)))
   (l1:K.lookup f1=some ⟨oc1,od1,.func (W.fnOf "empty" "empty" (aH gJ) (aE gJ) (ak gJ) .none kV1 dc1 pm1 an1 cd1 ct1),sl1⟩)
   (c1:W.codeIn K cd1 "empty"=true)
   (k1:W.keepIn K (.ref f1)=true)
   (a2:W.nsIn K CU "in_order"=some (some (.ref f2)))
   (l2:K.lookup f2=some ⟨oc2,od2,.func (W.fnOf "in_order" "in_order" (aH gY) (aE gY) (ak gY) .none kV2 dc2 pm2 an2 cd2 ct2),sl2⟩)
   (c2:W.codeIn K cd2 "in_order"=true)
   (k2:W.keepIn K (.ref f2)=true)
   (a3:W.nsIn K CU "place_of"=some (some (.ref f3)))
   (l3:K.lookup f3=some ⟨oc3,od3,.func (W.fnOf "place_of" "place_of" (aH gW) (aE gW) (ak gW) .none kV3 dc3 pm3 an3 cd3 ct3),sl3⟩)
   (c3:W.codeIn K cd3 "place_of"=true)
   (k3:W.keepIn K (.ref f3)=true)
   (a4:W.nsIn K CU "bar_of"=some (some (.ref f4)))
   (l4:K.lookup f4=some ⟨oc4,od4,.func (W.fnOf "bar_of" "bar_of" (aH gT) (aE gT) (ak gT) .none kV4 dc4 pm4 an4 cd4 ct4),sl4⟩)
   (c4:W.codeIn K cd4 "bar_of"=true)
   (k4:W.keepIn K (.ref f4)=true)
   (a5:W.nsIn K CU "joined"=some (some (.ref f5)))
   (l5:K.lookup f5=some ⟨oc5,od5,.func (W.fnOf "joined" "joined" (aH gx) (aE gx) (ak gx) .none kV5 dc5 pm5 an5 cd5 ct5),sl5⟩)
   (c5:W.codeIn K cd5 "joined"=true)
   (k5:W.keepIn K (.ref f5)=true)
   (a6:W.nsIn K CU "is_whole"=some (some (.ref f6)))
   (l6:K.lookup f6=some ⟨oc6,od6,.func (W.fnOf "is_whole" "is_whole" (aH ia) (aE ia) (ak ia) .none kV6 dc6 pm6 an6 cd6 ct6),sl6⟩)
   (c6:W.codeIn K cd6 "is_whole"=true)
   (k6:W.keepIn K (.ref f6)=true)
   (a7:W.nsIn K CU "is_whole_from"=some (some (.ref f7)))
   (l7:K.lookup f7=some ⟨oc7,od7,.func (W.fnOf "is_whole_from" "is_whole_from" (aH gX) (aE gX) (ak gX) .none kV7 dc7 pm7 an7 cd7 ct7),sl7⟩)
   (c7:W.codeIn K cd7 "is_whole_from"=true)
   (k7:W.keepIn K (.ref f7)=true)
   (a8:W.nsIn K CU "is_wide"=some (some (.ref f8)))
   (l8:K.lookup f8=some ⟨oc8,od8,.func (W.fnOf "is_wide" "is_wide" (aH gm) (aE gm) (ak gm) .none kV8 dc8 pm8 an8 cd8 ct8),sl8⟩)
   (c8:W.codeIn K cd8 "is_wide"=true)
   (k8:W.keepIn K (.ref f8)=true)
   (a9:W.nsIn K CU "is_list"=some (some (.ref f9)))
   (l9:K.lookup f9=some ⟨oc9,od9,.func (W.fnOf "is_list" "is_list" (aH gS) (aE gS) (ak gS) .none kV9 dc9 pm9 an9 cd9 ct9),sl9⟩)
   (c9:W.codeIn K cd9 "is_list"=true)
   (k9:W.keepIn K (.ref f9)=true)
   (a10:W.nsIn K CU "is_list_from"=some (some (.ref f10)))
   (l10:K.lookup f10=some ⟨oc10,od10,.func (W.fnOf "is_list_from" "is_list_from" (aH gF) (aE gF) (ak gF) .none kV10 dc10 pm10 an10 cd10 ct10),sl10⟩)
   (c10:W.codeIn K cd10 "is_list_from"=true)
   (k10:W.keepIn K (.ref f10)=true)
   (a11:W.nsIn K CU "need_moment"=some (some (.ref f11)))
   (l11:K.lookup f11=some ⟨oc11,od11,.func (W.fnOf "need_moment" "need_moment" (aH gt) (aE gt) (ak gt) .none kV11 dc11 pm11 an11 cd11 ct11),sl11⟩)
   (c11:W.codeIn K cd11 "need_moment"=true)
   (k11:W.keepIn K (.ref f11)=true)
   (a12:W.nsIn K CU "need_roll"=some (some (.ref f12)))
   (l12:K.lookup f12=some ⟨oc12,od12,.func (W.fnOf "need_roll" "need_roll" (aH fS) (aE fS) (ak fS) .none kV12 dc12 pm12 an12 cd12 ct12),sl12⟩)
   (c12:W.codeIn K cd12 "need_roll"=true)
   (k12:W.keepIn K (.ref f12)=true)
   (a13:W.nsIn K CU "need_number"=some (some (.ref f13)))
   (l13:K.lookup f13=some ⟨oc13,od13,.func (W.fnOf "need_number" "need_number" (aH gZ) (aE gZ) (ak gZ) .none kV13 dc13 pm13 an13 cd13 ct13),sl13⟩)
   (c13:W.codeIn K cd13 "need_number"=true)
   (k13:W.keepIn K (.ref f13)=true)
   (a14:W.nsIn K CU "bars_of"=some (some (.ref f14)))
   (l14:K.lookup f14=some ⟨oc14,od14,.func (W.fnOf "bars_of" "bars_of" (aH hX) (aE hX) (ak hX) .none kV14 dc14 pm14 an14 cd14 ct14),sl14⟩)
   (c14:W.codeIn K cd14 "bars_of"=true)
   (k14:W.keepIn K (.ref f14)=true)
   (a15:W.nsIn K CU "gathered"=some (some (.ref f15)))
   (l15:K.lookup f15=some ⟨oc15,od15,.func (W.fnOf "gathered" "gathered" (aH g0) (aE g0) (ak g0) .none kV15 dc15 pm15 an15 cd15 ct15),sl15⟩)
   (c15:W.codeIn K cd15 "gathered"=true)
   (k15:W.keepIn K (.ref f15)=true)
   (a16:W.nsIn K CU "unlike_bars"=some (some (.ref f16)))
   (l16:K.lookup f16=some ⟨oc16,od16,.func (W.fnOf "unlike_bars" "unlike_bars" (aH fQ) (aE fQ) (ak fQ) .none kV16 dc16 pm16 an16 cd16 ct16),sl16⟩)
   (c16:W.codeIn K cd16 "unlike_bars"=true)
   (k16:W.keepIn K (.ref f16)=true)
   (a17:W.nsIn K CU "number_of"=some (some (.ref f17)))
   (l17:K.lookup f17=some ⟨oc17,od17,.func (W.fnOf "number_of" "number_of" (aH gH) (aE gH) (ak gH) .none kV17 dc17 pm17 an17 cd17 ct17),sl17⟩)
   (c17:W.codeIn K cd17 "number_of"=true)
   (k17:W.keepIn K (.ref f17)=true)
   (a18:W.nsIn K CU "is_part"=some (some (.ref f18)))
   (l18:K.lookup f18=some ⟨oc18,od18,.func (W.fnOf "is_part" "is_part" (aH ie) (aE ie) (ak ie) .none kV18 dc18 pm18 an18 cd18 ct18),sl18⟩)
   (c18:W.codeIn K cd18 "is_part"=true)
   (k18:W.keepIn K (.ref f18)=true)
   (a19:W.nsIn K CU "are_parts"=some (some (.ref f19)))
   (l19:K.lookup f19=some ⟨oc19,od19,.func (W.fnOf "are_parts" "are_parts" (aH im) (aE im) (ak im) .none kV19 dc19 pm19 an19 cd19 ct19),sl19⟩)
   (c19:W.codeIn K cd19 "are_parts"=true)
   (k19:W.keepIn K (.ref f19)=true)
   (a20:W.nsIn K CU "are_sizes"=some (some (.ref f20)))
   (l20:K.lookup f20=some ⟨oc20,od20,.func (W.fnOf "are_sizes" "are_sizes" (aH gf) (aE gf) (ak gf) .none kV20 dc20 pm20 an20 cd20 ct20),sl20⟩)
   (c20:W.codeIn K cd20 "are_sizes"=true)
   (k20:W.keepIn K (.ref f20)=true)
   (a21:W.nsIn K CU "is_row"=some (some (.ref f21)))
   (l21:K.lookup f21=some ⟨oc21,od21,.func (W.fnOf "is_row" "is_row" (aH gG) (aE gG) (ak gG) .none kV21 dc21 pm21 an21 cd21 ct21),sl21⟩)
   (c21:W.codeIn K cd21 "is_row"=true)
   (k21:W.keepIn K (.ref f21)=true)
   (a22:W.nsIn K CU "are_rows"=some (some (.ref f22)))
   (l22:K.lookup f22=some ⟨oc22,od22,.func (W.fnOf "are_rows" "are_rows" (aH ic) (aE ic) (ak ic) .none kV22 dc22 pm22 an22 cd22 ct22),sl22⟩)
   (c22:W.codeIn K cd22 "are_rows"=true)
   (k22:W.keepIn K (.ref f22)=true)
   (a23:W.nsIn K CU "bar_lengths"=some (some (.ref f23)))
   (l23:K.lookup f23=some ⟨oc23,od23,.func (W.fnOf "bar_lengths" "bar_lengths" (aH ir) (aE ir) (ak ir) .none kV23 dc23 pm23 an23 cd23 ct23),sl23⟩)
   (c23:W.codeIn K cd23 "bar_lengths"=true)
   (k23:W.keepIn K (.ref f23)=true)
   (a24:W.nsIn K CU "_law_cell"=some (some (.ref f24)))
   (l24:K.lookup f24=some ⟨oc24,od24,.func (W.fnOf "_law_cell" "_law_cell" (aH ig) (aE ig) (ak ig) .none kV24 dc24 pm24 an24 cd24 ct24),sl24⟩)
   (c24:W.codeIn K cd24 "_law_cell"=true)
   (k24:W.keepIn K (.ref f24)=true)
   (a25:W.nsIn K CU "_law_pot"=some (some (.ref f25)))
   (l25:K.lookup f25=some ⟨oc25,od25,.func (W.fnOf "_law_pot" "_law_pot" (aH fW) (aE fW) (ak fW) .none kV25 dc25 pm25 an25 cd25 ct25),sl25⟩)
   (c25:W.codeIn K cd25 "_law_pot"=true)
   (k25:W.keepIn K (.ref f25)=true)
   (a26:W.nsIn K CU "_law_take"=some (some (.ref f26)))
   (l26:K.lookup f26=some ⟨oc26,od26,.func (W.fnOf "_law_take" "_law_take" (aH gN) (aE gN) (ak gN) .none kV26 dc26 pm26 an26 cd26 ct26),sl26⟩)
   (c26:W.codeIn K cd26 "_law_take"=true)
   (k26:W.keepIn K (.ref f26)=true)
   (a27:W.nsIn K CU "_law_wide"=some (some (.ref f27)))
   (l27:K.lookup f27=some ⟨oc27,od27,.func (W.fnOf "_law_wide" "_law_wide" (aH hU) (aE hU) (ak hU) .none kV27 dc27 pm27 an27 cd27 ct27),sl27⟩)
   (c27:W.codeIn K cd27 "_law_wide"=true)
   (k27:W.keepIn K (.ref f27)=true)
   (a28:W.nsIn K CU "_law_key"=some (some (.ref f28)))
   (l28:K.lookup f28=some ⟨oc28,od28,.func (W.fnOf "_law_key" "_law_key" (aH gh) (aE gh) (ak gh) .none kV28 dc28 pm28 an28 cd28 ct28),sl28⟩)
   (c28:W.codeIn K cd28 "_law_key"=true)
   (k28:W.keepIn K (.ref f28)=true)
   (a29:W.nsIn K CU "_law_before"=some (some (.ref f29)))
   (l29:K.lookup f29=some ⟨oc29,od29,.func (W.fnOf "_law_before" "_law_before" (aH fZ) (aE fZ) (ak fZ) .none kV29 dc29 pm29 an29 cd29 ct29),sl29⟩)
   (c29:W.codeIn K cd29 "_law_before"=true)
   (k29:W.keepIn K (.ref f29)=true)
   (a30:W.nsIn K CU "_law_bar"=some (some (.ref f30)))
   (l30:K.lookup f30=some ⟨oc30,od30,.func (W.fnOf "_law_bar" "_law_bar" (aH ib) (aE ib) (ak ib) .none kV30 dc30 pm30 an30 cd30 ct30),sl30⟩)
   (c30:W.codeIn K cd30 "_law_bar"=true)
   (k30:W.keepIn K (.ref f30)=true)
   (a31:W.nsIn K CU "_law_near"=some (some (.ref f31)))
   (l31:K.lookup f31=some ⟨oc31,od31,.func (W.fnOf "_law_near" "_law_near" (aH fU) (aE fU) (ak fU) .none kV31 dc31 pm31 an31 cd31 ct31),sl31⟩)
   (c31:W.codeIn K cd31 "_law_near"=true)
   (k31:W.keepIn K (.ref f31)=true)
   (a32:W.nsIn K CU "_law_parts"=some (some (.ref f32)))
   (l32:K.lookup f32=some ⟨oc32,od32,.func (W.fnOf "_law_parts" "_law_parts" (aH gM) (aE gM) (ak gM) .none kV32 dc32 pm32 an32 cd32 ct32),sl32⟩)
   (c32:W.codeIn K cd32 "_law_parts"=true)
   (k32:W.keepIn K (.ref f32)=true)
   (a33:W.nsIn K CU "_law_rows"=some (some (.ref f33)))
   (l33:K.lookup f33=some ⟨oc33,od33,.func (W.fnOf "_law_rows" "_law_rows" (aH gE) (aE gE) (ak gE) .none kV33 dc33 pm33 an33 cd33 ct33),sl33⟩)
   (c33:W.codeIn K cd33 "_law_rows"=true)
   (k33:W.keepIn K (.ref f33)=true)
   (a34:W.nsIn K CU "_law_ladder"=some (some (.ref f34)))
   (l34:K.lookup f34=some ⟨oc34,od34,.func (W.fnOf "_law_ladder" "_law_ladder" (aH gB) (aE gB) (ak gB) .none kV34 dc34 pm34 an34 cd34 ct34),sl34⟩)
   (c34:W.codeIn K cd34 "_law_ladder"=true)
   (k34:W.keepIn K (.ref f34)=true)
   (a35:W.nsIn K CU "_law_in_turn"=some (some (.ref f35)))
   (l35:K.lookup f35=some ⟨oc35,od35,.func (W.fnOf "_law_in_turn" "_law_in_turn" (aH ii) (aE ii) (ak ii) .none kV35 dc35 pm35 an35 cd35 ct35),sl35⟩)
   (c35:W.codeIn K cd35 "_law_in_turn"=true)
   (k35:W.keepIn K (.ref f35)=true)
   (a36:W.nsIn K CU "_law_widths"=some (some (.ref f36)))
   (l36:K.lookup f36=some ⟨oc36,od36,.func (W.fnOf "_law_widths" "_law_widths" (aH ij) (aE ij) (ak ij) .none kV36 dc36 pm36 an36 cd36 ct36),sl36⟩)
   (c36:W.codeIn K cd36 "_law_widths"=true)
   (k36:W.keepIn K (.ref f36)=true)
   (a37:W.nsIn K CU "_law_number"=some (some (.ref f37)))
   (l37:K.lookup f37=some ⟨oc37,od37,.func (W.fnOf "_law_number" "_law_number" (aH io) (aE io) (ak io) .none kV37 dc37 pm37 an37 cd37 ct37),sl37⟩)
   (c37:W.codeIn K cd37 "_law_number"=true)
   (k37:W.keepIn K (.ref f37)=true)
   (a38:W.nsIn K CU "_law_bars"=some (some (.ref f38)))
   (l38:K.lookup f38=some ⟨oc38,od38,.func (W.fnOf "_law_bars" "_law_bars" (aH fT) (aE fT) (ak fT) .none kV38 dc38 pm38 an38 cd38 ct38),sl38⟩)
   (c38:W.codeIn K cd38 "_law_bars"=true)
   (k38:W.keepIn K (.ref f38)=true)
   (a39:W.nsIn K CU "_law_unlike"=some (some (.ref f39)))
   (l39:K.lookup f39=some ⟨oc39,od39,.func (W.fnOf "_law_unlike" "_law_unlike" (aH gy) (aE gy) (ak gy) .none kV39 dc39 pm39 an39 cd39 ct39),sl39⟩)
   (c39:W.codeIn K cd39 "_law_unlike"=true)
   (k39:W.keepIn K (.ref f39)=true)
   (a40:W.nsIn K CU "_law_moment"=some (some (.ref f40)))
   (l40:K.lookup f40=some ⟨oc40,od40,.func (W.fnOf "_law_moment" "_law_moment" (aH ik) (aE ik) (ak ik) .none kV40 dc40 pm40 an40 cd40 ct40),sl40⟩)
   (c40:W.codeIn K cd40 "_law_moment"=true)
   (k40:W.keepIn K (.ref f40)=true)
   (a41:W.nsIn K CU "_law_span"=some (some (.ref f41)))
   (l41:K.lookup f41=some ⟨oc41,od41,.func (W.fnOf "_law_span" "_law_span" (aH gC) (aE gC) (ak gC) .none kV41 dc41 pm41 an41 cd41 ct41),sl41⟩)
   (c41:W.codeIn K cd41 "_law_span"=true)
   (k41:W.keepIn K (.ref f41)=true)
   (a42:W.nsIn K CU "_law_within"=some (some (.ref f42)))
   (l42:K.lookup f42=some ⟨oc42,od42,.func (W.fnOf "_law_within" "_law_within" (aH gp) (aE gp) (ak gp) .none kV42 dc42 pm42 an42 cd42 ct42),sl42⟩)
   (c42:W.codeIn K cd42 "_law_within"=true)
   (k42:W.keepIn K (.ref f42)=true)
   (a43:W.nsIn K CU "_law_step"=some (some (.ref f43)))
   (l43:K.lookup f43=some ⟨oc43,od43,.func (W.fnOf "_law_step" "_law_step" (aH fY) (aE fY) (ak fY) .none kV43 dc43 pm43 an43 cd43 ct43),sl43⟩)
   (c43:W.codeIn K cd43 "_law_step"=true)
   (k43:W.keepIn K (.ref f43)=true)
   (a44:W.nsIn K CU "_law_told_right"=some (some (.ref f44)))
   (l44:K.lookup f44=some ⟨oc44,od44,.func (W.fnOf "_law_told_right" "_law_told_right" (aH fR) (aE fR) (ak fR) .none kV44 dc44 pm44 an44 cd44 ct44),sl44⟩)
   (c44:W.codeIn K cd44 "_law_told_right"=true)
   (k44:W.keepIn K (.ref f44)=true)
   (a45:W.nsIn K CU "law"=some (some (.ref f45)))
   (l45:K.lookup f45=some ⟨oc45,od45,.func (W.fnOf "law" "law" (aH eZ) (aE eZ) (ak eZ) .none kV45 dc45 pm45 an45 cd45 ct45),sl45⟩)
   (c45:W.codeIn K cd45 "law"=true)
   (k45:W.keepIn K (.ref f45)=true)
   (c_WIDE_END:W.nsIn K CU "WIDE_END"=some (some (.int 1000000000000000000000000000000 t_WIDE_END)))
   (c_NUMBER_END:W.nsIn K CU "NUMBER_END"=some (some (.int 10000000000000000000000000000000000000000 t_NUMBER_END)))
   (c_MOST_PARTS:W.nsIn K CU "MOST_PARTS"=some (some (.int 12 t_MOST_PARTS)))
   (c_MOST_LENGTH:W.nsIn K CU "MOST_LENGTH"=some (some (.int 1000000000 t_MOST_LENGTH)))
   (c_MOST_ROWS:W.nsIn K CU "MOST_ROWS"=some (some (.int 4 t_MOST_ROWS)))
   (c_MOST_SIZES:W.nsIn K CU "MOST_SIZES"=some (some (.int 12 t_MOST_SIZES)))
   (c_MOST_SIZE:W.nsIn K CU "MOST_SIZE"=some (some (.int 1000 t_MOST_SIZE)))
   (b_ValueError:W.nsIn K CU "ValueError"=some none)
   (b_abs:W.nsIn K CU "abs"=some none)
   (b_all:W.nsIn K CU "all"=some none)
   (b_bool:W.nsIn K CU "bool"=some none)
   (b_divmod:W.nsIn K CU "divmod"=some none)
   (b_int:W.nsIn K CU "int"=some none)
   (b_isinstance:W.nsIn K CU "isinstance"=some none)
   (b_len:W.nsIn K CU "len"=some none)
   (b_list:W.nsIn K CU "list"=some none)
   (b_max:W.nsIn K CU "max"=some none)
   (b_min:W.nsIn K CU "min"=some none)
   (b_range:W.nsIn K CU "range"=some none)
   (b_repr:W.nsIn K CU "repr"=some none)
   (b_sorted:W.nsIn K CU "sorted"=some none)
   (b_sum:W.nsIn K CU "sum"=some none)
   (b_tuple:W.nsIn K CU "tuple"=some none)
   (pg:W.plainGet K C Str.empty=true)
   (hd:W.hasDictIn K C=true)
   (po:W.plainOver K C=true)
   (sa:W.findIn K (.ref C) "__setattr__"=some (some (.builtin "object.__setattr__")))
   (mk:W.makesIn K C=true)
   (kc:W.keepIn K (.ref C)=true)
   (n_open_lengths:W.findIn K (.ref C) "open_lengths"=some none)
   (n_part_lengths:W.findIn K (.ref C) "part_lengths"=some none)
   (n_steps:W.findIn K (.ref C) "steps"=some none)
   (a46:W.findIn K (.ref C) "__init__"=some (some (.ref f46)))
   (i46:W.isFn K (.ref f46)=true)
   (l46:K.lookup f46=some ⟨oc46,od46,.func (W.fnOf "__init__" "Ladder.__init__" (aH e7) (aE e7) (ak e7) .none kV46 dc46 pm46 an46 cd46 ct46),sl46⟩)
   (c46:W.codeIn K cd46 "Ladder.__init__"=true)
   (k46:W.keepIn K (.ref f46)=true)
   (a47:W.findIn K (.ref C) "begin"=some (some (.ref f47)))
   (i47:W.isFn K (.ref f47)=true)
   (l47:K.lookup f47=some ⟨oc47,od47,.func (W.fnOf "begin" "Ladder.begin" (aH i3) (aE i3) (ak i3) .none kV47 dc47 pm47 an47 cd47 ct47),sl47⟩)
   (c47:W.codeIn K cd47 "Ladder.begin"=true)
   (k47:W.keepIn K (.ref f47)=true)
   (a48:W.findIn K (.ref C) "parts"=some (some (.ref f48)))
   (i48:W.isFn K (.ref f48)=true)
   (l48:K.lookup f48=some ⟨oc48,od48,.func (W.fnOf "parts" "Ladder.parts" (aH iR) (aE iR) (ak iR) .none kV48 dc48 pm48 an48 cd48 ct48),sl48⟩)
   (c48:W.codeIn K cd48 "Ladder.parts"=true)
   (k48:W.keepIn K (.ref f48)=true)
   (a49:W.findIn K (.ref C) "rows"=some (some (.ref f49)))
   (i49:W.isFn K (.ref f49)=true)
   (l49:K.lookup f49=some ⟨oc49,od49,.func (W.fnOf "rows" "Ladder.rows" (aH i6) (aE i6) (ak i6) .none kV49 dc49 pm49 an49 cd49 ct49),sl49⟩)
   (c49:W.codeIn K cd49 "Ladder.rows"=true)
   (k49:W.keepIn K (.ref f49)=true)
   (a50:W.findIn K (.ref C) "rolls"=some (some (.ref f50)))
   (i50:W.isFn K (.ref f50)=true)
   (l50:K.lookup f50=some ⟨oc50,od50,.func (W.fnOf "rolls" "Ladder.rolls" (aH gz) (aE gz) (ak gz) .none kV50 dc50 pm50 an50 cd50 ct50),sl50⟩)
   (c50:W.codeIn K cd50 "Ladder.rolls"=true)
   (k50:W.keepIn K (.ref f50)=true)
   (a51:W.findIn K (.ref C) "bar_at"=some (some (.ref f51)))
   (i51:W.isFn K (.ref f51)=true)
   (l51:K.lookup f51=some ⟨oc51,od51,.func (W.fnOf "bar_at" "Ladder.bar_at" (aH gu) (aE gu) (ak gu) .none kV51 dc51 pm51 an51 cd51 ct51),sl51⟩)
   (c51:W.codeIn K cd51 "Ladder.bar_at"=true)
   (k51:W.keepIn K (.ref f51)=true)
   (aC_Follower:W.nsIn K CU "Follower"=some (some (.ref q_Follower)))
   (pg_Follower:W.plainGet K q_Follower Str.empty=true)
   (hd_Follower:W.hasDictIn K q_Follower=true)
   (po_Follower:W.plainOver K q_Follower=true)
   (sa_Follower:W.findIn K (.ref q_Follower) "__setattr__"=some (some (.builtin "object.__setattr__")))
   (mk_Follower:W.makesIn K q_Follower=true)
   (kc_Follower:W.keepIn K (.ref q_Follower)=true)
   (n_Follower_first_number:W.findIn K (.ref q_Follower) "first_number"=some none)
   (n_Follower_known:W.findIn K (.ref q_Follower) "known"=some none)
   (n_Follower_ladder:W.findIn K (.ref q_Follower) "ladder"=some none)
   (n_Follower_number_behind:W.findIn K (.ref q_Follower) "number_behind"=some none)
   (n_Follower_roll:W.findIn K (.ref q_Follower) "roll"=some none)
   (a52:W.findIn K (.ref q_Follower) "__init__"=some (some (.ref f52)))
   (i52:W.isFn K (.ref f52)=true)
   (l52:K.lookup f52=some ⟨oc52,od52,.func (W.fnOf "__init__" "Follower.__init__" (aH fb) (aE fb) (ak fb) .none kV52 dc52 pm52 an52 cd52 ct52),sl52⟩)
   (c52:W.codeIn K cd52 "Follower.__init__"=true)
   (k52:W.keepIn K (.ref f52)=true)
   (a53:W.findIn K (.ref q_Follower) "news"=some (some (.ref f53)))
   (i53:W.isFn K (.ref f53)=true)
   (l53:K.lookup f53=some ⟨oc53,od53,.func (W.fnOf "news" "Follower.news" (aH il) (aE il) (ak il) .none kV53 dc53 pm53 an53 cd53 ct53),sl53⟩)
   (c53:W.codeIn K cd53 "Follower.news"=true)
   (k53:W.keepIn K (.ref f53)=true)
   (esp:W.specialIn K (.builtin "object.__class__") "__get__"=some (some (.builtin "getset_descriptor.__get__")))
   (etk:W.takesIn K (.builtin "object.__class__")=some true):Txt K mg C :=
 ⟨⟨_,_,ao (st:=gJ) l1 c1 k1,W.mg_of X G a1,(ao (st:=gJ) l1 c1 k1).b0 fun _ _ _ _ _ _=>rfl⟩,
  ⟨_,_,ao (st:=gY) l2 c2 k2,W.mg_of X G a2,(ao (st:=gY) l2 c2 k2).b1 fun _ _ _ _ _ _ _=>rfl⟩,
  ⟨_,_,ao (st:=gW) l3 c3 k3,W.mg_of X G a3,(ao (st:=gW) l3 c3 k3).b1 fun _ _ _ _ _ _ _=>rfl⟩,
  ⟨_,_,ao (st:=gT) l4 c4 k4,W.mg_of X G a4,(ao (st:=gT) l4 c4 k4).b1 fun _ _ _ _ _ _ _=>rfl⟩,
  ⟨_,_,ao (st:=gx) l5 c5 k5,W.mg_of X G a5,(ao (st:=gx) l5 c5 k5).b2 fun _ _ _ _ _ _ _ _=>rfl⟩,
  ⟨_,_,ao (st:=ia) l6 c6 k6,W.mg_of X G a6,(ao (st:=ia) l6 c6 k6).b1 fun _ _ _ _ _ _ _=>rfl⟩,
  ⟨_,_,ao (st:=gX) l7 c7 k7,W.mg_of X G a7,(ao (st:=gX) l7 c7 k7).b3 fun _ _ _ _ _ _ _ _ _=>rfl⟩,
  ⟨_,_,ao (st:=gm) l8 c8 k8,W.mg_of X G a8,(ao (st:=gm) l8 c8 k8).b1 fun _ _ _ _ _ _ _=>rfl⟩,
  ⟨_,_,ao (st:=gS) l9 c9 k9,W.mg_of X G a9,(ao (st:=gS) l9 c9 k9).b1 fun _ _ _ _ _ _ _=>rfl⟩,
  ⟨_,_,ao (st:=gF) l10 c10 k10,W.mg_of X G a10,(ao (st:=gF) l10 c10 k10).b3 fun _ _ _ _ _ _ _ _ _=>rfl⟩,
  ⟨_,_,ao (st:=gt) l11 c11 k11,W.mg_of X G a11,(ao (st:=gt) l11 c11 k11).b1 fun _ _ _ _ _ _ _=>rfl⟩,
  ⟨_,_,ao (st:=fS) l12 c12 k12,W.mg_of X G a12,(ao (st:=fS) l12 c12 k12).b3 fun _ _ _ _ _ _ _ _ _=>rfl⟩,
  ⟨_,_,ao (st:=gZ) l13 c13 k13,W.mg_of X G a13,(ao (st:=gZ) l13 c13 k13).b1 fun _ _ _ _ _ _ _=>rfl⟩,
  ⟨_,_,ao (st:=hX) l14 c14 k14,W.mg_of X G a14,(ao (st:=hX) l14 c14 k14).b3 fun _ _ _ _ _ _ _ _ _=>rfl⟩,
  ⟨_,_,ao (st:=g0) l15 c15 k15,W.mg_of X G a15,(ao (st:=g0) l15 c15 k15).b1 fun _ _ _ _ _ _ _=>rfl⟩,
  ⟨_,_,ao (st:=fQ) l16 c16 k16,W.mg_of X G a16,(ao (st:=fQ) l16 c16 k16).b2 fun _ _ _ _ _ _ _ _=>rfl⟩,
  ⟨_,_,ao (st:=gH) l17 c17 k17,W.mg_of X G a17,(ao (st:=gH) l17 c17 k17).b3 fun _ _ _ _ _ _ _ _ _=>rfl⟩,
  ⟨_,_,ao (st:=ie) l18 c18 k18,W.mg_of X G a18,(ao (st:=ie) l18 c18 k18).b1 fun _ _ _ _ _ _ _=>rfl⟩,
  ⟨_,_,ao (st:=im) l19 c19 k19,W.mg_of X G a19,(ao (st:=im) l19 c19 k19).b1 fun _ _ _ _ _ _ _=>rfl⟩,
  ⟨_,_,ao (st:=gf) l20 c20 k20,W.mg_of X G a20,(ao (st:=gf) l20 c20 k20).b1 fun _ _ _ _ _ _ _=>rfl⟩,
  ⟨_,_,ao (st:=gG) l21 c21 k21,W.mg_of X G a21,(ao (st:=gG) l21 c21 k21).b1 fun _ _ _ _ _ _ _=>rfl⟩,
  ⟨_,_,ao (st:=ic) l22 c22 k22,W.mg_of X G a22,(ao (st:=ic) l22 c22 k22).b1 fun _ _ _ _ _ _ _=>rfl⟩,
  ⟨_,_,ao (st:=ir) l23 c23 k23,W.mg_of X G a23,(ao (st:=ir) l23 c23 k23).b1 fun _ _ _ _ _ _ _=>rfl⟩,
  ⟨_,_,ao (st:=ig) l24 c24 k24,W.mg_of X G a24,(ao (st:=ig) l24 c24 k24).b2 fun _ _ _ _ _ _ _ _=>rfl⟩,
  ⟨_,_,ao (st:=fW) l25 c25 k25,W.mg_of X G a25,(ao (st:=fW) l25 c25 k25).b1 fun _ _ _ _ _ _ _=>rfl⟩,
  ⟨_,_,ao (st:=gN) l26 c26 k26,W.mg_of X G a26,(ao (st:=gN) l26 c26 k26).b2 fun _ _ _ _ _ _ _ _=>rfl⟩,
  ⟨_,_,ao (st:=hU) l27 c27 k27,W.mg_of X G a27,(ao (st:=hU) l27 c27 k27).b1 fun _ _ _ _ _ _ _=>rfl⟩,
  ⟨_,_,ao (st:=gh) l28 c28 k28,W.mg_of X G a28,(ao (st:=gh) l28 c28 k28).b1 fun _ _ _ _ _ _ _=>rfl⟩,
  ⟨_,_,ao (st:=fZ) l29 c29 k29,W.mg_of X G a29,(ao (st:=fZ) l29 c29 k29).b2 fun _ _ _ _ _ _ _ _=>rfl⟩,
  ⟨_,_,ao (st:=ib) l30 c30 k30,W.mg_of X G a30,(ao (st:=ib) l30 c30 k30).b1 fun _ _ _ _ _ _ _=>rfl⟩,
  ⟨_,_,ao (st:=fU) l31 c31 k31,W.mg_of X G a31,(ao (st:=fU) l31 c31 k31).b3 fun _ _ _ _ _ _ _ _ _=>rfl⟩,
  ⟨_,_,ao (st:=gM) l32 c32 k32,W.mg_of X G a32,(ao (st:=gM) l32 c32 k32).b1 fun _ _ _ _ _ _ _=>rfl⟩,
  ⟨_,_,ao (st:=gE) l33 c33 k33,W.mg_of X G a33,(ao (st:=gE) l33 c33 k33).b1 fun _ _ _ _ _ _ _=>rfl⟩,
  ⟨_,_,ao (st:=gB) l34 c34 k34,W.mg_of X G a34,(ao (st:=gB) l34 c34 k34).b1 fun _ _ _ _ _ _ _=>rfl⟩,
  ⟨_,_,ao (st:=ii) l35 c35 k35,W.mg_of X G a35,(ao (st:=ii) l35 c35 k35).b2 fun _ _ _ _ _ _ _ _=>rfl⟩,
  ⟨_,_,ao (st:=ij) l36 c36 k36,W.mg_of X G a36,(ao (st:=ij) l36 c36 k36).b1 fun _ _ _ _ _ _ _=>rfl⟩,
  ⟨_,_,ao (st:=io) l37 c37 k37,W.mg_of X G a37,(ao (st:=io) l37 c37 k37).b3 fun _ _ _ _ _ _ _ _ _=>rfl⟩,
  ⟨_,_,ao (st:=fT) l38 c38 k38,W.mg_of X G a38,(ao (st:=fT) l38 c38 k38).b3 fun _ _ _ _ _ _ _ _ _=>rfl⟩,
  ⟨_,_,ao (st:=gy) l39 c39 k39,W.mg_of X G a39,(ao (st:=gy) l39 c39 k39).b2 fun _ _ _ _ _ _ _ _=>rfl⟩,
  ⟨_,_,ao (st:=ik) l40 c40 k40,W.mg_of X G a40,(ao (st:=ik) l40 c40 k40).b2 fun _ _ _ _ _ _ _ _=>rfl⟩,
  ⟨_,_,ao (st:=gC) l41 c41 k41,W.mg_of X G a41,(ao (st:=gC) l41 c41 k41).b2 fun _ _ _ _ _ _ _ _=>rfl⟩,
  ⟨_,_,ao (st:=gp) l42 c42 k42,W.mg_of X G a42,(ao (st:=gp) l42 c42 k42).b3 fun _ _ _ _ _ _ _ _ _=>rfl⟩,
  ⟨_,_,ao (st:=fY) l43 c43 k43,W.mg_of X G a43,(ao (st:=fY) l43 c43 k43).b3 fun _ _ _ _ _ _ _ _ _=>rfl⟩,
  ⟨_,_,ao (st:=fR) l44 c44 k44,W.mg_of X G a44,(ao (st:=fR) l44 c44 k44).b5 fun _ _ _ _ _ _ _ _ _ _ _=>rfl⟩,
  ⟨_,_,ao (st:=eZ) l45 c45 k45,W.mg_of X G a45,(ao (st:=eZ) l45 c45 k45).b1 fun _ _ _ _ _ _ _=>rfl⟩,
  ⟨_,W.mg_of X G c_WIDE_END⟩,
  ⟨_,W.mg_of X G c_NUMBER_END⟩,
  ⟨_,W.mg_of X G c_MOST_PARTS⟩,
  ⟨_,W.mg_of X G c_MOST_LENGTH⟩,
  ⟨_,W.mg_of X G c_MOST_ROWS⟩,
  ⟨_,W.mg_of X G c_MOST_SIZES⟩,
  ⟨_,W.mg_of X G c_MOST_SIZE⟩,
  W.mg_none_of X G b_ValueError,
  W.mg_none_of X G b_abs,
  W.mg_none_of X G b_all,
  W.mg_none_of X G b_bool,
  W.mg_none_of X G b_divmod,
  W.mg_none_of X G b_int,
  W.mg_none_of X G b_isinstance,
  W.mg_none_of X G b_len,
  W.mg_none_of X G b_list,
  W.mg_none_of X G b_max,
  W.mg_none_of X G b_min,
  W.mg_none_of X G b_range,
  W.mg_none_of X G b_repr,
  W.mg_none_of X G b_sorted,
  W.mg_none_of X G b_sum,
  W.mg_none_of X G b_tuple,
  ⟨pg,hd,po,sa⟩,
  W.mg_of X G aC,
  n_open_lengths,
  n_part_lengths,
  n_steps,
  ⟨_,_,(ao (st:=e7) l46 c46 k46),⟨mk,a46,i46,kc⟩,(ao (st:=e7) l46 c46 k46).b4 fun _ _ _ _ _ _ _ _ _ _=>rfl⟩,
  ⟨_,_,(ao (st:=i3) l47 c47 k47),⟨a47,i47,k47⟩,(ao (st:=i3) l47 c47 k47).b1 fun _ _ _ _ _ _ _=>rfl⟩,
  ⟨_,_,(ao (st:=iR) l48 c48 k48),⟨a48,i48,k48⟩,(ao (st:=iR) l48 c48 k48).b1 fun _ _ _ _ _ _ _=>rfl⟩,
  ⟨_,_,(ao (st:=i6) l49 c49 k49),⟨a49,i49,k49⟩,(ao (st:=i6) l49 c49 k49).b1 fun _ _ _ _ _ _ _=>rfl⟩,
  ⟨_,_,(ao (st:=gz) l50 c50 k50),⟨a50,i50,k50⟩,(ao (st:=gz) l50 c50 k50).b1 fun _ _ _ _ _ _ _=>rfl⟩,
  ⟨_,_,(ao (st:=gu) l51 c51 k51),⟨a51,i51,k51⟩,(ao (st:=gu) l51 c51 k51).b3 fun _ _ _ _ _ _ _ _ _=>rfl⟩,
  (by rw[eW (W.mg_of X G aC_Follower)];exact⟨pg_Follower,hd_Follower,po_Follower,sa_Follower⟩),
  (by rw[eW (W.mg_of X G aC_Follower)];exact W.mg_of X G aC_Follower),
  (by rw[eW (W.mg_of X G aC_Follower)];exact n_Follower_first_number),
  (by rw[eW (W.mg_of X G aC_Follower)];exact n_Follower_known),
  (by rw[eW (W.mg_of X G aC_Follower)];exact n_Follower_ladder),
  (by rw[eW (W.mg_of X G aC_Follower)];exact n_Follower_number_behind),
  (by rw[eW (W.mg_of X G aC_Follower)];exact n_Follower_roll),
  (by rw[eW (W.mg_of X G aC_Follower)];exact⟨_,_,(ao (st:=fb) l52 c52 k52),⟨mk_Follower,a52,i52,kc_Follower⟩,(ao (st:=fb) l52 c52 k52).b5 fun _ _ _ _ _ _ _ _ _ _ _=>rfl⟩),
  (by rw[eW (W.mg_of X G aC_Follower)];exact⟨_,_,(ao (st:=il) l53 c53 k53),⟨a53,i53,k53⟩,(ao (st:=il) l53 c53 k53).b2 fun _ _ _ _ _ _ _ _=>rfl⟩)⟩
end Pr
open PySem PySem.W PyProof.Rows
def PySem.W.Fast.tw6881562489159757695 : Nat := 0
def PySem.W.Fast.tw861502493610598483 : Nat := 0
def PySem.W.Fast.tw7257460582837084246 : Nat := 0
def PySem.W.Fast.tw15069464655358999481 : Nat := 0
def PySem.W.Fast.tw7774113678449685934 : Nat := 0
def PySem.W.Fast.tw5483655545644084138 : Nat := 0
def PySem.W.Fast.tw8129399028645417746 : Nat := 0
def PySem.W.Fast.tw7998388988547395671 : Nat := 0
def PySem.W.Fast.tw6164951957248312632 : Nat := 0
def PySem.W.Fast.tw6937314933464160580 : Nat := 0
def PySem.W.Fast.tw12652432740844512721 : Nat := 0
def PySem.W.Fast.tw14024141229114651172 : Nat := 0
def PySem.W.Fast.tw14257035121206530791 : Nat := 0
def PySem.W.Fast.tw12740759652641322565 : Nat := 0
def PySem.W.Fast.tw1467881925912835984 : Nat := 0
def PySem.W.Fast.tw17512793052788017329 : Nat := 0
def PySem.W.Fast.tw15002400197546761880 : Nat := 0
def PySem.W.Fast.tw1002868641664320135 : Nat := 0
def PySem.W.Fast.tw9628386662896749208 : Nat := 0
def PySem.W.Fast.tw11153475782318119604 : Nat := 0
def PySem.W.Fast.tw5622701340561072331 : Nat := 0
def PySem.W.Fast.tw10888863842102328177 : Nat := 0
def PySem.W.Fast.tw8080008513338510535 : Nat := 0
def PySem.W.Fast.tw8997383693586321770 : Nat := 0
def PySem.W.Fast.tw12103309309050226592 : Nat := 0
def PySem.W.Fast.tw4548300405975405348 : Nat := 0
def PySem.W.Fast.tw6690350156832105676 : Nat := 0
def PySem.W.Fast.tw17260811203177919210 : Nat := 0
def PySem.W.Fast.tw8966131664815694762 : Nat := 0
def PySem.W.Fast.tw483357995245842942 : Nat := 0
def PySem.W.Fast.tw9536688357841153863 : Nat := 0
def PySem.W.Fast.tw6105849179199505303 : Nat := 0
def PySem.W.Fast.tw1532491051758110099 : Nat := 0
def PySem.W.Fast.tw16217903435359918192 : Nat := 0
def PySem.W.Fast.tw730961619353400375 : Nat := 0
def PySem.W.Fast.tw1835071406663858368 : Nat := 0
def PySem.W.Fast.tw10258873121960336067 : Nat := 0
def PySem.W.Fast.tw17963105932079019327 : Nat := 0
def PySem.W.Fast.tw15554417296805563061 : Nat := 0
def PySem.W.Fast.tw2483420100392427323 : Nat := 0
def PySem.W.Fast.tw9972681490609642005 : Nat := 0
def PySem.W.Fast.tw11831685877206584249 : Nat := 0
def PySem.W.Fast.tw12138319994727072339 : Nat := 0
def PySem.W.Fast.tw8171798328758944481 : Nat := 0
def PySem.W.Fast.tw1956260828630720203 : Nat := 0
def PySem.W.Fast.tw3110587219445414310 : Nat := 0
def PySem.W.Fast.tw15685335758407661847 : Nat := 0
def PySem.W.Fast.tw1000662321505670351 : Nat := 0
def PySem.W.Fast.tw14827714588952709054 : Nat := 0
def PySem.W.Fast.tw5467331546851215429 : Nat := 0
def PySem.W.Fast.tw11502921971960690029 : Nat := 0
set_option maxHeartbeats 0 in
open_top hd for PySem.Challenge.rw_peakroll_k52_whole_news
set_option maxHeartbeats 0 in
theorem PySem.Challenge.cw_peakroll_k52_whole_news_holds : PySem.Challenge.rw_peakroll_k52_whole_news.Holds := by
  refine hd ?_
  k_fill
  refine Pr.walk (l := PySem.Challenge.rw_peakroll_k52_whole_news) rfl rfl (fun w h Y => PySem.W.kIn_of Y) ?F
  case F =>
    intro w mg fa h KX G hmg
    have T : ∃ C, Pr.Txt (L2.KOf KX) mg C := by
      dsimp only [L2.KOf]
      refine' ⟨_, Pr.txt_mk KX G ?aC ?a1 ?l1 ?c1 ?k1 ?a2 ?l2 ?c2 ?k2 ?a3 ?l3 ?c3 ?k3 ?a4 ?l4 ?c4 ?k4 ?a5 ?l5 ?c5 ?k5 ?a6 ?l6 ?c6 ?k6 ?a7 ?l7 ?c7 ?k7 ?a8 ?l8 ?c8 ?k8 ?a9 ?l9 ?c9 ?k9 ?a10 ?l10 ?c10 ?k10 ?a11 ?l11 ?c11 ?k11 ?a12 ?l12 ?c12 ?k12 ?a13 ?l13 ?c13 ?k13 ?a14 ?l14 ?c14 ?k14 ?a15 ?l15 ?c15 ?k15 ?a16 ?l16 ?c16 ?k16 ?a17 ?l17 ?c17 ?k17 ?a18 ?l18 ?c18 ?k18 ?a19 ?l19 ?c19 ?k19 ?a20 ?l20 ?c20 ?k20 ?a21 ?l21 ?c21 ?k21 ?a22 ?l22 ?c22 ?k22 ?a23 ?l23 ?c23 ?k23 ?a24 ?l24 ?c24 ?k24 ?a25 ?l25 ?c25 ?k25 ?a26 ?l26 ?c26 ?k26 ?a27 ?l27 ?c27 ?k27 ?a28 ?l28 ?c28 ?k28 ?a29 ?l29 ?c29 ?k29 ?a30 ?l30 ?c30 ?k30 ?a31 ?l31 ?c31 ?k31 ?a32 ?l32 ?c32 ?k32 ?a33 ?l33 ?c33 ?k33 ?a34 ?l34 ?c34 ?k34 ?a35 ?l35 ?c35 ?k35 ?a36 ?l36 ?c36 ?k36 ?a37 ?l37 ?c37 ?k37 ?a38 ?l38 ?c38 ?k38 ?a39 ?l39 ?c39 ?k39 ?a40 ?l40 ?c40 ?k40 ?a41 ?l41 ?c41 ?k41 ?a42 ?l42 ?c42 ?k42 ?a43 ?l43 ?c43 ?k43 ?a44 ?l44 ?c44 ?k44 ?a45 ?l45 ?c45 ?k45 ?c_WIDE_END ?c_NUMBER_END ?c_MOST_PARTS ?c_MOST_LENGTH ?c_MOST_ROWS ?c_MOST_SIZES ?c_MOST_SIZE ?b_ValueError ?b_abs ?b_all ?b_bool ?b_divmod ?b_int ?b_isinstance ?b_len ?b_list ?b_max ?b_min ?b_range ?b_repr ?b_sorted ?b_sum ?b_tuple ?pg ?hd ?po ?sa ?mk ?kc ?n_open_lengths ?n_part_lengths ?n_steps ?a46 ?i46 ?l46 ?c46 ?k46 ?a47 ?i47 ?l47 ?c47 ?k47 ?a48 ?i48 ?l48 ?c48 ?k48 ?a49 ?i49 ?l49 ?c49 ?k49 ?a50 ?i50 ?l50 ?c50 ?k50 ?a51 ?i51 ?l51 ?c51 ?k51 ?aC_Follower ?pg_Follower ?hd_Follower ?po_Follower ?sa_Follower ?mk_Follower ?kc_Follower ?n_Follower_first_number ?n_Follower_known ?n_Follower_ladder ?n_Follower_number_behind ?n_Follower_roll ?a52 ?i52 ?l52 ?c52 ?k52 ?a53 ?i53 ?l53 ?c53 ?k53 ?esp ?etk⟩
      (case aC => k_is)
      (case a1 => k_is)
      (case l1 => k_is)
      (case c1 => k_is)
      (case k1 => k_is)
      (case a2 => k_is)
      (case l2 => k_is)
      (case c2 => k_is)
      (case k2 => k_is)
      (case a3 => k_is)
      (case l3 => k_is)
      (case c3 => k_is)
      (case k3 => k_is)
      (case a4 => k_is)
      (case l4 => k_is)
      (case c4 => k_is)
      (case k4 => k_is)
      (case a5 => k_is)
      (case l5 => k_is)
      (case c5 => k_is)
      (case k5 => k_is)
      (case a6 => k_is)
      (case l6 => k_is)
      (case c6 => k_is)
      (case k6 => k_is)
      (case a7 => k_is)
      (case l7 => k_is)
      (case c7 => k_is)
      (case k7 => k_is)
      (case a8 => k_is)
      (case l8 => k_is)
      (case c8 => k_is)
      (case k8 => k_is)
      (case a9 => k_is)
      (case l9 => k_is)
      (case c9 => k_is)
      (case k9 => k_is)
      (case a10 => k_is)
      (case l10 => k_is)
      (case c10 => k_is)
      (case k10 => k_is)
      (case a11 => k_is)
      (case l11 => k_is)
      (case c11 => k_is)
      (case k11 => k_is)
      (case a12 => k_is)
      (case l12 => k_is)
      (case c12 => k_is)
      (case k12 => k_is)
      (case a13 => k_is)
      (case l13 => k_is)
      (case c13 => k_is)
      (case k13 => k_is)
      (case a14 => k_is)
      (case l14 => k_is)
      (case c14 => k_is)
      (case k14 => k_is)
      (case a15 => k_is)
      (case l15 => k_is)
      (case c15 => k_is)
      (case k15 => k_is)
      (case a16 => k_is)
      (case l16 => k_is)
      (case c16 => k_is)
      (case k16 => k_is)
      (case a17 => k_is)
      (case l17 => k_is)
      (case c17 => k_is)
      (case k17 => k_is)
      (case a18 => k_is)
      (case l18 => k_is)
      (case c18 => k_is)
      (case k18 => k_is)
      (case a19 => k_is)
      (case l19 => k_is)
      (case c19 => k_is)
      (case k19 => k_is)
      (case a20 => k_is)
      (case l20 => k_is)
      (case c20 => k_is)
      (case k20 => k_is)
      (case a21 => k_is)
      (case l21 => k_is)
      (case c21 => k_is)
      (case k21 => k_is)
      (case a22 => k_is)
      (case l22 => k_is)
      (case c22 => k_is)
      (case k22 => k_is)
      (case a23 => k_is)
      (case l23 => k_is)
      (case c23 => k_is)
      (case k23 => k_is)
      (case a24 => k_is)
      (case l24 => k_is)
      (case c24 => k_is)
      (case k24 => k_is)
      (case a25 => k_is)
      (case l25 => k_is)
      (case c25 => k_is)
      (case k25 => k_is)
      (case a26 => k_is)
      (case l26 => k_is)
      (case c26 => k_is)
      (case k26 => k_is)
      (case a27 => k_is)
      (case l27 => k_is)
      (case c27 => k_is)
      (case k27 => k_is)
      (case a28 => k_is)
      (case l28 => k_is)
      (case c28 => k_is)
      (case k28 => k_is)
      (case a29 => k_is)
      (case l29 => k_is)
      (case c29 => k_is)
      (case k29 => k_is)
      (case a30 => k_is)
      (case l30 => k_is)
      (case c30 => k_is)
      (case k30 => k_is)
      (case a31 => k_is)
      (case l31 => k_is)
      (case c31 => k_is)
      (case k31 => k_is)
      (case a32 => k_is)
      (case l32 => k_is)
      (case c32 => k_is)
      (case k32 => k_is)
      (case a33 => k_is)
      (case l33 => k_is)
      (case c33 => k_is)
      (case k33 => k_is)
      (case a34 => k_is)
      (case l34 => k_is)
      (case c34 => k_is)
      (case k34 => k_is)
      (case a35 => k_is)
      (case l35 => k_is)
      (case c35 => k_is)
      (case k35 => k_is)
      (case a36 => k_is)
      (case l36 => k_is)
      (case c36 => k_is)
      (case k36 => k_is)
      (case a37 => k_is)
      (case l37 => k_is)
      (case c37 => k_is)
      (case k37 => k_is)
      (case a38 => k_is)
      (case l38 => k_is)
      (case c38 => k_is)
      (case k38 => k_is)
      (case a39 => k_is)
      (case l39 => k_is)
      (case c39 => k_is)
      (case k39 => k_is)
      (case a40 => k_is)
      (case l40 => k_is)
      (case c40 => k_is)
      (case k40 => k_is)
      (case a41 => k_is)
      (case l41 => k_is)
      (case c41 => k_is)
      (case k41 => k_is)
      (case a42 => k_is)
      (case l42 => k_is)
      (case c42 => k_is)
      (case k42 => k_is)
      (case a43 => k_is)
      (case l43 => k_is)
      (case c43 => k_is)
      (case k43 => k_is)
      (case a44 => k_is)
      (case l44 => k_is)
      (case c44 => k_is)
      (case k44 => k_is)
      (case a45 => k_is)
      (case l45 => k_is)
      (case c45 => k_is)
      (case k45 => k_is)
      (case c_WIDE_END => k_is)
      (case c_NUMBER_END => k_is)
      (case c_MOST_PARTS => k_is)
      (case c_MOST_LENGTH => k_is)
      (case c_MOST_ROWS => k_is)
      (case c_MOST_SIZES => k_is)
      (case c_MOST_SIZE => k_is)
      (case b_ValueError => k_is)
      (case b_abs => k_is)
      (case b_all => k_is)
      (case b_bool => k_is)
      (case b_divmod => k_is)
      (case b_int => k_is)
      (case b_isinstance => k_is)
      (case b_len => k_is)
      (case b_list => k_is)
      (case b_max => k_is)
      (case b_min => k_is)
      (case b_range => k_is)
      (case b_repr => k_is)
      (case b_sorted => k_is)
      (case b_sum => k_is)
      (case b_tuple => k_is)
      (case pg => k_is)
      (case hd => k_is)
      (case po => k_is)
      (case sa => k_is)
      (case mk => k_is)
      (case kc => k_is)
      (case n_open_lengths => k_is)
      (case n_part_lengths => k_is)
      (case n_steps => k_is)
      (case a46 => k_is)
      (case i46 => k_is)
      (case l46 => k_is)
      (case c46 => k_is)
      (case k46 => k_is)
      (case a47 => k_is)
      (case i47 => k_is)
      (case l47 => k_is)
      (case c47 => k_is)
      (case k47 => k_is)
      (case a48 => k_is)
      (case i48 => k_is)
      (case l48 => k_is)
      (case c48 => k_is)
      (case k48 => k_is)
      (case a49 => k_is)
      (case i49 => k_is)
      (case l49 => k_is)
      (case c49 => k_is)
      (case k49 => k_is)
      (case a50 => k_is)
      (case i50 => k_is)
      (case l50 => k_is)
      (case c50 => k_is)
      (case k50 => k_is)
      (case a51 => k_is)
      (case i51 => k_is)
      (case l51 => k_is)
      (case c51 => k_is)
      (case k51 => k_is)
      (case aC_Follower => k_is)
      (case pg_Follower => k_is)
      (case hd_Follower => k_is)
      (case po_Follower => k_is)
      (case sa_Follower => k_is)
      (case mk_Follower => k_is)
      (case kc_Follower => k_is)
      (case n_Follower_first_number => k_is)
      (case n_Follower_known => k_is)
      (case n_Follower_ladder => k_is)
      (case n_Follower_number_behind => k_is)
      (case n_Follower_roll => k_is)
      (case a52 => k_is)
      (case i52 => k_is)
      (case l52 => k_is)
      (case c52 => k_is)
      (case k52 => k_is)
      (case a53 => k_is)
      (case i53 => k_is)
      (case l53 => k_is)
      (case c53 => k_is)
      (case k53 => k_is)
      (case esp => k_is)
      (case etk => k_is)
    obtain ⟨C, T⟩ := T
    exact Pr.law_all T hmg
