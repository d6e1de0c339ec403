import PyProof.Rows.All
import Wide.All
import OpenK.AllK
import Wide.FinOn
import Lean
import PyProof.EqAt
import PyProof.EqKinds
import PyProof.TupleCall
import KE.KTryMore
import PyProof.RaisesMany
import PyProof.RulesAs
import PyProof.ExcBaseAll.ValueError
import PyProof.NsDelKeeps
import KE.KIsNot
import PyProof.ExcArgs
import KE.RegKIsAll
import KE.RegKTryMore
import KE.KSortTup
import PyProof.SetRoads
import PyProof.CollectWalk
import PyProof.Walks
import PyProof.Rows.SortShell
import KE.KDictSum
import PyProof.Rows.SortWalk
import KE.KDictList
import PyProof.DictRoadsH
import KE.KSortAsk
import PyProof.TupleOfSeq
import PyProof.Rows.SetFrom
import PyProof.WalksMore
import PyProof.AttrMissHeap
import PyProof.AttrMissSeq
import KE.KDictOf
import KE.KEqDict
import KE.KRevIter
import PyProof.P3Eq
import PySem.Challenge.RW_peakroll_k63_whole_broken
set_option Elab.async false
set_option linter.all false
set_option maxRecDepth 100000
open List renaming length_map→CW,size_toArray→CY,getElem?_eq_getElem→CZ,getD_eq_getElem?_getD→C0,map_cons→C1,range→C2,mem_append_right→C3,length_cons→C4,mem_cons_of_mem→C5,mem_cons_self→C6,length_append→C7,map_append→C8,take_add_one→C9,getElem?_map→Da,length_take→Db,sum_cons→Dd,mem_of_getElem?→De,take_of_length_le→Df,take_length→Dg,foldl_cons→Dh,toArray→Di,mem_append_left→Dj,lookup_cons→Dk,length_filter_le→Dl,lookup→Dm,length_singleton→Dp,all_eq_true→Dq,getElem_mem→Dr,eq_nil_or_concat→Ds,concat_eq_append→Dt,nodup_nil→Du,mem_append→Dv,length→Dw,getElem_of_mem→Dy,eq_nil_of_length_eq_zero→Dz,ext_getElem→DC,mem_cons→DF,not_mem_nil→DG,find?_cons→DH,filter_cons→DI,append_nil→DJ,getElem?_append_right→DK,length_reverse→DL,length_nil→DM,pairwise_singleton→DN,mem_of_mem_take→DO,mem_map→DP,filterMap_cons→DQ,reverse_cons→DR,take_succ_cons→DS,append_assoc→DT,drop_eq_getElem_cons→DU,filter_append→DW,getElem?_toArray→DX,getElem?_eq_none→DY,mem_singleton→DZ,length_range→D4,map→Ea,of_mem_zip→Eb,getElem?_append_left→Ec,take_sublist→Ed,length_drop→Ee,take_zero→Ef,sum_nil→Eg,foldl_append→Eh,nodup_cons→Ei,any_cons→Ej,ext_getElem?→Ek,map_map→El,nodup_append→Em,filter_sublist→Eo,reverse_perm→Ep,getElem?_set_self→Er,getElem?_set_ne→Es,map_nil→Et,sum_append_int→Eu,filter_cons_of_pos→Ev,drop_zero→Ew,all_map→Ex,dropLast_concat_getLast→Ey,set_append_right→Ez,flatten_cons→EA,length_pos_of_mem→EB,length_eraseIdx→EC,filter_eq_nil_iff→ED,getElem_map→EE,getElem_range→EF,nil_append→EG,filter_congr→EH,getElem?_take→EI,map_reverse→EJ
open PySem.Heap renaming lt_size→EK,get?_push_of_some→EL,get?_push_size→EM,get?_update_self→EN,size_push→EO,get?_update_other→EQ,get?_none_of_le→ER,get?_update_ne→ES,get?_push_ne→ET
open Nat renaming le_refl→EU,ne_of_lt→EV,lt_of_lt_of_le→EW,zero_le→EX,le_trans→EY,lt_or_ge→EZ,ne_of_gt→E1,le_succ→E2,lt_irrefl→E3,lt_trans→E4,lt_succ_of_lt→E6,le_of_lt→E7,lt_succ_self→E8,lt_of_le_of_lt→E9,le_of_eq→Fa,succ_ne_self→Fb,eq_zero_or_pos→Fc,zero_add→Fe,sub_zero→Ff,sub_self→Fg,lt_trichotomy→Fh,add_sub_cancel→Fi
open Array renaming length_toList→Fj,getD→Fk,getElem?_toList→Fl,getElem?_eq_getElem→Fo,getElem?_eq_none→Fp,toList→Fq
open Int renaming toNat_natCast→Fs,emod_nonneg→Ft,emod_lt_of_pos→Fu,zero_add→Fv,add_comm→Fw,lt_trans→Fx,fmod_eq_emod_of_nonneg→Fy,fdiv_eq_ediv_of_nonneg→Fz,add_mul_emod_self_right→FA,emod_eq_of_lt→FB,mul_ediv_add_emod→FC,mul_comm→FD,natCast_add→FF
open Option renaming map_some→FG,isSome_map→FH,none→FI,toList_some→FJ,isNone_some→FK
open PySem renaming Program→FN,sizeLine→FO,sysModules→FP,tupleKind→FQ,mainGlobals→FR,bootBuiltins→FS,backTo→FU,starEach→FV,wpAny_mono→FW,compareOp→FX,behindInMarks→FY,wpAny_isTrue_Compare1→FZ,wpAny_truthy_bool→F2,standAt→F5,holding→F6,wpAny_execs_nil→F7,wpAny_execs_cons→F8,swapsWith→F9,assign→Ga,assignInOrder→Gb,assignEach→Gc,wpAny_bind→Ge,wpAny_holding→Gf,wpAny_standAt→Gg,wpAny_pure→Gh,wpAny_newObj_type→Gi,wpAny_rule→Gj,getItem→Gk,wpAny_passesOwn→Gm,pyIter→Gn,wpAny_pyIter_list→Go,wpAny_pyIter_tuple→Gp,foldedSetIterable→Gq,binaryOp→Gr,sizeLine_eq→Gs,getMethod→Gu,Result→Gv,codeAny→Gw,attributeBase→Gx,FuncData→Gy,BindsTo→Gz,bindArgs→GA,codeAny_mono→GB,wpAny_Call_Name_kw→GC,backToKw→GE,keywordEach→GF,Keyword→GG,IsPart→GJ,wpAny_field→GK,wpAny_callSpecial?_slot→GL,wpAny_call_entry→GM,wpAny_typeOf→GN,typeLookup→GO,seqIndex_of→GQ,seqIndex_neg→GR,subscripted→GS,wpAny_getItem_list_neg→GU,call_meets→GV,callerA→GX,typeLookup_type→GY,builtinLookup_eq_fast→GZ,isSubtype_type→G0,entryFor→G2,entryFor_of_tree→G3,argsOk→G4,signature?_of→G5,entryFor_alias→G6,rawInt→G7,wpAny_of_eq→G8,wpAny_specialOf→G9,pyNext→Ha,wpAny_attempt→Hb,wpAny_setField→Hc,newExc→Hd,firstArgMember→He,wpAny_handled→Hf,wpAny_throw→Hg,wpAny_isInstance→Hh,isSubtype_stop→Hi,wpAny_pyIter_slot→Hj,compEnvC→Hk,relabel→Hl,letOwnedTupleGo→Hm,codeAny_loop→Hn,compTurn→Ho,noteFrame→Hq,theTreesLotGoes→Hr,newFunctionEnv→Hs,wpAny_newFunctionEnv→Ht,lookup_relabel_local→Hu,codeAny_compStart_list→Hv,wpAny_comprehension_free→Hw,ExceptHandler→Hy,wpAny_letGo→HQ,checkCount→Ib,wpAny_newList→Ic,wpAny_newTuple→Ii,boot_len→Im,wpAny_eqBool_int→Iq,valueAt→Iv,stored→Iw,tupleKind_room_in1→Ix,call_meetsIn→Iy,setsByText→Iz,wpAny_askSetting→IH,unsupported→II,setNext→IJ,wpAny_fieldsOf→IK,wpAny_setEntries_of→IL,wpAny_setField_rec→IM,wpAny_setState_of→IN,wpAny_seqItems→IP,wpAny_setEpoch_of→IQ,wpAny_ite_split→IR,codeAny_builtin→IS,plainId_quiet→IT,wpAny_updateSeq→IU,compStart→IV,wpAny_notOrdered_dict→Ja,wpAny_dictEntries→Jb,wpAny_dictEpoch→Jc,wpAny_typeNameOfWhole_keyiter→Jd,wpAny_typeNameOf_keyiter→Je,wpAny_isOneOf_keyiter→Jf,size_of_entries→Jg,wpAny_richCompare_same_room→Jh
open PyProof.Rows renaming AllBare→FT,assignInOrder_cons→Gd,kindOf→GH,envOfC→GI,subscriptTail→GP,subscriptTail_builtinR→GT,IntsAre→GW,seqObj→Hz,listUpdate_at→HH,seqEpoch_at→HR,get?_update_seq→HS,listItems_at→HU,kind_sorted→HV,plain_sorted→HW,entry_sorted→Ia,size_push'→Ie,slot_list_sort→Ig,entry_list_sort→Ih,boot_isinstance→Ij,boot_list→Ik,boot_tuple→Il,boot_sum→Io,tuples'→Ip,boot_sorted→Ir,boot_min→Iu,args_sorted1→IW,args_list_sort→IX,sortedHeap_at→IY,sortedHeap_old→IZ
open PySem
namespace L2
open PySem PySem.Spec PyProof.Rows
abbrev af:=Sum Int Str
def fb:af->Value->Bool
 | .inl k,v=>Value.isInt k v
 | .inr x,v=>Value.isStrOf x v
def A9 (w:World):af->Int
 | .inl k=>hashInt k
 | .inr x=>hashStr w x
theorem cY:∀ {k:af}{v:Value},fb k v=true->(∃ i t,k=Sum.inl i/\v=Value.int i t)\/(∃ x t,k=Sum.inr x/\v=Value.str x t)
 | .inl i,v,h=>by
  obtain⟨t,e⟩:=Value.isInt_shape (k:=i) (v:=v) h
  exact .inl ⟨i,t,rfl,e⟩
 | .inr x,v,h=>by
  obtain⟨t,e⟩:=Value.isStrOf_shape (x:=x) (v:=v) h
  exact .inr ⟨x,t,rfl,e⟩
theorem oy (i:Int)(t:Tok):fb (.inl i) (.int i t)=true:=by simp[fb,Value.isInt]
theorem tR (x:Str)(t:Tok):fb (.inr x) (.str x t)=true:=by simp[fb,Value.isStrOf]
theorem zo (a b:Int):decide ((Sum.inl a:af)=Sum.inl b)=(a == b):=by
 by_cases e:a=b
 ·subst e;simp
 ·have h:¬ (Sum.inl a:af)=Sum.inl b:=fun q=>e (Sum.inl.inj q)
  rw[decide_eq_false h]
  exact(beq_eq_false_iff_ne.mpr e).symm
theorem z7 (a b:Str):decide ((Sum.inr a:af)=Sum.inr b)=decide (a=b):=by
 by_cases e:a=b
 ·subst e;simp
 ·have h:¬ (Sum.inr a:af)=Sum.inr b:=fun q=>e (Sum.inr.inj q)
  rw[decide_eq_false h,decide_eq_false e]
theorem B9 (a:Int)(b:Str):decide ((Sum.inl a:af)=Sum.inr b)=false:=decide_eq_false (fun q=>nomatch q)
theorem wH (a:Str)(b:Int):decide ((Sum.inr a:af)=Sum.inl b)=false:=decide_eq_false (fun q=>nomatch q)
def bc (prog:Program) (w:World):PySem.KeyKind prog w af where
  is:=fb
  hash:=A9 w
  inj:=fun v a b ha hb=>by
    rcases cY ha with ⟨i,t,rfl,rfl⟩ | ⟨x,t,rfl,rfl⟩
    · rcases cY hb with ⟨j,u,rfl,e⟩ | ⟨y,u,rfl,e⟩
      · injection e with e1 _; rw [e1]
      · exact nomatch e
    · rcases cY hb with ⟨j,u,rfl,e⟩ | ⟨y,u,rfl,e⟩
      · exact nomatch e
      · injection e with e1 _; rw [e1]
  byValue:=fun k v h=>by
    rcases cY h with ⟨i,t,rfl,rfl⟩ | ⟨x,t,rfl,rfl⟩ <;> rfl
  pyHash:=fun hv h=>by
    rcases cY hv with ⟨i,t,rfl,rfl⟩ | ⟨x,t,rfl,rfl⟩
    · exact wpAny_pyHash_int h
    · exact wpAny_pyHash_str h
  eqBool:=fun hu hv h=>by
    rcases cY hu with ⟨i,t,rfl,rfl⟩ | ⟨x,t,rfl,rfl⟩
    · rcases cY hv with ⟨j,u,rfl,rfl⟩ | ⟨y,u,rfl,rfl⟩
      · rw [zo] at h; exact wpAny_eqBool_int h
      · rw [B9] at h; exact SeqAt.EqAt.int_str i t y u _ _ _ _ h
    · rcases cY hv with ⟨j,u,rfl,rfl⟩ | ⟨y,u,rfl,rfl⟩
      · rw [wH] at h; exact SeqAt.EqAt.str_int x t j u _ _ _ _ h
      · rw [z7] at h; exact wpAny_eqBool_str h
  «strs»:=fun k x t v h=>by
    rcases cY h with ⟨i,u,rfl,e⟩ | ⟨y,u,rfl,e⟩
    · exact nomatch e
    · injection e with e1 _
      subst e1
      cases v <;> rfl
theorem xY (prog:FN)(w:World)(i:Int)(t:Tok):(bc prog w).is (.inl i) (.int i t)=true:=oy i t
theorem Ak (prog:FN)(w:World)(x:Str)(t:Tok):(bc prog w).is (.inr x) (.str x t)=true:=tR x t
end L2
namespace L2
open PySem PySem.Spec PyProof.Rows
inductive V where
 | non|bl (b:Bool)|int (i:Int)|str (x:Str)|byt (b:Array UInt8)|flt (b:UInt64)|ref (a:Addr)|ty (n:String)
 deriving DecidableEq
def ar:V->Value->Prop
 | .non,u=>u=Value.none
 | .bl b,u=>u=Value.bool b
 | .int i,u=>∃ t,u=Value.int i t
 | .str x,u=>∃ t,u=Value.str x t
 | .byt b,u=>∃ t,u=Value.bytes b t
 | .flt b,u=>∃ t,u=Value.float b t
 | .ref a,u=>u=Value.ref a
 | .ty n,u=>u=Value.type n
abbrev ap:List V->List Value->Prop:=Paired ar
theorem ap.length {xs:List V}{us:List Value}(r:ap xs us):xs.length=us.length:=Paired.length r
theorem ap.get:∀ {xs:List V}{us:List Value}{i:Nat}{x:V},ap xs us->xs[i]?=some x->∃ u,us[i]?=some u/\ar x u
 | _,_,_,_,.nil,e=>by simp at e
 | _,_,0,_,.cons r _,e=>by simp at e;subst e;exact⟨_,rfl,r⟩
 | _,_,i+1,x,.cons _ t,e=>by
  obtain⟨u,h1,h2⟩:=ap.get (i:=i) (x:=x) t (by simpa using e)
  exact⟨u,by simpa using h1,h2⟩
theorem ap.set {x:V}{u:Value}(r:ar x u):∀ {xs:List V}{us:List Value} (i:Nat),ap xs us->ap (xs.set i x) (us.set i u)
 | _,_,_,.nil=>.nil
 | _,_,0,.cons _ t=>.cons r t
 | _,_,i+1,.cons q t=>.cons q (ap.set r i t)
theorem ap.append:∀ {xs ys:List V}{us ws:List Value},ap xs us->ap ys ws->ap (xs++ys) (us++ws)
 | _,_,_,_,.nil,s=>s
 | _,_,_,_,.cons r t,s=>.cons r (ap.append t s)
theorem ap.take:∀ {xs:List V}{us:List Value} (n:Nat),ap xs us->ap (xs.take n) (us.take n)
 | _,_,0,_=>.nil
 | _,_,_+1,.nil=>.nil
 | _,_,n+1,.cons r t=>.cons r (ap.take n t)
theorem ap.drop:∀ {xs:List V}{us:List Value} (n:Nat),ap xs us->ap (xs.drop n) (us.drop n)
 | _,_,0,r=>r
 | _,_,_+1,.nil=>.nil
 | _,_,n+1,.cons _ t=>ap.drop n t
def cn:Option V->Option Value->Prop
 | some v,some u=>ar v u
 | none,none=>True
 | _,_=>False
def KV {κ:Type}:List (κ×V)->List (κ×Value)->Prop:=Paired fun (p:κ×V) (q:κ×Value)=>p.1=q.1/\ar p.2 q.2
def kV:af->V
 | .inl i=>.int i
 | .inr x=>.str x
inductive HO where
 | lst (xs:List V)
 | tup (xs:List V)
 | dK (kvs:List (af×V))|dT (kvs:List (List af×V))
 | set (S:Int->Bool) (n:Nat)
 | ins (C dx:Addr) (fs:List (Str×V))
 | own (x:Addr)
 | xd (fs:List (Str×V))
 | met (f x:Addr)
 | rng (lo hi:Int)
 | frz (o:Obj) (u:HO)
 | tbl (ps:Array Value)
 | ext (φ:Heap->Prop)
abbrev Hp:=Addr->Option HO
def upd (H:Hp)(a:Addr)(o:HO):Hp:=fun b=>if b=a then some o else H b
theorem ae {H:Hp}{a:Addr}{o:HO}:upd H a o a=some o:=by unfold upd;rw[if_pos rfl]
theorem upd_ne {H:Hp}{a b:Addr}{o:HO}(h:b≠a):upd H a o b=H b:=by unfold upd;rw[if_neg h]
theorem cW {H:Hp}{a b:Addr}{o u:HO}(h:H a=some o)(h':H b=some u)(d:o≠u):a≠b:=by
 intro e;subst e;rw[h] at h';exact d (Option.some.inj h')
theorem aJ {H:Hp}{a b:Addr}{o:HO}(h:H a=some o)(h':H b=none):a≠b:=by
 intro e;subst e;rw[h] at h';cases h'
section
variable (P:FN)(w:World)
def aS (H:Hp)(h:Heap)(a:Addr):HO->Prop
 | .lst xs=>xs.length<=FO/\∃ (its:List Value) (n:Nat),ap xs its/\h.get? a=some { cls:=.type "list",data:=.seq its.toArray n }
 | .tup xs=>xs.length<=FO/\∃ its:List Value,ap xs its/\IsTup h a its.toArray
 | .dK kvs=>kvs.length<=FO/\(a == FP)=false/\∃ vs,KV kvs vs/\h.DictOf (bc P w) a vs
 | .dT kvs=>kvs.length<=FO/\(a == FP)=false/\∃ xs:List (List af×Addr×Value),
  Paired (fun (p:List af×V) (q:List af×Addr×Value)=>p.1=q.1/\H q.2.1=some (.tup (p.1.map kV))/\ar p.2 q.2.2) kvs xs /\
  ∃ o es ep,h.get? a=some o/\o.ExactDict/\o.data=.dict es ep/\es.toList=xs.map (entryOfKey (FQ (bc P w)))/\(xs.map (·.1)).Nodup
 | .set S n=>h.SetOf (intKind P w) a S n
 | .ins C dx fs=>H dx=some (.own a)/\fs.length<=1000/\dx≠a/\h.get? a=some (W.instObj C dx) /\
  ∃ mA,h.Ns1 dx mA/\(∀ f,cn (fs.lookup f) (mA f))/\PySem.Within mA (fs.map (·.1))
 | .own _=>∃ o,h.get? a=some o
 | .xd fs=>∃ mA,h.Ns1 a mA/\∀ f,cn (fs.lookup f) (mA f)
 | .rng lo hi=>∃ t u v,h.get? a=some { cls:=.type "range",data:=.fields #[.int lo t,.int hi u,.int 1 v] }
 | .frz o u=>h.get? a=some o/\aS H h a u
 | .tbl ps=>h.get? a=some { cls:=.none,data:=.fields ps }
 | .met f x=>h.get? a=some (W.methodObj (.ref f) (.ref x))
 | .ext φ=>φ h/\(∃ o,h.get? a=some o)/\∀ h1 h2:Heap,φ h1->(∀ o,h1.get? a=some o->h2.get? a=some o)->φ h2
def bp (H:Hp)(h:Heap):Prop:=∀ a o,H a=some o->aS P w H h a o
end
section
variable {P:FN}{w:World}{H H':Hp}{h h':Heap}{a:Addr}{o:HO}
theorem aS.lt (x:aS P w H h a o):a<h.objs.size:=by
 cases o with
 | lst xs=>obtain⟨_,_,_,_,e⟩:=x;exact EK e
 | tup xs=>obtain⟨_,_,_,p⟩:=x;exact p.lt
 | dK kvs=>obtain⟨_,_,_,_,o,_,_,e,_⟩:=x;exact EK e
 | dT kvs=>obtain⟨_,_,_,_,o,_,_,e,_⟩:=x;exact EK e
 | set S n=>obtain⟨o,_,_,_,e,_⟩:=x;exact EK e
 | ins C dx fs=>obtain⟨_,_,_,e,_⟩:=x;exact EK e
 | own y=>obtain⟨_,e⟩:=x;exact EK e
 | xd fs=>obtain⟨_,⟨_,_,_,e,_⟩,_⟩:=x;exact EK e
 | rng lo hi=>obtain⟨_,_,_,e⟩:=x;exact EK e
 | frz ob u=>obtain⟨e,_⟩:=x;exact EK e
 | tbl ps=>exact EK (show h.get? a=some _ from x)
 | met f y=>exact EK (show h.get? a=some _ from x)
 | ext φ=>obtain⟨_,⟨_,e⟩,_⟩:=x;exact EK e
theorem Paired.mapP {α β:Type}{F G:α->β->Prop}:∀ {l₁:List α}{l₂:List β},Paired F l₁ l₂->(∀ a b,F a b->G a b)->Paired G l₁ l₂
 | _,_,.nil,_=>.nil
 | _,_,.cons r t,f=>.cons (f _ _ r) (Paired.mapP t f)
theorem aS.stay (x:aS P w H h a o)(k:∀ b u,(b=a\/H b=some (.own a))->h.get? b=some u->h'.get? b=some u)
  (ho:∀ b,H b=some (.own a)->H' b=some (.own a)) (ht:∀ b xs,H b=some (.tup xs)->H' b=some (.tup xs)):aS P w H' h' a o:=by
 induction o with
 | lst xs=>obtain⟨z,its,n,r,e⟩:=x;exact⟨z,its,n,r,k _ _ (.inl rfl) e⟩
 | tup xs=>obtain⟨z,its,r,ob,e,c⟩:=x;exact⟨z,its,r,ob,k _ _ (.inl rfl) e,c⟩
 | dK kvs=>obtain⟨z,y,vs,r,ob,es,ep,e,c⟩:=x;exact⟨z,y,vs,r,ob,es,ep,k _ _ (.inl rfl) e,c⟩
 | dT kvs =>
  obtain⟨z,y,xs,r,ob,es,ep,e,c⟩:=x
  exact⟨z,y,xs,Paired.mapP r fun p q z=>⟨z.1,ht _ _ z.2.1,z.2.2⟩,ob,es,ep,k _ _ (.inl rfl) e,c⟩
 | set S n=>obtain⟨ob,es,ep,t,e,c⟩:=x;exact⟨ob,es,ep,t,k _ _ (.inl rfl) e,c⟩
 | ins C dx fs =>
  obtain⟨d,z,ne,e,mA,⟨od,es,ep,e2,c⟩,r⟩:=x
  exact⟨ho _ d,z,ne,k _ _ (.inl rfl) e,mA,⟨od,es,ep,k _ _ (.inr d) e2,c⟩,r⟩
 | own y=>obtain⟨ob,e⟩:=x;exact⟨ob,k _ _ (.inl rfl) e⟩
 | xd fs=>obtain⟨mA,⟨od,es,ep,e,c⟩,r⟩:=x;exact⟨mA,⟨od,es,ep,k _ _ (.inl rfl) e,c⟩,r⟩
 | rng lo hi=>obtain⟨t,u,v,e⟩:=x;exact⟨t,u,v,k _ _ (.inl rfl) e⟩
 | frz ob u ih=>obtain⟨e,q⟩:=x;exact⟨k _ _ (.inl rfl) e,ih q⟩
 | tbl ps =>
  have e:h.get? a=some { cls:=.none,data:=.fields ps }:=x
  show h'.get? a=some { cls:=.none,data:=.fields ps }
  exact k a _ (.inl rfl) e
 | met f y =>
  have e:h.get? a=some (W.methodObj (.ref f) (.ref y)):=x
  show h'.get? a=some (W.methodObj (.ref f) (.ref y))
  exact k a _ (.inl rfl) e
 | ext φ=>obtain⟨p,⟨o,e⟩,st⟩:=x;exact⟨st _ _ p fun o q=>k _ _ (.inl rfl) q,⟨o,k _ _ (.inl rfl) e⟩,st⟩
theorem bp.lt (x:bp P w H h)(e:H a=some o):a<h.objs.size:=(x a o e).lt
theorem bp.fresh (x:bp P w H h)(e:h.objs.size<=a):H a=none:=by
 cases q:H a with
 | none=>rfl
 | some u=>exact absurd (EW (x.lt q) e) (E3 _)
theorem bp.kept (x:bp P w H h)(k:∀ b u,h.get? b=some u->h'.get? b=some u):bp P w H h':=fun a o e =>
 (x a o e).stay (fun b u _ q=>k b u q) (fun _ q=>q) fun _ _ q=>q
theorem bp.laid (x:bp P w H h)(k:∀ b u,h.get? b=some u->h'.get? b=some u)(hp:h.objs.size<=a)(new:aS P w (upd H a o) h' a o):bp P w (upd H a o) h':=fun b u e=>by
 have hn:=x.fresh hp
 by_cases hb:b=a
 ·subst hb;rw[ae] at e;cases e;exact new
 ·rw[upd_ne hb] at e
  exact(x b u e).stay (fun c v _ q=>k c v q) (fun c q=>by rw[upd_ne (aJ q hn)];exact q) fun c xs q=>by rw[upd_ne (aJ q hn)];exact q
end
def Rd (H:Hp)(a:Addr)(u:HO):Prop:=H a=some u\/∃ o,H a=some (.frz o u)
theorem Rd.ok {P:FN}{w:World}{H:Hp}{h:Heap}{a:Addr}{u:HO}(r:Rd H a u)(x:bp P w H h):aS P w H h a u:=by
 rcases r with r|⟨o,r⟩
 ·exact x a u r
 ·obtain⟨_,q⟩:=x a _ r
  exact q
def iF:Option HO->Prop
 | some (.lst _)=>True
 | some (.dK _)=>True
 | some (.dT _)=>True
 | some (.set _ _)=>True
 | some (.ins _ _ _)=>True
 | some (.ext _)=>True
 | _=>False
section
variable {P:FN}{w:World}{H:Hp}{h h':Heap}{x e:Addr}{o':HO}
theorem bp.write (ok:bp P w H h)(mu:iF (H x))(he:e=x\/H e=some (.own x))(k:∀ b u,b≠e->h.get? b=some u->h'.get? b=some u)(heo:∃ u,h'.get? e=some u)
  (new:aS P w (upd H x o') h' x o'):bp P w (upd H x o') h':=fun b u q=>by
 have nown:∀ c y,H c=some (.own y)->c≠x:=fun c y r z=>by subst z;rw[r] at mu;exact mu
 have ntup:∀ c xs,H c=some (.tup xs)->c≠x:=fun c xs r z=>by subst z;rw[r] at mu;exact mu
 by_cases hb:b=x
 ·subst hb;rw[ae] at q;cases q;exact new
 ·rw[upd_ne hb] at q
  by_cases hbe:b=e
  ·have q':H b=some (.own x):=by
    rcases he with z|z
    ·exact absurd (hbe.trans z) hb
    ·rw[hbe];exact z
   rw[q] at q';cases q'
   obtain⟨v,hv⟩:=heo
   exact⟨v,by rw[hbe];exact hv⟩
  ·refine(ok b u q).stay (fun c v hc r=>k c v ?_ r) (fun c r=>by rw[upd_ne (nown c b r)];exact r) fun c xs r=>by rw[upd_ne (ntup c xs r)];exact r
   rcases hc with rfl|hc
   ·exact hbe
   ·rintro rfl
    rcases he with z|z
    ·exact nown c b hc z
    ·rw[hc] at z;cases z;exact hb rfl
end
structure Un (fs ex:List Addr)(H H':Hp)(h h':Heap):Prop where
 keep:∀ b o,h.get? b=some o->H b=none->b∉fs->b∉ex->h'.get? b=some o
 slot:∀ b o,h.get? b=some o->H b=none->b∈fs->b∉ex->∃ sl,h'.get? b=some { o with slots:=sl }
 free:∀ b o,h.get? b=some o->H b=none->b∉ex->H' b=none
 there:∀ b o,h.get? b=some o->b∉ex->∃ o',h'.get? b=some o'
 tups:∀ b xs,H b=some (.tup xs)->H' b=some (.tup xs)
 frzs:∀ b o u,H b=some (.frz o u)->H' b=some (.frz o u)
 tbls:∀ b ps,H b=some (.tbl ps)->∃ more,H' b=some (.tbl (ps++more))
section
variable {fs fs' ex ex':List Addr}{H H1 H2:Hp}{h h1 h2 h':Heap}{a x e:Addr}{o:HO}
theorem Un.any (u:Un fs ex H H1 h h1){b:Addr}{ob:Obj}(q:h.get? b=some ob)(n:H b=none)(hx:b∉ex):∃ sl,h1.get? b=some { ob with slots:=sl }:=by
 by_cases hb:b∈fs
 ·exact u.slot b ob q n hb hx
 ·exact⟨ob.slots,u.keep b ob q n hb hx⟩
theorem Un.kept (k:∀ b u,h.get? b=some u->h'.get? b=some u):Un fs ex H H h h' :=
 ⟨fun b ob q _ _ _=>k b ob q,fun b ob q _ _ _=>⟨ob.slots,k b ob q⟩,fun _ _ _ n _=>n,fun b ob q _=>⟨ob,k b ob q⟩,fun _ _ q=>q,fun _ _ _ q=>q,fun _ ps q=>⟨#[],by rw[q];simp⟩⟩
theorem Un.refl:Un fs ex H H h h:=Un.kept fun _ _ q=>q
theorem Un.laid (k:∀ b u,h.get? b=some u->h'.get? b=some u)(hp:h.objs.size<=a)(hn:H a=none):Un fs ex H (upd H a o) h h' where
 keep:=fun b u q _ _ _=>k b u q
 slot:=fun b u q _ _ _=>⟨u.slots,k b u q⟩
 free:=fun b u q n _=>by rw[upd_ne (EV (EW (EK q) hp))];exact n
 there:=fun b u q _=>⟨u,k b u q⟩
 tups:=fun b xs q=>by rw[upd_ne (aJ q hn)];exact q
 frzs:=fun b u xs q=>by rw[upd_ne (aJ q hn)];exact q
 tbls:=fun b ps q=>⟨#[],by rw[upd_ne (aJ q hn),q];simp⟩
theorem Un.write (mu:iF (H x))(he:e=x\/H e=some (.own x))(k:∀ b u,b≠e->h.get? b=some u->h'.get? b=some u)(heo:∃ u,h'.get? e=some u):Un fs ex H (upd H x o) h h':=by
 have hx:∀ b,H b=none->b≠x:=fun b n z=>by subst z;rw[n] at mu;exact mu
 have hb:∀ b,H b=none->b≠e:=fun b n z=>by
  subst z
  rcases he with r|r
  ·exact hx b n r
  ·rw[n] at r;cases r
 have hm:∀ b u,H b=some u->¬ iF (some u)->b≠x:=fun b u q nm z=>by subst z;rw[q] at mu;exact nm mu
 refine⟨fun b u q n _ _=>k b u (hb b n) q,fun b u q n _ _=>⟨u.slots,k b u (hb b n) q⟩,fun b u q n _=>by rw[upd_ne (hx b n)];exact n,fun b u q _=>?_,
  fun b xs q=>by rw[upd_ne (hm b _ q fun z=>z)];exact q,fun b u xs q=>by rw[upd_ne (hm b _ q fun z=>z)];exact q,fun b ps q=>⟨#[],by rw[upd_ne (hm b _ q fun z=>z),q];simp⟩⟩
 by_cases hbe:b=e
 ·subst hbe;exact heo
 ·exact⟨u,k b u hbe q⟩
end
def jG (h:Heap)(H:Hp):List Addr:=(C2 h.objs.size).filter fun a=>(H a).isSome
def fx (h:Heap)(H:Hp):Heap:=W.hideAll h (jG h H)
theorem wP (h:Heap)(H:Hp):(fx h H).objs.size=h.objs.size:=W.hideAll_size _ _
theorem xq {h:Heap}{H:Hp}{b:Addr}{o:Obj}(e:h.get? b=some o)(n:H b=none):(fx h H).get? b=some o :=
 W.hideAll_get _ e fun hm=>by
  have q:(H b).isSome=true:=(List.mem_filter.mp hm).2
  rw[n] at q;simp at q
theorem BQ {h:Heap}{H:Hp}{b:Addr}{o:Obj}(e:(fx h H).get? b=some o):h.get? b=some o/\H b=none:=by
 have e':h.get? b=some o:=W.of_hideAll (jG h H) e
 refine⟨e',?_⟩
 cases q:H b with
 | none=>rfl
 | some x =>
  have hm:b∈jG h H:=List.mem_filter.mpr ⟨List.mem_range.mpr (EK e'),by simp[q]⟩
  have z:(fx h H).get? b=none:=W.hideAll_none (jG h H) hm
  rw[z] at e;cases e
end L2
namespace L2
open PySem PySem.Spec PyProof.Rows
structure Mod (K:W.Frag)(mg:Str->Option Value)(base:Heap):Prop where
 kin:K.In base
 glob:base.Ns FR mg
 blt:∃ mb,base.Ns builtinsNs mb/\∀ x:Str,x≠"__name__"->mb x=FS x
 nolimit:base.NoLimit
structure Cx where
 prog:FN
 w:World
 K:W.Frag
 mg:Str->Option Value
 base:Heap
 A:Around
 N:List Str
 s₀:Shared
 H₀:Hp
 env:Env
 outer:List Env
 stack:List Env
 ex:List Addr
 fn:Str->Bool
 calm:Bool
 pn:List (Addr×Obj)
 xe:Value->Shared->Prop
def dS (l:List Env):List Addr:=l.filterMap (·.frame)
abbrev Cx.fs (X:Cx):List Addr:=dS X.outer
def gG (sc:Scope)(x:Str):Prop:=sc.names.lookup x=some .local\/sc.names.lookup x=some .cell\/sc.names.lookup x=some .free
def jh (sc:Scope)(x:Str):Prop:=sc.names.lookup x=some .local\/sc.names.lookup x=some .cell
def zu (env:Env)(h:Heap)(m:Str->Option Value)(x:Str)(u:Value):Prop :=
 (env.kindOf x=some .local/\m x=some u)\/((env.kindOf x=some .cell\/env.kindOf x=some .free)/\∃ c,env.cells.lookup x=some c/\h.IsCell c (some u))
structure Cx.Ok (X:Cx):Prop where
 mod:Mod X.K X.mg X.base
 kind:X.env.scope.kind=.function
 glob:X.env.globals=FR
 blt:X.env.builtins=builtinsNs
 above:X.s₀.heap.objs.size<=X.env.locals
 inj:∀ x y c,X.env.cells.lookup x=some c->X.env.cells.lookup y=some c->x=y
 has:∀ x,(X.env.kindOf x=some .cell\/X.env.kindOf x=some .free)->∃ c,X.env.cells.lookup x=some c
 cab:∀ x c,X.fn x=true->X.env.cells.lookup x=some c->X.s₀.heap.objs.size<=c
 hd:X.calm=true->X.A.handled=none
 frames:X.A.frames=some X.stack
 stk:X.stack=X.outer\/(X.stack=X.env::X.outer/\X.env.frame=some X.env.locals)
 exf:∀ b∈X.ex,b≠X.env.locals/\∀ x c,X.env.cells.lookup x=some c->c≠b
 bs:∀ b o,X.base.get? b=some o->X.s₀.heap.get? b=some o/\X.H₀ b=none
 bsz:X.base.objs.size<=X.s₀.heap.objs.size
 noex:∀ b o,X.base.get? b=some o->b∉X.ex
 exfs:∀ b∈X.ex,b∉X.fs
 funs:X.s₀.heap.FunFrames X.base X.outer
 frf:∀ b∈X.fs,X.H₀ b=none
structure aa (X:Cx)(pins:List (Addr×Obj))(σ:List (Option V))(H:Hp)(s:Shared):Prop where
 ok:X.Ok
 os:s.os=X.s₀.os
 bare:FT s.gens
 base:Un X.fs X.ex X.H₀ H X.s₀.heap s.heap
 loc:∃ m,s.heap.Ns X.env.locals m/\∀ (i:Nat) (x:Str) (v:V),X.N[i]?=some x->σ[i]?=some (some v)->gG X.env.scope x->∃ u,ar v u/\zu X.env s.heap m x u
 cell:∀ x c,X.env.cells.lookup x=some c->∃ v,s.heap.IsCell c v
 free:H X.env.locals=none
 freeC:∀ x c,X.env.cells.lookup x=some c->H c=none
 pin:∀ p∈X.pn++pins,s.heap.get? p.1=some p.2/\H p.1=none/\p.1≠X.env.locals/\p.1∉X.fs/\∀ v,p.2.data≠.cell v
 hok:bp X.prog X.w H s.heap
 len:σ.length=X.N.length
section
variable {X:Cx}{pins:List (Addr×Obj)}{σ:List (Option V)}{H H':Hp}{s:Shared}{h':Heap}
theorem Cx.Ok.nofr (ok:X.Ok){b:Addr}{o:Obj}(e:X.base.get? b=some o):b∉X.fs:=fun hb=>by
 have:=(ok.funs.mem hb).1
 rw[e] at this;cases this
theorem aa.bs (I:aa X pins σ H s):∀ b o,X.base.get? b=some o->s.heap.get? b=some o/\H b=none:=fun b o e =>
 ⟨I.base.keep b o (I.ok.bs b o e).1 (I.ok.bs b o e).2 (I.ok.nofr e) (I.ok.noex b o e),I.base.free b o (I.ok.bs b o e).1 (I.ok.bs b o e).2 (I.ok.noex b o e)⟩
theorem aa.bk (I:aa X pins σ H s):∀ b o,X.base.get? b=some o->s.heap.get? b=some o:=fun b o e=>(I.bs b o e).1
theorem aa.mod (I:aa X pins σ H s):Mod X.K X.mg X.base:=I.ok.mod
theorem aa.kIn (I:aa X pins σ H s):X.K.In s.heap:=I.ok.mod.kin.keeps I.bk
theorem aa.lt (I:aa X pins σ H s):X.env.locals<s.heap.objs.size:=let ⟨_,hn,_⟩:=I.loc;hn.lt
theorem aa.sz (I:aa X pins σ H s):X.s₀.heap.objs.size<=s.heap.objs.size:=EY I.ok.above (E7 I.lt)
theorem aa.nofs (I:aa X pins σ H s){a:Addr}(h:s.heap.objs.size<=a):a∉X.fs:=fun hb=>by
 obtain⟨_,o,ho,_⟩:=I.ok.funs.mem hb
 exact absurd (EW (EK ho) (EY I.sz h)) (E3 _)
theorem aa.cne (I:aa X pins σ H s):∀ x c,X.env.cells.lookup x=some c->c≠X.env.locals:=fun x c e z=>by
 obtain⟨v,o,ho,hd⟩:=I.cell x c e
 obtain⟨m,⟨o',es,ep,ho',hd',_⟩,_⟩:=I.loc
 rw[z,ho'] at ho;cases ho;rw[hd'] at hd;cases hd
theorem aa.funs (I:aa X pins σ H s):s.heap.FunFrames X.base X.outer:=by
 have all:∀ (l:List Env),(∀ b∈dS l,b∈X.fs)->X.s₀.heap.FunFrames X.base l->s.heap.FunFrames X.base l:=by
  intro l
  induction l with
  | nil=>intro _ _;trivial
  | cons env r ih =>
   intro hs hl
   obtain⟨hk,⟨L,o,hf,hn,ho,hd⟩,hr⟩:=hl
   have hL:L∈X.fs:=hs L (by unfold dS;rw[DQ,hf];exact C6)
   obtain⟨sl,e⟩:=I.base.slot L o ho (I.ok.frf L hL) hL fun z=>I.ok.exfs L z hL
   exact⟨hk,⟨L,_,hf,hn,e,hd⟩,ih (fun b hb=>hs b (by unfold dS;rw[DQ,hf];exact C5 _ hb)) hr⟩
 exact all X.outer (fun _ hb=>hb) I.ok.funs
theorem aa.stack (I:aa X pins σ H s):s.heap.FunFrames X.base X.stack:=by
 rcases I.ok.stk with e|⟨e,hf⟩
 ·rw[e];exact I.funs
 ·rw[e]
  obtain⟨m,hn,_⟩:=I.loc
  refine .cons (by rw[I.ok.kind];decide) hf hn ?_ I.funs
  exact ER (EY I.ok.bsz I.ok.above)
theorem aa.stkSub (I:aa X pins σ H s):∀ b∈dS X.stack,b∈X.env.locals::X.fs:=fun b hb=>by
 rcases I.ok.stk with e|⟨e,hf⟩
 ·rw[e] at hb;exact C5 _ hb
 ·rw[e] at hb
  unfold dS at hb
  rw[DQ,hf] at hb
  exact hb
theorem aa.stkFree (I:aa X pins σ H s):∀ b∈dS X.stack,H b=none:=fun b hb=>by
 rcases List.mem_cons.mp (I.stkSub b hb) with e|hb
 ·rw[e];exact I.free
 ·obtain⟨_,o,ho,_⟩:=I.ok.funs.mem hb
  exact I.base.free b o ho (I.ok.frf b hb) fun z=>I.ok.exfs b z hb
theorem aa.step {g':Array GenState}{t':Nat}{d':Drawn}{ch:List Addr}(I:aa X pins σ H s)
  (hch:∀ b∈ch,(b∈X.ex\/X.s₀.heap.objs.size<=b)/\b≠X.env.locals/\(∀ x c,X.env.cells.lookup x=some c->c≠b)/\∀ p∈X.pn++pins,p.1≠b)
  (keep:∀ b o,b≠X.env.locals->b∉X.fs->b∉ch->s.heap.get? b=some o->H b=none->h'.get? b=some o)
  (slot:∀ b o,b≠X.env.locals->b∈X.fs->b∉ch->s.heap.get? b=some o->H b=none->∃ sl,h'.get? b=some { o with slots:=sl }) (free:∀ b o,b∉ch->s.heap.get? b=some o->H b=none->H' b=none)
  (there:∀ b o,b∉ch->s.heap.get? b=some o->∃ o',h'.get? b=some o')
  (tups:∀ b xs,H b=some (.tup xs)->H' b=some (.tup xs)) (frzs:∀ b o u,H b=some (.frz o u)->H' b=some (.frz o u)) (tbls:∀ b ps,H b=some (.tbl ps)->∃ more,H' b=some (.tbl (ps++more)))
  (ns:∀ m,s.heap.Ns X.env.locals m->h'.Ns X.env.locals m) (hok:bp X.prog X.w H' h') (hg:FT g') :
  aa X pins σ H' { s with heap:=h',gens:=g',drawn:=d',toks:=t' }:=by
 have neL:∀ b o,X.s₀.heap.get? b=some o->b≠X.env.locals:=fun b o e=>EV (EW (EK e) I.ok.above)
 have neC:∀ b o,X.s₀.heap.get? b=some o->b∉X.ex->b∉ch:=fun b o e hx hb=>by
  rcases (hch b hb).1 with z|z
  ·exact hx z
  ·exact absurd (EW (EK e) z) (E3 _)
 have cellK:∀ x c,X.env.cells.lookup x=some c->∀ v,s.heap.IsCell c v->h'.IsCell c v:=fun x c e v ⟨o,ho,hd⟩=>by
  have nch:c∉ch:=fun z=>(hch c z).2.2.1 x c e rfl
  by_cases hc:c∈X.fs
  ·obtain⟨sl,q⟩:=slot c o (I.cne x c e) hc nch ho (I.freeC x c e)
   exact⟨_,q,hd⟩
  ·exact⟨o,keep c o (I.cne x c e) hc nch ho (I.freeC x c e),hd⟩
 refine⟨I.ok,I.os,hg,⟨fun b o e n hb hx=>?_,fun b o e n hb hx=>?_,fun b o e n hx=>?_,fun b o e hx=>?_,fun b xs e=>tups b xs (I.base.tups b xs e),fun b o xs e=>frzs b o xs (I.base.frzs b o xs e),fun b ps e=>?_⟩,?_,fun x c e=>?_,?_,fun x c e=>?_,fun p hp=>?_,hok,I.len⟩
 ·exact keep b o (neL b o e) hb (neC b o e hx) (I.base.keep b o e n hb hx) (I.base.free b o e n hx)
 ·obtain⟨sl,e1⟩:=I.base.slot b o e n hb hx
  obtain⟨sl',e2⟩:=slot b _ (neL b o e) hb (neC b o e hx) e1 (I.base.free b o e n hx)
  exact⟨sl',e2⟩
 ·obtain⟨o',e1⟩:=I.base.there b o e hx
  exact free b o' (neC b o e hx) e1 (I.base.free b o e n hx)
 ·obtain⟨o',e1⟩:=I.base.there b o e hx
  exact there b o' (neC b o e hx) e1
 ·obtain⟨m1,e1⟩:=I.base.tbls b ps e
  obtain⟨m2,e2⟩:=tbls b _ e1
  exact⟨m1++m2,by rw[e2,Array.append_assoc]⟩
 ·obtain⟨m,hn,hl⟩:=I.loc
  refine⟨m,ns m hn,fun i x v e1 e2 e3=>?_⟩
  obtain⟨u,r,l⟩:=hl i x v e1 e2 e3
  refine⟨u,r,?_⟩
  rcases l with l|⟨k,c,e,z⟩
  ·exact .inl l
  ·exact .inr ⟨k,c,e,cellK x c e _ z⟩
 ·obtain⟨v,z⟩:=I.cell x c e
  exact⟨v,cellK x c e v z⟩
 ·obtain⟨m,⟨o,_,_,ho,_⟩,_⟩:=I.loc
  exact free _ o (fun z=>(hch _ z).2.1 rfl) ho I.free
 ·obtain⟨v,o,ho,hd⟩:=I.cell x c e
  exact free c o (fun z=>(hch c z).2.2.1 x c e rfl) ho (I.freeC x c e)
 ·obtain⟨e,n,ne,nf,d⟩:=I.pin p hp
  have nch:p.1∉ch:=fun z=>(hch p.1 z).2.2.2 p hp rfl
  exact⟨keep p.1 p.2 ne nf nch e n,free p.1 p.2 nch e n,ne,nf,d⟩
theorem aa.un {t':Nat}(I:aa X pins σ H s)(u:Un X.fs [] H H' s.heap h')(hok:bp X.prog X.w H' h'):aa X pins σ H' { s with heap:=h',toks:=t' }:=by
 obtain⟨m,⟨o,es,ep,ho,r⟩,_⟩:=id I.loc
 obtain⟨sl,hL⟩:=u.any ho I.free (by simp)
 exact I.step (g':=s.gens) (d':=s.drawn) (ch:=[]) (fun _ z=>nomatch z) (fun b o _ hb _ e n=>u.keep b o e n hb (by simp)) (fun b o _ hb _ e n=>u.slot b o e n hb (by simp)) (fun b o _ e n=>u.free b o e n (by simp)) (fun b o _ e=>u.there b o e (by simp)) u.tups u.frzs u.tbls (fun m' hm=>by
  obtain⟨o',es',ep',ho',r'⟩:=hm
  rw[ho] at ho';cases ho'
  exact⟨_,es',ep',hL,r'⟩) hok I.bare
theorem aa.call {g':Array GenState}{t':Nat}{d':Drawn}{ch:List Addr}(I:aa X pins σ H s)(u:Un (dS X.stack) ch H H' s.heap h')(hok:bp X.prog X.w H' h')(hg:FT g')
  (hch:∀ b∈ch,(b∈X.ex\/X.s₀.heap.objs.size<=b)/\b≠X.env.locals/\(∀ x c,X.env.cells.lookup x=some c->c≠b)/\∀ p∈X.pn++pins,p.1≠b) :
  aa X pins σ H' { s with heap:=h',gens:=g',drawn:=d',toks:=t' }:=by
 obtain⟨m,⟨o,es,ep,ho,r⟩,_⟩:=id I.loc
 obtain⟨sl,hL⟩:=u.any ho I.free fun z=>(hch _ z).2.1 rfl
 exact I.step (ch:=ch) hch (fun b o hL hb hc e n=>u.keep b o e n (fun z=>(List.mem_cons.mp (I.stkSub b z)).elim hL hb) hc) (fun b o _ _ hc e n=>u.any e n hc) (fun b o hc e n=>u.free b o e n hc) (fun b o hc e=>u.there b o e hc) u.tups u.frzs u.tbls (fun m' hm=>by
  obtain⟨o',es',ep',ho',r'⟩:=hm
  rw[ho] at ho';cases ho'
  exact⟨_,es',ep',hL,r'⟩) hok hg
theorem aa.turned {t':Nat}{it:Addr}(I:aa X pins σ H s)(k:∀ b o,b≠it->s.heap.get? b=some o->h'.get? b=some o)(hn:H it=none)(hL:it≠X.env.locals)
  (h1:it∈X.ex\/X.s₀.heap.objs.size<=it) (h2:∀ x c,X.env.cells.lookup x=some c->c≠it) (h3:∀ p∈X.pn++pins,p.1≠it):aa X pins σ H { s with heap:=h',toks:=t' }:=by
 have nit:∀ b u,H b=some u->b≠it:=fun b u e z=>by rw[z,hn] at e;cases e
 refine I.step (g':=s.gens) (d':=s.drawn) (ch:=[it]) (fun b hb=>?_) (fun b o _ _ hc e _=>k b o (fun z=>hc (by simp[z])) e) (fun b o _ _ hc e _=>⟨o.slots,k b o (fun z=>hc (by simp[z])) e⟩) (fun _ _ _ _ n=>n)
  (fun b o hc e=>⟨o,k b o (fun z=>hc (by simp[z])) e⟩) (fun _ _ e=>e) (fun _ _ _ e=>e) (fun b ps e=>⟨#[],by rw[e];simp⟩) (fun m hm=>?_) (fun b u e=>?_) I.bare
 ·have e:b=it:=by simpa using hb
  subst e
  exact⟨h1,hL,h2,h3⟩
 ·obtain⟨o,es,ep,ho,r⟩:=hm
  exact⟨o,es,ep,k _ o (Ne.symm hL) ho,r⟩
 ·refine(I.hok b u e).stay (fun c v hc q=>k c v ?_ q) (fun _ q=>q) fun _ _ q=>q
  rcases hc with z|z
  ·rw[z];exact nit b u e
  ·exact nit c _ z
theorem aa.tok (I:aa X pins σ H s)(t:Nat):aa X pins σ H { s with toks:=t }:=I.un (h':=s.heap) (t':=t) Un.refl I.hok
theorem aa.kept {t':Nat}(I:aa X pins σ H s)(k:∀ b u,s.heap.get? b=some u->h'.get? b=some u):aa X pins σ H { s with heap:=h',toks:=t' }:=I.un (Un.kept k) (I.hok.kept k)
theorem aa.laid {a:Addr}{o:HO}{t':Nat}(I:aa X pins σ H s)(k:∀ b u,s.heap.get? b=some u->h'.get? b=some u)(hp:s.heap.objs.size<=a)(new:aS X.prog X.w (upd H a o) h' a o) :
 aa X pins σ (upd H a o) { s with heap:=h',toks:=t' }:=I.un (Un.laid k hp (I.hok.fresh hp)) (I.hok.laid k hp new)
theorem aa.write {x e:Addr}{o:HO}{t':Nat}(I:aa X pins σ H s)(mu:iF (H x))(he:e=x\/H e=some (.own x))(k:∀ b u,b≠e->s.heap.get? b=some u->h'.get? b=some u)(heo:∃ u,h'.get? e=some u)
 (new:aS X.prog X.w (upd H x o) h' x o):aa X pins σ (upd H x o) { s with heap:=h',toks:=t' }:=I.un (Un.write mu he k heo) (I.hok.write mu he k heo new)
theorem aa.pins_of {pins':List (Addr×Obj)}(I:aa X pins σ H s)(h:∀ p∈pins',s.heap.get? p.1=some p.2/\H p.1=none/\p.1≠X.env.locals/\p.1∉X.fs/\∀ v,p.2.data≠.cell v):aa X pins' σ H s :=
 ⟨I.ok,I.os,I.bare,I.base,I.loc,I.cell,I.free,I.freeC,fun p hp=>(List.mem_append.mp hp).elim (fun z=>I.pin p (Dj _ z)) (h p),I.hok,I.len⟩
theorem oK {N:List Str}(hN:N.Nodup){i j:Nat}{x:Str}(a:N[i]?=some x)(b:N[j]?=some x):i=j:=by
 obtain⟨h1,e1⟩:=List.getElem?_eq_some_iff.mp a
 obtain⟨h2,e2⟩:=List.getElem?_eq_some_iff.mp b
 exact(List.getElem_inj hN).mp (e1.trans e2.symm)
theorem ub {M:Model}{A:Around}{E:Value->Shared->Prop}{i:Nat}{x:Str}{v:V}{u:Value}{Q:Unit->Shared->Prop}(I:aa X pins σ H s)(hN:X.N.Nodup)(hi:X.N[i]?=some x)(hx:jh X.env.scope x)(r:ar v u)
  (h:∀ s',aa X pins (σ.set i (some v)) H s'->(∃ a,Heap.SameBut a s.heap s'.heap/\(a=X.env.locals\/X.env.cells.lookup x=some a))->Q () s') (hf:X.fn x=true\/X.env.scope.names.lookup x=some .local:=by first|exact .inl rfl|exact .inr rfl|assumption):wpAny M A (storeName X.env x u) Q E s:=by
 obtain⟨m,hn,hl⟩:=id I.loc
 have hcls:(X.env.scope.kind == .class || (X.env.scope.kind == .module && X.env.locals != X.env.globals))=false:=by rw[I.ok.kind];rfl
 have hiσ:i<σ.length:=by rw[I.len];exact(List.getElem?_eq_some_iff.mp hi).1
 have cne:=I.cne
 have tracked:∀ {a:Addr}{h':Heap},(∃ o,s.heap.get? a=some o/\H a=none)->Heap.SameBut a s.heap h'->bp X.prog X.w H h':=fun {a h'} ha hs b ob e=>by
  obtain⟨_,_,hfree⟩:=ha
  refine(I.hok b ob e).stay (fun c w' hc q=>(hs.2 c ?_).trans q) (fun _ q=>q) fun _ _ q=>q
  rintro rfl
  rcases hc with rfl|hc
  ·rw[hfree] at e;cases e
  ·rw[hfree] at hc;cases hc
 rcases hx with hk|hk
 ·refine wpAny_storeName_local hk hn (fun h' hn' hs=>?_) hcls
  obtain⟨oL,_,_,hoL,_⟩:=id hn
  refine h _ ⟨I.ok,I.os,I.bare,⟨fun b o e n hb hx=>?_,fun b o e n hb hx=>?_,I.base.free,fun b o e hx=>?_,I.base.tups,I.base.frzs,I.base.tbls⟩,⟨_,hn',fun j y v' e1 e2 e3=>?_⟩,fun y c e=>?_,I.free,I.freeC,fun p hp=>?_,tracked ⟨oL,hoL,I.free⟩ hs,by simpa using I.len⟩ ⟨_,hs,.inl rfl⟩
  ·exact(hs.2 b (EV (EW (EK e) I.ok.above))).trans (I.base.keep b o e n hb hx)
  ·obtain⟨sl,e1⟩:=I.base.slot b o e n hb hx
   exact⟨sl,(hs.2 b (EV (EW (EK e) I.ok.above))).trans e1⟩
  ·obtain⟨o',e1⟩:=I.base.there b o e hx
   exact⟨o',(hs.2 b (EV (EW (EK e) I.ok.above))).trans e1⟩
  ·by_cases hj:j=i
   ·subst hj
    rw[hi] at e1;cases e1
    rw[Er hiσ] at e2
    cases e2
    exact⟨u,r,.inl ⟨hk,by simp⟩⟩
   ·rw[Es (Ne.symm hj)] at e2
    obtain⟨u',r',q⟩:=hl j y v' e1 e2 e3
    refine⟨u',r',?_⟩
    rcases q with⟨k,e⟩|⟨k,c,e,z⟩
    ·refine .inl ⟨k,?_⟩
     have:y≠x:=fun e=>hj (oK hN e1 (e▸hi))
     simp[this,e]
    ·exact .inr ⟨k,c,e,z.sameBut hs (cne y c e)⟩
  ·obtain⟨w',z⟩:=I.cell y c e
   exact⟨w',z.sameBut hs (cne y c e)⟩
  ·obtain⟨e,n,ne,nf,d⟩:=I.pin p hp
   exact⟨(hs.2 p.1 ne).trans e,n,ne,nf,d⟩
 ·have hfn:X.fn x=true:=by
   rcases hf with z|z
   ·exact z
   ·rw[z] at hk;cases hk
  obtain⟨c,hc⟩:=I.ok.has x (.inl hk)
  obtain⟨w',z⟩:=I.cell x c hc
  refine wpAny_storeName_cell I.ok.kind hk hc z (fun h' hc' hs=>?_)
  obtain⟨oc,hoc,hocd⟩:=id z
  refine h { s with heap:=h' } ⟨I.ok,I.os,I.bare,⟨fun b o e n hb hx=>?_,fun b o e n hb hx=>?_,I.base.free,fun b o e hx=>?_,I.base.tups,I.base.frzs,I.base.tbls⟩,⟨m,hn.sameBut hs (Ne.symm (cne x c hc)),fun j y v' e1 e2 e3=>?_⟩,fun y c' e=>?_,I.free,I.freeC,fun p hp=>?_,tracked ⟨oc,hoc,I.freeC x c hc⟩ hs,by simpa using I.len⟩ ⟨c,hs,.inr hc⟩
  ·exact(hs.2 b (EV (EW (EK e) (I.ok.cab x c hfn hc)))).trans (I.base.keep b o e n hb hx)
  ·obtain⟨sl,e1⟩:=I.base.slot b o e n hb hx
   exact⟨sl,(hs.2 b (EV (EW (EK e) (I.ok.cab x c hfn hc)))).trans e1⟩
  ·obtain⟨o',e1⟩:=I.base.there b o e hx
   exact⟨o',(hs.2 b (EV (EW (EK e) (I.ok.cab x c hfn hc)))).trans e1⟩
  ·by_cases hj:j=i
   ·subst hj
    rw[hi] at e1;cases e1
    rw[Er hiσ] at e2
    cases e2
    exact⟨u,r,.inr ⟨.inl hk,c,hc,hc'⟩⟩
   ·rw[Es (Ne.symm hj)] at e2
    obtain⟨u',r',q⟩:=hl j y v' e1 e2 e3
    refine⟨u',r',?_⟩
    rcases q with q|⟨k,c',e,z'⟩
    ·exact .inl q
    ·refine .inr ⟨k,c',e,z'.sameBut hs ?_⟩
     rintro rfl
     exact hj (oK hN e1 (I.ok.inj _ _ _ e hc▸hi))
  ·by_cases hcc:c'=c
   ·subst hcc;exact⟨_,hc'⟩
   ·obtain⟨w2,z2⟩:=I.cell y c' e
    exact⟨w2,z2.sameBut hs hcc⟩
  ·obtain⟨e,n,ne,nf,d⟩:=I.pin p hp
   refine⟨(hs.2 p.1 ?_).trans e,n,ne,nf,d⟩
   intro q
   rw[q,hoc] at e
   have q':oc=p.2:=Option.some.inj e
   exact d w' (by rw[<-q'];exact hocd)
theorem iN {M:Model}{A:Around}{E:Value->Shared->Prop}{i:Nat}{x:Str}{v:V}{u:Value}{Q:Unit->Shared->Prop}(I:aa X pins σ H s)(hN:X.N.Nodup)(hi:X.N[i]?=some x)(hx:jh X.env.scope x)(r:ar v u)
  (h:∀ s',aa X pins (σ.set i (some v)) H s'->Q () s') (hf:X.fn x=true\/X.env.scope.names.lookup x=some .local:=by first|exact .inl rfl|exact .inr rfl|assumption):wpAny M A (storeName X.env x u) Q E s :=
 ub I hN hi hx r (fun s' I' _=>h s' I') hf
theorem aa.call' {s':Shared}{ch:List Addr}(I:aa X pins σ H s)(ho:s'.os=s.os)(u:Un (dS X.stack) ch H H' s.heap s'.heap)(hok:bp X.prog X.w H' s'.heap)(hg:FT s'.gens)
  (hch:∀ b∈ch,(b∈X.ex\/X.s₀.heap.objs.size<=b)/\b≠X.env.locals/\(∀ x c,X.env.cells.lookup x=some c->c≠b)/\∀ p∈X.pn++pins,p.1≠b):aa X pins σ H' s':=by
 obtain⟨h',g',d',t',o'⟩:=s'
 have e:o'=s.os:=ho
 subst e
 exact I.call (g':=g') (t':=t') (d':=d') u hok hg hch
end
abbrev XK:=Value->Option Addr->Hp->Prop
abbrev St:=List (Option V)
abbrev VK:=V->Hp->Prop
abbrev TE:=St->Hp->VK->Prop
abbrev TT:=St->Hp->(Bool->Hp->Prop)->Prop
abbrev TA:=St->Hp->(List V->Hp->Prop)->Prop
structure cU where
 nx:St->Hp->Prop
 rt:VK
 bk:St->Hp->Prop:=fun _ _=>False
 ct:St->Hp->Prop:=fun _ _=>False
abbrev TS:=cU->St->Hp->Prop
def EP (X:Cx)(pins:List (Addr×Obj))(σ:St)(Q:VK)(u:Value)(s':Shared):Prop:=∃ v H',aa X pins σ H' s'/\ar v u/\Q v H'
def TP (X:Cx)(pins:List (Addr×Obj))(σ:St)(Q:Bool->Hp->Prop)(b:Bool)(s':Shared):Prop:=∃ H',aa X pins σ H' s'/\Q b H'
def AP (X:Cx)(pins:List (Addr×Obj))(σ:St)(Q:List V->Hp->Prop)(us:List Value)(s':Shared):Prop:=∃ vs H',aa X pins σ H' s'/\ap vs us/\Q vs H'
def SP (X:Cx)(pins:List (Addr×Obj))(D:cU)(f:Flow)(s':Shared):Prop :=
 match f with
 | .next=>∃ σ' H',aa X pins σ' H' s'/\D.nx σ' H'
 | .brk=>∃ σ' H',aa X pins σ' H' s'/\D.bk σ' H'
 | .cont=>∃ σ' H',aa X pins σ' H' s'/\D.ct σ' H'
 | .ret u=>∃ v σ' H',aa X pins σ' H' s'/\ar v u/\D.rt v H'
structure PE (X:Cx)(e:Expr)(t:TE):Prop where
 go:∀ (pins:List (Addr×Obj)) (s:Shared) (σ:St) (H:Hp) (Q:VK),aa X pins σ H s->t σ H Q->wpAny (model X.prog X.w) X.A (eval e X.env) (EP X pins σ Q) X.xe s
instance {X:Cx}{e:Expr}{t:TE}:CoeFun (PE X e t) (fun _=>∀ (pins:List (Addr×Obj)) (s:Shared) (σ:St) (H:Hp) (Q:VK),aa X pins σ H s->t σ H Q->wpAny (model X.prog X.w) X.A (eval e X.env) (EP X pins σ Q) X.xe s):=⟨PE.go⟩
structure PT (X:Cx)(e:Expr)(t:TT):Prop where
 go:∀ (pins:List (Addr×Obj)) (s:Shared) (σ:St) (H:Hp) (Q:Bool->Hp->Prop),aa X pins σ H s->t σ H Q->wpAny (model X.prog X.w) X.A (isTrue e X.env (eval e X.env)) (TP X pins σ Q) X.xe s
instance {X:Cx}{e:Expr}{t:TT}:CoeFun (PT X e t) (fun _=>∀ (pins:List (Addr×Obj)) (s:Shared) (σ:St) (H:Hp) (Q:Bool->Hp->Prop),aa X pins σ H s->t σ H Q->wpAny (model X.prog X.w) X.A (isTrue e X.env (eval e X.env)) (TP X pins σ Q) X.xe s):=⟨PT.go⟩
structure PW (X:Cx)(e:Expr)(t:TT):Prop where
 go:∀ (whole:Sem Value) (pins:List (Addr×Obj)) (s:Shared) (σ:St) (H:Hp) (Q:Bool->Hp->Prop),aa X pins σ H s->t σ H Q->wpAny (model X.prog X.w) X.A (isTrue e X.env whole) (TP X pins σ Q) X.xe s
instance {X:Cx}{e:Expr}{t:TT}:CoeFun (PW X e t) (fun _=>∀ (whole:Sem Value) (pins:List (Addr×Obj)) (s:Shared) (σ:St) (H:Hp) (Q:Bool->Hp->Prop),aa X pins σ H s->t σ H Q->wpAny (model X.prog X.w) X.A (isTrue e X.env whole) (TP X pins σ Q) X.xe s):=⟨PW.go⟩
theorem PW.pt {X:Cx}{e:Expr}{t:TT}(h:PW X e t):PT X e t:=.mk (h _)
structure PA (X:Cx)(es:List Expr)(t:TA):Prop where
 go:∀ (pos:Pos) (pins:List (Addr×Obj)) (s:Shared) (σ:St) (H:Hp) (Q:List V->Hp->Prop),aa X pins σ H s->t σ H Q->wpAny (model X.prog X.w) X.A (spliced (FU pos (FV es X.env))) (AP X pins σ Q) X.xe s
instance {X:Cx}{es:List Expr}{t:TA}:CoeFun (PA X es t) (fun _=>∀ (pos:Pos) (pins:List (Addr×Obj)) (s:Shared) (σ:St) (H:Hp) (Q:List V->Hp->Prop),aa X pins σ H s->t σ H Q->wpAny (model X.prog X.w) X.A (spliced (FU pos (FV es X.env))) (AP X pins σ Q) X.xe s):=⟨PA.go⟩
structure PS (X:Cx)(st:Stmt)(t:TS):Prop where
 go:∀ (pins:List (Addr×Obj)) (s:Shared) (σ:St) (H:Hp) (D:cU),aa X pins σ H s->t D σ H->wpAny (model X.prog X.w) X.A (exec st X.env) (SP X pins D) X.xe s
instance {X:Cx}{st:Stmt}{t:TS}:CoeFun (PS X st t) (fun _=>∀ (pins:List (Addr×Obj)) (s:Shared) (σ:St) (H:Hp) (D:cU),aa X pins σ H s->t D σ H->wpAny (model X.prog X.w) X.A (exec st X.env) (SP X pins D) X.xe s):=⟨PS.go⟩
structure b7 (X:Cx)(st:List Stmt)(t:TS):Prop where
 go:∀ (pins:List (Addr×Obj)) (s:Shared) (σ:St) (H:Hp) (D:cU),aa X pins σ H s->t D σ H->wpAny (model X.prog X.w) X.A (execs st X.env) (SP X pins D) X.xe s
instance {X:Cx}{st:List Stmt}{t:TS}:CoeFun (b7 X st t) (fun _=>∀ (pins:List (Addr×Obj)) (s:Shared) (σ:St) (H:Hp) (D:cU),aa X pins σ H s->t D σ H->wpAny (model X.prog X.w) X.A (execs st X.env) (SP X pins D) X.xe s):=⟨b7.go⟩
theorem ag {α:Type}{t:Sem α}{Q Q':α->Shared->Prop}{M:Model}{A:Around}{E:Value->Shared->Prop}{s:Shared}(h:wpAny M A t Q E s)(hQ:∀ a s,Q a s->Q' a s):wpAny M A t Q' E s:=FW h hQ fun _ _ x=>x
end L2
namespace L2
open PySem PySem.Spec PyProof.Rows
section
variable {X:Cx}
inductive iw (i:Nat)(σ:St)(H:Hp)(Q:VK):Prop
 | mk (v:V)(e:σ[i]?=some (some v))(q:Q v H):iw i σ H Q
abbrev tC (v:V):TE:=fun _ H Q=>Q v H
theorem xB {i:Nat}{x:Str}{pos:Pos}(hN:X.N[i]?=some x)(hv:gG X.env.scope x)(hd:(x == ("__debug__" : Str))=false:=by decide)(hcd:(x == ("__classdict__" : Str))=false:=by decide):PE X (.Name x pos) (iw i):=by
 refine⟨?_⟩
 intro pins s σ H Q I h
 obtain⟨v,e,h⟩:=h
 obtain⟨m,hn,hl⟩:=I.loc
 obtain⟨u,r,l⟩:=hl i x v hN e hv
 have fin:EP X pins σ Q u s:=⟨v,H,I,r,h⟩
 rcases l with⟨hk,hm⟩|⟨hk,c,hc,hcell⟩
 ·exact wpAny_Name (wpAny_loadName_local I.ok.kind hk hn hm fin) hd
 ·rcases hk with hk|hk
  ·exact wpAny_Name (wpAny_loadName_cell I.ok.kind hk hc hcell fin) hd
  ·exact wpAny_Name (wpAny_loadName_free I.ok.kind hk hc hcell fin hcd) hd
theorem ac {i j pos}:PE X (.Constant (.int i) j pos) (tC (.int i)):=.mk fun _ _ _ H _ I h=>wpAny_Constant_int ⟨.int i,H,I.tok _,⟨_,rfl⟩,h⟩
theorem im {b j pos}:PE X (.Constant (.bool b) j pos) (tC (.bl b)):=.mk fun _ _ _ H _ I h=>Constant_bool ⟨.bl b,H,I,rfl,h⟩
theorem fL {j pos}:PE X (.Constant .none j pos) (tC .non):=.mk fun _ _ _ H _ I h=>Constant_none ⟨.non,H,I,rfl,h⟩
theorem o8 {x j pos}:PE X (.Constant (.str x) j pos) (tC (.str x)):=.mk fun _ _ _ H _ I h=>Calls.Constant_str ⟨.str x,H,I.tok _,⟨_,rfl⟩,h⟩
def Gl (X:Cx)(x:Str):Prop:=X.env.kindOf x=some .globalImplicit
theorem jA {E:Value->Shared->Prop}{pins:List (Addr×Obj)}{s:Shared}{σ:St}{H:Hp}{x:Str}{u:Value}{pos:Pos}{Q:Value->Shared->Prop}(I:aa X pins σ H s)(hg:Gl X x)(hm:X.mg x=some u)(h:Q u s)
  (hd:(x == ("__debug__" : Str))=false:=by decide):wpAny (model X.prog X.w) X.A (eval (.Name x pos) X.env) Q E s :=
 Calls.Name_function_global I.ok.kind hg (Calls.loadGlobal_global (by rw[I.ok.glob];exact I.mod.glob.keeps I.bk) hm h) hd
theorem eP {E:Value->Shared->Prop}{pins:List (Addr×Obj)}{s:Shared}{σ:St}{H:Hp}{x:Str}{u:Value}{pos:Pos}{Q:Value->Shared->Prop}(I:aa X pins σ H s)(hg:Gl X x)(hm:X.mg x=none)(hv:FS x=some u)(h:Q u s)
  (hn:x≠"__name__":=by decide) (hd:(x == ("__debug__" : Str))=false:=by decide):wpAny (model X.prog X.w) X.A (eval (.Name x pos) X.env) Q E s:=by
 obtain⟨mb,h1,h2⟩:=I.mod.blt
 exact Calls.Name_function_global I.ok.kind hg (Calls.loadGlobal_builtin (by rw[I.ok.glob];exact I.mod.glob.keeps I.bk) hm (by rw[I.ok.blt];exact h1.keeps I.bk) ((h2 x hn).trans hv) h) hd
theorem vB {x:Str}{v:V}{u:Value}{pos:Pos}(hg:Gl X x)(hm:X.mg x=some u)(r:ar v u)(hd:(x == ("__debug__" : Str))=false:=by decide):PE X (.Name x pos) (tC v):=.mk
 fun _ _ _ H _ I h=>jA I hg hm ⟨v,H,I,r,h⟩ hd
theorem AS {x:Str}{v:V}{u:Value}{pos:Pos}(hg:Gl X x)(hm:X.mg x=none)(hv:FS x=some u)(r:ar v u)(hn:x≠"__name__":=by decide)(hd:(x == ("__debug__" : Str))=false:=by decide):PE X (.Name x pos) (tC v):=.mk
 fun _ _ _ H _ I h=>eP I hg hm hv ⟨v,H,I,r,h⟩ hn hd
variable {a b:Expr}{ta tb:TE}{pos:Pos}
def PC (X:Cx)(op:CmpOp)(a b:Expr)(t:TE):Prop :=
 ∀ (pins:List (Addr×Obj)) (s:Shared) (σ:St) (H:Hp) (Q:VK),aa X pins σ H s->t σ H Q ->
  wpAny (model X.prog X.w) X.A (eval a X.env) (fun v s₁=>wpAny (model X.prog X.w) X.A (eval b X.env) (fun u s₂=>wpAny (model X.prog X.w) X.A (FX op v u) (EP X pins σ Q) X.xe s₂) X.xe s₁) X.xe s
inductive o3 (x:V)(H1:Hp)(Q:Bool->Hp->Prop):Prop
 | mk (c:Bool)(e:x=.bl c)(q:Q c H1):o3 x H1 Q
def tB (t:TE):TT:=fun σ H Q=>t σ H fun x H1=>o3 x H1 Q
theorem Br {op:CmpOp}{t:TE}(h:PC X op a b t)(h1:FY op b=false:=by first|exact nobehind _ (by decide) (by decide)|rfl):PE X (.Compare a [op] [b] pos) t:=.mk fun pins s σ H Q I hw=>wpAny_Compare1 (h pins s σ H Q I hw) h1
theorem oH {op:CmpOp}{t:TE}(h:PC X op a b t)(h1:FY op b=false:=by first|exact nobehind _ (by decide) (by decide)|rfl):PT X (.Compare a [op] [b] pos) (tB t):=by
 refine⟨?_⟩
 intro pins s σ H Q I hw
 refine FZ (ag (h pins s σ H _ I hw) fun v s1 h1=>ag h1 fun u s2 h2=>ag h2 fun c s3 ⟨x,H1,I1,r1,q1⟩=>?_) h1
 obtain⟨d,rfl,q⟩:=q1
 cases r1
 exact F2 ⟨H1,I1,q⟩
theorem eX {e:Expr}{t:TE}(h:PE X e t)(he:∀ whole,isTrue e X.env whole=(do let v <-whole;F5 e.pos;F6 [v] (truthy v)):=by intro _;rfl):PT X e (tB t):=by
 refine⟨?_⟩
 intro pins s σ H Q I hw
 refine isTrue_plain (ag (h pins s σ H _ I hw) fun v s1 ⟨x,H1,I1,r1,q1⟩=>?_) (he _)
 obtain⟨d,rfl,q⟩:=q1
 cases r1
 exact F2 ⟨H1,I1,q⟩
variable {tA tB':TT}{rest:List Expr}
def xm (t u:TT):TT:=fun σ H Q=>t σ H fun c H1=>if c=true then u σ H1 Q else Q false H1
def wO (t u:TT):TT:=fun σ H Q=>t σ H fun c H1=>if c=true then Q true H1 else u σ H1 Q
def z9 (t:TT):TT:=fun σ H Q=>t σ H fun c H1=>Q (!c) H1
theorem nq (ha:PT X a tA):PW X (.BoolOp .And [a] pos) tA:=by
 refine⟨?_⟩
 intro wh pins s σ H Q I h
 refine isTrue_and (ag (ha pins s σ H Q I h) fun c s1 e=>?_)
 cases c with
 | true=>exact isTrue_and_nil e
 | false=>exact e
theorem qZ (ha:PT X a tA):PW X (.BoolOp .Or [a] pos) tA:=by
 refine⟨?_⟩
 intro wh pins s σ H Q I h
 refine isTrue_or (ag (ha pins s σ H Q I h) fun c s1 e=>?_)
 cases c with
 | false=>exact isTrue_or_nil e
 | true=>exact e
theorem jV (ha:PT X a tA)(hb:PW X (.BoolOp .And (b::rest) pos) tB'):PW X (.BoolOp .And (a::b::rest) pos) (xm tA tB'):=by
 refine⟨?_⟩
 intro wh pins s σ H Q I h
 refine isTrue_and (ag (ha pins s σ H _ I h) fun c s1 ⟨H1,I1,q1⟩=>?_)
 cases c with
 | true=>exact hb wh pins s1 σ H1 Q I1 q1
 | false=>exact⟨H1,I1,q1⟩
theorem vp (ha:PT X a tA)(hb:PW X (.BoolOp .Or (b::rest) pos) tB'):PW X (.BoolOp .Or (a::b::rest) pos) (wO tA tB'):=by
 refine⟨?_⟩
 intro wh pins s σ H Q I h
 refine isTrue_or (ag (ha pins s σ H _ I h) fun c s1 ⟨H1,I1,q1⟩=>?_)
 cases c with
 | true=>exact⟨H1,I1,q1⟩
 | false=>exact hb wh pins s1 σ H1 Q I1 q1
theorem eY (ha:PT X a tA):PT X (.UnaryOp .Not a pos) (z9 tA):=by
 refine⟨?_⟩
 intro pins s σ H Q I h
 exact isTrue_not (ha pins s σ H (fun c H1=>Q (!c) H1) I h)
inductive oY (tb:TE)(σ:St)(x:V)(H1:Hp)(Q:VK):Prop
 | mk (c:Bool)(e:x=.bl c)(q:if c=true then tb σ H1 Q else Q (.bl false) H1):oY tb σ x H1 Q
def yJ (ta tb:TE):TE:=fun σ H Q=>ta σ H fun x H1=>oY tb σ x H1 Q
def A4 (ta:TE):TE:=fun σ H Q=>ta σ H fun x H1=>∃ c,x=.bl c/\Q (.bl (!c)) H1
theorem eg {op}{t:TE}(h:PE X a t):PE X (.BoolOp op [a] pos) t:=.mk fun pins s σ H Q I hw=>BoolOp_one (h pins s σ H Q I hw)
theorem dF (ha:PE X a ta)(hb:PE X (.BoolOp .And (b::rest) pos) tb):PE X (.BoolOp .And (a::b::rest) pos) (yJ ta tb):=by
 refine⟨?_⟩
 intro pins s σ H Q I h
 refine BoolOp_and (ag (ha pins s σ H _ I h) fun v s1 ⟨x,H1,I1,r1,q1⟩=>?_)
 obtain⟨c,rfl,q1⟩:=q1
 cases r1
 refine F2 ?_
 cases c with
 | true=>exact hb pins s1 σ H1 Q I1 q1
 | false=>exact⟨.bl false,H1,I1,rfl,q1⟩
theorem Cp (ha:PE X a ta):PE X (.UnaryOp .Not a pos) (A4 ta):=by
 refine⟨?_⟩
 intro pins s σ H Q I h
 refine UnaryOp_ (ag (ha pins s σ H _ I h) fun v s1 ⟨x,H1,I1,r1,q1⟩=>?_)
 obtain⟨c,rfl,q1⟩:=q1
 cases r1
 exact not_of (F2 ⟨.bl (!c),H1,I1,rfl,q1⟩)
end
end L2
namespace L2
open PySem PySem.Spec PyProof.Rows
def aU (K:W.Frag)(H:Hp)(a:Addr)(xs:List V):Prop :=
 Rd H a (.lst xs) \/
  ∃ (o:Obj) (its:Array Value) (n:Nat),K.lookup a=some o/\o.cls=.type "list"/\o.dict=none/\o.data=.seq its n/\its.size<=FO/\ap xs its.toList
def aV (K:W.Frag)(H:Hp)(a:Addr)(xs:List V):Prop :=
 Rd H a (.tup xs) \/
  ∃ (o:Obj) (its:Array Value) (n:Nat),K.lookup a=some o/\o.cls=.type "tuple"/\o.data=.seq its n/\its.size<=FO/\ap xs its.toList
def z3:Value->Option V
 | .none=>some .non
 | .bool b=>some (.bl b)
 | .int i _=>some (.int i)
 | .str x _=>some (.str x)
 | .bytes b _=>some (.byt b)
 | .float b _=>some (.flt b)
 | .ref a=>some (.ref a)
 | .type n=>some (.ty n)
 | _=>none
theorem ar.abs {x:V}{u:Value}(r:ar x u):z3 u=some x:=by
 cases x with
 | non=>cases r;rfl
 | bl _=>cases r;rfl
 | int _=>obtain⟨t,rfl⟩:=r;rfl
 | str _=>obtain⟨t,rfl⟩:=r;rfl
 | byt _=>obtain⟨t,rfl⟩:=r;rfl
 | flt _=>obtain⟨t,rfl⟩:=r;rfl
 | ref _=>cases r;rfl
 | ty _=>cases r;rfl
theorem ar.inj {x y:V}{u:Value}(r:ar x u)(q:ar y u):x=y:=Option.some.inj (r.abs.symm.trans q.abs)
theorem ap.inj:∀ {xs ys:List V}{us:List Value},ap xs us->ap ys us->xs=ys
 | _,_,_,.nil,.nil=>rfl
 | _,_,_,.cons r t,.cons r' t'=>by rw[r.inj r',ap.inj t t']
section
variable {X:Cx}{pins:List (Addr×Obj)}{σ:St}{H:Hp}{s:Shared}{a:Addr}{xs ys:List V}
theorem aU.of {K:W.Frag}(h:H a=some (.lst xs)):aU K H a xs:=.inl (.inl h)
theorem aV.of {K:W.Frag}(h:H a=some (.tup xs)):aV K H a xs:=.inl (.inl h)
theorem aa.list (I:aa X pins σ H s)(h:aU X.K H a xs):∃ its:List Value,ap xs its/\PlainL s.heap a its.toArray/\xs.length<=FO:=by
 rcases h with h|⟨o,its,n,hk,hc,hd,hs,hz,r⟩
 ·obtain⟨z,its,n,r,e⟩:=h.ok I.hok
  exact⟨its,r,⟨_,n,e,rfl,rfl,rfl⟩,z⟩
 ·refine⟨its.toList,r,⟨o,n,I.kIn a o hk,hc,hd,by simpa using hs⟩,?_⟩
  have e:=r.length
  simp only[Fj] at e
  omega
theorem aa.tuple (I:aa X pins σ H s)(h:aV X.K H a xs):∃ its:List Value,ap xs its/\IsTup s.heap a its.toArray/\xs.length<=FO:=by
 rcases h with h|⟨o,its,n,hk,hc,hs,hz,r⟩
 ·obtain⟨z,its,r,p⟩:=h.ok I.hok
  exact⟨its,r,p,z⟩
 ·refine⟨its.toList,r,⟨o,I.kIn a o hk,hc,n,by simpa using hs⟩,?_⟩
  have e:=r.length
  simp only[Fj] at e
  omega
theorem aa.list_inj (I:aa X pins σ H s)(h:aU X.K H a xs)(h':aU X.K H a ys):xs=ys:=by
 obtain⟨its,r,⟨o,n,e,_,_,d⟩,_⟩:=I.list h
 obtain⟨its',r',⟨o',n',e',_,_,d'⟩,_⟩:=I.list h'
 rw[e] at e';cases e'
 rw[d] at d'
 injection d' with d1 _
 have:its=its':=by simpa using congrArg Fq d1
 subst this
 exact r.inj r'
theorem aa.tuple_inj (I:aa X pins σ H s)(h:aV X.K H a xs)(h':aV X.K H a ys):xs=ys:=by
 obtain⟨its,r,⟨o,e,_,n,d⟩,_⟩:=I.tuple h
 obtain⟨its',r',⟨o',e',_,n',d'⟩,_⟩:=I.tuple h'
 rw[e] at e';cases e'
 rw[d] at d'
 injection d' with d1 _
 have:its=its':=by simpa using congrArg Fq d1
 subst this
 exact r.inj r'
end
abbrev Cx.wish (X:Cx)(E:Value->Shared->Prop):Cx:={ X with xe:=E }
abbrev Cx.nox (X:Cx):Cx:=X.wish fun _ _=>False
theorem Cx.Ok.wish {X:Cx}(ok:X.Ok)(E:Value->Shared->Prop):(X.wish E).Ok :=
 ⟨ok.mod,ok.kind,ok.glob,ok.blt,ok.above,ok.inj,ok.has,ok.cab,ok.hd,ok.frames,ok.stk,ok.exf,ok.bs,ok.bsz,ok.noex,ok.exfs,ok.funs,ok.frf⟩
theorem Cx.Ok.unwish {X:Cx}{E:Value->Shared->Prop}(ok:(X.wish E).Ok):X.Ok :=
 ⟨ok.mod,ok.kind,ok.glob,ok.blt,ok.above,ok.inj,ok.has,ok.cab,ok.hd,ok.frames,ok.stk,ok.exf,ok.bs,ok.bsz,ok.noex,ok.exfs,ok.funs,ok.frf⟩
section
variable {X:Cx}{pins:List (Addr×Obj)}{σ:St}{H:Hp}{s:Shared}{E:Value->Shared->Prop}
theorem aa.wish (I:aa X pins σ H s)(E:Value->Shared->Prop):aa (X.wish E) pins σ H s:=⟨I.ok.wish E,I.os,I.bare,I.base,I.loc,I.cell,I.free,I.freeC,I.pin,I.hok,I.len⟩
theorem aa.unwish (I:aa (X.wish E) pins σ H s):aa X pins σ H s:=⟨I.ok.unwish,I.os,I.bare,I.base,I.loc,I.cell,I.free,I.freeC,I.pin,I.hok,I.len⟩
theorem SP.unwish {D:cU}{f:Flow}{s':Shared}(h:SP (X.wish E) pins D f s'):SP X pins D f s':=by
 cases f with
 | next=>obtain⟨σ',H',I,q⟩:=h;exact⟨σ',H',I.unwish,q⟩
 | brk=>obtain⟨σ',H',I,q⟩:=h;exact⟨σ',H',I.unwish,q⟩
 | cont=>obtain⟨σ',H',I,q⟩:=h;exact⟨σ',H',I.unwish,q⟩
 | ret u=>obtain⟨v,σ',H',I,r,q⟩:=h;exact⟨v,σ',H',I.unwish,r,q⟩
theorem b7.nox {st:List Stmt}{t:TS}(h:b7 X.nox st t):b7 X st t:=.mk fun pins s σ H D I hw =>
 FW (h pins s σ H D (I.wish _) hw) (fun _ _ q=>q.unwish) fun _ _ z=>False.elim z
end
section
variable {X:Cx}{st:Stmt}{rest:List Stmt}{t u:TS}{e:Expr}{te:TE}{pos:Pos}
def CQ:TS:=fun D σ H=>D.nx σ H
def zL (t u:TS):TS:=fun D σ H=>t { D with nx:=u D } σ H
theorem bQ:b7 X [] CQ:=.mk fun _ _ σ H _ I h=>F7 ⟨σ,H,I,h⟩
theorem am (h1:PS X st t)(h2:b7 X rest u):b7 X (st::rest) (zL t u):=by
 refine⟨?_⟩
 intro pins s σ H D I h
 refine F8 (ag (h1 pins s σ H { D with nx:=u D } I h) fun f s1 q=>?_)
 cases f with
 | next =>
  obtain⟨σ',H',I',q⟩:=q
  exact h2 pins s1 σ' H' D I' q
 | ret v=>exact q
 | brk=>exact q
 | cont=>exact q
theorem aq (h1:PS X st t):b7 X [st] t:=by
 refine⟨?_⟩
 intro pins s σ H D I h
 refine F8 (ag (h1 pins s σ H D I h) fun f s1 q=>?_)
 cases f with
 | next=>exact F7 q
 | ret v=>exact q
 | brk=>exact q
 | cont=>exact q
theorem aa.quiet {pins:List (Addr×Obj)}{σ:St}{H:Hp}{s:Shared}(I:aa X pins σ H s):interactive X.env=false:=by simp[interactive,I.ok.kind]
def AL (te:TE):TS:=fun D σ H=>te σ H fun _ H1=>D.nx σ H1
theorem b8 (he:PE X e te)(hs:F9 e none pos.line X.env=pure false:=by rfl):PS X (.Expr e pos) (AL te):=by
 refine⟨?_⟩
 intro pins s σ H D I h
 exact wpAny_Expr_any (ag (he pins s σ H _ I h) fun v s1 ⟨x,H1,I1,r1,q1⟩=>⟨σ,H1,I1,q1⟩) I.quiet hs
def Bp (te:TE):TS:=fun D σ H=>te σ H D.rt
theorem aB (he:PE X e te):PS X (.Return (some e) pos) (Bp te):=by
 refine⟨?_⟩
 intro pins s σ H D I h
 exact wpAny_Return_some (ag (he pins s σ H _ I h) fun v s1 ⟨x,H1,I1,r1,q1⟩=>⟨x,σ,H1,I1,r1,q1⟩)
def Cd (c:TT)(t u:TS):TS:=fun D σ H=>c σ H fun b H1=>if b=true then t D σ H1 else u D σ H1
theorem bJ {c:Expr}{a b:List Stmt}{tc:TT}(hc:PT X c tc)(ha:b7 X a t)(hb:b7 X b u):PS X (.If c a b pos) (Cd tc t u):=by
 refine⟨?_⟩
 intro pins s σ H D I h
 refine wpAny_If (ag (hc pins s σ H _ I h) fun d s1 ⟨H1,I1,q1⟩=>?_)
 cases d with
 | true=>exact ha pins s1 σ H1 D I1 q1
 | false=>exact hb pins s1 σ H1 D I1 q1
def Bf:TS:=fun _ _ _=>False
theorem ii {sts:List Stmt}:b7 X sts Bf:=.mk fun _ _ _ _ _ _ h=>h.elim
end
abbrev TG:=V->St->Hp->(St->Hp->Prop)->Prop
abbrev f7:=List V->St->Hp->(St->Hp->Prop)->Prop
def PG (X:Cx)(target:Expr)(t:TG):Prop :=
 ∀ (pins:List (Addr×Obj)) (s:Shared) (σ:St) (H:Hp) (v:V) (u:Value) (Q:St->Hp->Prop),aa X pins σ H s->ar v u->t v σ H Q ->
  wpAny (model X.prog X.w) X.A (Ga target X.env u) (fun _ s'=>∃ σ' H',aa X pins σ' H' s'/\Q σ' H') X.xe s
def iS (X:Cx)(ts:List Expr)(t:f7):Prop :=
 ∀ (pins:List (Addr×Obj)) (s:Shared) (σ:St) (H:Hp) (vs:List V) (us:List Value) (Q:St->Hp->Prop),aa X pins σ H s->ap vs us->t vs σ H Q ->
  wpAny (model X.prog X.w) X.A (Gb ((Gc ts X.env).map (·.2)) us) (fun _ s'=>∃ σ' H',aa X pins σ' H' s'/\Q σ' H') X.xe s
abbrev iE:=V->V->V->Hp->(Hp->Prop)->Prop
def kY (X:Cx)(t:iE):Prop :=
 ∀ (pins:List (Addr×Obj)) (s:Shared) (σ:St) (H:Hp) (o i v:V) (ov iv u:Value) (Q:Hp->Prop),aa X pins σ H s->ar o ov->ar i iv->ar v u->t o i v H Q ->
  wpAny (model X.prog X.w) X.A (setItem ov iv u) (fun _ s'=>∃ H',aa X pins σ H' s'/\Q H') X.xe s
abbrev gO:=V->V->Hp->VK->Prop
def jJ (X:Cx)(op:Operator)(t:gO):Prop :=
 ∀ (pins:List (Addr×Obj)) (s:Shared) (σ:St) (H:Hp) (x y:V) (v u:Value) (Q:VK),aa X pins σ H s->ar x v->ar y u->t x y H Q ->
  wpAny (model X.prog X.w) X.A (inplaceOp op v u) (EP X pins σ Q) X.xe s
section
variable {X:Cx}{pos:Pos}
def fh (i:Nat):TG:=fun v σ H Q=>Q (σ.set i (some v)) H
theorem ba {i:Nat}{x:Str}(hN:X.N.Nodup)(hi:X.N[i]?=some x)(hx:jh X.env.scope x)(hf:X.fn x=true\/X.env.scope.names.lookup x=some .local:=by first|exact .inl rfl|exact .inr rfl|assumption):PG X (.Name x pos) (fh i):=by
 intro pins s σ H v u Q I r h
 exact wpAny_assign_Name (iN I hN hi hx r (fun s' I'=>⟨_,H,I',h⟩) hf)
def xy:f7:=fun vs σ H Q=>vs=[]/\Q σ H
inductive uV (t:TG)(u:f7)(vs:List V)(σ:St)(H:Hp)(Q:St->Hp->Prop):Prop
 | mk (v:V)(r:List V)(e:vs=v::r)(q:t v σ H fun σ' H'=>u r σ' H' Q):uV t u vs σ H Q
theorem dQ:iS X [] xy:=by
 intro pins s σ H vs us Q I r h
 obtain⟨e,h⟩:=h
 subst e
 cases r
 exact assignInOrder_nil ⟨σ,H,I,h⟩
theorem bI {e:Expr}{es:List Expr}{t:TG}{u:f7}(h1:PG X e t)(h2:iS X es u)
  (hs:(Gc (e::es) X.env).map (·.2)=Ga e X.env::(Gc es X.env).map (·.2):=by rfl):iS X (e::es) (uV t u):=by
 intro pins s σ H vs us Q I r h
 obtain⟨v,vr,e1,h⟩:=h
 subst e1
 cases r with
 | cons r rr =>
  rw[hs]
  refine Gd (ag (h1 pins s σ H _ _ _ I r h) fun _ s1 ⟨σ1,H1,I1,q1⟩=>?_)
  exact h2 pins s1 σ1 H1 _ _ Q I1 rr q1
inductive lR (K:W.Frag)(n:Nat)(t:f7)(v:V)(σ:St)(H:Hp)(Q:St->Hp->Prop):Prop
 | mk (a:Addr)(xs:List V)(e:v=.ref a)(h:aV K H a xs)(l:xs.length=n)(q:t xs σ H Q):lR K n t v σ H Q
theorem i9 {es:List Expr}{k:Nat}{t:f7}{n:Nat}(hc:X.calm=true)(h:iS X es t)
  (hn:(Gc es X.env).length=n:=by rfl) (hst:(Gc es X.env).findIdx? (·.1)=none:=by rfl):PG X (.Tuple es k pos) (lR X.K n t):=by
 intro pins s σ H v u Q I r hw
 obtain⟨a,xs,e1,hq,hl,hw⟩:=hw
 subst e1
 cases r
 obtain⟨its,rv,ht,hz⟩:=I.tuple hq
 refine assign_Tuple_tuple (I.ok.hd hc) ht (by simp[hn,<-hl,rv.length]) hst fun h' hx=>?_
 have I1:aa X pins σ H { s with heap:=h' }:=I.kept (t':=s.toks) fun b o e=>hx b o (EV (EK e)) e
 exact h pins _ σ H xs _ Q I1 (by simpa using rv) hw
def yF (to ti:TE)(t:iE):TG:=fun v σ H Q=>to σ H fun o H1=>ti σ H1 fun i H2=>t o i v H2 fun H3=>Q σ H3
theorem jS {o i:Expr}{to ti:TE}{t:iE}(ho:PE X o to)(hi:PE X i ti)(hs:kY X t)
  (ha:∀ v,Ga (.Subscript o i pos) X.env v=(do
   let ov <-F6 [v] (eval o X.env)
   let iv <-F6 [v,ov] (eval i X.env)
   F5 pos
   F6 [v,ov,iv] (setItem ov iv v)
   release [v,ov,iv] []):=by intro _;rfl):PG X (.Subscript o i pos) (yF to ti t):=by
 intro pins s σ H v u Q I r h
 rw[ha]
 refine Ge (Gf (ag (ho pins s σ H _ I h) fun ov s1 ⟨x,H1,I1,r1,q1⟩=>?_))
 refine Ge (Gf (ag (hi pins s1 σ H1 _ I1 q1) fun iv s2 ⟨y,H2,I2,r2,q2⟩=>?_))
 refine Ge (Gg (Ge (Gf (ag (hs pins s2 σ H2 x y v ov iv u _ I2 r1 r2 r q2) fun _ s3 ⟨H3,I3,q3⟩=>?_))))
 exact wpAny_release ⟨σ,H3,I3,q3⟩
def lB (te:TE)(g:TG):TS:=fun D σ H=>te σ H fun x H1=>g x σ H1 D.nx
theorem fU {tg e:Expr}{te:TE}{g:TG}(he:PE X e te)(hg:PG X tg g)(hs:swapsWithSole [tg] e pos.line X.env=pure false:=by rfl)(hw:swappedStores [tg] e X.env=pure none:=by rfl)
  (h1:(Gc [tg] X.env).map (·.2)=[Ga tg X.env]:=by rfl):PS X (.Assign [tg] e pos) (lB te g):=by
 refine⟨?_⟩
 intro pins s σ H D I h
 refine wpAny_Assign_stores (ag (he pins s σ H _ I h) fun v s1 ⟨x,H1,I1,r1,q1⟩=>?_) hs hw
 rw[h1]
 exact ag (hg pins s1 σ H1 x v _ I1 r1 q1) fun _ s2 q=>q
theorem aG {i:Nat}{x:Str}{e:Expr}{te:TE}{pos':Pos}(hN:X.N.Nodup)(hi:X.N[i]?=some x)(hx:jh X.env.scope x)(he:PE X e te)(hs:F9 e (some (.Name x pos')) pos.line X.env=pure false:=by rfl)(hf:X.fn x=true\/X.env.scope.names.lookup x=some .local:=by first|exact .inl rfl|exact .inr rfl|assumption) :
  PS X (.Assign [.Name x pos'] e pos) (lB te (fh i)):=by
 refine⟨?_⟩
 intro pins s σ H D I h
 refine wpAny_Assign_Name (ag (he pins s σ H _ I h) fun v s1 ⟨y,H1,I1,r1,q1⟩=>?_) hs
 exact iN I1 hN hi hx r1 (fun s2 I2=>⟨_,H1,I2,q1⟩) hf
def yL (i j:Nat)(ta:TA):TS:=fun D σ H=>ta σ H fun vs H1=>∃ v w,vs=[v,w]/\D.nx ((σ.set i (some v)).set j (some w)) H1
theorem AU {i j:Nat}{x y:Str}{a b:Expr}{ta:TA}{px py pt:Pos}{kt k2 pt2}(hc:X.calm=true)(hN:X.N.Nodup)(hi:X.N[i]?=some x)(hj:X.N[j]?=some y)(hij:i≠j)
  (hx:X.env.scope.names.lookup x=some .local) (hy:X.env.scope.names.lookup y=some .local) (ha:PA X [a,b] ta)
  (hw:swappedStores [.Tuple [.Name x px,.Name y py] kt pt] (.Tuple [a,b] k2 pt2) X.env=pure (some [x,y]))
  (hs:swapsWithSole [.Tuple [.Name x px,.Name y py] kt pt] (.Tuple [a,b] k2 pt2) pos.line X.env=pure false:=by rfl) :
  PS X (.Assign [.Tuple [.Name x px,.Name y py] kt pt] (.Tuple [a,b] k2 pt2) pos) (yL i j ta):=by
 refine⟨?_⟩
 intro pins s σ H D I h
 rw[exec_Assign_arm]
 refine Ge (Gg ?_)
 rw[hs]
 refine Ge (Gh ?_)
 rw[if_neg (by decide)]
 refine Ge (Tuple_ (ag (ha _ pins s σ H _ I h) fun us s1 ⟨vs,H1,I1,r1,q1⟩=>?_))
 obtain⟨v,w,e1,q1⟩:=q1
 subst e1
 obtain⟨u1,u2,rfl,rv,rw'⟩:∃ u1 u2,us=[u1,u2]/\ar v u1/\ar w u2:=by
  cases r1 with
  | cons p q =>
   cases q with
   | cons p' q' =>
    cases q'
    exact⟨_,_,rfl,p,p'⟩
 refine Gi ?_ (by show 2<=FO;decide)
 have I2:aa X pins σ H1 { s1 with heap:=s1.heap.push { cls:=.type "tuple",data:=.seq [u1,u2].toArray } }:=I1.kept (t':=s1.toks) fun b o e=>EL _ e
 rw[hw]
 refine Ge (Gh ?_)
 show wpAny (model X.prog X.w) X.A (do rule "assign.swapped-stores";let items <-unpackItems (.ref s1.heap.objs.size) 2 none;Gb [fun v=>bindName X.env y v,fun v=>bindName X.env x v] items.reverse;pure Flow.next) _ _ _
 refine Ge (Gj (Ge (unpackItems_tuple (items:=#[u1,u2]) (I.ok.hd hc) (IsTup.new s1.heap _) fun h' hx'=>?_)))
 have I3:=I2.kept (h':=h') (t':=s1.toks) fun b o e=>hx' b o (EV (EK e)) e
 show wpAny _ _ (Gb [fun v=>bindName X.env y v,fun v=>bindName X.env x v] [u2,u1] >>= fun _=>pure Flow.next) _ _ _
 refine Ge (Gd (wpAny_bindName (iN I3 hN hj (.inl hy) rw' (fun s2 I4=>?_) (.inr hy))))
 refine Gd (wpAny_bindName (iN I4 hN hi (.inl hx) rv (fun s3 I5=>assignInOrder_nil (Gh ?_)) (.inr hx)))
 rw[List.set_comm _ _ (Ne.symm hij)] at I5
 exact⟨_,H1,I5,q1⟩
def AG (i:Nat)(te:TE)(ti:gO):TS:=fun D σ H=>∃ x,σ[i]?=some (some x)/\te σ H fun y H1=>ti x y H1 fun z H2=>D.nx (σ.set i (some z)) H2
theorem rG {i:Nat}{x:Str}{e:Expr}{te:TE}{op:Operator}{ti:gO}{pos':Pos}(hN:X.N.Nodup)(hi:X.N[i]?=some x)(hx:jh X.env.scope x)(he:PE X e te)(ho:jJ X op ti)(hf:X.fn x=true\/X.env.scope.names.lookup x=some .local:=by first|exact .inl rfl|exact .inr rfl|assumption) :
  PS X (.AugAssign (.Name x pos') op e pos) (AG i te ti):=by
 refine⟨?_⟩
 intro pins s σ H D I h
 obtain⟨v,e1,h⟩:=h
 obtain⟨m,hn,hl⟩:=I.loc
 have vis:gG X.env.scope x:=by rcases hx with k|k;exact .inl k;exact .inr (.inl k)
 obtain⟨u,r,l⟩:=hl i x v hi e1 vis
 refine wpAny_AugAssign_Name ?_
 have go:wpAny (model X.prog X.w) X.A (eval e X.env) (fun w s₂=>wpAny (model X.prog X.w) X.A (inplaceOp op u w) (fun r s₃=>wpAny (model X.prog X.w) X.A (storeName X.env x r) (fun _=>SP X pins D .next) X.xe s₃) X.xe s₂) X.xe s:=by
  refine ag (he pins s σ H _ I h) fun w s1 ⟨y,H1,I1,r1,q1⟩=>?_
  refine ag (ho pins s1 σ H1 v y u w _ I1 r r1 q1) fun z s2 ⟨zv,H2,I2,r2,q2⟩=>?_
  exact iN I2 hN hi hx r2 (fun s3 I3=>⟨_,H2,I3,q2⟩) hf
 rcases l with⟨hk,hm⟩|⟨hk,c,hc,hcell⟩
 ·exact wpAny_loadName_local I.ok.kind hk hn hm go
 ·rcases hk with hk|hk
  ·exact wpAny_loadName_cell I.ok.kind hk hc hcell go
  ·rcases hx with k|k
   ·have:X.env.scope.names.lookup x=some .free:=hk
    rw[k] at this;cases this
   ·have:X.env.scope.names.lookup x=some .free:=hk
    rw[k] at this;cases this
def Ae (to ti te:TE)(tget:V->V->Hp->VK->Prop)(tip:gO)(tset:iE):TS:=fun D σ H=>to σ H fun o H1=>ti σ H1 fun i H2=>tget o i H2 fun x H3=>te σ H3 fun y H4=>tip x y H4 fun z H5=>tset o i z H5 fun H6=>D.nx σ H6
def sU (X:Cx)(t:V->V->Hp->VK->Prop):Prop :=
 ∀ (pins:List (Addr×Obj)) (s:Shared) (σ:St) (H:Hp) (o i:V) (ov iv:Value) (Q:VK),aa X pins σ H s->ar o ov->ar i iv->t o i H Q ->
  wpAny (model X.prog X.w) X.A (Gk ov iv) (EP X pins σ Q) X.xe s
theorem Am {o i e:Expr}{to ti te:TE}{tget:V->V->Hp->VK->Prop}{tip:gO}{tset:iE}{op:Operator}{tpos:Pos}(ho:PE X o to)(hi:PE X i ti)(hg:sU X tget)(he:PE X e te)(hp:jJ X op tip)(hs:kY X tset)
  (ha:∀ ov iv new,augStore i ov iv new=(do F6 [new,ov,iv] (setItem ov iv new);release [new,ov,iv] [];pure .next):=by intros;rfl):PS X (.AugAssign (.Subscript o i tpos) op e pos) (Ae to ti te tget tip tset):=by
 refine⟨?_⟩
 intro pins s σ H D I h
 refine wpAny_AugAssign_SubscriptAny (ag (ho pins s σ H _ I h) fun ov s1 ⟨x1,H1,I1,r1,q1⟩=>?_) ha
 refine ag (hi pins s1 σ H1 _ I1 q1) fun iv s2 ⟨x2,H2,I2,r2,q2⟩=>?_
 refine ag (hg pins s2 σ H2 x1 x2 ov iv _ I2 r1 r2 q2) fun old s3 ⟨x3,H3,I3,r3,q3⟩=>?_
 refine ag (he pins s3 σ H3 _ I3 q3) fun v s4 ⟨x4,H4,I4,r4,q4⟩=>?_
 refine ag (hp pins s4 σ H4 x3 x4 old v _ I4 r3 r4 q4) fun new s5 ⟨x5,H5,I5,r5,q5⟩=>?_
 exact ag (hs pins s5 σ H5 x1 x2 x5 ov iv new _ I5 r1 r2 r5 q5) fun _ s6 ⟨H6,I6,q6⟩=>⟨σ,H6,I6,q6⟩
def qS (f:Int->Int->Int):gO:=fun x y H Q=>∃ i j,x=.int i/\y=.int j/\Q (.int (f i j)) H
theorem wK:jJ X .Add (qS fun i j=>i+j):=by
 intro pins s σ H x y v u Q I r1 r2 h
 obtain⟨i,j,e1,e2,q⟩:=h
 subst e1;subst e2
 obtain⟨t,rfl⟩:=r1
 obtain⟨t',rfl⟩:=r2
 exact iadd_int ⟨.int _,H,I.tok _,⟨_,rfl⟩,q⟩
theorem tL:jJ X .Sub (qS fun i j=>i-j):=by
 intro pins s σ H x y v u Q I r1 r2 h
 obtain⟨i,j,e1,e2,q⟩:=h
 subst e1;subst e2
 obtain⟨t,rfl⟩:=r1
 obtain⟨t',rfl⟩:=r2
 exact isub_int ⟨.int _,H,I.tok _,⟨_,rfl⟩,q⟩
end
section
variable {X:Cx}{pos:Pos}
def CT (c:TT)(tb:TS):TS:=fun D σ H=>∃ W:Nat->St->Hp->Prop,(∃ m,W m σ H)/\∀ m σ H,W m σ H ->
 c σ H fun b H1=>if b=true then ∃ N:St->Hp->Prop,(∀ σ' H',N σ' H'->∃ m',m'<m/\W m' σ' H')/\tb { D with nx:=N,ct:=N,bk:=D.nx } σ H1 else D.nx σ H1
theorem zK {c:Expr}{body:List Stmt}{tc:TT}{tb:TS}(hp:PassesOwn (model X.prog X.w) X.A X.env X.xe)(hc:PT X c tc)(hb:b7 X body tb):PS X (.While c body [] pos) (CT tc tb):=by
 refine⟨?_⟩
 intro pins s σ H D I h
 obtain⟨W,⟨m0,w0⟩,turn⟩:=h
 refine wpAny_While (codeAny_whileLoop (fun n s'=>∃ σ' H',aa X pins σ' H' s'/\W n σ' H') ?_ m0 ⟨σ,H,I,w0⟩)
 rintro n s1 ⟨σ1,H1,I1,w1⟩
 refine Gm hp (ag (hc pins s1 σ1 H1 _ I1 (turn n σ1 H1 w1)) fun b s2 ⟨H2,I2,q2⟩=>?_)
 cases b with
 | true =>
  obtain⟨N,hN,q2⟩:=q2
  rw[if_pos rfl]
  refine Gm hp (ag (hb pins s2 σ1 H2 _ I2 q2) fun f s3 q3=>?_)
  cases f with
  | next =>
   obtain⟨σ3,H3,I3,n3⟩:=q3
   obtain⟨m',hm,w3⟩:=hN σ3 H3 n3
   exact⟨m',hm,σ3,H3,I3,w3⟩
  | cont =>
   obtain⟨σ3,H3,I3,n3⟩:=q3
   obtain⟨m',hm,w3⟩:=hN σ3 H3 n3
   exact⟨m',hm,σ3,H3,I3,w3⟩
  | brk=>exact q3
  | ret v=>exact q3
 | false =>
  rw[if_neg Bool.false_ne_true]
  exact F7 ⟨σ1,H2,I2,q2⟩
end
structure It where
 go:Nat->Hp->Prop
 yld:Nat->Hp->V->Hp->Prop
 stop:Nat->Hp->Prop
def aZ (X:Cx)(pins:List (Addr×Obj))(H:Hp)(b:Addr):Prop :=
 H b=none/\b≠X.env.locals/\b∉X.fs/\(b∈X.ex\/X.s₀.heap.objs.size<=b)/\(∀ x c,X.env.cells.lookup x=some c->c≠b)/\∀ p∈X.pn++pins,p.1≠b
theorem aa.fpOk {X:Cx}{pins:List (Addr×Obj)}{σ:St}{H H':Hp}{s:Shared}{b:Addr}(I:aa X pins σ H s)(hb:s.heap.objs.size<=b)(hn:H' b=none):aZ X pins H' b:=by
 refine⟨hn,E1 (EW I.lt hb),I.nofs hb,.inr (EY I.sz hb),fun x c e z=>?_,fun p hp z=>?_⟩
 ·obtain⟨v,q⟩:=I.cell x c e
  exact absurd (EW q.lt (by rw[z];exact hb)) (E3 _)
 ·exact absurd (EW (EK (I.pin p hp).1) (by rw[z];exact hb)) (E3 _)
structure fB (P:Program) (w:World) (K:PySem.W.Frag) (tg:Expr) (J:It) (fp:List Addr) (it:Addr) (tn:Nat→Heap→Prop):Prop where
  mem:it ∈ fp
  obj:∀ i h,tn i h→∀ b ∈ fp,∃ o,h.get? b=some o∧∀ v,o.data≠.cell v
  keep:∀ i h h',tn i h→(∀ b ∈ fp,∀ o,h.get? b=some o→h'.get? b=some o)→tn i h'
  item:∀ (X:Cx),X.prog=P→X.w=w→X.K=K→X.calm=true→∀ (i:Nat) (pins:List (Addr × Obj)) (s:Shared) (σ:St) (H:Hp) (E:Value→Shared→Prop),aa X pins σ H s→(∀ b ∈ fp,aZ X pins H b)→tn i s.heap→J.go i H →
    wpAny (model P w) X.A (pyNext (.ref it)) (fun r s1=>∃ u,r=some u ∧
      wpAny (model P w) X.A (letOwnedTupleGo tg (.ref it) u) (fun _ s2=>∃ x H',aa X pins σ H' s2∧ar x u∧J.yld i H x H'∧tn (i + 1) s2.heap∧∀ b ∈ fp,H' b=none) E s1) E s
  done:∀ (X:Cx),X.prog=P→X.w=w→X.K=K→X.calm=true→∀ (i:Nat) (pins:List (Addr × Obj)) (s:Shared) (σ:St) (H:Hp) (E:Value→Shared→Prop),aa X pins σ H s→(∀ b ∈ fp,aZ X pins H b)→tn i s.heap→J.stop i H →
    wpAny (model P w) X.A (pyNext (.ref it)) (fun r s1=>r=none∧aa X pins σ H s1) E s
  self:∀ (A:Around) (i:Nat) (s:Shared) (Q:Value→Shared→Prop) (E:Value→Shared→Prop),tn i s.heap→Q (.ref it) s→wpAny (model P w) A (pyIter (.ref it)) Q E s
abbrev TI:=St->Hp->(It->Hp->Prop)->Prop
def oU (X:Cx)(pins:List (Addr×Obj))(σ:St)(tg:Expr)(R:It->Hp->Prop)(itv:Value)(s2:Shared):Prop :=
 ∃ (it:Addr) (fp:List Addr) (tn:Nat->Heap->Prop) (J:It) (H':Hp),itv=.ref it/\aa X pins σ H' s2/\fB X.prog X.w X.K tg J fp it tn/\tn 0 s2.heap/\(∀ b∈fp,aZ X pins H' b)/\R J H'
def PI (X:Cx)(tg iter:Expr)(wi:TI):Prop :=
 ∀ (pins:List (Addr×Obj)) (s:Shared) (σ:St) (H:Hp) (R:It->Hp->Prop),aa X pins σ H s->wi σ H R ->
  wpAny (model X.prog X.w) X.A (eval iter X.env) (fun v s1=>wpAny (model X.prog X.w) X.A (Gn v) (oU X pins σ tg R) X.xe s1) X.xe s
theorem jb {M:Model} {A:Around} {E:Value→Shared→Prop} {s:Shared} {tg:Expr} {it:Addr} {u:Value} {o:Obj} {n:String} {vs:Array Value} {Q:Unit→Shared→Prop} (ho:s.heap.get? it=some o) (hc:o.cls=.type n) (hd:o.data=.fields vs)
    (hn:["enumerate","zip","dict_itemiterator","dict_reverseitemiterator","odict_iterator","itertools.zip_longest","itertools.pairwise"].contains n=false) (hQ:Q () s):wpAny M A (letOwnedTupleGo tg (.ref it) u) Q E s:=by
  unfold letOwnedTupleGo
  cases tg <;> first
    | exact wpAny_pure hQ
    | (cases u <;> first
        | exact wpAny_pure hQ
        | (refine wpAny_bind (wpAny_load ho ?_)
           rw [hc,hd]
           show wpAny M A (if (["enumerate","zip","dict_itemiterator","dict_reverseitemiterator","odict_iterator","itertools.zip_longest","itertools.pairwise"].contains n && vs[0]? == some (rawInt _))=true then _ else _) Q E s
           rw [if_neg (by intro h; rw [hn,Bool.false_and] at h; cases h)]
           exact wpAny_pure hQ))
def eV (K:W.Frag)(a:Addr):It :=
 ⟨fun i H=>∃ xs x,aU K H a xs/\xs[i]?=some x,fun i H x H'=>H'=H/\∀ xs,aU K H a xs->xs[i]?=some x,fun i H=>∃ xs,aU K H a xs/\xs.length<=i⟩
def fX (K:W.Frag)(a:Addr):It :=
 ⟨fun i H=>∃ xs x,aV K H a xs/\xs[i]?=some x,fun i H x H'=>H'=H/\∀ xs,aV K H a xs->xs[i]?=some x,fun i H=>∃ xs,aV K H a xs/\xs.length<=i⟩
def fK (lo:Int)(n:Nat):It:=⟨fun i _=>i<n,fun i H x H'=>H'=H/\x=.int (lo+i),fun i _=>n<=i⟩
theorem uk {P:Program} {w:World} {K:PySem.W.Frag} {tg:Expr} (a it:Addr):fB P w K tg (eV K a) [it] it (fun i h=>h.IsListIter it a i) where
  mem:=by simp
  obj:=fun i h st b hb=>by
    have e:b=it:=by simpa using hb
    subst e
    obtain ⟨o,e,c,d⟩:=st
    exact ⟨o,e,fun v z=>by rw [d] at z; cases z⟩
  keep:=fun i h h' st k=>st.at fun o e=>k it (by simp) o e
  item:=by
    intro X hP hw hK hc i pins s σ H E I hf st hg
    subst hP hw hK
    obtain ⟨xs,x,hq,hx⟩:=hg
    obtain ⟨its,rv,p,hz⟩:=I.list hq
    obtain ⟨u,hu,ru⟩:=rv.get hx
    obtain ⟨f0,f1,f2,f3,f4,f5⟩:=hf it (by simp)
    refine wpAny_pyNext_list_item st p.isList (x:=u) (by simpa using hu) fun h' st' sb=>?_
    have I1:aa X pins σ H { s with heap:=h' }:=I.turned (t':=s.toks) (fun b o hb e=>(sb.2 b hb).trans e) f0 f1 f3 f4 f5
    obtain ⟨o,e,c,d⟩:=id st'
    exact ⟨u,rfl,jb (s:={ s with heap:=h' }) e c d (by decide) ⟨x,H,I1,ru,⟨rfl,fun ys hy=>by rw [I.list_inj hy hq]; exact hx⟩,st',fun b hb=>(hf b hb).1⟩⟩
  done:=by
    intro X hP hw hK hc i pins s σ H E I hf st hg
    subst hP hw hK
    obtain ⟨xs,hq,hx⟩:=hg
    obtain ⟨its,rv,p,hz⟩:=I.list hq
    obtain ⟨f0,f1,f2,f3,f4,f5⟩:=hf it (by simp)
    have hl:=rv.length
    exact wpAny_pyNext_list_end (I.ok.hd hc) st p.isList (by simp; omega) fun h' eb=>⟨rfl,I.turned (t':=s.toks) (fun b o hb e=>eb b o hb e) f0 f1 f3 f4 f5⟩
  self:=fun _ _ _ _ _ st h=>wpAny_pyIter_listiter st h
theorem oX {P:Program} {w:World} {K:PySem.W.Frag} {tg:Expr} (a it:Addr):fB P w K tg (fX K a) [it] it (fun i h=>h.IsTupleIter it a i) where
  mem:=by simp
  obj:=fun i h st b hb=>by
    have e:b=it:=by simpa using hb
    subst e
    obtain ⟨o,e,c,d⟩:=st
    exact ⟨o,e,fun v z=>by rw [d] at z; cases z⟩
  keep:=fun i h h' st k=>st.at fun o e=>k it (by simp) o e
  item:=by
    intro X hP hw hK hc i pins s σ H E I hf st hg
    subst hP hw hK
    obtain ⟨xs,x,hq,hx⟩:=hg
    obtain ⟨its,rv,p,hz⟩:=I.tuple hq
    obtain ⟨u,hu,ru⟩:=rv.get hx
    obtain ⟨f0,f1,f2,f3,f4,f5⟩:=hf it (by simp)
    refine wpAny_pyNext_tuple_item st (show s.heap.IsTuple a its.toArray from p) (x:=u) (by simpa using hu) fun h' st' sb=>?_
    have I1:aa X pins σ H { s with heap:=h' }:=I.turned (t':=s.toks) (fun b o hb e=>(sb.2 b hb).trans e) f0 f1 f3 f4 f5
    obtain ⟨o,e,c,d⟩:=id st'
    exact ⟨u,rfl,jb (s:={ s with heap:=h' }) e c d (by decide) ⟨x,H,I1,ru,⟨rfl,fun ys hy=>by rw [I.tuple_inj hy hq]; exact hx⟩,st',fun b hb=>(hf b hb).1⟩⟩
  done:=by
    intro X hP hw hK hc i pins s σ H E I hf st hg
    subst hP hw hK
    obtain ⟨xs,hq,hx⟩:=hg
    obtain ⟨its,rv,p,hz⟩:=I.tuple hq
    obtain ⟨f0,f1,f2,f3,f4,f5⟩:=hf it (by simp)
    have hl:=rv.length
    exact wpAny_pyNext_tuple_end (I.ok.hd hc) st (show s.heap.IsTuple a its.toArray from p) (by simp; omega) fun h' eb=>⟨rfl,I.turned (t':=s.toks) (fun b o hb e=>eb b o hb e) f0 f1 f3 f4 f5⟩
  self:=fun _ _ _ _ _ st h=>wpAny_pyIter_tupleiter st h
theorem vM {P:Program} {w:World} {K:PySem.W.Frag} {tg:Expr} (it:Addr) (lo:Int) (n:Nat):fB P w K tg (fK lo n) [it] it (fun i h=>IsRangeIter h it (lo + (i:Nat) * 1) ((n:Int) - (i:Nat)) 1) where
  mem:=by simp
  obj:=fun i h st b hb=>by
    have e:b=it:=by simpa using hb
    subst e
    exact ⟨_,st,fun v z=>by
      have z':Data.fields _=Data.cell v:=z
      cases z'⟩
  keep:=fun i h h' st k=>k it (by simp) _ st
  item:=by
    intro X hP hw hK hc i pins s σ H E I hf st hg
    subst hP hw hK
    obtain ⟨f0,f1,f2,f3,f4,f5⟩:=hf it (by simp)
    have W:=Walks.range (prog:=X.prog) (w:=X.w) (I.ok.hd hc) it lo 1 n
    refine W.item i s _ _ hg st fun v h' tk hv st' kk=>?_
    obtain ⟨t,rfl⟩:=hv
    have I1:aa X pins σ H { s with heap:=h',toks:=tk }:=I.turned (fun b o hb e=>kk b o (by simpa using hb) e) f0 f1 f3 f4 f5
    refine ⟨_,rfl,jb (s:={ s with heap:=h',toks:=tk }) (n:="range_iterator") st' rfl rfl (by decide) ⟨.int (lo + i),H,I1,⟨t,?_⟩,⟨rfl,rfl⟩,st',fun b hb=>(hf b hb).1⟩⟩
    rw [Int.mul_one]
  done:=by
    intro X hP hw hK hc i pins s σ H E I hf st hg
    subst hP hw hK
    obtain ⟨f0,f1,f2,f3,f4,f5⟩:=hf it (by simp)
    exact wpAny_pyNext_range_end (I.ok.hd hc) st (by have:n≤i:=hg; omega) fun h' eb=>⟨rfl,I.turned (t':=s.toks) (fun b o hb e=>eb b o hb e) f0 f1 f3 f4 f5⟩
  self:=fun _ _ _ _ _ st h=>wpAny_pyIter_rangeiter st h
end L2
namespace L2
open PySem PySem.Spec PyProof.Rows
section
variable {X:Cx}{tg:Expr}
inductive qt (K:W.Frag)(R:It->Hp->Prop)(x:V)(H1:Hp):Prop
 | mk (a:Addr)(e:x=.ref a)(h:∃ xs,aU K H1 a xs)(q:R (eV K a) H1):qt K R x H1
def qP (K:W.Frag)(tl:TE):TI:=fun σ H R=>tl σ H fun x H1=>qt K R x H1
def u7 (K:W.Frag)(tl:TE):TI:=fun σ H R=>tl σ H fun x H1=>∃ a,x=.ref a/\(∃ xs,aV K H1 a xs)/\R (fX K a) H1
theorem y6 {l:Expr}{tl:TE}(hl:PE X l tl):PI X tg l (qP X.K tl):=by
 intro pins s σ H R I h
 refine ag (hl pins s σ H _ I h) fun v s1 ⟨x,H1,I1,r1,q1⟩=>?_
 obtain⟨a,e,⟨xs,hq⟩,q⟩:=q1
 subst e
 cases r1
 obtain⟨its,rv,p,hz⟩:=I1.list hq
 refine Go p.isList ?_
 refine⟨s1.heap.objs.size,[s1.heap.objs.size],_,_,H1,rfl,I1.kept (t':=s1.toks) fun b o e=>EL _ e,uk a _,⟨_,EM _ rfl,rfl,rfl⟩,fun b hb=>?_,q⟩
 have e:b=s1.heap.objs.size:=by simpa using hb
 subst e
 exact I1.fpOk (EU _) (I1.hok.fresh (EU _))
theorem oC {l:Expr}{tl:TE}(hl:PE X l tl):PI X tg l (u7 X.K tl):=by
 intro pins s σ H R I h
 refine ag (hl pins s σ H _ I h) fun v s1 ⟨x,H1,I1,r1,q1⟩=>?_
 obtain⟨a,e,⟨xs,hq⟩,q⟩:=q1
 subst e
 cases r1
 obtain⟨its,rv,p,hz⟩:=I1.tuple hq
 refine Gp (show s1.heap.IsTuple a its.toArray from p) ?_
 refine⟨s1.heap.objs.size,[s1.heap.objs.size],_,_,H1,rfl,I1.kept (t':=s1.toks) fun b o e=>EL _ e,oX a _,⟨_,EM _ rfl,rfl,rfl⟩,fun b hb=>?_,q⟩
 have e:b=s1.heap.objs.size:=by simpa using hb
 subst e
 exact I1.fpOk (EU _) (I1.hok.fresh (EU _))
theorem pZ {pins:List (Addr×Obj)}{σ:St}{H:Hp}{s:Shared}{R:It->Hp->Prop}{E:Value->Shared->Prop}{lo hi:Int}{t u v:Tok}{tk:Nat}(I:aa X pins σ H s)(h1 : -(2 ^ 62)<=lo)(h2:lo<2 ^ 62)(h3 : -(2 ^ 62)<=hi)(h4:hi<2 ^ 62)
  (q:R (fK lo (hi-lo).toNat) H):wpAny (model X.prog X.w) X.A (Gn (.ref s.heap.objs.size)) (oU X pins σ tg R) E { s with heap:=s.heap.push { cls:=.type "range",data:=.fields #[.int lo t,.int hi u,.int 1 v] },toks:=tk }:=by
 refine wpAny_pyIter_range (IsRange.new ..) (small_one h1 h2 h3 h4) ?_
 have I1:aa X pins σ H { s with heap:=s.heap.push { cls:=.type "range",data:=.fields #[.int lo t,.int hi u,.int 1 v] },toks:=tk }:=I.kept fun b o e=>EL _ e
 refine⟨(s.heap.push { cls:=.type "range",data:=.fields #[.int lo t,.int hi u,.int 1 v] }).objs.size,[(s.heap.push { cls:=.type "range",data:=.fields #[.int lo t,.int hi u,.int 1 v] }).objs.size],_,_,H,rfl,
  I1.kept (t':=tk) fun b o e=>EL _ e,vM _ lo (hi-lo).toNat,?_,fun b hb=>?_,q⟩
 ·have e1:lo+((0:Nat):Int)*1=lo:=by simp
  have e2:(((hi-lo).toNat:Nat):Int)-((0:Nat):Int)=Builtin.Range.rangeSize lo hi 1:=by rw[rangeSize_one];split <;> omega
  show IsRangeIter _ _ (lo+((0:Nat):Int)*1) ((((hi-lo).toNat:Nat):Int)-((0:Nat):Int)) 1
  rw[e1,e2]
  exact EM _ rfl
 ·have e:b=(s.heap.push { cls:=.type "range",data:=.fields #[.int lo t,.int hi u,.int 1 v] }).objs.size:=by simpa using hb
  subst e
  exact I1.fpOk (EU _) (I1.hok.fresh (EU _))
inductive qj (R:It->Hp->Prop)(vs:List V)(H1:Hp):Prop
 | mk (j:Int)(e:vs=[.int j])(h1 : -(2 ^ 62)<=j)(h2:j<2 ^ 62)(q:R (fK 0 j.toNat) H1):qj R vs H1
def xh (ta:TA):TI:=fun σ H R=>ta σ H fun vs H1=>qj R vs H1
def Bq (ta:TA):TI:=fun σ H R=>ta σ H fun vs H1=>∃ i j:Int,vs=[.int i,.int j]/\(-(2 ^ 62)<=i/\i<2 ^ 62/\-(2 ^ 62)<=j/\j<2 ^ 62)/\R (fK i (j-i).toNat) H1
theorem gL {a:Expr}{ta:TA}{p pos:Pos}(hg:Gl X "range")(hm:X.mg "range"=none)(ha:PA X [a] ta)(hs:FV [a] X.env=[(false,eval a X.env)]:=by rfl):PI X tg (.Call (.Name "range" p) [a] [] pos) (xh ta):=by
 intro pins s σ H R I h
 refine Call_ (eP I hg hm boot_range (PyProof.Rows.callWith_type1 (ag (ha pos pins s σ H _ I h) fun us s1 ⟨vs,H1,I1,r1,q1⟩=>?_) hs rfl))
 obtain⟨j,e,q1,q2,q⟩:=q1
 subst e
 cases r1 with
 | cons r rr =>
  cases rr
  obtain⟨t,rfl⟩:=r
  exact call_range_1 (pZ I1 (by omega) (by omega) q1 q2 (by simpa using q))
theorem xA {a b:Expr}{ta:TA}{p pos:Pos}(hg:Gl X "range")(hm:X.mg "range"=none)(ha:PA X [a,b] ta)(hs:FV [a,b] X.env=[(false,eval a X.env),(false,eval b X.env)]:=by rfl)(hs2:FV [b] X.env=[(false,eval b X.env)]:=by rfl) :
  PI X tg (.Call (.Name "range" p) [a,b] [] pos) (Bq ta):=by
 intro pins s σ H R I h
 refine Call_ (eP I hg hm boot_range (PyProof.Rows.callWith_type1 (ag (ha pos pins s σ H _ I h) fun us s1 ⟨vs,H1,I1,r1,q1⟩=>?_) (by rw[hs,hs2]) (by rw[hs2];rfl)))
 obtain⟨i,j,e,⟨q1,q2,q3,q4⟩,q⟩:=q1
 subst e
 cases r1 with
 | cons r rr =>
  cases rr with
  | cons r' rr =>
   cases rr
   obtain⟨t,rfl⟩:=r
   obtain⟨t',rfl⟩:=r'
   exact call_range_2 (pZ I1 q1 q2 q3 q4 q)
def A6 (wi:TI)(g:TG)(tb:TS):TS:=fun D σ H=>wi σ H fun J H1=>∃ W:Nat->Nat->St->Hp->Prop,(∃ m,W 0 m σ H1)/\∀ i m σ H,W i m σ H ->
 (J.stop i H/\D.nx σ H)\/(J.go i H/\∃ N:St->Hp->Prop,(∀ σ' H',N σ' H'->∃ m',m'<m/\W (i+1) m' σ' H')/\∀ x H',J.yld i H x H'->g x σ H' fun σ2 H2=>tb { D with nx:=N,ct:=N,bk:=D.nx } σ2 H2)
def dG (fp:List Addr)(h:Heap):List (Addr×Obj):=fp.filterMap fun b=>(h.get? b).map fun o=>(b,o)
theorem ej {fp:List Addr}{h:Heap}{b:Addr}{o:Obj}(hb:b∈fp)(e:h.get? b=some o):(b,o)∈dG fp h:=List.mem_filterMap.mpr ⟨b,hb,by rw[e];rfl⟩
theorem yp {fp:List Addr}{h:Heap}{p:Addr×Obj}(hp:p∈dG fp h):p.1∈fp/\h.get? p.1=some p.2:=by
 obtain⟨b,hb,e⟩:=List.mem_filterMap.mp hp
 cases q:h.get? b with
 | none=>rw[q] at e;cases e
 | some o =>
  rw[q] at e
  have e':(b,o)=p:=Option.some.inj e
  subst e'
  exact⟨hb,q⟩
theorem aa.pinned {pins:List (Addr×Obj)}{σ:St}{H:Hp}{s:Shared}{fp:List Addr}(I:aa X pins σ H s)(hf:∀ b∈fp,aZ X pins H b)(ho:∀ b∈fp,∃ o,s.heap.get? b=some o/\∀ v,o.data≠.cell v):aa X (pins++dG fp s.heap) σ H s :=
 I.pins_of fun p hp=>(List.mem_append.mp hp).elim (fun z=>I.pin p (C3 _ z)) fun z=>by
  obtain⟨hb,e⟩:=yp z
  obtain⟨f0,f1,f2,_⟩:=hf p.1 hb
  obtain⟨o,e',d⟩:=ho p.1 hb
  rw[e] at e';cases e'
  exact⟨e,f0,f1,f2,d⟩
theorem aa.unpinned {pins pl:List (Addr×Obj)}{σ:St}{H:Hp}{s:Shared}(I:aa X (pins++pl) σ H s):aa X pins σ H s:=I.pins_of fun p hp=>I.pin p (C3 _ (Dj _ hp))
theorem cP {iter:Expr}{body:List Stmt}{wi:TI}{g:TG}{tb:TS}{pos:Pos}(hp:PassesOwn (model X.prog X.w) X.A X.env X.xe)(hc:X.calm=true)(hi:PI X tg iter wi)(hg:PG X tg g)(hb:b7 X body tb)
  (hs:∀ x,Gq iter X.env x=pure x:=by intro _;rfl):PS X (.For tg iter body [] pos) (A6 wi g tb):=by
 refine⟨?_⟩
 intro pins s σ H D I h
 refine wpAny_For (ag (hi pins s σ H _ I h) fun v s1 h1=>ag h1 fun itv s2 h2=>?_) hs
 obtain⟨it,fp,tn,J,H2,e,I2,T,st2,f2,W,⟨m0,w0⟩,turn⟩:=h2
 subst e
 have stat:∀ {H':Hp},(∀ b∈fp,H' b=none)->∀ b∈fp,aZ X pins H' b:=fun hn b hb=>⟨hn b hb,(f2 b hb).2⟩
 refine codeAny_forLoop_any (fun n s'=>∃ i σ' H',aa X pins σ' H' s'/\tn i s'.heap/\(∀ b∈fp,H' b=none)/\W i n σ' H') ?_ m0 ⟨0,σ,H2,I2,st2,fun b hb=>(f2 b hb).1,w0⟩
 rintro n s3 ⟨i,σ3,H3,I3,st3,fr3,w3⟩
 rcases turn i n σ3 H3 w3 with⟨stop,qn⟩|⟨go,N,hN,step⟩
 ·refine Gm hp (ag (T.done X rfl rfl rfl hc i pins s3 σ3 H3 X.xe I3 (stat fr3) st3 stop) fun r s4 ⟨hr,I4⟩=>?_)
  subst hr
  exact F7 ⟨σ3,H3,I4,qn⟩
 ·refine Gm hp (ag (T.item X rfl rfl rfl hc i pins s3 σ3 H3 X.xe I3 (stat fr3) st3 go) fun r s4 ⟨u,hr,h4⟩=>?_)
  subst hr
  refine Gm hp (ag h4 fun _ s5 ⟨x,H5,I5,r5,y5,st5,fr5⟩=>?_)
  have I5':=I5.pinned (stat fr5) (T.obj _ _ st5)
  refine Gm hp (ag (hg _ s5 σ3 H5 x u _ I5' r5 (step x H5 y5)) fun _ s6 ⟨σ6,H6,I6,q6⟩=>?_)
  refine Gm hp (ag (hb _ s6 σ6 H6 _ I6 q6) fun f s7 q7=>?_)
  have again:∀ {σ7:St}{H7:Hp},aa X (pins++dG fp s5.heap) σ7 H7 s7->N σ7 H7->∃ m,m<n/\∃ i σ' H',aa X pins σ' H' s7/\tn i s7.heap/\(∀ b∈fp,H' b=none)/\W i m σ' H':=fun {σ7 H7} I7 n7=>by
   obtain⟨m',hm,w7⟩:=hN σ7 H7 n7
   refine⟨m',hm,i+1,σ7,H7,I7.unpinned,T.keep _ _ _ st5 fun b hb o e=>(I7.pin (b,o) (C3 _ (C3 _ (ej hb e)))).1,fun b hb=>?_,w7⟩
   obtain⟨o,e,d⟩:=T.obj _ _ st5 b hb
   exact(I7.pin (b,o) (C3 _ (C3 _ (ej hb e)))).2.1
  cases f with
  | next=>obtain⟨σ7,H7,I7,n7⟩:=q7;exact again I7 n7
  | cont=>obtain⟨σ7,H7,I7,n7⟩:=q7;exact again I7 n7
  | brk=>obtain⟨σ7,H7,I7,q7⟩:=q7;exact⟨σ7,H7,I7.unpinned,q7⟩
  | ret v=>obtain⟨x7,σ7,H7,I7,r7,q7⟩:=q7;exact⟨x7,σ7,H7,I7.unpinned,r7,q7⟩
end
theorem iJ {K:W.Frag}{a:Addr}{xs:List V}{g:TG}{tb:TS}{D:cU}{σ:St}{H:Hp}(Pv:Nat->St->Hp->Prop)(h0:Pv 0 σ H)(hl:∀ i σ H,i<=xs.length->Pv i σ H->aU K H a xs)
  (hs:∀ i x σ H,xs[i]?=some x->Pv i σ H->g x σ H fun σ2 H2=>tb { D with nx:=Pv (i+1),ct:=Pv (i+1),bk:=D.nx } σ2 H2) (hd:∀ σ H,Pv xs.length σ H->D.nx σ H) :
  ∃ W:Nat->Nat->St->Hp->Prop,(∃ m,W 0 m σ H)/\∀ i m σ H,W i m σ H ->
   ((eV K a).stop i H/\D.nx σ H)\/((eV K a).go i H/\∃ N:St->Hp->Prop,(∀ σ' H',N σ' H'->∃ m',m'<m/\W (i+1) m' σ' H')/\∀ x H',(eV K a).yld i H x H'->g x σ H' fun σ2 H2=>tb { D with nx:=N,ct:=N,bk:=D.nx } σ2 H2):=by
 refine⟨fun i m σ H=>m=xs.length-i/\i<=xs.length/\Pv i σ H,⟨xs.length,by simp,EX _,h0⟩,?_⟩
 rintro i m σ H ⟨rfl,hi,p⟩
 have q:=hl i σ H hi p
 by_cases hlt:i<xs.length
 ·refine .inr ⟨⟨xs,xs[i],q,by simp[hlt]⟩,Pv (i+1),fun σ' H' p'=>⟨xs.length-(i+1),by omega,rfl,hlt,p'⟩,fun x H' y=>?_⟩
  obtain⟨e,y⟩:=y
  subst e
  exact hs i x σ _ (y xs q) p
 ·have e:i=xs.length:=by omega
  subst e
  exact .inl ⟨⟨xs,q,EU _⟩,hd σ H p⟩
theorem BF {K:W.Frag}{a:Addr}{xs:List V}{g:TG}{tb:TS}{D:cU}{σ:St}{H:Hp}(Pv:Nat->St->Hp->Prop)(h0:Pv 0 σ H)(hl:∀ i σ H,i<=xs.length->Pv i σ H->aV K H a xs)
  (hs:∀ i x σ H,xs[i]?=some x->Pv i σ H->g x σ H fun σ2 H2=>tb { D with nx:=Pv (i+1),ct:=Pv (i+1),bk:=D.nx } σ2 H2) (hd:∀ σ H,Pv xs.length σ H->D.nx σ H) :
  ∃ W:Nat->Nat->St->Hp->Prop,(∃ m,W 0 m σ H)/\∀ i m σ H,W i m σ H ->
   ((fX K a).stop i H/\D.nx σ H)\/((fX K a).go i H/\∃ N:St->Hp->Prop,(∀ σ' H',N σ' H'->∃ m',m'<m/\W (i+1) m' σ' H')/\∀ x H',(fX K a).yld i H x H'->g x σ H' fun σ2 H2=>tb { D with nx:=N,ct:=N,bk:=D.nx } σ2 H2):=by
 refine⟨fun i m σ H=>m=xs.length-i/\i<=xs.length/\Pv i σ H,⟨xs.length,by simp,EX _,h0⟩,?_⟩
 rintro i m σ H ⟨rfl,hi,p⟩
 have q:=hl i σ H hi p
 by_cases hlt:i<xs.length
 ·refine .inr ⟨⟨xs,xs[i],q,by simp[hlt]⟩,Pv (i+1),fun σ' H' p'=>⟨xs.length-(i+1),by omega,rfl,hlt,p'⟩,fun x H' y=>?_⟩
  obtain⟨e,y⟩:=y
  subst e
  exact hs i x σ _ (y xs q) p
 ·have e:i=xs.length:=by omega
  subst e
  exact .inl ⟨⟨xs,q,EU _⟩,hd σ H p⟩
theorem gJ {lo:Int}{n:Nat}{g:TG}{tb:TS}{D:cU}{σ:St}{H:Hp}(Pv:Nat->St->Hp->Prop)(h0:Pv 0 σ H)
  (hs:∀ i σ H,i<n->Pv i σ H->g (.int (lo+i)) σ H fun σ2 H2=>tb { D with nx:=Pv (i+1),ct:=Pv (i+1),bk:=D.nx } σ2 H2) (hd:∀ σ H,Pv n σ H->D.nx σ H) :
  ∃ W:Nat->Nat->St->Hp->Prop,(∃ m,W 0 m σ H)/\∀ i m σ H,W i m σ H ->
   ((fK lo n).stop i H/\D.nx σ H)\/((fK lo n).go i H/\∃ N:St->Hp->Prop,(∀ σ' H',N σ' H'->∃ m',m'<m/\W (i+1) m' σ' H')/\∀ x H',(fK lo n).yld i H x H'->g x σ H' fun σ2 H2=>tb { D with nx:=N,ct:=N,bk:=D.nx } σ2 H2):=by
 refine⟨fun i m σ H=>m=n-i/\i<=n/\Pv i σ H,⟨n,by simp,EX _,h0⟩,?_⟩
 rintro i m σ H ⟨rfl,hi,p⟩
 by_cases hlt:i<n
 ·refine .inr ⟨hlt,Pv (i+1),fun σ' H' p'=>⟨n-(i+1),by omega,rfl,hlt,p'⟩,fun x H' y=>?_⟩
  obtain⟨e,y⟩:=y
  subst e y
  exact hs i σ _ hlt p
 ·have e:i=n:=by omega
  subst e
  exact .inl ⟨EU _,hd σ H p⟩
end L2
namespace L2
open PySem PySem.Spec PyProof.Rows
abbrev R2:=V->V->Hp->VK->Prop
def bj (X:Cx)(f:Value->Value->Sem Value)(r:R2):Prop :=
 ∀ (pins:List (Addr×Obj)) (s:Shared) (σ:St) (H:Hp) (x y:V) (v u:Value) (Q:VK),aa X pins σ H s->ar x v->ar y u->r x y H Q ->
  wpAny (model X.prog X.w) X.A (f v u) (EP X pins σ Q) X.xe s
def mn (X:Cx)(f:Value->Sem Value)(r:V->Hp->VK->Prop):Prop :=
 ∀ (pins:List (Addr×Obj)) (s:Shared) (σ:St) (H:Hp) (x:V) (v:Value) (Q:VK),aa X pins σ H s->ar x v->r x H Q ->
  wpAny (model X.prog X.w) X.A (f v) (EP X pins σ Q) X.xe s
def bm (X:Cx)(f:Value)(r:List V->Hp->VK->Prop):Prop :=
 ∀ (pins:List (Addr×Obj)) (s:Shared) (σ:St) (H:Hp) (xs:List V) (us:List Value) (Q:VK),aa X pins σ H s->ap xs us->r xs H Q ->
  wpAny (model X.prog X.w) X.A (call f us) (EP X pins σ Q) X.xe s
def BZ (X:Cx)(r:V->Hp->(Bool->Hp->Prop)->Prop):Prop :=
 ∀ (pins:List (Addr×Obj)) (s:Shared) (σ:St) (H:Hp) (x:V) (v:Value) (Q:Bool->Hp->Prop),aa X pins σ H s->ar x v->r x H Q ->
  wpAny (model X.prog X.w) X.A (truthy v) (TP X pins σ Q) X.xe s
def iT (r:R2)(ta tb:TE):TE:=fun σ H Q=>ta σ H fun x H1=>tb σ H1 fun y H2=>r x y H2 Q
def w4 (r:V->Hp->VK->Prop)(ta:TE):TE:=fun σ H Q=>ta σ H fun x H1=>r x H1 Q
inductive rI (C:Int->Int->Prop)(g:Int->Int->V)(x y:V)(H:Hp)(Q:VK):Prop
 | mk (i j:Int)(e1:x=.int i)(e2:y=.int j)(c:C i j)(q:Q (g i j) H):rI C g x y H Q
inductive eO (g:Int->Int->V)(x y:V)(H:Hp)(Q:VK):Prop
 | mk (i j:Int)(e1:x=.int i)(e2:y=.int j)(q:Q (g i j) H):eO g x y H Q
def rU (g:Int->V):V->Hp->VK->Prop:=fun x H Q=>∃ i,x=.int i/\Q (g i) H
section
variable {X:Cx}{a b c:Expr}{ta tb tc:TE}{pos:Pos}
theorem mh (ha:PE X a ta)(hb:PE X b tb){pins:List (Addr×Obj)}{s:Shared}{σ:St}{H:Hp}{R:V->V->Hp->Prop}(I:aa X pins σ H s)
  (h:ta σ H fun x H1=>tb σ H1 fun y H2=>R x y H2){Q:Value->Shared->Prop}{f:Value->Value->Sem Value}
  (hf:∀ v u s2 x y H2,aa X pins σ H2 s2->ar x v->ar y u->R x y H2->wpAny (model X.prog X.w) X.A (f v u) Q X.xe s2) :
  wpAny (model X.prog X.w) X.A (eval a X.env) (fun v s₁=>wpAny (model X.prog X.w) X.A (eval b X.env) (fun u s₂=>wpAny (model X.prog X.w) X.A (f v u) Q X.xe s₂) X.xe s₁) X.xe s:=by
 refine ag (ha pins s σ H _ I h) fun v s1 ⟨x,H1,I1,r1,q1⟩=>?_
 refine ag (hb pins s1 σ H1 _ I1 q1) fun u s2 ⟨y,H2,I2,r2,q2⟩=>?_
 exact hf v u s2 x y H2 I2 r1 r2 q2
theorem au {op:Operator}{r:R2}(ho:bj X (Gr op) r)(ha:PE X a ta)(hb:PE X b tb):PE X (.BinOp a op b pos) (iT r ta tb):=by
 refine⟨?_⟩
 intro pins s σ H Q I h
 exact wpAny_BinOp (mh ha hb I h fun v u s2 x y H2 I2 rx ry q=>ho pins s2 σ H2 x y v u Q I2 rx ry q)
theorem eL {op:UnaryOp}{r:V->Hp->VK->Prop}(ho:mn X (unaryOp op) r)(ha:PE X a ta):PE X (.UnaryOp op a pos) (w4 r ta):=by
 refine⟨?_⟩
 intro pins s σ H Q I h
 exact UnaryOp_ (ag (ha pins s σ H _ I h) fun v s1 ⟨x,H1,I1,r1,q1⟩=>ho pins s1 σ H1 x v Q I1 r1 q1)
theorem jo {f:Value->Value->Sem Value}{C:Int->Int->Prop}{g:Int->Int->Int}
  (rule:∀ (i j:Int) (t u:Tok) (s:Shared) (Q:Value->Shared->Prop) (E:Value->Shared->Prop),C i j->Q (.int (g i j) s.toks) { s with toks:=s.toks+1 }->wpAny (model X.prog X.w) X.A (f (.int i t) (.int j u)) Q E s) :
  bj X f (rI C fun i j=>.int (g i j)):=by
 intro pins s σ H x y v u Q I rx ry h
 obtain⟨i,j,rfl,rfl,hc,q⟩:=h
 obtain⟨t,rfl⟩:=rx
 obtain⟨t',rfl⟩:=ry
 exact rule i j t t' s _ _ hc ⟨.int (g i j),H,I.tok _,⟨_,rfl⟩,q⟩
theorem rP {f:Value->Value->Sem Value}{g:Int->Int->Int}
  (rule:∀ (i j:Int) (t u:Tok) (s:Shared) (Q:Value->Shared->Prop) (E:Value->Shared->Prop),Q (.int (g i j) s.toks) { s with toks:=s.toks+1 }->wpAny (model X.prog X.w) X.A (f (.int i t) (.int j u)) Q E s) :
  bj X f (eO fun i j=>.int (g i j)):=by
 intro pins s σ H x y v u Q I rx ry h
 obtain⟨i,j,rfl,rfl,q⟩:=h
 obtain⟨t,rfl⟩:=rx
 obtain⟨t',rfl⟩:=ry
 exact rule i j t t' s _ _ ⟨.int (g i j),H,I.tok _,⟨_,rfl⟩,q⟩
theorem jX {f:Value->Value->Sem Value}{g:Int->Int->Bool}
  (rule:∀ (i j:Int) (t u:Tok) (s:Shared) (Q:Value->Shared->Prop) (E:Value->Shared->Prop),Q (.bool (g i j)) s->wpAny (model X.prog X.w) X.A (f (.int i t) (.int j u)) Q E s) :
  bj X f (eO fun i j=>.bl (g i j)):=by
 intro pins s σ H x y v u Q I rx ry h
 obtain⟨i,j,rfl,rfl,q⟩:=h
 obtain⟨t,rfl⟩:=rx
 obtain⟨t',rfl⟩:=ry
 exact rule i j t t' s _ _ ⟨.bl (g i j),H,I,rfl,q⟩
def Bo (i j:Int):Prop:=0<=j/\j<=1000000/\i.natAbs<2 ^ 64
def nY (i j:Int):Prop:=(-(2 ^ 64)<i/\i<2 ^ 64)\/(-(2 ^ 64)<j/\j<2 ^ 64)
theorem nY.ok {i j:Int}(h:nY i j):IntMulOk i j:=by
 rcases h with⟨h1,h2⟩|⟨h1,h2⟩
 ·exact .of_left (intBits_le_64 h1 h2)
 ·exact .of_right (intBits_le_64 h1 h2)
theorem cg:bj X (Gr .Add) (eO fun i j=>.int (i+j)):=rP fun _ _ _ _ _ _ _ q=>add_int q
theorem bV:bj X (Gr .Sub) (eO fun i j=>.int (i-j)):=rP fun _ _ _ _ _ _ _ q=>sub_int q
theorem cS:bj X (Gr .Mult) (rI nY fun i j=>.int (i*j)):=jo fun _ _ _ _ _ _ _ hc q=>mul_int q hc.ok
theorem ix:bj X (Gr .Mod) (rI (fun _ j=>0<j) fun i j=>.int (i % j)):=jo fun i j _ _ _ _ _ hc q=>by
 have h1:(0:Int)<j:=hc
 exact mod_int' (by omega) (by rw[Fy i (by omega)];exact q)
theorem dm:bj X (Gr .Pow) (rI Bo fun i j=>.int (i ^ j.toNat)):=jo fun _ _ _ _ _ _ _ hc q=>pow_int_small hc.1 hc.2.1 hc.2.2 q
theorem xS {f:Value->Sem Value}{g:Int->Int}
  (rule:∀ (i:Int) (t:Tok) (s:Shared) (Q:Value->Shared->Prop) (E:Value->Shared->Prop),Q (.int (g i) s.toks) { s with toks:=s.toks+1 }->wpAny (model X.prog X.w) X.A (f (.int i t)) Q E s) :
  mn X f (rU fun i=>.int (g i)):=by
 intro pins s σ H x v Q I rx h
 obtain⟨i,rfl,q⟩:=h
 obtain⟨t,rfl⟩:=rx
 exact rule i t s _ _ ⟨.int (g i),H,I.tok _,⟨_,rfl⟩,q⟩
theorem eM:mn X (unaryOp .USub) (rU fun i=>.int (-i)):=xS fun _ _ _ _ _ q=>neg_int q
end
def tV:V->V->Bool
 | .non,.non=>true|.non,.int _=>true|.int _,.non=>true|.non,.bl _=>true|.bl _,.non=>true|.non,.str _=>true|.str _,.non=>true
 | .int _,.int _=>true|.bl _,.bl _=>true|.str _,.str _=>true|.byt _,.byt _=>true
 | .int _,.str _=>true|.str _,.int _=>true|.bl _,.str _=>true|.str _,.bl _=>true
 | _,_=>false
def zP:R2:=fun x y H Q=>tV x y=true/\Q (.bl (decide (x=y))) H
def Bw:R2:=fun x y H Q=>tV x y=true/\Q (.bl (!decide (x=y))) H
theorem lN {i j:Int}:decide (V.int i=V.int j)=(i == j):=by
 rw[Bool.eq_iff_iff]
 simp
theorem vI {i j:Bool}:decide (V.bl i=V.bl j)=(i == j):=by
 rw[Bool.eq_iff_iff]
 simp
theorem sK {i j:Str}:decide (V.str i=V.str j)=(i == j):=by
 rw[Bool.eq_iff_iff]
 simp
theorem sW {i j:Array UInt8}:decide (V.byt i=V.byt j)=(i.toList == j.toList):=by
 rw[Bool.eq_iff_iff]
 cases i
 cases j
 simp
section
variable {X:Cx}{a b c:Expr}{ta tb tc:TE}{pos:Pos}
theorem bb {pins:List (Addr×Obj)}{σ:St}{H:Hp}{s:Shared}{Q:VK}{k k':Bool}(I:aa X pins σ H s)(q:Q (.bl k) H)(e:k=k'):EP X pins σ Q (.bool k') s:=by
 subst e
 exact⟨.bl k,H,I,rfl,q⟩
theorem gS:bj X (FX .Eq) zP:=by
 intro pins s σ H x y v u Q I rx ry h
 obtain⟨hs,q⟩:=h
 cases x with
 | non =>
  cases rx
  cases y with
  | non=>cases ry;exact PySem.EqNone.eq_none_none (bb I q (by simp))
  | bl j=>cases ry;exact PySem.EqNone.eq_none_bool (bb I q (by simp))
  | int j=>obtain⟨t',rfl⟩:=ry;exact PySem.EqNone.eq_none_int (bb I q (by simp))
  | str j=>obtain⟨t',rfl⟩:=ry;exact PySem.EqNone.eq_none_str (bb I q (by simp))
  | _=>exact absurd (show false=true from hs) Bool.false_ne_true
 | bl i =>
  cases rx
  cases y with
  | non=>cases ry;exact PySem.EqNone.eq_bool_none (bb I q (by simp))
  | bl j=>cases ry;exact eq_bool (bb I q vI)
  | str j=>obtain⟨t',rfl⟩:=ry;exact PySem.EqMixed.eq_bool_str (bb I q (by simp))
  | _=>exact absurd (show false=true from hs) Bool.false_ne_true
 | int i =>
  obtain⟨t,rfl⟩:=rx
  cases y with
  | non=>cases ry;exact PySem.EqNone.eq_int_none (bb I q (by simp))
  | int j=>obtain⟨t',rfl⟩:=ry;exact eq_int (bb I q lN)
  | str j=>obtain⟨t',rfl⟩:=ry;exact PySem.EqMixed.eq_int_str (bb I q (by simp))
  | _=>exact absurd (show false=true from hs) Bool.false_ne_true
 | str i =>
  obtain⟨t,rfl⟩:=rx
  cases y with
  | non=>cases ry;exact PySem.EqNone.eq_str_none (bb I q (by simp))
  | bl j=>cases ry;exact PySem.EqMixed.eq_str_bool (bb I q (by simp))
  | int j=>obtain⟨t',rfl⟩:=ry;exact PySem.EqMixed.eq_str_int (bb I q (by simp))
  | str j=>obtain⟨t',rfl⟩:=ry;exact eq_str (bb I q sK)
  | _=>exact absurd (show false=true from hs) Bool.false_ne_true
 | byt i =>
  obtain⟨t,rfl⟩:=rx
  cases y with
  | byt j=>obtain⟨t',rfl⟩:=ry;exact W.eq_bytes (bb I q sW)
  | _=>exact absurd (show false=true from hs) Bool.false_ne_true
 | _=>cases y <;> exact absurd (show false=true from hs) Bool.false_ne_true
theorem qU:bj X (FX .NotEq) Bw:=by
 intro pins s σ H x y v u Q I rx ry h
 obtain⟨hs,q⟩:=h
 cases x with
 | non =>
  cases rx
  cases y with
  | non=>cases ry;exact PySem.EqNone.ne_none_none (bb I q (by simp))
  | bl j=>cases ry;exact PySem.EqNone.ne_none_bool (bb I q (by simp))
  | int j=>obtain⟨t',rfl⟩:=ry;exact PySem.EqNone.ne_none_int (bb I q (by simp))
  | str j=>obtain⟨t',rfl⟩:=ry;exact PySem.EqNone.ne_none_str (bb I q (by simp))
  | _=>exact absurd (show false=true from hs) Bool.false_ne_true
 | bl i =>
  cases rx
  cases y with
  | non=>cases ry;exact PySem.EqNone.ne_bool_none (bb I q (by simp))
  | bl j=>cases ry;exact ne_bool (bb I q (congrArg not vI))
  | str j=>obtain⟨t',rfl⟩:=ry;exact PySem.EqMixed.ne_bool_str (bb I q (by simp))
  | _=>exact absurd (show false=true from hs) Bool.false_ne_true
 | int i =>
  obtain⟨t,rfl⟩:=rx
  cases y with
  | non=>cases ry;exact PySem.EqNone.ne_int_none (bb I q (by simp))
  | int j=>obtain⟨t',rfl⟩:=ry;exact ne_int (bb I q (congrArg not lN))
  | str j=>obtain⟨t',rfl⟩:=ry;exact PySem.EqMixed.ne_int_str (bb I q (by simp))
  | _=>exact absurd (show false=true from hs) Bool.false_ne_true
 | str i =>
  obtain⟨t,rfl⟩:=rx
  cases y with
  | non=>cases ry;exact PySem.EqNone.ne_str_none (bb I q (by simp))
  | bl j=>cases ry;exact PySem.EqMixed.ne_str_bool (bb I q (by simp))
  | int j=>obtain⟨t',rfl⟩:=ry;exact PySem.EqMixed.ne_str_int (bb I q (by simp))
  | str j=>obtain⟨t',rfl⟩:=ry;exact ne_str (bb I q (congrArg not sK))
  | _=>exact absurd (show false=true from hs) Bool.false_ne_true
 | byt i =>
  obtain⟨t,rfl⟩:=rx
  cases y with
  | byt j=>obtain⟨t',rfl⟩:=ry;exact W.ne_bytes (bb I q (congrArg not sW))
  | _=>exact absurd (show false=true from hs) Bool.false_ne_true
 | _=>cases y <;> exact absurd (show false=true from hs) Bool.false_ne_true
theorem iV:bj X (FX .Lt) (eO fun i j=>.bl (decide (i<j))):=jX fun _ _ _ _ _ _ _ q=>lt_int q
theorem iZ:bj X (FX .LtE) (eO fun i j=>.bl (decide (i<=j))):=jX fun _ _ _ _ _ _ _ q=>le_int q
theorem gy:bj X (FX .Gt) (eO fun i j=>.bl (decide (j<i))):=jX fun _ _ _ _ _ _ _ q=>gt_int q
theorem mT:bj X (FX .GtE) (eO fun i j=>.bl (decide (j<=i))):=jX fun _ _ _ _ _ _ _ q=>ge_int q
theorem vY:bj X (FX .Is) (fun x y H Q=>y=.non/\Q (.bl (decide (x=.non))) H):=by
 intro pins s σ H x y v u Q I rx ry h
 obtain⟨rfl,q⟩:=h
 cases ry
 refine is_none_gen (bb I q ?_)
 cases x <;> first
  | (cases rx;rfl)
  | (obtain⟨t,rfl⟩:=rx;rfl)
theorem bD (b:Expr){op:CmpOp}(h:op≠.In:=by decide)(h2:op≠.NotIn:=by decide):FY op b=false:=by
 have e1:(op == CmpOp.In)=false:=by cases op <;> first|rfl|exact absurd rfl h
 have e2:(op == CmpOp.NotIn)=false:=by cases op <;> first|rfl|exact absurd rfl h2
 cases b <;> simp[FY,e1,e2]
theorem ic {op:CmpOp}{r:R2}(ho:bj X (FX op) r)(ha:PE X a ta)(hb:PE X b tb)(hm:FY op b=false):PE X (.Compare a [op] [b] pos) (iT r ta tb):=by
 refine⟨?_⟩
 intro pins s σ H Q I h
 exact wpAny_Compare1 (mh ha hb I h fun v u s2 x y H2 I2 rx ry q=>ho pins s2 σ H2 x y v u Q I2 rx ry q) hm
def uw (t:TE):TT:=fun σ H Q=>t σ H fun x H'=>∃ k,x=.bl k/\Q k H'
theorem bU {op:CmpOp}{r:R2}(ho:bj X (FX op) r)(ha:PE X a ta)(hb:PE X b tb)(hm:FY op b=false):PT X (.Compare a [op] [b] pos) (uw (iT r ta tb)):=by
 refine⟨?_⟩
 intro pins s σ H Q I h
 refine FZ (ag (ha pins s σ H _ I h) fun v s1 ⟨x,H1,I1,r1,q1⟩=>ag (hb pins s1 σ H1 _ I1 q1) fun u s2 ⟨y,H2,I2,r2,q2⟩ =>
  ag (ho pins s2 σ H2 x y v u _ I2 r1 r2 q2) fun c s3 ⟨z,H3,I3,r3,k,e,q3⟩=>?_) hm
 subst e
 cases r3
 exact F2 ⟨H3,I3,q3⟩
def uK (r r':R2)(ta tb tc:TE):TE:=fun σ H Q=>ta σ H fun x H1=>tb σ H1 fun y H2=>r x y H2 fun z H3=>∃ k,z=.bl k /\
 (if k=true then tc σ H3 fun w' H4=>r' y w' H4 Q else Q (.bl false) H3)
theorem k5 {op op':CmpOp}{r r':R2}(ho:bj X (FX op) r)(ho':bj X (FX op') r')(ha:PE X a ta)(hb:PE X b tb)(hc:PE X c tc)
  (hm:lastMarks [op,op'] [b,c]=false:=by with_unfolding_all rfl):PE X (.Compare a [op,op'] [b,c] pos) (uK r r' ta tb tc):=by
 refine⟨?_⟩
 intro pins s σ H Q I h
 refine Compare_chain (ag (ha pins s σ H _ I h) fun v s1 ⟨x,H1,I1,r1,q1⟩=>chain_link (ag (hb pins s1 σ H1 _ I1 q1) fun u s2 ⟨y,H2,I2,r2,q2⟩ =>
  ag (ho pins s2 σ H2 x y v u _ I2 r1 r2 q2) fun d s3 ⟨z,H3,I3,r3,k,e,q3⟩=>?_)) hm
 subst e
 cases r3
 refine F2 ?_
 cases k with
 | false=>exact ite_ff ⟨.bl false,H3,I3,rfl,q3⟩
 | true=>exact ite_tt (chain_last (ag (hc pins s3 σ H3 _ I3 q3) fun w' s4 ⟨z',H4,I4,r4,q4⟩=>ho' pins s4 σ H4 y z' u w' Q I4 r2 r4 q4))
theorem rO {op op':CmpOp}{r r':R2}(ho:bj X (FX op) r)(ho':bj X (FX op') r')(ha:PE X a ta)(hb:PE X b tb)(hc:PE X c tc)
  (hm:lastMarks [op,op'] [b,c]=false:=by with_unfolding_all rfl):PT X (.Compare a [op,op'] [b,c] pos) (uw (uK r r' ta tb tc)):=by
 refine⟨?_⟩
 intro pins s σ H Q I h
 refine isTrue_chain (ag (ha pins s σ H _ I h) fun v s1 ⟨x,H1,I1,r1,q1⟩=>test_link (ag (hb pins s1 σ H1 _ I1 q1) fun u s2 ⟨y,H2,I2,r2,q2⟩ =>
  ag (ho pins s2 σ H2 x y v u _ I2 r1 r2 q2) fun d s3 ⟨z,H3,I3,r3,k,e,q3⟩=>?_)) hm
 subst e
 cases r3
 refine F2 ?_
 cases k with
 | false =>
  obtain⟨k',e',q'⟩:=q3
  cases e'
  exact ite_ff ⟨H3,I3,q'⟩
 | true =>
  refine ite_tt (test_last (ag (hc pins s3 σ H3 _ I3 q3) fun w' s4 ⟨z',H4,I4,r4,q4⟩=>ag (ho' pins s4 σ H4 y z' u w' _ I4 r2 r4 q4) fun d' s5 ⟨z2,H5,I5,r5,k2,e2,q5⟩=>?_))
  subst e2
  cases r5
  exact F2 ⟨H5,I5,q5⟩
def tS (K:W.Frag)(x:V)(H:Hp)(k:Bool):Prop :=
 match x with
 | .non=>k=false
 | .bl b=>k=b
 | .int i=>k=(i != 0)
 | .str y=>y.length<=FO/\k=((y.length:Int) != 0)
 | .byt y=>y.size<=FO/\k=((y.size:Int) != 0)
 | .ref p=>(∃ xs,aU K H p xs/\k=!xs.isEmpty)\/(∃ xs,aV K H p xs/\k=!xs.isEmpty)\/∃ kvs,H p=some (.dK kvs)/\k=!kvs.isEmpty
 | _=>False
theorem BO {κ:Type}{kvs:List (κ×V)}{vs:List (κ×Value)}(r:KV kvs vs):(!vs.isEmpty)=!kvs.isEmpty:=by
 cases r <;> rfl
theorem pH {xs:List V}{its:List Value}(r:ap xs its):(!its.toArray.isEmpty)=!xs.isEmpty:=by
 cases r <;> simp
theorem fE:(FO:Nat)<2 ^ 63:=by rw[Gs];decide
theorem zM:BZ X (fun x H Q=>∃ k,tS X.K x H k/\Q k H):=by
 intro pins s σ H x v Q I rx h
 obtain⟨k,e,q⟩:=h
 have hl:=fE
 have hs:FO=16777216:=Gs
 cases x with
 | non =>
  cases rx
  have e':k=false:=e
  subst e'
  exact truthy_none ⟨H,I,q⟩
 | bl b =>
  cases rx
  have e':k=b:=e
  subst e'
  exact F2 ⟨H,I,q⟩
 | int i =>
  obtain⟨t,rfl⟩:=rx
  have e':k=(i != 0):=e
  subst e'
  exact PySem.P.truthy_int ⟨H,I,q⟩
 | str y =>
  obtain⟨t,rfl⟩:=rx
  obtain⟨hy,e'⟩:y.length<=FO/\k=((y.length:Int) != 0):=e
  subst e'
  exact PySem.P.truthy_str (by omega) ⟨H,I.tok _,q⟩
 | byt y =>
  obtain⟨t,rfl⟩:=rx
  obtain⟨hy,e'⟩:y.size<=FO/\k=((y.size:Int) != 0):=e
  subst e'
  exact W.truthy_bytes (by omega) ⟨H,I.tok _,q⟩
 | ref p =>
  cases rx
  have e':(∃ xs,aU X.K H p xs/\k=!xs.isEmpty)\/(∃ xs,aV X.K H p xs/\k=!xs.isEmpty)\/∃ kvs,H p=some (.dK kvs)/\k=!kvs.isEmpty:=e
  rcases e' with⟨xs,hx,e'⟩|⟨xs,hx,e'⟩|⟨kvs,hx,e'⟩
  ·subst e'
   obtain⟨its,r,pl,hz⟩:=I.list hx
   have hlen:=r.length
   exact wpAny_truthy_list pl.isList (by simp only[CY];omega) ⟨H,I.tok _,by rw[pH r];exact q⟩
  ·subst e'
   obtain⟨its,r,pl,hz⟩:=I.tuple hx
   have hlen:=r.length
   exact truthy_tuple pl (by simp only[CY];omega) ⟨H,I.tok _,by rw[pH r];exact q⟩
  ·subst e'
   obtain⟨hz,hS,vs,r,m⟩:kvs.length<=FO/\(p == FP)=false/\∃ vs,KV kvs vs/\s.heap.DictOf (bc X.prog X.w) p vs:=I.hok p _ hx
   have hlen:kvs.length=vs.length:=Paired.length r
   exact wpAny_truthy_dict hS m (by omega) ⟨H,I.tok _,by rw[BO r];exact q⟩
 | _=>exact(show False from e).elim
theorem sZ (ha:PE X a ta)(he:∀ whole,isTrue a X.env whole=(do let v <-whole;F5 a.pos;F6 [v] (truthy v))) :
  PT X a (fun σ H Q=>ta σ H fun x H'=>∃ k,tS X.K x H' k/\Q k H'):=by
 refine⟨?_⟩
 intro pins s σ H Q I h
 exact isTrue_plain (ag (ha pins s σ H _ I h) fun v s1 ⟨x,H1,I1,r1,q1⟩=>zM pins s1 σ H1 x v Q I1 r1 q1) (he _)
theorem Aj:bj X (Gr .Add) (fun x y H Q=>∃ i j,x=.str i/\y=.str j/\i.length+j.length<=FO/\Q (.str (i++j)) H):=by
 intro pins s σ H x y v u Q I rx ry h
 obtain⟨i,j,rfl,rfl,hz,q⟩:=h
 obtain⟨t,rfl⟩:=rx
 obtain⟨t',rfl⟩:=ry
 exact add_str (fun t' tk=>⟨.str (i++j),H,I.tok _,⟨_,rfl⟩,q⟩) hz
theorem bX {x:V}{us:List Value}(r:ap [x] us):∃ u,us=[u]/\ar x u:=by
 cases r with
 | cons r1 r2=>cases r2;exact⟨_,rfl,r1⟩
theorem fg {x y:V}{us:List Value}(r:ap [x,y] us):∃ u w',us=[u,w']/\ar x u/\ar y w':=by
 cases r with
 | cons r1 r2 =>
  cases r2 with
  | cons r3 r4=>cases r4;exact⟨_,_,rfl,r1,r3⟩
theorem zx:bm X (.builtin "abs") (fun xs H Q=>∃ i,xs=[.int i]/\Q (.int (if i<0 then -i else i)) H):=by
 intro pins s σ H xs us Q I r h
 obtain⟨i,rfl,q⟩:=h
 obtain⟨u,rfl,t,rfl⟩:=bX r
 exact call_abs_int fun u tk=>⟨.int (if i<0 then -i else i),H,I.tok _,⟨_,rfl⟩,q⟩
theorem vQ (hc:X.calm=true):bm X (.builtin "max") (fun xs H Q=>∃ i j,xs=[.int i,.int j]/\Q (.int (if j>i then j else i)) H):=by
 intro pins s σ H xs us Q I r h
 obtain⟨i,j,rfl,q⟩:=h
 obtain⟨u,w',rfl,⟨t,rfl⟩,⟨t',rfl⟩⟩:=fg r
 refine max_two_ints (I.ok.hd hc) fun h' tk k=>⟨_,H,I.kept k,?_,q⟩
 by_cases hj:j>i
 ·rw[if_pos hj,if_pos hj];exact⟨_,rfl⟩
 ·rw[if_neg hj,if_neg hj];exact⟨_,rfl⟩
theorem sj (hc:X.calm=true):bm X (.builtin "min") (fun xs H Q=>∃ i j,xs=[.int i,.int j]/\Q (.int (if j<i then j else i)) H):=by
 intro pins s σ H xs us Q I r h
 obtain⟨i,j,rfl,q⟩:=h
 obtain⟨u,w',rfl,⟨t,rfl⟩,⟨t',rfl⟩⟩:=fg r
 refine min_two_ints (I.ok.hd hc) fun h' tk k=>⟨_,H,I.kept k,?_,q⟩
 by_cases hj:j<i
 ·rw[if_pos hj,if_pos hj];exact⟨_,rfl⟩
 ·rw[if_neg hj,if_neg hj];exact⟨_,rfl⟩
theorem sT:bm X (.type "int") (fun xs H Q=>(∃ i,xs=[.int i]/\Q (.int i) H)\/∃ k,xs=[.bl k]/\Q (.int (if k then 1 else 0)) H):=by
 intro pins s σ H xs us Q I r h
 rcases h with⟨i,rfl,q⟩|⟨k,rfl,q⟩
 ·obtain⟨u,rfl,t,rfl⟩:=bX r
  exact call_int_int ⟨.int i,H,I,⟨_,rfl⟩,q⟩
 ·obtain⟨u,rfl,r1⟩:=bX r
  cases r1
  exact call_int_bool ⟨.int (if k then 1 else 0),H,I.tok _,⟨_,rfl⟩,q⟩
theorem xP:bm X (.type "str") (fun xs H Q=>∃ i,xs=[.int i]/\i.natAbs.log2<1920/\Q (.str (toString i)) H):=by
 intro pins s σ H xs us Q I r h
 obtain⟨i,rfl,hz,q⟩:=h
 obtain⟨u,rfl,t,rfl⟩:=bX r
 exact PySem.P.str_of_int hz ⟨.str _,H,I.tok _,⟨_,rfl⟩,q⟩
end
end L2
namespace L2
open PySem PySem.Spec PyProof.Rows
structure gC (h:Heap)(x dx C:Addr)(mA:Str->Option Value):Prop where
 obj:h.get? x=some (W.instObj C dx)
 ns:h.Ns1 dx mA
 ne:dx≠x
theorem zQ {h:Heap}{dx:Addr}{mA:Str->Option Value}(n:h.Ns1 dx mA):∃ od,h.get? dx=some od/\∀ name,W.lookIn name od=some (mA name):=by
 obtain⟨o,es,ep,ho,hd,hk,_,hm⟩:=n
 refine⟨o,ho,fun name=>?_⟩
 have e:=hm name
 unfold nsFind findBy at e
 rw[<-Array.find?_toList] at e
 unfold W.lookIn
 rw[hd]
 dsimp only
 split
 ·rename_i y q
  rw[q] at e
  exact congrArg some e
 ·rename_i q
  rw[q] at e
  have a:es.toList.any (·.refKey)=false:=by
   rw[List.any_eq_false]
   intro y hy
   obtain⟨z,t,hkey⟩:=hk y (Array.mem_toList_iff.mp hy)
   simp[DictEntry.refKey,hkey]
  have a':¬ es.toList.any (·.refKey)=true:=by rw[a];exact Bool.false_ne_true
  rw[if_neg a']
  exact congrArg some e
theorem gC.look {h:Heap}{x dx C:Addr}{mA:Str->Option Value}(I:gC h x dx C mA):∃ od,W.InstAt h x (W.instObj C dx) C (some od)/\∀ name,W.lookIn name od=some (mA name) :=
 let ⟨od,ho,hl⟩:=zQ I.ns
 ⟨od,⟨I.obj,rfl,rfl,ho⟩,hl⟩
section
variable {prog:FN}{w:World}{A:Around}{E:Value->Shared->Prop}{s:Shared}{K:W.Frag}{x dx C f:Addr}{mA:Str->Option Value}{name:Str}{v:Value}
theorem Ct {expr:Bool}{Q:Value->Shared->Prop}(X:K.In s.heap)(I:gC s.heap x dx C mA)(hg:W.plainGet K C name=true)(hh:W.hasDictIn K C=true)
  (ha:W.findIn K (.ref C) name=some none) (hv:mA name=some v) (hv':W.handedIn v=true) (h:Q v { s with toks:=s.toks+1 }) :
  wpAny (model prog w) A (getAttr (.ref x) name expr) Q E s:=by
 obtain⟨od,J,hl⟩:=I.look
 exact W.get_value X J (W.plainGet_of hg).1 (W.findObj_own hh ha rfl (by rw[hl,hv])) hv' h
theorem zy {pl:Sem Bool}{Q:Value×List Value->Shared->Prop}(X:K.In s.heap)(I:gC s.heap x dx C mA)(hg:W.plainGet K C name=true)
  (hf:W.findIn K (.ref C) name=some (some (.ref f))) (ht:W.isFn K (.ref f)=true) (hv:mA name=none) (h:Q (.ref f,[.ref x]) s) :
  wpAny (model prog w) A (Gu (.ref x) name pl) Q E s:=by
 obtain⟨od,J,hl⟩:=I.look
 exact W.method_fn X J (W.plainGet_of hg).1 (W.plainGet_of hg).2 hf (beq_iff_eq.mp ht) (by show (W.lookIn name od).map (·.isSome)=some false;rw[hl,hv];rfl) h
theorem yh {ns:List Str}{Q:Unit->Shared->Prop}(X:K.In s.heap)(I:gC s.heap x dx C mA)
  (hs:W.findIn K (.ref C) "__setattr__"=some (some (.builtin "object.__setattr__"))) (hp:W.plainOver K C=true) (ht:W.takerIn K C name=some none) (hh:W.hasDictIn K C=true)
  (hw:PySem.Within mA ns) (hsz:ns.length<=FO)
  (h:∀ h',gC h' x dx C (fun y=>if y=name then some v else mA y)->Heap.SameBut dx s.heap h'->Q () { s with heap:=h',toks:=s.toks+2 }) :
  wpAny (model prog w) A (setAttr (.ref x) name v) Q E s:=by
 obtain⟨od,J,hl⟩:=I.look
 refine W.set_plain X J hs (W.osa_open (s:={ s with toks:=s.toks+1 }) (r:=none) X J hp ht fun b=>?_)
 obtain⟨cd,hc,hd'⟩:=W.any_some hh
 have hx:s.heap.get? x=some ⟨.ref C,some dx,.plain,#[]⟩:=I.obj
 refine Ge (Gh (Ge (Ge (wpAny_loadPart hx (Ge (W.Looks.here (s:={ s with toks:=s.toks+1 }) (W.looks_clsIn X hc) ?_))))))
 rw[hd']
 refine Gh (a:=some dx) (Ge (Gh (Ge ?_)))
 refine wpAny_nsSet1 (s:={ s with toks:=s.toks+1 }) I.ns fun h' hn2 hs2=>?_
 obtain⟨oD,esD,epD,hoD,hdD,hcD⟩:=hn2.count (PySem.Within.cons name v hw)
 refine Ge (wpAny_lookBehind hoD (by rw[hdD];exact pastItsLine_dict (EY hcD (by rw[C4];omega))) ?_)
 exact Gh (h _ ⟨(hs2.2 _ (Ne.symm I.ne)).trans I.obj,hn2,I.ne⟩ hs2)
theorem yX {R:Gv->Shared->Prop}{vs:List Value}{kw:List (Str×Value)}(X:K.In s.heap)(hm:W.makesIn K C=true)
  (hi:W.findIn K (.ref C) "__init__"=some (some (.ref f))) (hf:W.typeIn K (.ref f)=some (.type "function"))
  (h:Gw (model prog w) (A.under (.builtin "type.__call__" ⟨.ref C::vs,kw⟩)) (.call (.ref f) ⟨.ref (s.heap.objs.size+1)::vs,kw⟩) (W.InitBack (s.heap.objs.size+1) R)
   { s with heap:=(s.heap.push W.emptyDict).push (W.instObj C s.heap.objs.size) }) :
  Gw (model prog w) A (.call (.ref C) ⟨vs,kw⟩) R s:=by
 obtain⟨hh,g,d,t,os⟩:=s
 exact W.make_core (W.makes_of X hm) (W.looks_findIn X hi) (fun self=>W.bind_fn X self hf) (.inl rfl) h
end
def bN (f:Str)(v:V):List (Str×V)->List (Str×V)
 | []=>[(f,v)]
 | (g,x)::r=>if g=f then (g,v)::r else (g,x)::bN f v r
theorem iq (f g:Str)(v:V):∀ fs:List (Str×V),(bN f v fs).lookup g=if g=f then some v else fs.lookup g
 | []=>by
  show Dm g [(f,v)]=_
  by_cases h:g=f
  ·have hb:(g == f)=true:=beq_iff_eq.mpr h
   simp only[Dm,hb,if_pos h]
  ·have hb:(g == f)=false:=beq_eq_false_iff_ne.mpr h
   simp only[Dm,hb,if_neg h]
 | (k,x)::r=>by
  have ih:=iq f g v r
  rw[show bN f v ((k,x)::r)=(if k=f then (k,v)::r else (k,x)::bN f v r) from rfl]
  by_cases hk:k=f
  ·rw[if_pos hk]
   by_cases h:g=k
   ·have hb:(g == k)=true:=beq_iff_eq.mpr h
    simp only[Dm,hb,if_pos (h.trans hk)]
   ·have hb:(g == k)=false:=beq_eq_false_iff_ne.mpr h
    simp only[Dm,hb,if_neg (fun e:g=f=>h (e.trans hk.symm))]
  ·rw[if_neg hk]
   by_cases h:g=k
   ·have hb:(g == k)=true:=beq_iff_eq.mpr h
    simp only[Dm,hb,if_neg (fun e:g=f=>hk (h.symm.trans e))]
   ·have hb:(g == k)=false:=beq_eq_false_iff_ne.mpr h
    simp only[Dm,hb]
    exact ih
theorem kP (f:Str)(v:V):∀ fs:List (Str×V),f∈(bN f v fs).map (·.1)/\∀ g,g∈fs.map (·.1)->g∈(bN f v fs).map (·.1)
 | []=>⟨by simp[bN],fun g h=>by simp at h⟩
 | (k,x)::r=>by
  obtain⟨i1,i2⟩:=kP f v r
  rw[show bN f v ((k,x)::r)=(if k=f then (k,v)::r else (k,x)::bN f v r) from rfl]
  by_cases hk:k=f
  ·rw[if_pos hk]
   subst hk
   exact⟨by simp,fun g h=>by simpa using h⟩
  ·rw[if_neg hk]
   refine⟨?_,fun g h=>?_⟩
   ·rw[C1]
    exact C5 _ i1
   ·rw[C1] at h ⊢
    rcases List.mem_cons.mp h with e|e
    ·exact List.mem_cons.mpr (.inl e)
    ·exact C5 _ (i2 g e)
theorem rZ (f:Str)(v:V):∀ fs:List (Str×V),(bN f v fs).length<=fs.length+1
 | []=>by simp[bN]
 | (k,x)::r=>by
  have ih:=rZ f v r
  rw[show bN f v ((k,x)::r)=(if k=f then (k,v)::r else (k,x)::bN f v r) from rfl]
  by_cases hk:k=f
  ·rw[if_pos hk,C4,C4];omega
  ·rw[if_neg hk,C4,C4];omega
theorem cn.some_of {v:V}{o:Option Value}(r:cn (some v) o):∃ u,o=some u/\ar v u:=by
 cases o with
 | none=>exact(show False from r).elim
 | some u=>exact⟨u,rfl,r⟩
theorem cn.none_of {o:Option Value}(r:cn none o):o=none:=by
 cases o with
 | none=>rfl
 | some u=>exact(show False from r).elim
theorem Ac {v:V}{u:Value}(r:ar v u):W.handedIn u=true:=by
 cases v with
 | non=>cases (show u=Value.none from r);rfl
 | bl b=>cases (show u=Value.bool b from r);rfl
 | int i=>obtain⟨t,e⟩:=(show ∃ t,u=Value.int i t from r);cases e;rfl
 | str x=>obtain⟨t,e⟩:=(show ∃ t,u=Value.str x t from r);cases e;rfl
 | byt b=>obtain⟨t,e⟩:=(show ∃ t,u=Value.bytes b t from r);cases e;rfl
 | flt b=>obtain⟨t,e⟩:=(show ∃ t,u=Value.float b t from r);cases e;rfl
 | ref a=>cases (show u=Value.ref a from r);rfl
 | ty n=>cases (show u=Value.type n from r);rfl
section
variable {P:FN}{w:World}{H H':Hp}{h h':Heap}{a C dx:Addr}{fs fs':List (Str×V)}
theorem kH (hok:bp P w H h)(e:H a=some (.ins C dx fs)):∃ mA,gC h a dx C mA/\(∀ f,cn (fs.lookup f) (mA f))/\PySem.Within mA (fs.map (·.1))/\fs.length<=1000/\H dx=some (.own a):=by
 obtain⟨d,z,ne,ob,mA,n,r,q⟩:=(show aS P w H h a (.ins C dx fs) from hok a _ e)
 exact⟨mA,⟨ob,n,ne⟩,r,q,z,d⟩
end
structure du (K:W.Frag)(C:Addr):Prop where
 pg:W.plainGet K C Str.empty=true
 hd:W.hasDictIn K C=true
 po:W.plainOver K C=true
 sa:W.findIn K (.ref C) "__setattr__"=some (some (.builtin "object.__setattr__"))
theorem du.get {K:W.Frag}{C:Addr}(c:du K C)(f:Str):W.plainGet K C f=true:=c.pg
def dN (K:W.Frag)(C:Addr)(f:Str):Prop:=W.findIn K (.ref C) f=some none
theorem dN.taker {K:W.Frag}{C:Addr}{f:Str}(n:dN K C f):W.takerIn K C f=some none:=by
 unfold W.takerIn
 rw[show W.findIn K (.ref C) f=some none from n]
 rfl
structure iP (K:W.Frag)(C:Addr)(m:Str)(f:Addr):Prop where
 at_:W.findIn K (.ref C) m=some (some (.ref f))
 fn:W.isFn K (.ref f)=true
 kp:W.keepIn K (.ref f)=true
section
variable {X:Cx}{pins:List (Addr×Obj)}{σ:St}{H:Hp}{s:Shared}{a C dx:Addr}{fs:List (Str×V)}{f:Str}{v:V}{A:Around}{E:Value->Shared->Prop}
theorem yc {b:Bool}{Q:Value->Shared->Prop}(I:aa X pins σ H s)(e:H a=some (.ins C dx fs))(c:du X.K C)(n:dN X.K C f)(l:fs.lookup f=some v)
  (h:∀ u s',aa X pins σ H s'->ar v u->Q u s'):wpAny (model X.prog X.w) A (getAttr (.ref a) f b) Q E s:=by
 obtain⟨mA,O,r,_,_,_⟩:=kH I.hok e
 obtain⟨u,hu,ru⟩:=cn.some_of (v:=v) (o:=mA f) (by rw[<-l];exact r f)
 exact Ct I.kIn O (c.get f) c.hd n hu (Ac ru) (h u _ (I.tok _) ru)
theorem uF {m:Str}{g:Addr}{pl:Sem Bool}{Q:Value×List Value->Shared->Prop}(I:aa X pins σ H s)(e:H a=some (.ins C dx fs))(c:du X.K C)(k:iP X.K C m g)(l:fs.lookup m=none)
  (h:Q (.ref g,[.ref a]) s):wpAny (model X.prog X.w) A (Gu (.ref a) m pl) Q E s:=by
 obtain⟨mA,O,r,_,_,_⟩:=kH I.hok e
 have hn:mA m=none:=cn.none_of (by rw[<-l];exact r m)
 exact zy I.kIn O (c.get m) k.at_ k.fn hn h
theorem wj {y:V}{u:Value}{Q:Unit->Shared->Prop}(I:aa X pins σ H s)(e:H a=some (.ins C dx fs))(c:du X.K C)(n:dN X.K C f)(hl:fs.length<1000)(ry:ar y u)
  (h:∀ s',aa X pins σ (upd H a (.ins C dx (bN f y fs))) s'->Q () s'):wpAny (model X.prog X.w) A (setAttr (.ref a) f u) Q E s:=by
 obtain⟨mA,O,r,wi,_,ho⟩:=kH I.hok e
 have hz:(fs.map (·.1)).length<=FO:=by rw[CW,Gs];omega
 refine yh I.kIn O c.sa c.po n.taker c.hd wi hz fun h' O' sb=>h _ ?_
 have hd:∃ o,h'.get? dx=some o:=let ⟨o,_,_,e',_⟩:=O'.ns;⟨o,e'⟩
 refine I.write (x:=a) (e:=dx) (by rw[e];exact True.intro) (.inr ho) (fun b q hb z=>(sb.2 b hb).trans z) hd ?_
 refine⟨by rw[upd_ne O.ne];exact ho,?_,O.ne,O'.obj,_,O'.ns,fun g=>?_,fun g hg=>?_⟩
 ·have:=rZ f y fs;omega
 ·show cn ((bN f y fs).lookup g) (if g=f then some u else mA g)
  rw[iq]
  by_cases q:g=f
  ·rw[if_pos q,if_pos q];exact ry
  ·rw[if_neg q,if_neg q];exact r g
 ·by_cases q:g=f
  ·rw[q];exact(kP f y fs).1
  ·refine(kP f y fs).2 g (wi g fun z=>hg ?_)
   show (if g=f then some u else mA g)=none
   rw[if_neg q];exact z
theorem aa.made (I:aa X pins σ H s):aa X pins σ (upd (upd H s.heap.objs.size (.own (s.heap.objs.size+1))) (s.heap.objs.size+1) (.ins C s.heap.objs.size []))
  { s with heap:=(s.heap.push W.emptyDict).push (W.instObj C s.heap.objs.size) }:=by
 have e1:(s.heap.push W.emptyDict).get? s.heap.objs.size=some W.emptyDict:=EM s.heap rfl
 have e2:((s.heap.push W.emptyDict).push (W.instObj C s.heap.objs.size)).get? (s.heap.objs.size+1)=some (W.instObj C s.heap.objs.size):=by
  have:=EM (s.heap.push W.emptyDict) (o:=W.instObj C s.heap.objs.size) rfl
  rwa [EO] at this
 have e3:(s.heap.push W.emptyDict).Ns s.heap.objs.size (fun _=>none):=⟨W.emptyDict,#[],_,e1,rfl,(fun e he=>absurd he (by simp)),fun _=>rfl⟩
 have I1:=I.laid (a:=s.heap.objs.size) (o:=.own (s.heap.objs.size+1)) (h':=s.heap.push W.emptyDict) (t':=s.toks) (fun b u q=>EL _ q) (EU _) ⟨_,e1⟩
 refine I1.laid (a:=s.heap.objs.size+1) (o:=.ins C s.heap.objs.size []) (t':=s.toks) (fun b u q=>EL _ q) (Fa (EO _ _)) ?_
 have ne:s.heap.objs.size≠s.heap.objs.size+1:=EV (E8 _)
 refine⟨by rw[upd_ne ne,ae],EX _,ne,e2,fun _=>none,(Heap.Ns1.of_empty e3).at fun o q=>EL _ q,fun _=>True.intro,fun y hy=>absurd rfl hy⟩
theorem vO {prog:FN}{w:World}{env:Env}{e:Expr}{f:Str}{pos:Pos}{s:Shared}{Q:Value->Shared->Prop}(hb:Gx e f env (eval e env)=eval e env)
  (h:wpAny (model prog w) A (eval e env) (fun o s₁=>wpAny (model prog w) A (getAttr o f true) Q E s₁) E s):wpAny (model prog w) A (eval (.Attribute e f pos) env) Q E s :=
 Attribute_any_ h (by rw[arm_eval_Attribute,hb])
end
inductive tG (K:W.Frag)(f:Str)(x:V)(H1:Hp)(Q:VK):Prop
 | mk (a C dx:Addr)(fs:List (Str×V))(v:V)(e:x=.ref a)(h:H1 a=some (.ins C dx fs))(c:du K C)(n:dN K C f)(l:fs.lookup f=some v)(q:Q v H1):tG K f x H1 Q
def qM (K:W.Frag)(ta:TE)(f:Str):TE:=fun σ H Q=>ta σ H fun x H1=>tG K f x H1 Q
def BN (K:W.Frag)(ta tv:TE)(f:Str):TS:=fun D σ H=>tv σ H fun y H1=>ta σ H1 fun x H2=>∃ a C dx fs,x=.ref a/\H2 a=some (.ins C dx fs)/\du K C/\dN K C f/\fs.length<1000 /\
 D.nx σ (upd H2 a (.ins C dx (bN f y fs)))
section
variable {X:Cx}{o e value:Expr}{f:Str}{pos pos' tpos:Pos}{ta tv:TE}
theorem ko (he:PE X e ta)(hb:Gx e f X.env (eval e X.env)=eval e X.env):PE X (.Attribute e f pos) (qM X.K ta f):=by
 refine⟨?_⟩
 intro pins s σ H Q I h
 refine vO hb (ag (he pins s σ H _ I h) fun u s1 ⟨x,H1,I1,rx,a,C,dx,fs,v,ex,ea,c,n,l,q⟩=>?_)
 subst ex
 obtain rfl:u=Value.ref a:=rx
 exact yc I1 ea c n l fun u' s2 I2 ru=>⟨v,H1,I2,ru,q⟩
theorem jg (ha:PE X o ta)(hv:PE X value tv)(hs:F9 value (some (.Attribute o f pos')) pos.line X.env=pure false):PS X (.Assign [.Attribute o f pos'] value pos) (BN X.K ta tv f):=by
 refine⟨?_⟩
 intro pins s σ H D I h
 refine plainObj_wpAny_Assign_Attribute (ag (hv pins s σ H _ I h) fun u s1 ⟨y,H1,I1,ry,q⟩=>ag (ha pins s1 σ H1 _ I1 q) fun ov s2 ⟨x,H2,I2,rx,a,C,dx,fs,ex,ea,c,n,l,q2⟩=>?_) hs
 subst ex
 obtain rfl:ov=Value.ref a:=rx
 exact wj I2 ea c n l ry fun s3 I3=>⟨σ,_,I3,q2⟩
end
section
variable {X:Cx}{pins:List (Addr×Obj)}{σ:St}{H:Hp}{s:Shared}{A:Around}{E:Value->Shared->Prop}{Q:Value->Shared->Prop}{c:Value}{b:Bool}
end
end L2
namespace L2
open PySem PySem.Spec PyProof.Rows
structure aQ (k:Nat)(A:Around):Prop where
 hd:A.handled=none
 dp:A.depth+3*k+5<recursionLimit
 un:A.units+16*k+200<cLine
 gd:A.guards=some []
theorem aQ.mono {j k:Nat}{A:Around}(r:aQ k A)(h:j<=k):aQ j A:=⟨r.hd,by have:=r.dp;omega,by have:=r.un;omega,r.gd⟩
theorem aQ.deeper {k:Nat}{A:Around}(r:aQ (k+1) A)(env:Env):aQ k (A.deeper env) :=
 ⟨r.hd,by have:=r.dp;show A.depth+1+3*k+5<_;omega,by have:=r.un;show A.units+3+16*k+200<_;omega,r.gd⟩
theorem aQ.in1 {k:Nat}{A:Around}(r:aQ (k+1) A):aQ k A.in1 :=
 ⟨r.hd,by have:=r.dp;show A.depth+3*k+5<_;omega,by have:=r.un;show A.units+1+16*k+200<_;omega,r.gd⟩
theorem wo {A:Around}{C:Addr}{us:List Value}{kw:List (Str×Value)}:(A.under (.builtin "type.__call__" ⟨.ref C::us,kw⟩)).depth=A.depth+1:=by
 first|rfl|simp[Around.under,Code.weight,Code.isCreation,Code.isGuard,Code.isCaller,Code.frames,Code.isFrame,guardIds]
theorem wU {A:Around}{C:Addr}{us:List Value}{kw:List (Str×Value)}:(A.under (.builtin "type.__call__" ⟨.ref C::us,kw⟩)).units=A.units+1:=by
 first|rfl|simp[Around.under,Code.cUnits,Code.frames,Code.isFrame]
theorem A5 {A:Around}{C:Addr}{us:List Value}{kw:List (Str×Value)}:(A.under (.builtin "type.__call__" ⟨.ref C::us,kw⟩)).guards=A.guards:=by
 first|rfl|simp[Around.under,Code.weight,Code.isCreation,Code.isGuard,Code.isCaller,Code.frames,Code.isFrame,guardIds]
theorem aQ.make {k:Nat}{A:Around}(r:aQ (k+1) A)(C:Addr)(us:List Value)(kw:List (Str×Value)):aQ k (A.under (.builtin "type.__call__" ⟨.ref C::us,kw⟩)) :=
 ⟨r.hd,by have:=r.dp;rw[wo];omega,by have:=r.un;rw[wU];omega,by rw[A5];exact r.gd⟩
theorem aQ.depth {k:Nat}{A:Around}(r:aQ k A):A.depth<recursionLimit:=by have:=r.dp;omega
theorem aQ.units {k:Nat}{A:Around}(r:aQ k A):A.units+64<cLine:=by have:=r.un;omega
abbrev fu:TA:=fun _ H Q=>Q [] H
abbrev fV (ta:TE)(tr:TA):TA:=fun σ H Q=>ta σ H fun x H1=>tr σ H1 fun xs H2=>Q (x::xs) H2
section
variable {X:Cx}{e:Expr}{es:List Expr}{te:TE}{t:TA}{pos:Pos}
theorem cT:PA X [] fu:=.mk fun _ _ _ _ H Q I h=>Calls.spliced_nil ⟨[],H,I,.nil,h⟩
theorem aR (ha:PE X e te)(hr:PA X es t)(hs:FV (e::es) X.env=(false,eval e X.env)::FV es X.env:=by rfl):PA X (e::es) (fV te t):=by
 refine⟨?_⟩
 intro pos pins s σ H Q I h
 rw[hs]
 show wpAny _ _ (spliced ((false,eval e X.env)::FU pos (FV es X.env))) _ _ s
 refine Calls.spliced_cons (ag (ha pins s σ H _ I h) fun u s1 ⟨x,H1,I1,r1,q1⟩=>?_)
 exact ag (hr pos pins s1 σ H1 _ I1 q1) fun us s2 ⟨xs,H2,I2,r2,q2⟩=>⟨x::xs,H2,I2,.cons r1 r2,q2⟩
def zZ (t:TA):TE:=fun σ H Q=>t σ H fun xs H1=>xs.length<=FO/\∀ p,H1 p=none->Q (.ref p) (upd H1 p (.tup xs))
def y9 (t:TA):TE:=fun σ H Q=>t σ H fun xs H1=>xs.length<=FO/\∀ p,H1 p=none->Q (.ref p) (upd H1 p (.lst xs))
theorem be {x1}(h:PA X es t):PE X (.Tuple es x1 pos) (zZ t):=by
 refine⟨?_⟩
 intro pins s σ H Q I hq
 refine wpAny_Tuple_spliced (ag (h pos pins s σ H _ I hq) fun us s1 ⟨xs,H1,I1,r,z,q⟩=>⟨by rw[<-r.length];exact z,?_⟩)
 have hf:H1 s1.heap.objs.size=none:=I1.hok.fresh (EU _)
 refine⟨.ref s1.heap.objs.size,upd H1 s1.heap.objs.size (.tup xs),I1.laid (t':=s1.toks) (fun b u e=>EL _ e) (EU _) ?_,rfl,q _ hf⟩
 exact⟨z,us,r,⟨_,EM _ rfl,rfl,_,rfl⟩⟩
theorem bO (h:PA X es t):PE X (.List es pos) (y9 t):=by
 refine⟨?_⟩
 intro pins s σ H Q I hq
 refine wpAny_List_spliced (ag (h pos pins s σ H _ I hq) fun us s1 ⟨xs,H1,I1,r,z,q⟩=>⟨by rw[<-r.length];exact z,?_⟩)
 have hf:H1 s1.heap.objs.size=none:=I1.hok.fresh (EU _)
 refine⟨.ref s1.heap.objs.size,upd H1 s1.heap.objs.size (.lst xs),I1.laid (t':=s1.toks) (fun b u e=>EL _ e) (EU _) ?_,rfl,q _ hf⟩
 exact⟨z,us,0,r,EM _ rfl⟩
end
abbrev Sp:=List V->Hp->VK->XK->Prop
abbrev dD:=List Env->Hp->Shared->XK->Value->Shared->Prop
structure gF (P:FN)(w:World)(K:W.Frag)(mg:Str->Option Value)(base:Heap)(A:Around)(outer:List Env)(s:Shared)(H:Hp):Prop where
 frames:A.frames=some outer
 mod:Mod K mg base
 bs:∀ b o,base.get? b=some o->s.heap.get? b=some o/\H b=none
 bsz:base.objs.size<=s.heap.objs.size
 funs:s.heap.FunFrames base outer
 frf:∀ b∈dS outer,H b=none
 hok:bp P w H s.heap
 bare:FT s.gens
def CE (outer:List Env)(P:FN)(w:World)(H:Hp)(s:Shared)(Q:VK)(u:Value)(s':Shared):Prop :=
 ∃ v H',s'.os=s.os/\FT s'.gens/\Un (dS outer) [] H H' s.heap s'.heap/\bp P w H' s'.heap/\ar v u/\Q v H'
def CR (CX:dD)(outer:List Env)(P:FN)(w:World)(H:Hp)(s:Shared)(Q:VK)(E:XK)(r:Gv)(s':Shared):Prop :=
 match r with
 | .ok (.ret u)=>CE outer P w H s Q u s'
 | .ok _=>False
 | .error e=>CX outer H s E e s'
structure ce (P:FN)(w:World)(K:W.Frag)(mg:Str->Option Value)(base:Heap)(CX:dD)(k:Nat)(f:Addr)(fd:Gy)(ps:List Str)(sp:Sp):Prop where
 len:∀ vs H Q E,sp vs H Q E->vs.length=ps.length
 run:∀ (A:Around) (outer:List Env) (s:Shared) (H:Hp) (args:Args) (us:List Value) (vs:List V) (Q:VK) (E:XK),aQ k A->gF P w K mg base A outer s H->Gz s fd args (ps.zip us)->ap vs us->sp vs H Q E ->
  Gw (model P w) A (.call (.ref f) args) (CR CX outer P w H s Q E) s
theorem gF.make {P:FN}{w:World}{K:W.Frag}{mg:Str->Option Value}{base:Heap}{A:Around}{outer:List Env}{s:Shared}{H:Hp}(e:gF P w K mg base A outer s H)(C:Addr)(us:List Value)(kw:List (Str×Value)) :
 gF P w K mg base (A.under (.builtin "type.__call__" ⟨.ref C::us,kw⟩)) outer s H:=⟨by first|exact e.frames|(simpa [Around.under,Code.envs,Code.isFrame,pushEnvs] using e.frames),e.mod,e.bs,e.bsz,e.funs,e.frf,e.hok,e.bare⟩
section
variable {X:Cx}{pins:List (Addr×Obj)}{σ:St}{H:Hp}{s s':Shared}
theorem aa.env0 (I:aa X pins σ H s):gF X.prog X.w X.K X.mg X.base X.A X.stack s H :=
 ⟨I.ok.frames,I.ok.mod,I.bs,EY I.ok.bsz I.sz,I.stack,I.stkFree,I.hok,I.bare⟩
theorem aa.after {Q:VK}{u:Value}(I:aa X pins σ H s)(h:CE X.stack X.prog X.w H s Q u s'):EP X pins σ Q u s':=by
 obtain⟨v,H',os,bare,un,hok,r,q⟩:=h
 obtain⟨hh,g,d,t,os'⟩:=s'
 obtain rfl:os'=s.os:=os
 exact⟨v,H',I.call (h':=hh) (g':=g) (d':=d) (t':=t) (ch:=[]) un hok bare (fun b z=>absurd z (by simp)),r,q⟩
end
abbrev jl (sp:Sp)(dvs:List V)(E:XK)(t:TA):TE:=fun σ H Q=>t σ H fun vs H1=>sp (vs++dvs) H1 Q E
inductive vm (C:Addr)(m:Str)(x:V)(H1:Hp)(R:Prop):Prop
 | mk (a dx:Addr)(fs:List (Str×V))(e:x=.ref a)(h:H1 a=some (.ins C dx fs))(l:fs.lookup m=none)(q:R):vm C m x H1 R
def jk (C:Addr)(m:Str)(sp:Sp)(dvs:List V)(E:XK)(ta:TE)(t:TA):TE:=fun σ H Q=>ta σ H fun x H1=>vm C m x H1 (t σ H1 fun vs H2=>sp (x::(vs++dvs)) H2 Q E)
def yw (C:Addr)(sp:Sp)(dvs:List V)(E:XK)(t:TA):TE:=fun σ H Q=>t σ H fun vs H1=>∀ x dx,H1 x=none->H1 dx=none->dx≠x ->
 sp (.ref x::(vs++dvs)) (upd (upd H1 dx (.own x)) x (.ins C dx [])) (fun v H2=>v=.non/\Q (.ref x) H2) E
def bB (K:W.Frag)(fd:Gy)(ps:List Str)(ds:List Value):Prop :=
 ∀ (s:Shared) (us:List Value),K.In s.heap->(us++ds).length=ps.length->Gz s fd ⟨us,[]⟩ (ps.zip (us++ds))
theorem bB.all {K:W.Frag}{fd:Gy}{ps:List Str}(h:∀ us:List Value,us.length=ps.length->GA fd ⟨us,[]⟩=pure (ps.zip us)):bB K fd ps []:=fun s us _ hl=>by
 rw[DJ] at hl ⊢
 exact .of_eq (h us hl)
def fP (CX:dD)(X:Cx)(E:XK):Prop:=∀ (pins:List (Addr×Obj)) (σ:St) (H:Hp) (s:Shared) (e:Value) (s':Shared),aa X pins σ H s->CX X.stack H s E e s'->X.xe e s'
section
variable {X:Cx}{CX:dD}{k:Nat}{f C:Addr}{fd:Gy}{ps:List Str}{sp:Sp}{dvs:List V}{ds:List Value}{E:XK}{x m:Str}{p pos apos:Pos}{e o:Expr}{es:List Expr}{ta:TE}{t:TA}
theorem i6 {pins:List (Addr×Obj)}{σ:St}{H:Hp}{s:Shared}{Q:VK}{us:List Value}{vs:List V}(F:ce X.prog X.w X.K X.mg X.base CX k f fd ps sp)(hr:aQ k X.A)(hb:bB X.K fd ps ds)(hd:ap dvs ds)(hx:fP CX X E)
  (I:aa X pins σ H s) (r:ap vs us) (h:sp (vs++dvs) H Q E):wpAny (model X.prog X.w) X.A (call (.ref f) us) (EP X pins σ Q) X.xe s:=by
 have r2:ap (vs++dvs) (us++ds):=r.append hd
 have hl:(us++ds).length=ps.length:=by rw[<-r2.length];exact F.len _ _ _ _ h
 refine wpAny_call (GB (F.run X.A X.stack s H ⟨us,[]⟩ (us++ds) (vs++dvs) Q E hr I.env0 (hb s us I.kIn hl) r2 h) fun r s' hq=>?_)
 cases r with
 | error e=>exact hx pins σ H s e s' I hq
 | ok fl =>
  cases fl with
  | ret u=>exact I.after hq
  | next=>exact False.elim hq
  | brk=>exact False.elim hq
  | cont=>exact False.elim hq
theorem Bc (F:ce X.prog X.w X.K X.mg X.base CX k f fd ps sp)(hr:aQ k X.A)(hg:Gl X x)(hm:X.mg x=some (.ref f))(hk:W.keepIn X.K (.ref f)=true)(hb:bB X.K fd ps ds)(hd:ap dvs ds)(hx:fP CX X E)
  (ha:PA X (e::es) t) (hdb:(x == ("__debug__" : Str))=false:=by decide) (he:FV (e::es) X.env=(false,eval e X.env)::FV es X.env:=by rfl) (hpl:(FU pos (FV es X.env)).any (·.1)=false:=by rfl) :
  PE X (.Call (.Name x p) (e::es) [] pos) (jl sp dvs E t):=by
 refine⟨?_⟩
 intro pins s σ H Q I h
 refine GC (jA I hg hm ?_ hdb)
 refine W.callWith_K (h₀:=X.base) I.ok.mod.kin hk (ag (ha pos pins s σ H _ I h) fun us s1 ⟨vs,H1,I1,r,q⟩=>⟨I1.kIn,?_⟩) he hpl
 exact i6 F hr hb hd hx I1 r q
theorem xU (F:ce X.prog X.w X.K X.mg X.base CX k f fd ps sp)(hr:aQ k X.A)(hg:Gl X x)(hm:X.mg x=some (.ref f))(hk:W.keepIn X.K (.ref f)=true)(hb:bB X.K fd ps ds)(hd:ap dvs ds)(hx:fP CX X E)
  (hdb:(x == ("__debug__" : Str))=false:=by decide):PE X (.Call (.Name x p) [] [] pos) (jl sp dvs E fu):=by
 refine⟨?_⟩
 intro pins s σ H Q I h
 refine GC (jA I hg hm ?_ hdb)
 exact W.callWith_K0 I.kIn hk (i6 (us:=[]) F hr hb hd hx I .nil h)
theorem zI {pl:Sem Bool}(he:PE X o ta)(c:du X.K C)(hm:iP X.K C m f)(F:ce X.prog X.w X.K X.mg X.base CX k f fd ps sp)(hr:aQ k X.A)(hb:bB X.K fd ps ds)(hd:ap dvs ds)(hx:fP CX X E)(ha:PA X (e::es) t)
  (hst:FV (e::es) X.env=(false,eval e X.env)::FV es X.env:=by rfl) (hpl:(FU pos (FV es X.env)).any (·.1)=false:=by rfl)
  (ht:eval (.Call (.Attribute o m apos) (e::es) [] pos) X.env=(do
   let ov <-eval o X.env
   F5 apos.atName
   let (f,first) <-F6 [ov] (Gu ov m pl)
   callWith pos f first (FU pos (FV (e::es) X.env)) (GE pos (GF [] X.env))):=by rfl) :
  PE X (.Call (.Attribute o m apos) (e::es) [] pos) (jk C m sp dvs E ta t):=by
 refine⟨?_⟩
 intro pins s σ H Q I h
 refine W.methodCall_KW (pl:=pl) (ag (he pins s σ H _ I h) fun u s1 ⟨x,H1,I1,rx,a,dx,fs,ex,ea,l,q⟩=>?_) ht
 subst ex
 obtain rfl:u=Value.ref a:=rx
 refine uF I1 ea c hm l ?_
 refine W.callWith_K (first:=[.ref a]) (h₀:=X.base) I.ok.mod.kin hm.kp (ag (ha pos pins s1 σ H1 _ I1 q) fun us s2 ⟨vs,H2,I2,r,q2⟩=>⟨I2.kIn,?_⟩) hst hpl
 exact i6 (us:=.ref a::us) (vs:=.ref a::vs) F hr hb hd hx I2 (.cons rfl r) q2
theorem AD {pl:Sem Bool}(he:PE X o ta)(c:du X.K C)(hm:iP X.K C m f)(F:ce X.prog X.w X.K X.mg X.base CX k f fd ps sp)(hr:aQ k X.A)(hb:bB X.K fd ps ds)(hd:ap dvs ds)(hx:fP CX X E)
  (ht:eval (.Call (.Attribute o m apos) [] [] pos) X.env=(do
   let ov <-eval o X.env
   F5 apos.atName
   let (f,first) <-F6 [ov] (Gu ov m pl)
   callWith pos f first (FU pos (FV [] X.env)) (GE pos (GF [] X.env))):=by rfl) :
  PE X (.Call (.Attribute o m apos) [] [] pos) (jk C m sp dvs E ta fu):=by
 refine⟨?_⟩
 intro pins s σ H Q I h
 refine W.methodCall_KW (pl:=pl) (ag (he pins s σ H _ I h) fun u s1 ⟨x,H1,I1,rx,a,dx,fs,ex,ea,l,q⟩=>?_) ht
 subst ex
 obtain rfl:u=Value.ref a:=rx
 refine uF I1 ea c hm l ?_
 exact W.callWith_K0 (first:=[.ref a]) I1.kIn hm.kp (i6 (us:=[.ref a]) (vs:=[.ref a]) F hr hb hd hx I1 (.cons rfl .nil) q)
structure Mk (K:W.Frag)(C f:Addr):Prop where
 makes:W.makesIn K C=true
 init:W.findIn K (.ref C) "__init__"=some (some (.ref f))
 fn:W.isFn K (.ref f)=true
 kp:W.keepIn K (.ref C)=true
theorem wB {pins:List (Addr×Obj)}{σ:St}{H:Hp}{s:Shared}{Q:VK}{us:List Value}{vs:List V}(M:Mk X.K C f)(F:ce X.prog X.w X.K X.mg X.base CX k f fd ps sp)(hr:aQ (k+1) X.A)(hb:bB X.K fd ps ds)(hd:ap dvs ds)
  (hx:fP CX X E) (I:aa X pins σ H s) (r:ap vs us)
  (h:∀ x dx,H x=none->H dx=none->dx≠x->sp (.ref x::(vs++dvs)) (upd (upd H dx (.own x)) x (.ins C dx [])) (fun v H2=>v=.non/\Q (.ref x) H2) E) :
  wpAny (model X.prog X.w) X.A (call (.ref C) us) (EP X pins σ Q) X.xe s:=by
 have hq:=h (s.heap.objs.size+1) s.heap.objs.size (I.hok.fresh (E2 _)) (I.hok.fresh (EU _)) (EV (E8 _))
 have I2:=aa.made (C:=C) I
 have r2:ap (V.ref (s.heap.objs.size+1)::(vs++dvs)) (Value.ref (s.heap.objs.size+1)::(us++ds)):=.cons rfl (r.append hd)
 have hl:(Value.ref (s.heap.objs.size+1)::us++ds).length=ps.length:=by
  have e:=r2.length
  rw[F.len _ _ _ _ hq] at e
  exact e.symm
 refine wpAny_call (yX (f:=f) I.kIn M.makes M.init (beq_iff_eq.mp M.fn) (GB (F.run _ X.stack _ _ ⟨Value.ref (s.heap.objs.size+1)::us,[]⟩ (Value.ref (s.heap.objs.size+1)::(us++ds)) _ _ E (hr.make C us [])
  (I2.env0.make C us []) (hb _ (Value.ref (s.heap.objs.size+1)::us) I2.kIn hl) r2 hq) fun r s' hq'=>?_))
 cases r with
 | error e=>exact hx pins σ _ _ e s' I2 hq'
 | ok fl =>
  cases fl with
  | ret u =>
   obtain⟨v,H',I3,rv,ev,q3⟩:=I2.after hq'
   subst ev
   exact⟨rv,⟨V.ref (s.heap.objs.size+1),H',I3,rfl,q3⟩⟩
  | next=>exact False.elim hq'
  | brk=>exact False.elim hq'
  | cont=>exact False.elim hq'
theorem va (M:Mk X.K C f)(F:ce X.prog X.w X.K X.mg X.base CX k f fd ps sp)(hr:aQ (k+1) X.A)(hg:Gl X x)(hm:X.mg x=some (.ref C))(hb:bB X.K fd ps ds)(hd:ap dvs ds)(hx:fP CX X E)
  (ha:PA X (e::es) t) (hdb:(x == ("__debug__" : Str))=false:=by decide) (he:FV (e::es) X.env=(false,eval e X.env)::FV es X.env:=by rfl) (hpl:(FU pos (FV es X.env)).any (·.1)=false:=by rfl) :
  PE X (.Call (.Name x p) (e::es) [] pos) (yw C sp dvs E t):=by
 refine⟨?_⟩
 intro pins s σ H Q I h
 refine GC (jA I hg hm ?_ hdb)
 refine W.callWith_K (h₀:=X.base) I.ok.mod.kin M.kp (ag (ha pos pins s σ H _ I h) fun us s1 ⟨vs,H1,I1,r,q⟩=>⟨I1.kIn,?_⟩) he hpl
 exact wB M F hr hb hd hx I1 r q
end
def PK (X:Cx)(kws:List GG)(t:TA):Prop :=
 ∀ (pos:Pos) (pins:List (Addr×Obj)) (s:Shared) (σ:St) (H:Hp) (Q:List V->Hp->Prop),aa X pins σ H s->t σ H Q->wpAny (model X.prog X.w) X.A (evalAll ((GE pos (GF kws X.env)).map (·.2))) (AP X pins σ Q) X.xe s
section
variable {X:Cx}{CX:dD}{k:Nat}{f C:Addr}{fd:Gy}{ps ks:List Str}{sp:Sp}{E:XK}{x m:Str}{p pos apos kpos:Pos}{e o:Expr}{es:List Expr}{kws:List GG}{te ta:TE}{t tk:TA}{nm:Option Str}
theorem zF:PK X [] fu:=fun _ _ _ _ H Q I h=>wpAny_evalAll_nil ⟨[],H,I,.nil,h⟩
theorem yi (ha:PE X e te)(hr:PK X kws t):PK X (⟨nm,e,kpos⟩::kws) (fV te t):=by
 intro pos pins s σ H Q I h
 show wpAny _ _ (evalAll ((do let v <-eval e X.env;F5 pos;pure v)::(GE pos (GF kws X.env)).map (·.2))) _ _ s
 refine wpAny_evalAll_cons (Ge (ag (ha pins s σ H _ I h) fun u s1 ⟨x,H1,I1,r1,q1⟩=>Ge (Gg (Gh ?_))))
 exact ag (hr pos pins s1 σ H1 _ I1 q1) fun us s2 ⟨xs,H2,I2,r2,q2⟩=>⟨x::xs,H2,I2,.cons r1 r2,q2⟩
variable {g:List Value->List Value->List Value}{gV:List V->List V->List V}
end
structure aA (N P:List Str)(sc:Scope):Prop where
 kind:sc.kind=.function
 co:sc.isCoroutine=false
 gen:sc.isGenerator=false
 nd:N.Nodup
 pre:N.take P.length=P
 par:∀ x∈P,sc.names.lookup x=some .local\/sc.names.lookup x=some .cell
 nofree:∀ y∈sc.names,y.2≠.free
theorem aE {N P:List Str}{sc:Scope}(a:sc.kind=.function:=by rfl)(b:sc.isCoroutine=false:=by rfl)(c:sc.isGenerator=false:=by rfl)(d:N.Nodup:=by decide +kernel)(e:N.take P.length=P:=by rfl)(f:∀ x∈P,sc.names.lookup x=some .local\/sc.names.lookup x=some .cell:=by decide +kernel)(g:∀ y∈sc.names,y.2≠.free:=by decide +kernel):aA N P sc:=⟨a,b,c,d,e,f,g⟩
theorem oZ {GH:Str->Option NameKind}{x:Str}:∀ {binds:List (Str×Value)}{m:Str->Option Value},(∀ v,(x,v)∉binds)->bindL GH binds m x=m x
 | [],_,_=>rfl
 | (n,v)::r,m,h=>by
  unfold bindL
  rw[oZ fun w hw=>h w (C5 _ hw)]
  split
  ·have:x≠n:=by rintro rfl;exact h v C6
   simp[this]
  ·rfl
theorem p3 {GH:Str->Option NameKind}{x:Str}:∀ {binds:List (Str×Value)}{m:Str->Option Value},(∀ v,(x,v)∉binds)->bindC GH binds m x=m x
 | [],_,_=>rfl
 | (n,v)::r,m,h=>by
  unfold bindC
  rw[p3 fun w hw=>h w (C5 _ hw)]
  split
  ·rfl
  ·have:x≠n:=by rintro rfl;exact h v C6
   simp[this]
theorem rL {GH:Str->Option NameKind}{x:Str}{v:Value}:∀ {P:List Str}{vs:List Value}{i:Nat}{m:Str->Option Value},P.Nodup->P[i]?=some x->vs[i]?=some v->GH x=some .local ->
  bindL GH (P.zip vs) m x=some v
 | [],_,_,_,_,h,_,_=>by simp at h
 | _::_,[],_,_,_,_,h,_=>by simp at h
 | p::P,w::vs,0,m,nd,h1,h2,hk=>by
  simp at h1 h2;subst h1;subst h2
  show bindL GH ((p,w)::P.zip vs) m p=_
  unfold bindL
  rw[oZ fun v hv=>(List.nodup_cons.mp nd).1 (Eb hv).1,if_pos hk]
  simp
 | p::P,w::vs,i+1,m,nd,h1,h2,hk=>by
  show bindL GH ((p,w)::P.zip vs) m x=_
  unfold bindL
  exact rL (i:=i) (List.nodup_cons.mp nd).2 (by simpa using h1) (by simpa using h2) hk
theorem uI {GH:Str->Option NameKind}{x:Str}{v:Value}:∀ {P:List Str}{vs:List Value}{i:Nat}{m:Str->Option Value},P.Nodup->P[i]?=some x->vs[i]?=some v->GH x≠some .local ->
  bindC GH (P.zip vs) m x=some v
 | [],_,_,_,_,h,_,_=>by simp at h
 | _::_,[],_,_,_,_,h,_=>by simp at h
 | p::P,w::vs,0,m,nd,h1,h2,hk=>by
  simp at h1 h2;subst h1;subst h2
  show bindC GH ((p,w)::P.zip vs) m p=_
  unfold bindC
  rw[p3 fun v hv=>(List.nodup_cons.mp nd).1 (Eb hv).1,if_neg hk]
  simp
 | p::P,w::vs,i+1,m,nd,h1,h2,hk=>by
  show bindC GH ((p,w)::P.zip vs) m x=_
  unfold bindC
  exact uI (i:=i) (List.nodup_cons.mp nd).2 (by simpa using h1) (by simpa using h2) hk
def d8 (N:List Str)(vs:List V):St:=vs.map some++List.replicate (N.length-vs.length) none
def fJ (CX:dD)(P:FN)(w:World)(K:W.Frag)(mg:Str->Option Value)(base:Heap)(N:List Str)(qual:Str)(scope:Scope)(f:Addr)(cd:Value)(A:Around)(outer:List Env)(s:Shared)(H:Hp)(E:XK):Cx where
 prog:=P
 w:=w
 K:=K
 mg:=mg
 base:=base
 A:=A.deeper (GI qual scope s.heap.objs.size f cd)
 N:=N
 s₀:=s
 H₀:=H
 env:=GI qual scope s.heap.objs.size f cd
 outer:=outer
 stack:=GI qual scope s.heap.objs.size f cd::outer
 ex:=[]
 calm:=true
 fn:=fun _=>true
 pn:=[]
 xe:=fun e s'=>wpAny (model P w) (A.deeper (GI qual scope s.heap.objs.size f cd)) (leaving (GI qual scope s.heap.objs.size f cd) e) (fun _ s''=>CX outer H s E e s'') (fun e' s''=>CX outer H s E e' s'') s'
theorem tD {sc:Scope}{n:Nat}{x:Str}(h:sc.names.lookup x=some .cell):∃ c,(cellsFrom n sc.names []).lookup x=some c:=by
 have q:=W.cellsFrom_some sc.names n [] (.inl h)
 exact Option.isSome_iff_exists.mp q
theorem Ar {CX:dD}{P:FN}{w:World}{K:W.Frag}{mg:Str->Option Value}{base:Heap}{N ps:List Str}{qual:Str}{scope:Scope}{f:Addr}{cd:Value}{A:Around}{outer:List Env}{s s1:Shared}{H:Hp}{E:XK}{us:List Value}{vs:List V}
  (S:aA N ps scope) (hd:A.handled=none) (e0:gF P w K mg base A outer s H) (hl:vs.length=ps.length) (r:ap vs us)
  (x:InCallC s s.heap.objs.size (bindL (GI qual scope s.heap.objs.size f cd).kindOf (ps.zip us) fun _=>none) (cellsFrom (s.heap.objs.size+1) scope.names []) (bindC (GI qual scope s.heap.objs.size f cd).kindOf (ps.zip us) fun _=>none) s1) :
  aa (fJ CX P w K mg base N qual scope f cd A outer s H E) [] (d8 N vs) H s1:=by
 have hpl:ps.length<=N.length:=by have:=congrArg Dw S.pre;rw[Db] at this;omega
 obtain⟨h1,tk,rfl,hk⟩:=x.done
 have noA:∀ b:Addr,b∉(fJ CX P w K mg base N qual scope f cd A outer s H E).ex:=fun b z=>absurd (show b∈([]:List Addr) from z) (by simp)
 refine⟨⟨e0.mod,S.kind,rfl,rfl,EU _,fun y z c h1 h2=>?_,fun y hy=>?_,fun y c _ h=>?_,fun _=>hd,Around.frames_deeper e0.frames,.inr ⟨rfl,rfl⟩,fun b z=>absurd z (noA b),e0.bs,e0.bsz,fun b _ _=>noA b,fun b z=>absurd z (noA b),e0.funs,e0.frf⟩,
  rfl,e0.bare,Un.kept hk,⟨_,x.toInCall.ns,fun i y v h1 h2 h3=>?_⟩,fun y c h=>⟨_,x.cell y c h⟩,e0.hok.fresh (EU _),fun y c h=>?_,fun p hp=>absurd (show p∈([]:List (Addr×Obj)) from hp) (by simp),e0.hok.kept hk,?_⟩
 ·exact name_of_addr x.apart (PySem.mem_of_lookup h1) (PySem.mem_of_lookup h2)
 ·have hy:scope.names.lookup y=some .cell\/scope.names.lookup y=some .free:=hy
  rcases hy with hy|hy
  ·exact tD hy
  ·exact absurd rfl (S.nofree _ (PySem.mem_of_lookup hy))
 ·exact E7 (x.above y c (PySem.mem_of_lookup h))
 ·have hi:i<vs.length:=by
   unfold d8 at h2
   by_cases hi:i<vs.length
   ·exact hi
   ·rw[DK (by simpa using hi)] at h2
    rw[List.getElem?_replicate] at h2
    split at h2 <;> cases h2
  have ha:vs[i]?=some v:=by
   unfold d8 at h2
   rw[Ec (by simpa using hi),Da] at h2
   cases e:vs[i]? with
   | none=>rw[e] at h2;cases h2
   | some a=>rw[e] at h2;cases h2;rfl
  obtain⟨u,hu,rv⟩:=r.get ha
  have hp:ps[i]?=some y:=by
   rw[<-S.pre,List.getElem?_take_of_lt (by omega)];exact h1
  have ndP:ps.Nodup:=by rw[<-S.pre];exact S.nd.sublist (Ed _ _)
  refine⟨u,rv,?_⟩
  rcases S.par y (De hp) with k|k
  ·exact .inl ⟨k,rL ndP hp hu k⟩
  ·obtain⟨c,e⟩:=tD (n:=s.heap.objs.size+1) k
   refine .inr ⟨.inl k,c,e,?_⟩
   have q:=x.cell y c e
   rw[uI ndP hp hu (by show scope.names.lookup y≠_;rw[k];decide)] at q
   exact q
 ·exact e0.hok.fresh (E7 (x.above y c (PySem.mem_of_lookup h)))
 ·unfold d8
  show _=N.length
  rw[C7,CW,List.length_replicate]
  omega
theorem zE {CX:dD}{P:FN}{w:World}{K:W.Frag}{mg:Str->Option Value}{base:Heap}{k:Nat}{f:Addr}{name qual:Str}{params:Arguments}{body:List Stmt}{scope:Scope}{dV kV doc pm cdv ct oc:Value}{an od:Option Addr}
  {osl:Array (Option Value)}{N ps:List Str}{sp:Sp} (lk:K.lookup f=some ⟨oc,od,.func (W.fnOf name qual params body scope dV kV doc pm an cdv ct),osl⟩) (hcd:W.codeIn K cdv qual=true) (S:aA N ps scope)
  (len:∀ vs H Q E,sp vs H Q E->vs.length=ps.length)
  (hbody:∀ (A:Around) (outer:List Env) (s:Shared) (H:Hp) (vs:List V) (Q:VK) (E:XK),aQ k (A.deeper (GI qual scope s.heap.objs.size f cdv))->sp vs H Q E ->
   ∃ t,b7 (fJ CX P w K mg base N qual scope f cdv A outer s H E) body t/\t { nx:=fun _ H'=>Q .non H',rt:=Q } (d8 N vs) H) :
  ce P w K mg base CX (k+1) f (W.fnOf name qual params body scope dV kV doc pm an cdv ct) ps sp:=by
 refine⟨len,fun A outer s H args us vs Q E hr e0 hb r hsp=>?_⟩
 have hl:=len _ _ _ _ hsp
 have KX:K.In s.heap:=e0.mod.kin.keeps fun b o e=>(e0.bs b o e).1
 have lim:s.heap.NoLimit:=e0.mod.nolimit.keeps fun b o e=>(e0.bs b o e).1
 have hkind:∀ y∈ps.zip us,scope.names.lookup y.1=some .local\/(scope.names.lookup y.1=some .cell/\((cellsFrom (s.heap.objs.size+1) scope.names []).lookup y.1).isSome=true):=fun⟨n,v⟩ hy=>by
  rcases S.par n (Eb hy).1 with q|q
  ·exact .inl q
  ·exact .inr ⟨q,W.cellsFrom_some _ _ _ (.inl q)⟩
 refine codeAny_call_function hr.depth (KX _ _ lk) rfl S.co S.gen rfl (W.codeRec_of KX hcd) (hb _ _ _ _ ?_)
 refine wpAny_newFunctionEnv_cells S.kind hkind fun env he s1 x=>?_
 subst he
 refine⟨lim.keeps x.toInCall.keep,codeAny_func ?_⟩
 obtain⟨t,ht,hq⟩:=hbody A outer s H vs Q E (hr.deeper _) hsp
 have I:aa (fJ CX P w K mg base N qual scope f cdv A outer s H E) [] (d8 N vs) H s1:=Ar S hr.hd e0 hl r x
 refine FW (ht [] s1 (d8 N vs) H _ I hq) (fun fl s' hs=>?_) fun e s' hs=>hs
 have fin:∀ {σ':St}{H':Hp}{v:V}{u:Value},aa (fJ CX P w K mg base N qual scope f cdv A outer s H E) [] σ' H' s'->ar v u->Q v H'->CE outer P w H s Q u s' :=
  fun {σ' H' v u} J rv q=>⟨v,H',J.os,J.bare,J.base,J.hok,rv,q⟩
 cases fl with
 | ret u =>
  obtain⟨v,σ',H',J,rv,q⟩:=hs
  exact fin J rv q
 | next =>
  obtain⟨σ',H',J,q⟩:=hs
  exact fin (v:=V.non) (u:=Value.none) J rfl q
 | brk =>
  obtain⟨_,_,_,q⟩:=hs
  exact False.elim q
 | cont =>
  obtain⟨_,_,_,q⟩:=hs
  exact False.elim q
end L2
namespace L2
open PySem PySem.Spec PyProof.Rows
section
variable {X:Cx}{x:Str}{p pos:Pos}{e:Expr}{es:List Expr}{t:TA}{id T:String}{r:List V->Hp->VK->Prop}
def jj (r:List V->Hp->VK->Prop)(t:TA):TE:=fun σ H Q=>t σ H fun vs H1=>r vs H1 Q
theorem xR (hc:bm X (.builtin id) r)(hg:Gl X x)(hm:X.mg x=none)(hv:FS x=some (.builtin id))(ha:PA X (e::es) t)(hn:x≠"__name__":=by decide)(hdb:(x == ("__debug__" : Str))=false:=by decide)
  (he:FV (e::es) X.env=(false,eval e X.env)::FV es X.env:=by rfl) (hpl:(FU pos (FV es X.env)).any (·.1)=false:=by rfl):PE X (.Call (.Name x p) (e::es) [] pos) (jj r t):=by
 refine⟨?_⟩
 intro pins s σ H Q I h
 refine GC (eP I hg hm hv ?_ hn hdb)
 exact PyProof.Rows.callWith_builtin1 (ag (ha pos pins s σ H _ I h) fun us s1 ⟨vs,H1,I1,r1,q1⟩=>hc pins s1 σ H1 vs us Q I1 r1 q1) he hpl
theorem ye (hc:bm X (.type T) r)(hg:Gl X x)(hm:X.mg x=none)(hv:FS x=some (.type T))(ha:PA X (e::es) t)(hn:x≠"__name__":=by decide)(hdb:(x == ("__debug__" : Str))=false:=by decide)
  (he:FV (e::es) X.env=(false,eval e X.env)::FV es X.env:=by rfl) (hpl:(FU pos (FV es X.env)).any (·.1)=false:=by rfl):PE X (.Call (.Name x p) (e::es) [] pos) (jj r t):=by
 refine⟨?_⟩
 intro pins s σ H Q I h
 refine GC (eP I hg hm hv ?_ hn hdb)
 exact PyProof.Rows.callWith_type1 (ag (ha pos pins s σ H _ I h) fun us s1 ⟨vs,H1,I1,r1,q1⟩=>hc pins s1 σ H1 vs us Q I1 r1 q1) he hpl
end
end L2
namespace HT
open PySem PyProof.Rows
section
open PySem.SeqAt
open PySem.AutoSeq1 (wpAny_loadPart')
open PySem.MeetsSeq PySem.MeetsSeq2 PySem.MeetsSeq3
end
section
variable {prog:FN}{w:World}{A:Around}{E:Value->Shared->Prop}{s:Shared}
theorem cat_tup {t b:Addr}{vs ws:List Value}{Q:Value->Shared->Prop}(ht:IsTup s.heap t vs.toArray)(hb:IsTup s.heap b ws.toArray)(hv:vs≠[])
  (h1:ws=[]->Q (.ref t) s) (h2:ws≠[]->Q (.ref s.heap.objs.size) { s with heap:=s.heap.push { cls:=.type "tuple",data:=.seq (vs++ws).toArray } })
  (hsz:vs.length+ws.length<=FO):wpAny (model prog w) A (Gr .Add (.ref t) (.ref b)) Q E s:=by
 obtain⟨⟨cls,dd,data,sl⟩,ho,hc,n,hd⟩:=id ht
 obtain⟨⟨cls2,dd2,data2,sl2⟩,ho2,hc2,n2,hd2⟩:=id hb
 simp only at hc hd hc2 hd2
 subst hc hd hc2 hd2
 have e:vs.toArray++ws.toArray=(vs++ws).toArray:=by simp
 by_cases hw:ws=[]
 ·exact concat_meets ⟨_,ho,rfl⟩ ⟨_,ho2,rfl⟩ noFill_tuple_add seq_tuple_add PySem.F.slot_tuple_add PySem.F.entry_tuple_add (PySem.F.args_tuple_add_2 _ _)
   (tuple_addW1 t b vs.toArray ws.toArray n n2 dd dd2 sl sl2 (by simpa using hv) (by simp[hw])) ⟨ho,ho2,h1 hw⟩
 ·refine concat_meets ⟨_,ho,rfl⟩ ⟨_,ho2,rfl⟩ noFill_tuple_add seq_tuple_add PySem.F.slot_tuple_add PySem.F.entry_tuple_add (PySem.F.args_tuple_add_2 _ _)
   (tuple_addW2 t b vs.toArray ws.toArray n n2 dd dd2 sl sl2 (by simpa using hv) (by simpa using hw) (by rw[CY,CY];exact hsz)) ⟨ho,ho2,?_⟩
  rw[e]
  exact h2 hw
def sIx (n d:Nat):Option Int->Nat
 | none=>d
 | some v=>if v<0 then (v+(n:Int)).toNat else min v.toNat n
theorem sIx_none (n d:Nat):sIx n d none=d:=rfl
theorem sIx_nat (n d k:Nat):sIx n d (some (k:Int))=min k n:=by
 show (if (k:Int)<0 then ((k:Int)+(n:Int)).toNat else min (k:Int).toNat n)=min k n
 rw[if_neg (by omega),Fs]
theorem CB (n d:Nat)(hd:d<=n)(o:Option Int):sIx n d o<=n:=by
 cases o with
 | none=>exact hd
 | some v =>
  show (if v<0 then (v+(n:Int)).toNat else min v.toNat n)<=n
  by_cases hv:v<0
  ·rw[if_pos hv];omega
  ·rw[if_neg hv];exact Nat.min_le_right _ _
theorem oQ (v:Int)(n d:Nat):(if v<0 then max (v+(n:Int)) 0 else min v (n:Int))=((sIx n d (some v):Nat):Int):=by
 show (if v<0 then max (v+(n:Int)) 0 else min v (n:Int))=(((if v<0 then (v+(n:Int)).toNat else min v.toNat n):Nat):Int)
 by_cases hv:v<0
 ·simp only[if_pos hv];omega
 ·simp only[if_neg hv];omega
theorem yo (lo hi:Option Int)(n:Nat):Builtin.Slice.sliceAdjust lo hi 1 (n:Int)=(((sIx n 0 lo:Nat):Int),((sIx n n hi:Nat):Int)):=by
 have h1:¬ ((1:Int)<0):=by omega
 unfold Builtin.Slice.sliceAdjust
 simp only[h1,if_false]
 refine Prod.ext ?_ ?_
 ·cases lo with
  | none=>rfl
  | some v=>exact oQ v n 0
 ·cases hi with
  | none=>rfl
  | some v=>exact oQ v n n
theorem yj (i j:Nat):Builtin.Slice.slicePlaces (i:Int) (j:Int) 1=j-i:=by
 unfold Builtin.Slice.slicePlaces
 have h1:(1:Int)>0:=by omega
 simp only[h1,if_true,Int.ediv_one]
 split <;> omega
theorem oB {v:Value}{o:Option Int}{Q:Option Int->Shared->Prop}(p:GJ v o)(h:Q o s):wpAny (model prog w) A (Builtin.Slice.slicePartIndex v) Q E s:=by
 cases p with
 | none=>exact slicePart_none h
 | int i t=>exact slicePart_int h
theorem vH {sl:Addr}{vl vu:Value}{lo hi:Option Int}{n:Nat}{Q:Int×Int×Nat->Shared->Prop}(hs:s.heap.IsSliceOf sl vl vu .none)(pl:GJ vl lo)(pu:GJ vu hi)
  (h:Q (((sIx n 0 lo:Nat):Int),1,sIx n n hi-sIx n 0 lo) s):wpAny (model prog w) A (Builtin.Slice.sliceApplied (.ref sl) (pure (n:Int))) Q E s:=by
 obtain⟨os,hos,hcs,hds⟩:=id hs
 unfold Builtin.Slice.sliceApplied Builtin.Slice.sliceFields
 refine Ge (Ge (GK hos hds (x:=vl) rfl (Ge (GK hos hds (x:=vu) rfl (Ge (GK hos hds (x:=.none) rfl (Gh ?_)))))))
 refine Ge (slicePart_none ?_)
 show wpAny _ _ (if ((1:Int) == 0)=true then _ else _) _ _ s
 rw[if_neg (by decide)]
 refine Ge (oB pl (Ge (oB pu (Ge (Gh ?_)))))
 show wpAny _ _ (match Builtin.Slice.sliceAdjust lo hi 1 (n:Int) with|(lo,hi)=>pure (lo,(1:Int),Builtin.Slice.slicePlaces lo hi 1)) _ _ s
 rw[yo lo hi n]
 show wpAny _ _ (pure (((sIx n 0 lo:Nat):Int),(1:Int),Builtin.Slice.slicePlaces ((sIx n 0 lo:Nat):Int) ((sIx n n hi:Nat):Int) 1)) _ _ s
 rw[yj]
 exact Gh h
theorem CD (xs:Array Value)(i k:Nat):((C2 k).filterMap fun (m:Nat)=>xs[((i:Int)+(m:Int)*1).toNat]?).toArray=((xs.toList.drop i).take k).toArray:=by
 have e:(fun (m:Nat)=>xs[((i:Int)+(m:Int)*1).toNat]?)=fun m=>xs[i+m]?:=by
  funext m
  have:((i:Int)+(m:Int)*1).toNat=i+m:=by omega
  rw[this]
 rw[e]
 have:=pick_run xs i k
 rw[List.filterMap_map] at this
 have e2:((fun x=>xs[x]?)∘fun x=>i+x)=fun m=>xs[i+m]?:=rfl
 rw[e2] at this
 rw[this]
theorem getItem_tuple_cut {t sl:Addr}{items:Array Value}{vl vu:Value}{lo hi:Option Int}{Q:Value->Shared->Prop}(ht:IsTup s.heap t items)(hs:s.heap.IsSliceOf sl vl vu .none)(pl:GJ vl lo)(pu:GJ vu hi)
  (hw:¬ (sIx items.size 0 lo=0/\sIx items.size items.size hi=items.size))
  (h:Q (.ref s.heap.objs.size) { s with heap:=s.heap.push { cls:=.type "tuple",data:=.seq ((items.toList.drop (sIx items.size 0 lo)).take (sIx items.size items.size hi-sIx items.size 0 lo)).toArray } })
  (hsz:items.size<=FO):wpAny (model prog w) A (Gk (.ref t) (.ref sl)) Q E s:=by
 have htake:sizeOk (.seq ((items.toList.drop (sIx items.size 0 lo)).take (sIx items.size items.size hi-sIx items.size 0 lo)).toArray):=by
  show ((items.toList.drop (sIx items.size 0 lo)).take (sIx items.size items.size hi-sIx items.size 0 lo)).toArray.size<=FO
  rw[CY,Db,Ee,Fj]
  omega
 have hj:sIx items.size items.size hi<=items.size:=CB _ _ (EU _) hi
 obtain⟨os,hos,hcs,hds⟩:=id hs
 have hTs:s.TypeIs (.ref sl) "slice":=⟨os,hos,hcs⟩
 unfold Gk
 try with_reducible refine Gf ?_
 first|refine Ge (Gh ?_)|skip
 refine Ge (wpAny_sequenceKey ht.typeIs (by decide) ?_)
 refine Ge (GL (name:=Str.ofString "__getitem__") ht.typeIs PyProof.Rows.slot_tuple_getitem
  (GM PyProof.Rows.slot_tuple_getitem ht.typeIs entry_tuple_getitem ?_ (args_tuple_getitem _ _)))
 show wpAny _ _ (Builtin.Tuple.tupleItemsOf (.ref t) >>= _) _ _ s
 refine Ge (tupleItemsOf_ ht ?_)
 refine Ge (GN hTs ?_)
 rw[if_pos (by decide)]
 refine Ge (vH hs pl pu ?_)
 have hno:¬ ((((sIx items.size 0 lo:Nat):Int) == 0 && (1:Int) == 1 && (sIx items.size items.size hi-sIx items.size 0 lo) == items.size)=true):=by
  intro q
  rw[Bool.and_eq_true,Bool.and_eq_true] at q
  have q1:((sIx items.size 0 lo:Nat):Int)=0:=eq_of_beq q.1.1
  have q2:sIx items.size items.size hi-sIx items.size 0 lo=items.size:=eq_of_beq q.2
  exact hw ⟨by omega,by omega⟩
 show wpAny _ _ (if (((sIx items.size 0 lo:Nat):Int) == 0 && (1:Int) == 1 && (sIx items.size items.size hi-sIx items.size 0 lo) == items.size)=true then _ else _) _ _ s
 rw[if_neg hno,CD]
 first
  | exact Ge (m:=Builtin.Tuple.tupleExact _) (Gi (Gh ⟨_,rfl,Gh h⟩) htake)
  | exact Ge (m:=Builtin.Tuple.tupleExact _) (Gi (Ge (Gh (Gh ⟨_,rfl,Gh h⟩))) htake)
  | exact Ge (Ge (m:=Builtin.Tuple.tupleExact _) (Gi (Gh (Gh ⟨_,rfl,Gh h⟩)) htake))
  | exact Ge (Ge (m:=Builtin.Tuple.tupleExact _) (Gi (Gh ⟨_,rfl,Gh h⟩) htake))
end
end HT
namespace L2
open PySem PySem.Spec PyProof.Rows
abbrev TO:=St->Hp->(Option Int->Hp->Prop)->Prop
def PO (X:Cx)(e:Option Expr)(t:TO):Prop :=
 ∀ (pins:List (Addr×Obj)) (s:Shared) (σ:St) (H:Hp) (Q:Option Int->Hp->Prop),aa X pins σ H s->t σ H Q ->
  wpAny (model X.prog X.w) X.A (evalPart e X.env) (fun u s'=>∃ o H',aa X pins σ H' s'/\GJ u o/\Q o H') X.xe s
def zA:TO:=fun _ H Q=>Q none H
def wN (t:TE):TO:=fun σ H Q=>t σ H fun x H1=>∃ i,x=.int i/\Q (some i) H1
section
variable {X:Cx}{e:Expr}{te:TE}{lo hi:Option Expr}{tl th:TO}{pos p2:Pos}
theorem mH:PO X none zA:=by
 intro pins s σ H Q I h
 rw[evalPart_none]
 exact Gh ⟨none,H,I,.none,h⟩
theorem lI (h:PE X e te):PO X (some e) (wN te):=by
 intro pins s σ H Q I hw
 rw[evalPart_some]
 refine ag (h pins s σ H _ I hw) fun u s1 ⟨x,H1,I1,r1,q1⟩=>?_
 obtain⟨i,rfl,q⟩:=q1
 obtain⟨t,rfl⟩:=r1
 exact⟨some i,H1,I1,.int i t,q⟩
def iK (X:Cx)(r:V->Option Int->Option Int->Hp->VK->Prop):Prop :=
 ∀ (pins:List (Addr×Obj)) (s:Shared) (σ:St) (H:Hp) (x:V) (v vl vu:Value) (lo hi:Option Int) (sl:Addr) (Q:VK),aa X pins σ H s->ar x v->s.heap.IsSliceOf sl vl vu .none->GJ vl lo->GJ vu hi->r x lo hi H Q ->
  ∃ T id,GO (.type T) "__getitem__"=pure (some (.builtin id))/\s.TypeIs v T/\wpAny (model X.prog X.w) X.A (Gk v (.ref sl)) (EP X pins σ Q) X.xe s
def yN (r:V->Option Int->Option Int->Hp->VK->Prop)(te:TE)(tl th:TO):TE:=fun σ H Q=>te σ H fun x H1=>tl σ H1 fun l H2=>th σ H2 fun u H3=>r x l u H3 Q
theorem kW {r:V->Option Int->Option Int->Hp->VK->Prop}(hr:iK X r)(he:PE X e te)(hl:PO X lo tl)(hu:PO X hi th):PE X (.Subscript e (.Slice lo hi none p2) pos) (yN r te tl th):=by
 refine⟨?_⟩
 intro pins s σ H Q I h
 refine Subscript_ (ag (he pins s σ H _ I h) fun v s1 ⟨x,H1,I1,r1,q1⟩=>?_)
 refine wpAny_Slice (ag (hl pins s1 σ H1 _ I1 q1) fun vl s2 ⟨l,H2,I2,pl,q2⟩=>ag (hu pins s2 σ H2 _ I2 q2) fun vu s3 ⟨u,H3,I3,pu,q3⟩=>?_)
 rw[evalPart_none]
 refine Gh ?_
 have I4:aa X pins σ H3 { s3 with heap:=s3.heap.push { cls:=.type "slice",data:=.fields #[vl,vu,.none] } }:=I3.kept (t':=s3.toks) fun b ob q=>EL _ q
 obtain⟨T,id,hT,ht,hg⟩:=hr pins { s3 with heap:=s3.heap.push { cls:=.type "slice",data:=.fields #[vl,vu,.none] } } σ H3 x v vl vu l u s3.heap.objs.size Q I4 r1 (Heap.IsSliceOf.new ..) pl pu q3
 show wpAny (model X.prog X.w) X.A (GP e (.Slice lo hi none p2) v (.ref s3.heap.objs.size)) (EP X pins σ Q) X.xe { s3 with heap:=s3.heap.push { cls:=.type "slice",data:=.fields #[vl,vu,.none] } }
 exact tail_any (ops:=[.ref s3.heap.objs.size,v]) ht hT hg (by with_unfolding_all rfl)
def gi (xs:List V)(lo hi:Option Int):List V:=(xs.drop (HT.sIx xs.length 0 lo)).take (HT.sIx xs.length xs.length hi-HT.sIx xs.length 0 lo)
theorem wg (xs:List V)(lo hi:Option Int):(gi xs lo hi).length<=xs.length:=by
 unfold gi
 rw[Db,Ee]
 omega
def AB (K:W.Frag):V->Option Int->Option Int->Hp->VK->Prop:=fun x lo hi H Q=>∃ a xs,x=.ref a/\aV K H a xs /\
 ¬ (HT.sIx xs.length 0 lo=0/\HT.sIx xs.length xs.length hi=xs.length)/\∀ p,H p=none->Q (.ref p) (upd H p (.tup (gi xs lo hi)))
theorem o4:iK X (AB X.K):=by
 intro pins s σ H x v vl vu lo hi sl Q I rx hs pl pu h
 obtain⟨a,xs,rfl,hx,hw,q⟩:=h
 cases rx
 obtain⟨its,r,ht,hz⟩:=I.tuple hx
 have hlen:its.toArray.size=xs.length:=by rw[CY];exact r.length.symm
 refine⟨"tuple",_,PyProof.Rows.slot_tuple_getitem.lookup,ht.typeIs,?_⟩
 refine HT.getItem_tuple_cut ht hs pl pu (by rw[hlen];exact hw) ?_ (by rw[hlen];exact hz)
 rw[hlen]
 refine⟨.ref s.heap.objs.size,_,I.laid (t':=s.toks) (o:=.tup (gi xs lo hi)) (fun b ob q=>EL _ q) (EU _) ?_,rfl,q _ (I.hok.fresh (EU _))⟩
 exact⟨EY (wg xs lo hi) hz,_,(r.drop (HT.sIx xs.length 0 lo)).take (HT.sIx xs.length xs.length hi-HT.sIx xs.length 0 lo),IsTup.new _ _⟩
def pQ (K:W.Frag):R2:=fun x y H Q=>∃ a b xs ys,x=.ref a/\y=.ref b/\aV K H a xs/\aV K H b ys/\xs≠[]/\xs.length+ys.length<=FO /\
 (ys=[]->Q (.ref a) H)/\(ys≠[]->∀ p,H p=none->Q (.ref p) (upd H p (.tup (xs++ys))))
theorem ap.nil_iff {xs:List V}{us:List Value}(r:ap xs us):us=[]↔xs=[]:=by
 cases r with
 | nil=>simp
 | cons _ _=>simp
theorem y8:bj X (Gr .Add) (pQ X.K):=by
 intro pins s σ H x y v u Q I rx ry h
 obtain⟨a,b,xs,ys,rfl,rfl,ha,hb,hx,hz,q1,q2⟩:=h
 cases rx
 cases ry
 obtain⟨its,r1,p1,_⟩:=I.tuple ha
 obtain⟨its2,r2,p2,_⟩:=I.tuple hb
 refine HT.cat_tup p1 p2 (fun z=>hx (r1.nil_iff.mp z)) (fun z=>⟨.ref a,H,I,rfl,q1 (r2.nil_iff.mp z)⟩) (fun z=>?_) (by rw[<-r1.length,<-r2.length];exact hz)
 refine⟨.ref s.heap.objs.size,_,I.laid (t':=s.toks) (o:=.tup (xs++ys)) (fun b ob q=>EL _ q) (EU _) ?_,rfl,q2 (fun w=>z (r2.nil_iff.mpr w)) _ (I.hok.fresh (EU _))⟩
 exact⟨by rw[C7];exact hz,_,r1.append r2,IsTup.new _ _⟩
end
end L2
namespace L2
open PySem PySem.Spec PyProof.Rows
def cz (n:Nat)(i:Int):Option Nat:=if 0<=i then (if i<n then some i.toNat else none) else if -(n:Int)<=i then some (i+n).toNat else none
def bY {α:Type}(xs:List α)(i:Int):Option α:=(cz xs.length i).bind fun j=>xs[j]?
theorem rg {n:Nat}{i:Int}{j:Nat}(h:cz n i=some j):seqIndex? i n=some j/\j<n/\-(n:Int)<=i/\i<n:=by
 unfold cz at h
 by_cases h0:0<=i
 ·rw[if_pos h0] at h
  by_cases h1:i<n
  ·rw[if_pos h1] at h
   have e:i.toNat=j:=Option.some.inj h
   exact⟨by rw[GQ h0 h1,e],by omega,by omega,h1⟩
  ·rw[if_neg h1] at h;cases h
 ·rw[if_neg h0] at h
  by_cases h1 : -(n:Int)<=i
  ·rw[if_pos h1] at h
   have e:(i+n).toNat=j:=Option.some.inj h
   exact⟨by rw[GR (by omega) h1,e],by omega,h1,by omega⟩
  ·rw[if_neg h1] at h;cases h
theorem lP {α:Type}{xs:List α}{i:Int}{v:α}(h:bY xs i=some v):∃ j,seqIndex? i xs.length=some j/\xs[j]?=some v/\j<xs.length/\-(xs.length:Int)<=i/\i<xs.length:=by
 unfold bY at h
 cases e:cz xs.length i with
 | none=>rw[e] at h;cases h
 | some j =>
  rw[e] at h
  obtain⟨h1,h2,h3,h4⟩:=rg e
  exact⟨j,h1,h,h2,h3,h4⟩
theorem bz {α:Type}{xs:List α}{j:Nat}{v:α}(h:xs[j]?=some v):bY xs (j:Int)=some v:=by
 have hj:j<xs.length:=(List.getElem?_eq_some_iff.mp h).1
 have e:cz xs.length (j:Int)=some j:=by
  unfold cz
  rw[if_pos (by omega),if_pos (by omega)];simp
 unfold bY;rw[e];exact h
theorem jd {α:Type}(xs:List α)(v:α):bY (xs++[v]) (-1)=some v:=by
 have hl:(xs++[v]).length=xs.length+1:=by simp
 have e:cz (xs++[v]).length (-1)=some xs.length:=by
  unfold cz
  rw[hl,if_neg (by decide),if_pos (by omega)]
  congr 1
  omega
 unfold bY
 rw[e]
 show (xs++[v])[xs.length]?=some v
 simp
def zD (b:Expr):Prop:=∀ o i,GS b false o i=operate [o,i] (Gk o i)
def gt (X:Cx)(r:R2):Prop :=
 ∀ (value slice:Expr) (pins:List (Addr×Obj)) (s:Shared) (σ:St) (H:Hp) (x y:V) (v u:Value) (Q:VK),aa X pins σ H s->ar x v->ar y u->r x y H Q ->
  GS slice false v u=operate [v,u] (Gk v u)->wpAny (model X.prog X.w) X.A (GP value slice v u) (EP X pins σ Q) X.xe s
def kR (X:Cx)(id:String)(r:V->List V->Hp->VK->Prop):Prop :=
 ∀ (pins:List (Addr×Obj)) (s:Shared) (σ:St) (H:Hp) (x:V) (xs:List V) (v:Value) (us:List Value) (Q:VK),aa X pins σ H s->ar x v->ap xs us->r x xs H Q ->
  wpAny (model X.prog X.w) X.A (call (.builtin id) (v::us)) (EP X pins σ Q) X.xe s
section
variable {X:Cx}{a b:Expr}{ta tb:TE}{pos:Pos}
theorem ay {r:R2}(hr:gt X r)(ha:PE X a ta)(hb:PE X b tb)(hs:zD b):PE X (.Subscript a b pos) (iT r ta tb):=by
 refine⟨?_⟩
 intro pins s σ H Q I h
 exact Subscript_ (mh ha hb I h fun v u s2 x y H2 I2 rx ry q=>hr a b pins s2 σ H2 x y v u Q I2 rx ry q (hs _ _))
inductive jN (K:W.Frag)(x y:V)(H:Hp)(Q:VK):Prop
 | mk (p:Addr)(xs:List V)(i:Int)(v:V)(e1:x=.ref p)(e2:y=.int i)(h:aU K H p xs)(e:bY xs i=some v)(q:Q v H):jN K x y H Q
inductive lH (K:W.Frag)(x y:V)(H:Hp)(Q:VK):Prop
 | mk (p:Addr)(xs:List V)(i:Int)(v:V)(e1:x=.ref p)(e2:y=.int i)(h:aV K H p xs)(e:bY xs i=some v)(q:Q v H):lH K x y H Q
theorem tQ:gt X (jN X.K):=by
 intro value slice pins s σ H x y v u Q I rx ry h hs
 obtain⟨p,xs,i,z,rfl,rfl,hq,he,q⟩:=h
 cases rx
 obtain⟨t,rfl⟩:=ry
 obtain⟨its,r,pl,hz⟩:=I.list hq
 obtain⟨j,h1,h2,h3,h4,h5⟩:=lP he
 obtain⟨w,ew,rw'⟩:=r.get h2
 have hl:=r.length
 have hn:=fE
 have fin:EP X pins σ Q w s:=⟨z,H,I,rw',q⟩
 by_cases h0:0<=i
 ·have hj:i.toNat=j:=by
   rw[GQ h0 h5] at h1
   exact Option.some.inj h1
  exact item_listR pl.isList h0 (by omega) (by rw[hj];simpa using ew) fin hs
 ·have hj:(i+(its.toArray.size:Int)).toNat=j:=by
   rw[GR (by omega) h4] at h1
   rw[CY,<-hl]
   exact Option.some.inj h1
  exact GT (x:=w) pl.isList.typeIs slot_list_getitem.lookup
   (GU (Q:=fun r s'=>r=w/\EP X pins σ Q r s') pl.isList (by omega) (by rw[CY] <;> omega) (by omega) (by rw[hj];simpa using ew) ⟨rfl,fin⟩) hs
theorem j9:gt X (lH X.K):=by
 intro value slice pins s σ H x y v u Q I rx ry h hs
 obtain⟨p,xs,i,z,rfl,rfl,hq,he,q⟩:=h
 cases rx
 obtain⟨t,rfl⟩:=ry
 obtain⟨its,r,pl,hz⟩:=I.tuple hq
 obtain⟨j,h1,h2,h3,h4,h5⟩:=lP he
 obtain⟨w,ew,rw'⟩:=r.get h2
 have hl:=r.length
 have hn:=fE
 have fin:EP X pins σ Q w s:=⟨z,H,I,rw',q⟩
 exact GT (x:=w) pl.typeIs slot_tuple_getitem.lookup
  (getItem_tuple (j:=j) (Q:=fun r s'=>r=w/\EP X pins σ Q r s') pl (by omega) (by omega) (by rw[CY,<-hl];exact h1) (by simpa using ew) ⟨rfl,fin⟩) hs
theorem Ce (its:List Value)(n j:Nat)(u:Value):Obj.mapSeq (·.setIfInBounds j u) { cls:=.type "list",data:=.seq its.toArray n }={ cls:=.type "list",data:=.seq (its.set j u).toArray n }:=by
 simp[Obj.mapSeq]
theorem aa.lst {pins:List (Addr×Obj)}{σ:St}{H:Hp}{s:Shared}{p:Addr}{xs:List V}(I:aa X pins σ H s)(h:H p=some (.lst xs)) :
  ∃ (its:List Value) (n:Nat),ap xs its/\s.heap.get? p=some { cls:=.type "list",data:=.seq its.toArray n }/\xs.length<=FO:=by
 obtain⟨z,its,n,r,e⟩:=I.hok p _ h
 exact⟨its,n,r,e,z⟩
theorem aa.lstUpd {pins:List (Addr×Obj)}{σ:St}{H:Hp}{s:Shared}{p:Addr}{xs ys:List V}{its its':List Value}{n n':Nat}{f:Obj->Obj}(I:aa X pins σ H s)(h:H p=some (.lst xs))
  (ho:s.heap.get? p=some { cls:=.type "list",data:=.seq its.toArray n }) (hf:f { cls:=.type "list",data:=.seq its.toArray n }={ cls:=.type "list",data:=.seq its'.toArray n' }) (r:ap ys its') (hz:ys.length<=FO) (t:Nat) :
  aa X pins σ (upd H p (.lst ys)) { s with heap:=s.heap.update p f,toks:=t }:=by
 have e:(s.heap.update p f).get? p=some { cls:=.type "list",data:=.seq its'.toArray n' }:=by
  rw[EN f ho (by rw[hf] <;> rfl),hf]
 refine I.write (x:=p) (e:=p) (by rw[h];trivial) (.inl rfl) (fun b u hb q=>(EQ _ _ (Ne.symm hb)).trans q) ⟨_,e⟩ ?_
 exact⟨hz,its',n',r,e⟩
def CU:V->V->V->Hp->(Hp->Prop)->Prop:=fun o i v H Q=>∃ p xs k j,o=.ref p/\i=.int k/\H p=some (.lst xs)/\cz xs.length k=some j/\Q (upd H p (.lst (xs.set j v)))
theorem iR:kY X CU:=by
 intro pins s σ H o i v ov iv u Q I ro ri rv h
 obtain⟨p,xs,k,j,rfl,rfl,hp,hj,q⟩:=h
 cases ro
 obtain⟨t,rfl⟩:=ri
 obtain⟨its,n,r,ho,hz⟩:=I.lst hp
 obtain⟨h1,h2,h3,h4⟩:=rg hj
 have hl:=r.length
 have hn:=fE
 have I':aa X pins σ (upd H p (.lst (xs.set j v))) { s with heap:=s.heap.update p (Obj.mapSeq (·.setIfInBounds j u)) } :=
  I.lstUpd hp ho (Ce its n j u) (r.set rv j) (by rw[List.length_set];exact hz) s.toks
 by_cases h0:0<=k
 ·have hk:k.toNat=j:=by
   rw[GQ h0 h4] at h1
   exact Option.some.inj h1
  exact W.ki_setAt ho h0 (by omega) (by rw[CY,<-hl];exact h4) (by rw[hk];exact⟨_,I',q⟩)
 ·have hk:(k+(its.toArray.size:Int)).toNat=j:=by
   rw[GR (by omega) h3] at h1
   rw[CY,<-hl]
   exact Option.some.inj h1
  exact W.ki_setBack ho (by omega) (by rw[CY,<-hl];exact h3) (by omega) (by rw[hk];exact⟨_,I',q⟩)
theorem iL:bm X (.builtin "len") (fun xs H Q=>∃ p ys,xs=[.ref p]/\(aU X.K H p ys\/aV X.K H p ys)/\Q (.int ys.length) H):=by
 intro pins s σ H xs us Q I r h
 obtain⟨p,ys,rfl,hq,q⟩:=h
 obtain⟨u,rfl,rx⟩:=bX r
 cases rx
 have hn:=fE
 rcases hq with hq|hq
 ·obtain⟨its,r',pl,hz⟩:=I.list hq
  have hlen:=r'.length
  exact Calls.call_len_list pl.isList (by simp only[CY] <;> omega) ⟨.int ys.length,H,I.tok _,⟨s.toks+1,by rw[CY,hlen]⟩,q⟩
 ·obtain⟨its,r',pl,hz⟩:=I.tuple hq
  have hlen:=r'.length
  exact len_tuple pl (by simp only[CY] <;> omega) ⟨.int ys.length,H,I.tok _,⟨s.toks+1,by rw[CY,hlen]⟩,q⟩
theorem vt:bm X (.type "list") (fun xs H Q=>∃ p ys,xs=[.ref p]/\(aU X.K H p ys\/aV X.K H p ys)/\∀ l,H l=none->Q (.ref l) (upd H l (.lst ys))):=by
 intro pins s σ H xs us Q I r h
 obtain⟨p,ys,rfl,hq,q⟩:=h
 obtain⟨u,rfl,rx⟩:=bX r
 cases rx
 have fin:∀ (its:List Value),ap ys its->ys.length<=FO->∀ (h':Heap) (c':Nat),(∀ b o',s.heap.get? b=some o'->h'.get? b=some o') ->
   h'.get? s.heap.objs.size=some { cls:=.type "list",dict:=none,data:=.seq its.toArray c',slots:=#[] }->EP X pins σ Q (.ref s.heap.objs.size) { s with heap:=h' }:=fun its r' hz h' c' kp e =>
  ⟨.ref s.heap.objs.size,_,I.laid (t':=s.toks) kp (EU _) (show aS X.prog X.w _ h' _ (.lst ys) from⟨hz,its,c',r',e⟩),rfl,q _ (I.hok.fresh (EU _))⟩
 rcases hq with hq|hq
 ·obtain⟨its,r',pl,hz⟩:=I.list hq
  have hlen:=r'.length
  obtain⟨o,ho,hc,n,hd⟩:=pl.isList
  exact call_list_seq p (.inl rfl) ho hc hd (fun h' c' kp e=>fin its r' hz h' c' kp e) (by simp only[CY] <;> omega)
 ·obtain⟨its,r',pl,hz⟩:=I.tuple hq
  have hlen:=r'.length
  obtain⟨o,ho,hc,n,hd⟩:=pl
  exact call_list_seq p (.inr rfl) ho hc hd (fun h' c' kp e=>fin its r' hz h' c' kp e) (by simp only[CY] <;> omega)
theorem wG:bm X (.type "tuple") (fun xs H Q=>∃ p ys,xs=[.ref p]/\((aU X.K H p ys/\∀ l,H l=none->Q (.ref l) (upd H l (.tup ys)))\/(aV X.K H p ys/\Q (.ref p) H))):=by
 intro pins s σ H xs us Q I r h
 obtain⟨p,ys,rfl,h⟩:=h
 obtain⟨u,rfl,rx⟩:=bX r
 cases rx
 rcases h with⟨hq,q⟩|⟨hq,q⟩
 ·obtain⟨its,r',pl,hz⟩:=I.list hq
  have hlen:=r'.length
  refine call_tuple_list pl.isList (fun h' kp=>?_) (by simp only[CY] <;> omega)
  have I1:aa X pins σ H { s with heap:=h' }:=I.kept (t':=s.toks) kp
  have I2:aa X pins σ (upd H h'.objs.size (.tup ys)) { s with heap:=h'.push { cls:=.type "tuple",data:=.seq its.toArray } } :=
   I1.laid (t':=s.toks) (fun b o e=>EL _ e) (EU _) (show aS X.prog X.w _ _ _ (.tup ys) from⟨hz,its,r',IsTup.new _ _⟩)
  exact⟨.ref h'.objs.size,_,I2,rfl,q _ (I1.hok.fresh (EU _))⟩
 ·obtain⟨its,r',pl,hz⟩:=I.tuple hq
  exact call_tuple_same pl ⟨.ref p,H,I,rfl,q⟩
def nA (K:W.Frag)(T:String)(x:V)(H:Hp):Prop:=match x with
 | .str _=>T="str"
 | .int _=>T="int"
 | .ref p=>(T="list"/\∃ xs,aU K H p xs)\/(T="tuple"/\∃ o,K.lookup p=some o/\o.cls=.type "tuple"/\o.dict=none) \/
  (T="dict"/\((∃ kvs,H p=some (.dK kvs))\/∃ kvs,H p=some (.dT kvs)))\/(T="set"/\∃ S n,H p=some (.set S n))
 | _=>False
theorem oE {pins:List (Addr×Obj)}{σ:St}{H:Hp}{s:Shared}{T:String}{x:V}{v:Value}(I:aa X pins σ H s)(r:ar x v)(ty:nA X.K T x H) :
  s.TypeIs v T/\∀ a,v=.ref a->∃ ob,s.heap.get? a=some ob/\ob.dict=none:=by
 cases x with
 | str z =>
  obtain⟨t,rfl⟩:=r
  cases (show T="str" from ty)
  exact⟨typeIs_str s z t,fun _ e=>nomatch e⟩
 | int i =>
  obtain⟨t,rfl⟩:=r
  cases (show T="int" from ty)
  exact⟨typeIs_int s i t,fun _ e=>nomatch e⟩
 | ref p =>
  cases r
  rcases ty with⟨rfl,xs,hq⟩|⟨rfl,o,hk,hc,hd⟩|⟨rfl,hk⟩|⟨rfl,S,n,hk⟩
  ·obtain⟨its,_,pl,_⟩:=I.list hq
   refine⟨pl.isList.typeIs,fun a e=>?_⟩
   cases e
   obtain⟨o,n,e,c,hd,_⟩:=pl
   exact⟨o,e,hd⟩
  ·refine⟨⟨o,I.kIn p o hk,hc⟩,fun a e=>?_⟩
   cases e
   exact⟨o,I.kIn _ o hk,hd⟩
  ·have z:∃ o,s.heap.get? p=some o/\o.ExactDict:=by
    rcases hk with⟨kvs,hk⟩|⟨kvs,hk⟩
    ·obtain⟨_,_,_,_,o,_,_,e,ex,_⟩:=I.hok p _ hk
     exact⟨o,e,ex⟩
    ·obtain⟨_,_,_,_,o,_,_,e,ex,_⟩:=I.hok p _ hk
     exact⟨o,e,ex⟩
   obtain⟨o,e,ex⟩:=z
   refine⟨⟨o,e,ex.1⟩,fun a e2=>?_⟩
   cases e2
   exact⟨o,e,ex.2.1⟩
  ·obtain⟨o,_,_,_,e,ex,_⟩:=I.hok p _ hk
   refine⟨⟨o,e,ex.1⟩,fun a e2=>?_⟩
   cases e2
   exact⟨o,e,ex.2.1⟩
 | _=>exact False.elim ty
def AO (K:W.Frag)(T:String)(r:V->List V->Hp->VK->Prop)(to:TE):TE:=fun σ H Q=>to σ H fun x H1=>nA K T x H1/\r x [] H1 Q
def rB (K:W.Frag)(T:String)(r:V->List V->Hp->VK->Prop)(to:TE)(t:TA):TE:=fun σ H Q=>to σ H fun x H1=>nA K T x H1/\t σ H1 fun xs H2=>r x xs H2 Q
variable {o e:Expr}{es:List Expr}{to:TE}{t:TA}{name:Str}{apos cpos:Pos}{T id:String}{r:V->List V->Hp->VK->Prop}
theorem BH (pa:PlainAttrs T)(slot:Slot T name id)(hty:typeOf (.builtin id)=pure (.type "method_descriptor"))(hm:kR X id r)(ho:PE X o to)
  (hbase:Gx o name X.env (eval o X.env)=eval o X.env:=by rfl) (hline:(apos.endLine == cpos.line)=true:=by rfl):PE X (.Call (.Attribute o name apos) [] [] cpos) (AO X.K T r to):=by
 refine⟨?_⟩
 intro pins s σ H Q I h
 refine wpAny_Call_method0_late hbase hline (ag (ho pins s σ H _ I h) fun v s1 ⟨x,H1,I1,r1,ty,q1⟩=>?_)
 obtain⟨h1,h2⟩:=oE I1 r1 ty
 exact⟨T,id,pa,slot,hty,h1,h2,Calls.callWith_builtin rfl (PySem.evalArgs_none (hm pins s1 σ H1 x [] v [] Q I1 r1 .nil q1))⟩
theorem qx (pa:PlainAttrs T)(slot:Slot T name id)(hty:typeOf (.builtin id)=pure (.type "method_descriptor"))(hm:kR X id r)(ho:PE X o to)(ha:PA X (e::es) t)
  (hbase:Gx o name X.env (eval o X.env)=eval o X.env:=by rfl)
  (hfew:((FU cpos (FV (e::es) X.env)).all (fun x=>!x.1) && (GE cpos (GF [] X.env)).all (fun x=>x.1.isSome)
   && decide ((e::es).length+([]:List GG).length+(if ([]:List GG).isEmpty then 0 else 1)<30))=true:=by rfl)
  (hline:(apos.endLine == cpos.line)=true:=by rfl) (hs:FV (e::es) X.env=(false,eval e X.env)::FV es X.env:=by rfl) (hplain:(FU cpos (FV es X.env)).any (·.1)=false:=by rfl) :
  PE X (.Call (.Attribute o name apos) (e::es) [] cpos) (rB X.K T r to t):=by
 refine⟨?_⟩
 intro pins s σ H Q I h
 refine wpAny_Call_method_late hbase hfew hline rfl (ag (ho pins s σ H _ I h) fun v s1 ⟨x,H1,I1,r1,ty,q1⟩=>?_)
 obtain⟨h1,h2⟩:=oE I1 r1 ty
 refine⟨T,id,pa,slot,hty,h1,h2,?_⟩
 have hA:=ha cpos pins s1 σ H1 _ I1 q1
 rw[hs] at hA ⊢
 refine Calls.callWith_builtin (by show (false || (FU cpos (FV es X.env)).any (·.1))=false;rw[hplain] <;> rfl) (Calls.evalArgs_plain ?_)
 exact ag hA fun us s2 ⟨vs,H2,I2,r2,q2⟩=>hm pins s2 σ H2 x vs v us Q I2 r1 r2 q2
end
end L2
namespace L2
open PySem PySem.Spec PyProof.Rows
def ni (X:Cx)(id:String)(r:V->List V->Hp->VK->Prop):Prop :=
 ∀ (pins:List (Addr×Obj)) (s:Shared) (σ:St) (H:Hp) (x:V) (xs:List V) (v:Value) (us:List Value) (Q:VK),aa X pins σ H s->ar x v->ap xs us->r x xs H Q ->
  wpAny (model X.prog X.w) X.A (call (.builtin id) (v::us)) (EP X pins σ Q) X.xe s
theorem ap.one:∀ {x:V}{us:List Value},ap [x] us->∃ u,us=[u]/\ar x u
 | _,_,.cons r .nil=>⟨_,rfl,r⟩
theorem ap.two:∀ {x y:V}{us:List Value},ap [x,y] us->∃ u v,us=[u,v]/\ar x u/\ar y v
 | _,_,_,.cons r (.cons q .nil)=>⟨_,_,rfl,r,q⟩
theorem ap.zero:∀ {us:List Value},ap [] us->us=[]
 | _,.nil=>rfl
theorem ap.reverse {xs:List V}{us:List Value}(h:ap xs us):ap xs.reverse us.reverse:=by
 induction h with
 | nil=>exact .nil
 | cons r t ih=>rw[DR,DR];exact ap.append ih (.cons r .nil)
section
variable {X:Cx}{pins:List (Addr×Obj)}{σ:St}{H:Hp}{s:Shared}{l b:Addr}{xs ys zs:List V}
theorem aa.lset {its its':List Value}{n:Nat}{f:Array Value->Array Value}{t':Nat}(I:aa X pins σ H s)(hH:H l=some (.lst xs))
  (e:s.heap.get? l=some { cls:=.type "list",data:=.seq its.toArray n }) (hf:f its.toArray=its'.toArray) (hv:ap ys its') (hz:ys.length<=FO) :
  aa X pins σ (upd H l (.lst ys)) { s with heap:=s.heap.update l (Obj.mapSeq f),toks:=t' }:=by
 have q:=PySem.IsL.update e f
 rw[hf] at q
 refine I.write (x:=l) (e:=l) (by rw[hH];exact trivial) (.inl rfl) (fun b' u hb hu=>(EQ s.heap (Obj.mapSeq f) (Ne.symm hb)).trans hu) ⟨_,q⟩ ?_
 exact⟨hz,its',_,hv,q⟩
theorem aa.lnew {its:List Value}{t':Nat}(I:aa X pins σ H s)(hv:ap ys its)(hz:ys.length<=FO) :
  aa X pins σ (upd H s.heap.objs.size (.lst ys)) { s with heap:=s.heap.push { cls:=.type "list",data:=.seq its.toArray },toks:=t' } :=
 I.laid (fun _ _ q=>EL _ q) (EU _) ⟨hz,its,0,hv,EM _ rfl⟩
theorem aa.fresh (I:aa X pins σ H s):H s.heap.objs.size=none:=I.hok.fresh (EU _)
theorem aa.lstM (I:aa X pins σ H s)(hH:H l=some (.lst xs)):xs.length<=FO/\∃ (its:List Value) (n:Nat),ap xs its/\xs.length=its.length/\s.heap.get? l=some { cls:=.type "list",data:=.seq its.toArray n }:=by
 obtain⟨z,its,n,r,e⟩:=I.hok l _ hH
 exact⟨z,its,n,r,r.length,e⟩
theorem yZ {n:Nat}(h:n<=FO):Builtin.List.listTooLong n=false:=by
 unfold Builtin.List.listTooLong
 exact decide_eq_false (by omega)
end
section
variable {X:Cx}
def xa:V->List V->Hp->VK->Prop:=fun x vs H Q=>∃ l xs y,x=.ref l/\vs=[y]/\H l=some (.lst xs)/\xs.length<FO/\Q .non (upd H l (.lst (xs++[y])))
theorem er:ni X "list.append" xa:=by
 intro pins s σ H x vs v us Q I rx rv h
 obtain⟨l,xs,y,rfl,rfl,hH,hz,q⟩:=h
 cases rx
 obtain⟨u,rfl,ru⟩:=rv.one
 obtain⟨z,its,n,r,hl,e⟩:=I.lstM hH
 refine GV F.slot_list_append ⟨_,e,rfl⟩ F.entry_list_append (F.args_list_append_2 _ _) (PySem.list_append l its.toArray n u (by rw[CY];omega)) ⟨e,?_⟩
 refine⟨.non,_,I.lset (its':=its++[u]) hH e (by simp) (r.append (.cons ru .nil)) ?_,rfl,q⟩
 rw[C7,Dp]
 omega
def yK:V->List V->Hp->VK->Prop:=fun x vs H Q=>∃ l b xs zs,x=.ref l/\vs=[.ref b]/\H l=some (.lst xs)/\H b=some (.lst zs)/\xs.length+zs.length<=FO/\Q .non (upd H l (.lst (xs++zs)))
theorem As:ni X "list.extend" yK:=by
 intro pins s σ H x vs v us Q I rx rv h
 obtain⟨l,b,xs,zs,rfl,rfl,hH,hB,hz,q⟩:=h
 cases rx
 obtain⟨u,rfl,ru⟩:=rv.one
 cases ru
 obtain⟨z,its,n,r,hl,e⟩:=I.lstM hH
 obtain⟨z2,its2,n2,r2,hl2,e2⟩:=I.lstM hB
 have hsz:its.toArray.size+its2.toArray.size<=FO:=by rw[CY,CY];omega
 have hlong:¬ (!its.toArray.isEmpty && Builtin.List.listTooLong (its.toArray.size+its2.toArray.size))=true:=by
  rw[yZ hsz,Bool.and_false]
  exact Bool.false_ne_true
 refine GV F.slot_list_extend ⟨_,e,rfl⟩ F.entry_list_extend (F.args_list_extend_2 _ _)
  (AutoSeq1.list_extend_list_list_0 l its.toArray n b its2.toArray n2 hlong (by rw[CY];omega) (by omega)) ⟨e,e2,?_⟩
 refine⟨.non,_,I.lset (its':=its++its2) hH e (by simp) (r.append r2) ?_,rfl,q⟩
 rw[C7]
 omega
def zf:V->List V->Hp->VK->Prop:=fun x vs H Q=>∃ l xs,x=.ref l/\vs=[]/\H l=some (.lst xs)/\Q .non (upd H l (.lst xs.reverse))
theorem zV:ni X "list.reverse" zf:=by
 intro pins s σ H x vs v us Q I rx rv h
 obtain⟨l,xs,rfl,rfl,hH,q⟩:=h
 cases rx
 have hus:=rv.zero
 subst hus
 obtain⟨z,its,n,r,hl,e⟩:=I.lstM hH
 refine GV F.slot_list_reverse ⟨_,e,rfl⟩ F.entry_list_reverse (F.args_list_reverse_1 _) (AutoSeq1.list_reverse_list_0 l its.toArray n (by rw[CY];omega)) ⟨e,?_⟩
 refine⟨.non,_,I.lset (its':=its.reverse) hH e (by simp) r.reverse ?_,rfl,q⟩
 rw[DL]
 omega
def wu:R2:=fun x y H Q=>∃ l b xs zs,x=.ref l/\y=.ref b/\H l=some (.lst xs)/\H b=some (.lst zs)/\xs.length+zs.length<=FO/\∀ p,H p=none->Q (.ref p) (upd H p (.lst (xs++zs)))
theorem mo:bj X (Gr .Add) wu:=by
 intro pins s σ H x y v u Q I rx ry h
 obtain⟨l,b,xs,zs,rfl,rfl,hH,hB,hz,q⟩:=h
 cases rx
 cases ry
 obtain⟨z,its,n,r,hl,e⟩:=I.lstM hH
 obtain⟨z2,its2,n2,r2,hl2,e2⟩:=I.lstM hB
 refine PySem.P.add_list e e2 ?_ (by rw[CY,CY];omega)
 have ea:its.toArray++its2.toArray=(its++its2).toArray:=by simp
 rw[ea]
 exact⟨.ref _,_,I.lnew (t':=s.toks) (r.append r2) (by rw[C7];omega),rfl,q _ I.fresh⟩
end
section
variable {prog:FN}{w:World}{A:Around}{E:Value->Shared->Prop}{s:Shared}
end
section
variable {X:Cx}
end
end L2
namespace Att
open PySem PySem.W PySem.Calls PyProof.Rows
theorem Ao {P:Params}{h:Heap}:∀ (ns:List Int) (vs:List Value),WellAll P h vs (ns.map WData.int)->GW vs ns:=by
 intro ns
 induction ns with
 | nil =>
  intro vs w
  rw[Et] at w
  cases w
  exact .nil
 | cons n ns ih =>
  intro vs w
  rw[C1] at w
  cases w with
  | cons a b =>
   cases a
   exact .cons _ _ (ih _ b)
theorem xo {l:OpenLaw}{n:Nat}(hn:l.most=some n){P:Params}{h:Heap}{args:List WData}{aH:List Value}
  (hpre:l.row.toRowW.claim.pre args=true) (hwl:WellAll P h aH args) :
  ∃ a vs ns,aH=[Value.ref a]/\args=[WData.list (ns.map WData.int)]/\h.get? a=some { cls:=.type "list",data:=.seq vs.toArray }/\GW vs ns/\ns.length<=n:=by
 have hsh:WShape.hasAll [] args [.list .int]=true:=(pre_splitW hpre).1
 have hc:l.pre.holds [] { args:=args }=true:=(pre_splitW hpre).2
 obtain⟨d,r,rfl,h1,h2⟩:=hasAllW_cons hsh
 obtain rfl:=hasAllW_nil h2
 obtain⟨xs,rfl,h3⟩:=hasW_list h1
 obtain⟨ns,rfl⟩:=items_int h3
 have hlen:ns.length<=n:=by
  unfold OpenLaw.pre at hc
  have h4:(WTm.not (.lt (.lit (.int (n:Int))) (.len (.arg 0)))).holds [] { args:=[.list (ns.map .int)] }=true:=by
   have h4:=(holds_andW hc).1
   rw[hn] at h4
   exact h4
  have h5:=condW_of h4 (w_not (w_lt w_lit (w_len_list (w_arg rfl))))
  rw[CW] at h5
  refine Nat.le_of_not_lt fun q=>?_
  have q':(n:Int)<((ns.length:Nat):Int):=by omega
  first
   | (rw[decide_eq_true q'] at h5;exact absurd h5 (by decide))
   | (simp at h5;omega)
 cases hwl with
 | cons w1 w2 =>
  cases w2
  cases w1 with
  | list ho hall=>exact⟨_,_,ns,rfl,rfl,ho,Ao ns _ hall,hlen⟩
theorem BU (l:OpenLaw)(args:List WData):l.row.toRowW.claim.post args (.bool true) args=true :=
 postW_of (r:=l.row.toRowW) (X:=(true == true))
  (show WShape.has [] (.bool true) .bool=true by first|rfl|decide|simp[WShape.has,WShape.arms,WShape.armsAll])
  (show (WTm.eq .res (.lit (.bool true))).value [] { args:=args,res:=some (.bool true),after:=args }=some (.bool (true == true)) from w_eq_bool (w_res rfl) w_lit) rfl
theorem attach_call {l:OpenLaw}{n:Nat}{q:FN}{loose:List Str}{XP:(Str->Option Value)->Heap->Prop}{YP:World->Heap->Prop}{d:DefRec}
  (hn:l.most=some n) (hdf:d.params.defaults=[])
  (call:∀ (w:World) (s₀ s₁:Shared) (mg mb:Str->Option Value) (fa:Addr) (o:Obj) (pm cd doc:Value) (a:Addr) (vs:List Value) (ns:List Int),
   Ground q loose [] XP w s₀ mg mb s₁.heap->YP w s₁.heap ->
   s₁.heap.get? fa=some o->o.data=.func (docDef d.name d.params d.body d.scope pm cd doc)->s₁.heap.CodeRec cd d.name->mg d.name=some (.ref fa) ->
   s₁.heap.get? a=some { cls:=.type "list",data:=.seq vs.toArray }->GW vs ns->ns.length<=n->s₁.gens=#[] ->
   Gw (model l.prog w) GX (.call (.ref fa) ⟨[.ref a],[]⟩) (fun r s'=>r=.ok (.ret (.bool true))/\OldK s₁.heap s'.heap/\s'.os=s₁.os/\FT s'.gens) s₁) :
  WalkO q loose XP YP l.row.toRowW d [] (fun f vs=>PySem.call f vs):=by
 intro w s₀ s₁ mg mb G Y fa o pm cd doc dV kV ho hd hcd hD hmg hg args aH as hpre hlay hrd hwl hlo
 obtain rfl:dV=.none:=Dflts.none hD hdf
 obtain rfl:kV=.none:=Dflts.noKw hD
 obtain⟨a,vs,ns,rfl,rfl,hobj,hints,hlen⟩:=xo hn hpre hwl
 refine enter_call (GB (call w s₀ s₁ mg mb fa o pm cd doc a vs ns G Y ho (fd_plain hd) hcd hmg hobj hints hlen hg) fun r s' hq=>?_)
 obtain⟨rfl,h2,h3,h4⟩:=hq
 exact⟨.inl ⟨.bool true,.bool true,[],rfl,fun _=>rfl,.bool true,BU l _,fun _=>⟨List.Pairwise.nil,fun _ hm=>(nomatch hm)⟩⟩,h2,h3,h4⟩
section
variable {prog:FN}{w:World}{A:Around}{E:Value->Shared->Prop}{s:Shared}{K:Frag}
end
end Att
namespace L2
open PySem PySem.Spec PyProof.Rows
theorem qw:∀ {vs:List Value}{ns:List Int},GW vs ns->ap (ns.map V.int) vs
 | _,_,.nil=>.nil
 | _,_,.cons n t h=>.cons ⟨t,rfl⟩ (qw h)
def lT (H:Hp):Prop:=∀ b,H b=none\/∃ o xs,H b=some (.frz o (.lst xs))
theorem AI {P:FN}{w:World}{K:W.Frag}{mg mb:Str->Option Value}{CX:dD}{k:Nat}{fa a:Addr}{fd:Gy}{x:Str}{sp:Sp}{s₁:Shared}{vs:List Value}{ns:List Int}
  (KX:K.In s₁.heap) (hns:s₁.heap.Ns FR mg) (hb:s₁.heap.Ns builtinsNs mb) (hbb:∀ x:Str,x≠"__name__"->mb x=FS x) (hlim:s₁.heap.NoLimit) (hg:s₁.gens=#[])
  (ha:s₁.heap.get? a=some { cls:=.type "list",data:=.seq vs.toArray }) (hi:GW vs ns) (hl:ns.length<=FO) (hr:aQ k GX)
  (F:∀ base:Heap,K.In base->base.Ns FR mg->ce P w K mg base CX k fa fd [x] sp) (hbind:∀ (s:Shared) (u:Value),Gz s fd ⟨[u],[]⟩ [(x,u)])
  (hsp:∀ H:Hp,lT H->aU K H a (ns.map V.int)->sp [.ref a] H (fun v _=>v=.bl true) fun _ _ _=>False)
  (hCX:∀ H e s',CX [] H s₁ (fun _ _ _=>False) e s'->False) :
  Gw (model P w) GX (.call (.ref fa) ⟨[.ref a],[]⟩) (fun r s'=>r=.ok (.ret (.bool true))/\OldK s₁.heap s'.heap/\s'.os=s₁.os/\FT s'.gens) s₁:=by
 have rv:=qw hi
 have lenV:=hi.length
 have core:∀ H:Hp,lT H->aU K H a (ns.map V.int)->bp P w H s₁.heap->(∀ b,H b≠none->b=a)->(H a≠none->K.lookup a=none) ->
   Gw (model P w) GX (.call (.ref fa) ⟨[.ref a],[]⟩) (fun r s'=>r=.ok (.ret (.bool true))/\OldK s₁.heap s'.heap/\s'.os=s₁.os/\FT s'.gens) s₁:=by
  intro H hO hS hok hA hK
  have base_of:∀ {b:Addr}{o:Obj},s₁.heap.get? b=some o->H b=none->(fx s₁.heap H).get? b=some o:=fun e n=>xq e n
  have noA:∀ {b:Addr}{o:Obj}{es:Array DictEntry}{ep:Nat},s₁.heap.get? b=some o->o.data=.dict es ep->H b=none:=fun {b o es ep} e d=>by
   cases q:H b with
   | none=>rfl
   | some u =>
    have e':b=a:=hA b (by rw[q];simp)
    subst e'
    rw[ha] at e;cases e
    have d':Data.seq vs.toArray _=Data.dict es ep:=d
    cases d'
  have nsK:∀ {b:Addr}{m:Str->Option Value},s₁.heap.Ns b m->(fx s₁.heap H).Ns b m:=fun {b m} ⟨o,es,ep,e,d,r⟩=>⟨o,es,ep,base_of e (noA e d),d,r⟩
  have hKb:K.In (fx s₁.heap H):=fun b o e=>base_of (KX b o e) (by
   cases q:H b with
   | none=>rfl
   | some u =>
    have e':b=a:=hA b (by rw[q];simp)
    subst e'
    rw[hK (by rw[q];simp)] at e;cases e)
  have hM:Mod K mg (fx s₁.heap H):=⟨hKb,nsK hns,⟨mb,nsK hb,hbb⟩,let ⟨mc,h1,h2⟩:=hlim;⟨mc,nsK h1,h2⟩⟩
  have e0:gF P w K mg (fx s₁.heap H) GX [] s₁ H:=⟨rfl,hM,fun b o e=>BQ e,Fa (wP _ _),trivial,fun b hb=>absurd (show b∈([]:List Addr) from hb) (by simp),hok,.of_eq hg⟩
  refine GB ((F _ hKb (nsK hns)).run GX [] s₁ H ⟨[.ref a],[]⟩ [.ref a] [.ref a] _ _ hr e0 (hbind s₁ (.ref a)) (.cons rfl .nil) (hsp H hO hS)) fun r s' h=>?_
  cases r with
  | error e=>exact(hCX H e s' h).elim
  | ok fl =>
   cases fl with
   | next=>exact False.elim h
   | brk=>exact False.elim h
   | cont=>exact False.elim h
   | ret u =>
    obtain⟨v,H',os,bare,un,hok',r',q⟩:=h
    have q':v=.bl true:=q
    subst q'
    obtain rfl:u=Value.bool true:=r'
    refine⟨rfl,OldK.of_keep fun b o e=>?_,os,bare⟩
    cases q:H b with
    | none=>exact un.keep b o e q (by intro z;exact absurd (show b∈([]:List Addr) from z) (by simp)) (by simp)
    | some u =>
     rcases hO b with z|⟨ob,xs,z⟩
     ·rw[q] at z;cases z
     ·have z2:=un.frzs b ob _ z
      obtain⟨e1,_⟩:=hok b _ z
      obtain⟨e2,_⟩:=hok' b _ z2
      rw[e] at e1;cases e1
      exact e2
 cases hk:K.lookup a with
 | some o =>
  have e:=KX a o hk
  rw[ha] at e
  cases e
  refine core (fun _=>none) (fun _=>.inl rfl) (.inr ⟨_,vs.toArray,_,hk,rfl,rfl,rfl,by rw[CY,lenV];exact hl,by simpa using rv⟩) (fun b u z=>by have z':(none:Option HO)=some u:=z;cases z') (fun b z=>absurd rfl z) fun z=>absurd rfl z
 | none =>
  refine core (fun b=>if b=a then some (.frz { cls:=.type "list",data:=.seq vs.toArray } (.lst (ns.map V.int))) else none) (fun b=>?_) (.inl (.inr ⟨{ cls:=.type "list",data:=.seq vs.toArray },if_pos rfl⟩)) (fun b u z=>?_) (fun b z=>?_) fun _=>hk
  ·by_cases hb:b=a
   ·exact .inr ⟨_,_,if_pos hb⟩
   ·exact .inl (if_neg hb)
  ·by_cases hb:b=a
   ·have z':=(if_pos hb).symm.trans z
    cases z'
    subst hb
    exact⟨ha,by rw[CW];exact hl,vs,_,rv,ha⟩
   ·have z':=(if_neg hb).symm.trans z
    cases z'
  ·by_cases hb:b=a
   ·exact hb
   ·exact absurd (if_neg hb) z
end L2
namespace L2
open PySem PySem.Spec PyProof.Rows
abbrev KOf {K:W.Frag}{h:Heap}(_:K.In h):W.Frag:=K
theorem walk_of {l:W.OpenLaw}{n k:Nat}{q:FN}{loose:List Str}{XP:(Str->Option Value)->Heap->Prop}{YP:World->Heap->Prop}{d:DefRec}{K:Params->W.Frag}{CX:World->dD}{sp:World->Sp}{x:Str}
  (hn:l.most=some n) (hn2:n<=FO) (hdf:d.params.defaults=[]) (hr:aQ k GX)
  (hY:∀ (w:World) (h:Heap),YP w h->(K w.params).In h)
  (F:∀ (w:World) (mg:Str->Option Value) (fa:Addr) (h:Heap),(K w.params).In h->h.Ns FR mg->mg d.name=some (.ref fa) ->
   ∃ fd:Gy,(∀ (s:Shared) (u:Value),Gz s fd ⟨[u],[]⟩ [(x,u)]) /\
    ∀ base:Heap,(K w.params).In base->base.Ns FR mg->ce l.prog w (K w.params) mg base (CX w) k fa fd [x] (sp w))
  (hsp:∀ (w:World) (H:Hp) (a:Addr) (ns:List Int),ns.length<=n->lT H->aU (K w.params) H a (ns.map V.int)->sp w [.ref a] H (fun v _=>v=.bl true) fun _ _ _=>False)
  (hCX:∀ (w:World) (H:Hp) (s:Shared) (e:Value) (s':Shared),CX w [] H s (fun _ _ _=>False) e s'->False) :
  W.WalkO q loose XP YP l.row.toRowW d [] (fun f vs=>PySem.call f vs):=by
 refine Att.attach_call hn hdf fun w s₀ s₁ mg mb fa o pm cd doc a vs ns G Y ho hd hcd hmg hobj hints hlen hg=>?_
 have KX:=hY w _ Y
 obtain⟨fd,hb,hF⟩:=F w mg fa _ KX G.T.g hmg
 exact AI KX G.T.g G.T.b G.T.builtins G.T.nolimit hg hobj hints (EY hlen hn2) hr hF hb (fun H hO hS=>hsp w H a ns hlen hO hS) fun H e s'=>hCX w H s₁ e s'
end L2
namespace L2
open PySem PySem.Spec PyProof.Rows
def cX (s:Stmt)(j:Nat):Stmt:=match s with
 | .ClassDef _ _ _ body _ _ _ _ _ _ _=>body.getD j (.Pass ⟨0,0,0,0⟩)
 | _=>.Pass ⟨0,0,0,0⟩
def gA (s:Stmt):Arguments:=match s with
 | .FunctionDef _ a _ _ _ _ _ _ _ _=>a
 | _=>{ posonlyargs:=[],args:=[],vararg:=none,kwonlyargs:=[],kw_defaults:=[],kwarg:=none,defaults:=[] }
def eJ (s:Stmt):List Stmt:=match s with
 | .FunctionDef _ _ b _ _ _ _ _ _ _=>b
 | _=>[]
def aw (s:Stmt):Scope:=match s with
 | .FunctionDef _ _ _ _ _ _ sc _ _ _=>sc
 | _=>{ kind:=.function,names:=[],isGenerator:=false,isCoroutine:=false }
abbrev cH:dD:=fun _ _ _ _ _ _=>False
abbrev E0:XK:=fun _ _ _=>False
theorem gf {X:Cx}:fP cH X E0:=fun _ _ _ _ _ _ _ h=>h.elim
structure bq (K:W.Frag)(x qual:Str)(st:Stmt)(f:Addr)(fd:Gy):Prop where
 ex:∃ (oc:Value) (od:Option Addr) (kV doc pm:Value) (an:Option Addr) (cdv ct:Value) (osl:Array (Option Value)),
  fd=W.fnOf x qual (gA st) (eJ st) (aw st) .none kV doc pm an cdv ct/\K.lookup f=some ⟨oc,od,.func fd,osl⟩/\W.codeIn K cdv qual=true
 kp:W.keepIn K (.ref f)=true
section
variable {P:FN}{w:World}{K:W.Frag}{mg:Str->Option Value}{base:Heap}
theorem bq.ok {x qual:Str}{st:Stmt}{f:Addr}{fd:Gy}{N ps:List Str}{k:Nat}{sp:Sp}(F:bq K x qual st f fd)(S:aA N ps (aw st))(len:∀ vs H Q E,sp vs H Q E->vs.length=ps.length)
  (hbody:∀ (cdv:Value) (A:Around) (outer:List Env) (s:Shared) (H:Hp) (vs:List V) (Q:VK) (E:XK),aQ k (A.deeper (GI qual (aw st) s.heap.objs.size f cdv))->sp vs H Q E ->
   ∃ t,b7 (fJ cH P w K mg base N qual (aw st) f cdv A outer s H E).nox (eJ st) t/\t { nx:=fun _ H'=>Q .non H',rt:=Q } (d8 N vs) H):ce P w K mg base cH (k+1) f fd ps sp:=by
 obtain⟨oc,od,kV,doc,pm,an,cdv,ct,osl,rfl,lk,hcd⟩:=F.ex
 refine zE lk hcd S len fun A outer s H vs Q E hr hsp=>?_
 obtain⟨t,h,q⟩:=hbody cdv A outer s H vs Q E hr hsp
 exact⟨t,h.nox,q⟩
theorem bq.binds {x qual:Str}{st:Stmt}{f:Addr}{fd:Gy}{ps:List Str}(F:bq K x qual st f fd)
  (h:∀ (kV doc pm:Value) (an:Option Addr) (cdv ct:Value) (us:List Value),us.length=ps.length->GA (W.fnOf x qual (gA st) (eJ st) (aw st) .none kV doc pm an cdv ct) ⟨us,[]⟩=pure (ps.zip us)):bB K fd ps []:=by
 obtain⟨oc,od,kV,doc,pm,an,cdv,ct,osl,rfl,lk,hcd⟩:=F.ex
 exact .all (h kV doc pm an cdv ct)
theorem ij {x qual:Str}{st:Stmt}{f:Addr}{oc:Value}{od an:Option Addr}{osl:Array (Option Value)}{kV doc pm cdv ct:Value}(l:K.lookup f=some ⟨oc,od,.func (W.fnOf x qual (gA st) (eJ st) (aw st) .none kV doc pm an cdv ct),osl⟩)
 (c:W.codeIn K cdv qual=true) (k:W.keepIn K (.ref f)=true):bq K x qual st f (W.fnOf x qual (gA st) (eJ st) (aw st) .none kV doc pm an cdv ct):=⟨⟨oc,od,kV,doc,pm,an,cdv,ct,osl,rfl,l,c⟩,k⟩
end
theorem cR {n:Nat}(h:n<=1000):n<FO:=E9 h (by decide)
section
variable {X:Cx}
theorem pv (i:Nat){x:Str}{pos:Pos}(hN:X.N[i]?=some x:=by rfl)(hv:gG X.env.scope x:=by first|exact Or.inl rfl|exact Or.inr (Or.inl rfl)|exact Or.inr (Or.inr rfl))(hd:(x == ("__debug__" : Str))=false:=by decide)
 (hcd:(x == ("__classdict__" : Str))=false:=by decide):PE X (.Name x pos) (iw i):=xB hN hv hd hcd
end
theorem bK {A B:Prop}(h:B):if false=true then A else B:=by
 rw[if_neg Bool.false_ne_true]
 exact h
theorem bP {A B:Prop}(h:A):if true=true then A else B:=by
 rw[if_pos rfl]
 exact h
theorem j8 {c A B:Prop}[Decidable c](h1:c->A)(h2:¬ c->B):if c then A else B:=by
 by_cases h:c
 ·rw[if_pos h]
  exact h1 h
 ·rw[if_neg h]
  exact h2 h
def ab (H H':Hp):Prop:=∀ b o,H b=some o->H' b=some o
theorem ab.refl (H:Hp):ab H H:=fun _ _ h=>h
theorem ab.trans {H H1 H2:Hp}(a:ab H H1)(b:ab H1 H2):ab H H2:=fun c o h=>b c o (a c o h)
theorem ab.free {H H':Hp}(e:ab H H'){l:Addr}(h:H' l=FI):H l=FI:=by
 cases q:H l with
 | none=>rfl
 | some o =>
  rw[e l o q] at h
  cases h
theorem ab.seq {K:W.Frag}{H H':Hp}{a:Addr}{xs:List V}(e:ab H H')(h:aU K H a xs):aU K H' a xs:=by
 rcases h with (h|⟨o,h⟩)|h
 ·exact .inl (.inl (e _ _ h))
 ·exact .inl (.inr ⟨o,e _ _ h⟩)
 ·exact .inr h
end L2
namespace L2
open PySem PySem.Spec PyProof.Rows
theorem pL {x y:Int}(h:y.natAbs<2 ^ 300):Builtin.divisionGoesByPylong x y=false:=by
 refine PyProof.noPylong_of_log2 ?_
 by_cases h0:y.natAbs=0
 ·rw[h0];decide +kernel
 ·have h30:y.natAbs.log2<300:=(Nat.log2_lt h0).mpr h
  omega
def tI (_i j:Int):Prop:=0<j/\j<2 ^ 300
section
variable {X:Cx}{a b:Expr}{ta tb:TE}{pos:Pos}
theorem lO:bj X (Gr .FloorDiv) (rI tI fun i j=>.int (i / j)):=jo fun i j _ _ _ _ _ hc q=>by
 obtain⟨h1,h2⟩:=hc
 refine floordiv_int (by omega) ?_ (.inl (pL (by omega)))
 rw[Fz i (by omega)]
 exact q
inductive uH (xs:List V)(H:Hp)(Q:VK):Prop
 | mk (i j:Int)(e:xs=[.int i,.int j])(c:tI i j)(q:∀ p,H p=none->Q (.ref p) (upd H p (.tup [.int (i / j),.int (i % j)]))):uH xs H Q
theorem vg:bm X (.builtin "divmod") uH:=by
 intro pins s σ H xs us Q I r h
 obtain⟨i,j,rfl,⟨h1,h2⟩,q⟩:=h
 obtain⟨u,w',rfl,⟨t,rfl⟩,⟨t',rfl⟩⟩:=fg r
 refine divmod_int (by omega) ?_ (.inl (pL (by omega)))
 rw[Fz i (by omega),Fy i (by omega)]
 have hn:H s.heap.objs.size=none:=I.hok.fresh (EU _)
 refine⟨.ref s.heap.objs.size,_,?_,rfl,q _ hn⟩
 refine I.laid (fun b o e=>EL _ e) (EU _) ⟨by simp only[C4,DM];rw[Gs];decide,[.int (i / j) s.toks,.int (i % j) (s.toks+1)],.cons ⟨_,rfl⟩ (.cons ⟨_,rfl⟩ .nil),?_⟩
 exact⟨_,EM s.heap rfl,rfl,0,rfl⟩
theorem xr (ns:List Int):∀ k,preSum (fun i=>ns.getD i 0) k=(ns.take k).sum:=by
 intro k
 induction k with
 | zero=>rfl
 | succ k ih =>
  show preSum (fun i=>ns.getD i 0) k+ns.getD k 0=_
  rw[ih,C9,Eu]
  cases e:ns[k]? with
  | none=>simp[C0,e]
  | some v=>simp[C0,e]
theorem o5 {ns:List Int}{its:List Value}(rv:ap (ns.map V.int) its){i:Nat}{v:Value}(e:its[i]?=some v):∃ t,v=.int (ns.getD i 0) t:=by
 have hl:=rv.length
 rw[CW] at hl
 have hi:i<its.length:=(List.getElem?_eq_some_iff.mp e).1
 have hn:ns[i]?=some (ns[i]'(by omega)):=CZ (by omega)
 obtain⟨u,hu,ru⟩:=rv.get (i:=i) (x:=V.int (ns[i]'(by omega))) (by rw[Da,hn];rfl)
 rw[e] at hu
 cases hu
 obtain⟨t,rfl⟩:=ru
 exact⟨t,by rw[C0,hn];rfl⟩
theorem jR (hc:X.calm=true):bm X (.builtin "sum") (fun xs H Q=>∃ (p:Addr) (ns:List Int),xs=[.ref p]/\(aU X.K H p (ns.map V.int)\/aV X.K H p (ns.map V.int))/\Q (.int ns.sum) H):=by
 intro pins s σ H xs us Q I r h
 obtain⟨p,ns,rfl,hq,q⟩:=h
 obtain⟨u,rfl,rx⟩:=bX r
 cases rx
 have hh:X.A.in1.handled=none:=I.ok.hd hc
 have fin:∀ (its:List Value) (h':Heap) (o:Obj) (tk:Nat) (t':Tok),ap (ns.map V.int) its->(∀ b ob,b∉[s.heap.objs.size]->(s.heap.push o).get? b=some ob->h'.get? b=some ob)->EP X pins σ Q (.int (preSum (fun i=>ns.getD i 0) its.toArray.size) t') { s with heap:=h',toks:=tk }:=fun its h' o tk t' rv k=>by
  have hl:=rv.length
  rw[CW] at hl
  have e:preSum (fun i=>ns.getD i 0) its.toArray.size=ns.sum:=by
   rw[xr,CY,<-hl,Dg]
  rw[e]
  exact⟨.int ns.sum,H,I.kept fun b ob e=>k b ob (by simp;exact EV (EK e)) (EL _ e),⟨_,rfl⟩,q⟩
 rcases hq with hq|hq
 ·obtain⟨its,rv,pl,hz⟩:=I.list hq
  have hp:p<s.heap.objs.size:=by obtain⟨o,e,_⟩:=pl.isList;exact EK e
  refine call_sum_walkG (Go pl.isList ?_)
  refine⟨s.heap.objs.size,[s.heap.objs.size,p],[s.heap.objs.size],_,_,_,fun i=>ns.getD i 0,rfl,Walks.list hh _ p (EV hp) its.toArray,⟨⟨_,EM _ rfl,rfl,rfl⟩,pl.isList.at fun o e=>EL _ e⟩,?_,?_,?_⟩
  ·intro b hb
   show b<(s.heap.push _).objs.size
   rw[EO]
   rcases List.mem_cons.mp hb with e|hb
   ·rw[e];exact E8 _
   ·have e:b=p:=by simpa using hb
    rw[e];exact E6 hp
  ·intro i v e
   exact o5 rv (by simpa using e)
  ·intro h' tk t' k
   exact fin its h' _ tk t' rv k
 ·obtain⟨its,rv,pl,hz⟩:=I.tuple hq
  have pl':s.heap.IsTuple p its.toArray:=pl
  have hp:p<s.heap.objs.size:=by obtain⟨o,e,_⟩:=pl;exact EK e
  refine call_sum_walkG (Gp pl' ?_)
  refine⟨s.heap.objs.size,[s.heap.objs.size,p],[s.heap.objs.size],_,_,_,fun i=>ns.getD i 0,rfl,Walks.tuple hh _ p (EV hp) its.toArray,⟨⟨_,EM _ rfl,rfl,rfl⟩,pl'.push _⟩,?_,?_,?_⟩
  ·intro b hb
   show b<(s.heap.push _).objs.size
   rw[EO]
   rcases List.mem_cons.mp hb with e|hb
   ·rw[e];exact E8 _
   ·have e:b=p:=by simpa using hb
    rw[e];exact E6 hp
  ·intro i v e
   exact o5 rv (by simpa using e)
  ·intro h' tk t' k
   exact fin its h' _ tk t' rv k
theorem xi {bs:List Bool}{its:List Value}(rv:ap (bs.map V.bl) its){i:Nat}{v:Value}(e:its[i]?=some v):v=.bool (bs.getD i true):=by
 have hl:=rv.length
 rw[CW] at hl
 have hi:i<its.length:=(List.getElem?_eq_some_iff.mp e).1
 have hn:bs[i]?=some (bs[i]'(by omega)):=CZ (by omega)
 obtain⟨u,hu,ru⟩:=rv.get (i:=i) (x:=V.bl (bs[i]'(by omega))) (by rw[Da,hn];rfl)
 rw[e] at hu
 cases hu
 rw[C0,hn]
 exact ru
theorem Bk (bs:List Bool):((C2 bs.length).all fun i=>bs.getD i true)=bs.all id:=by
 rw[Bool.eq_iff_iff,Dq,Dq]
 constructor
 ·intro h b hb
  obtain⟨i,hi,e⟩:=Dy hb
  have:=h i (List.mem_range.mpr hi)
  rw[C0,CZ hi,e] at this
  exact this
 ·intro h i hi
  have hi':=List.mem_range.mp hi
  rw[C0,CZ hi']
  exact h _ (Dr hi')
theorem mX (hc:X.calm=true):bm X (.builtin "all") (fun xs H Q=>∃ (p:Addr) (bs:List Bool),xs=[.ref p]/\aU X.K H p (bs.map V.bl)/\Q (.bl (bs.all id)) H):=by
 intro pins s σ H xs us Q I r h
 obtain⟨p,bs,rfl,hq,q⟩:=h
 obtain⟨u,rfl,rx⟩:=bX r
 cases rx
 have hh:X.A.in1.handled=none:=I.ok.hd hc
 obtain⟨its,rv,pl,hz⟩:=I.list hq
 have hp:p<s.heap.objs.size:=by obtain⟨o,e,_⟩:=pl.isList;exact EK e
 have hl:=rv.length
 rw[CW] at hl
 refine call_all_walk (Go pl.isList ?_)
 refine⟨s.heap.objs.size,[s.heap.objs.size,p],[s.heap.objs.size],_,_,_,fun i=>bs.getD i true,rfl,Walks.list hh _ p (EV hp) its.toArray,⟨⟨_,EM _ rfl,rfl,rfl⟩,pl.isList.at fun o e=>EL _ e⟩,?_,?_⟩
 ·intro i v s' Q' E' e q'
  have e':its[i]?=some v:=by simpa using e
  rw[xi rv e']
  exact Gh q'
 ·intro h' tk k
  have e:((C2 its.toArray.size).all fun i=>bs.getD i true)=bs.all id:=by rw[CY,<-hl];exact Bk bs
  rw[e]
  exact⟨.bl (bs.all id),H,I.kept fun b ob e=>k b ob (by simp;exact EV (EK e)) (EL _ e),rfl,q⟩
inductive gh (H:Hp):V->Value->Prop
 | bl (y:Bool):gh H (.bl y) (.type "bool")
 | int (i:Int):gh H (.int i) (.type "int")
 | lst {a:Addr}{xs:List V} (ea:H a=some (.lst xs)):gh H (.ref a) (.type "list")
 | tup {a:Addr}{xs:List V} (ea:H a=some (.tup xs)):gh H (.ref a) (.type "tuple")
theorem p6 {pins:List (Addr×Obj)}{σ:St}{H:Hp}{s:Shared}{x:V}{u t:Value}(I:aa X pins σ H s)(rx:ar x u)(ty:gh H x t):∃ Hx:Heap->Prop,W.KitX X.K u t Hx/\Hx s.heap/\u≠.builtin "__main__.__loader__#opaque":=by
 cases ty with
 | bl y=>cases (show u=Value.bool y from rx);exact⟨_,W.kitx_bool,True.intro,fun z=>nomatch z⟩
 | int i=>obtain⟨t,q⟩:=(show ∃ t,u=Value.int i t from rx);cases q;exact⟨_,W.kitx_int,True.intro,fun z=>nomatch z⟩
 | @lst a xs ea =>
  cases (show u=Value.ref a from rx)
  obtain⟨_,_,n,_,h1⟩:=(show aS X.prog X.w H s.heap a (.lst xs) from I.hok a _ ea)
  exact⟨_,W.kitx_list,⟨_,h1,rfl⟩,fun z=>nomatch z⟩
 | @tup a xs ea =>
  cases (show u=Value.ref a from rx)
  obtain⟨_,_,_,p⟩:=(show aS X.prog X.w H s.heap a (.tup xs) from I.hok a _ ea)
  obtain⟨o,h1,h2,_⟩:=p
  exact⟨_,W.kitx_tuple,⟨o,h1,h2⟩,fun z=>nomatch z⟩
theorem om:bm X (.builtin "isinstance") (fun xs H Q=>∃ x t T b,xs=[x,.ty T]/\gh H x t/\W.kitOne X.K t (.type T)=some b/\Q (.bl b) H):=by
 intro pins s σ H xs us Q I r h
 obtain⟨x,t,T,b,rfl,ty,e,q⟩:=h
 obtain⟨u,w',rfl,rx,rt⟩:=fg r
 cases rt
 obtain⟨Hx,Z,p,hx⟩:=p6 I rx ty
 exact W.kia_one Z I.kIn p e hx fun tk=>⟨.bl b,H,I.tok tk,rfl,q⟩
theorem zB:bm X (.builtin "isinstance") (fun xs H Q=>∃ x t p T U b,xs=[x,.ref p]/\aV X.K H p [.ty T,.ty U]/\gh H x t/\W.kitAny X.K t [.type T,.type U]=some b/\Q (.bl b) H):=by
 intro pins s σ H xs us Q I r h
 obtain⟨x,t,tp,T,U,b,rfl,hq,ty,e,q⟩:=h
 obtain⟨u,w',rfl,rx,rt⟩:=fg r
 cases rt
 obtain⟨Hx,Z,p,hx⟩:=p6 I rx ty
 obtain⟨its,rv,pl,hz⟩:=I.tuple hq
 obtain⟨u1,u2,rfl,r1,r2⟩:=rv.two
 cases r1
 cases r2
 obtain⟨o,ho,hc,n,hd⟩:=pl
 obtain⟨oc,odd,odt,osl⟩:=o
 dsimp only at hc hd
 subst hc hd
 exact W.kia_tup Z I.kIn p ho e hx fun tk=>⟨.bl b,H,I.tok tk,rfl,q⟩
theorem jO {x:Str}{T:String}(hg:Gl X x)(hm:X.mg x=none)(hv:FS x=some (.type T))(hn:x≠"__name__":=by decide)(hd:(x == ("__debug__" : Str))=false:=by decide):PE X (.Name x pos) (tC (.ty T)):=AS hg hm hv rfl hn hd
theorem CM:sU X (jN X.K):=by
 intro pins s σ H x y v u Q I rx ry h
 obtain⟨p,xs,i,z,rfl,rfl,hq,he,q⟩:=h
 cases rx
 obtain⟨t,rfl⟩:=ry
 obtain⟨its,r,pl,hz⟩:=I.list hq
 obtain⟨j,h1,h2,h3,h4,h5⟩:=lP he
 obtain⟨w,ew,rw'⟩:=r.get h2
 have hl:=r.length
 have hn:=fE
 have fin:EP X pins σ Q w s:=⟨z,H,I,rw',q⟩
 by_cases h0:0<=i
 ·have hj:i.toNat=j:=by
   rw[GQ h0 h5] at h1
   exact Option.some.inj h1
  exact wpAny_getItem_list pl.isList h0 (by omega) (by rw[hj];simpa using ew) fin
 ·have hj:(i+(its.toArray.size:Int)).toNat=j:=by
   rw[GR (by omega) h4] at h1
   rw[CY,<-hl]
   exact Option.some.inj h1
  exact GU pl.isList (by omega) (by rw[CY] <;> omega) (by omega) (by rw[hj];simpa using ew) fin
end
example (K:W.Frag):W.kitOne K (.type "bool") (.type "int")=some true:=by rfl
example (K:W.Frag):W.kitOne K (.type "int") (.type "bool")=some false:=by rfl
example (K:W.Frag):W.kitAny K (.type "tuple") [.type "list",.type "tuple"]=some true:=by rfl
example (K:W.Frag):W.kitAny K (.type "str") [.type "list",.type "tuple"]=some false:=by rfl
end L2
namespace L2
open PySem PySem.Spec PyProof.Rows
namespace RF
theorem vw:Manifest.owners.lookup (String.ofList ['d','e','s','r','e','v','e','r'].reverse)=some Manifest.sig_reversed:=by kernel_rfl
theorem slot_rev_next:Slot "reversed" "__next__" "reversed.__next__" :=
 .of (owner:="reversed") (n:="__next__") (by rw[GY,GZ];kernel_rfl) (by decide +kernel) (by decide +kernel) (by decide +kernel)
  (by first|exact .inl (by decide +kernel)|exact .inr (by decide +kernel)) (by rw[G0];kernel_rfl)
theorem yE:Slot "reversed" "__init__" "object.__init__" :=
 .of (owner:="object") (n:="__init__") (by rw[GY,GZ];kernel_rfl) (by decide +kernel) (by decide +kernel) (by decide +kernel)
  (by first|exact .inl (by decide +kernel)|exact .inr (by decide +kernel)) (by rw[G0];kernel_rfl)
theorem entry_rev_next:G2 table "reversed.__next__"=some Builtin.«reversed.__next__»:=G3 (by kernel_rfl)
theorem args_rev_next_1 (a:Value):G4 "reversed.__next__" ⟨[a],[]⟩:=by
 unfold G4;rw[G5 (id:="reversed.__next__") (n:=['_','_','t','x','e','n','_','_']) (o:=['d','e','s','r','e','v','e','r']) (by kernel_rfl) vw];kernel_rfl
theorem slot_rev_iter:Slot "reversed" "__iter__" "reversed.__iter__" :=
 .of (owner:="reversed") (n:="__iter__") (by rw[GY,GZ];kernel_rfl) (by decide +kernel) (by decide +kernel) (by decide +kernel)
  (by first|exact .inl (by decide +kernel)|exact .inr (by decide +kernel)) (by rw[G0];kernel_rfl)
theorem args_rev_iter_1 (a:Value):G4 "reversed.__iter__" ⟨[a],[]⟩:=by
 unfold G4;rw[G5 (id:="reversed.__iter__") (n:=['_','_','r','e','t','i','_','_']) (o:=['d','e','s','r','e','v','e','r']) (by kernel_rfl) vw];kernel_rfl
theorem entry_rev_iter:G2 table "reversed.__iter__"=some Builtin.«dict_keyiterator.__iter__» :=
 G6 (id':="dict_keyiterator.__iter__") (by kernel_rfl) (by first|rfl|decide +kernel|(unfold String.splitOn;simp +decide[String.splitOnAux])) (by decide +kernel) (by kernel_rfl)
theorem called_rev:TypeCalled "reversed" "reversed.__new__" "object.__init__" :=
 ⟨by decide +kernel,PySem.F.create_reversed,⟨_,_,PySem.F.mro_reversed⟩,PySem.F.made_reversed,PySem.F.plain_reversed_new,PySem.F.sub_reversed_self,yE⟩
theorem slot_tg:Slot "tuple" "__getitem__" "tuple.__getitem__" :=
 .of (owner:="tuple") (n:="__getitem__") (by rw[GY,GZ];kernel_rfl) (by decide +kernel) (by decide +kernel) (by decide +kernel)
  (by first|exact .inl (by decide +kernel)|exact .inr (by decide +kernel)) (by rw[G0];kernel_rfl)
theorem tup_no_rev:GO (.type "tuple") "__reversed__"=pure none:=by rw[GY,GZ];kernel_rfl
end RF
def jp (l:Addr)(i:Int):Obj:={ cls:=.type "reversed",data:=.fields #[.ref l,G7 i] }
set_option maxHeartbeats 1000000 in
theorem vW (l:Addr)(items:Array Value) :
  Meets (Builtin.«reversed.__new__» ⟨[.type "reversed",.ref l],[]⟩) (fun _ R s=>(s.heap.IsTuple l items/\(items.size:Int)<2 ^ 63) /\
   R (.ok (.ret (.ref s.heap.objs.size))) { s with heap:=s.heap.push (jp l ((items.size:Int)-1)),toks:=s.toks+1+1 }) :=
 .of_wp fun prog w A R s h=>by
  obtain⟨⟨ht,hz⟩,h⟩:=h
  have hT:s.TypeIs (.ref l) "tuple":=ht.typeIs
  unfold Builtin.«reversed.__new__»
  refine Ge (G8 (newClass_reversed _) ?_)
  try dsimp only
  refine Ge (G8 (a:=()) (by first|rfl|kernel_rfl) ?_)
  refine Ge (G8 (a:=()) (by first|rfl|kernel_rfl) ?_)
  try dsimp only
  refine Ge (G9 hT RF.tup_no_rev ?_)
  try dsimp only
  wp_walk
  refine G8 (a:=false) (by rw[G0];kernel_rfl) ?_
  rw[if_neg Bool.false_ne_true]
  refine Ge (G9 hT RF.slot_tg.lookup ?_)
  dsimp only
  rw[if_pos (by decide)]
  refine Gh ?_
  rw[if_neg (by decide)]
  refine Ge (len_tuple (show IsTup s.heap l items from ht) hz ?_)
  wp_walk
  exact⟨_,rfl,h⟩
def dY (h:Heap)(a l:Addr)(i:Int):Prop:=∃ o,h.get? a=some o/\o.cls=.type "reversed"/\o.data=.fields #[.ref l,G7 i]
theorem dY.typeIs {s:Shared}{a l:Addr}{i:Int}(x:dY s.heap a l i):s.TypeIs (.ref a) "reversed":=let ⟨o,ho,hc,_⟩:=x;⟨o,ho,hc⟩
theorem dY.at {h h':Heap}{a l:Addr}{i:Int}(x:dY h a l i)(e:∀ o,h.get? a=some o->h'.get? a=some o):dY h' a l i:=let ⟨o,ho,r⟩:=x;⟨o,e _ ho,r⟩
section
variable {prog:FN}{w:World}{A:Around}{E:Value->Shared->Prop}{s:Shared}
theorem Bl {it l:Addr}{i:Nat}{items:Array Value}{x:Value}{Q:Option Value->Shared->Prop}(hit:dY s.heap it l (i:Int))(hl:IsTup s.heap l items)(hx:items[i]?=some x)(hz:(items.size:Int)<2 ^ 63)
  (hQ:∀ h',dY h' it l ((i:Int)-1)->Heap.SameBut it s.heap h'->Q (some x) { s with heap:=h',toks:=s.toks+1 }):wpAny (model prog w) A (Ha (.ref it)) Q E s:=by
 obtain⟨o,ho,hc,hd⟩:=id hit
 have hT:s.TypeIs (.ref l) "tuple":=(show s.heap.IsTuple l items from hl).typeIs
 unfold Ha
 refine Ge (Hb (GL (name:=Str.ofString "__next__") hit.typeIs RF.slot_rev_next
  (GM RF.slot_rev_next hit.typeIs RF.entry_rev_next ?_ (RF.args_rev_next_1 _))))
 unfold Builtin.«reversed.__next__»
 refine Ge (G8 (a:=(Value.ref it,[])) rfl ?_)
 try dsimp only
 refine Ge (GK ho hd (x:=.ref l) rfl ?_)
 refine Ge (GK ho hd (x:=G7 (i:Int)) rfl ?_)
 show wpAny _ _ (if (i:Int)<0 then _ else _) _ _ s
 rw[if_neg (by omega)]
 refine Ge (G9 hT RF.slot_tg.lookup ?_)
 rw[if_neg (by decide)]
 have hi:i<items.size:=(Array.getElem?_eq_some_iff.mp hx).1
 refine Ge (wpAny_mkInt ?_)
 refine Ge (Hb (PyProof.Rows.getItem_tuple (s:={ s with toks:=s.toks+1 }) (j:=i) (x:=x) hl (by omega) (by omega) (by rw[GQ (by omega) (by omega)];rfl) hx ?_))
 refine Ge (GK (s:={ s with toks:=s.toks+1 }) ho hd (x:=G7 (i:Int)) rfl ?_)
 refine Ge (Hc (s:={ s with toks:=s.toks+1 }) ho hd (by simp) ?_)
 first
 | refine Gh ⟨x,rfl,Gh (hQ _ ?_ (Heap.SameBut.update ..))⟩
 | refine Ge (Gh (Gh ⟨x,rfl,Gh (hQ _ ?_ (Heap.SameBut.update ..))⟩))
 exact⟨_,EN _ ho (Obj.isFreed_of_fields (Obj.data_mapFields hd _)),(Obj.cls_mapFields ..).trans hc,by
  rw[Obj.data_mapFields hd];simp⟩
theorem AX {it l:Addr}{Q:Option Value->Shared->Prop}(hh:A.handled=none)(hit:dY s.heap it l (-1))
  (hQ:∀ h',Heap.ExtBut it s.heap h'->Q none { s with heap:=h' }):wpAny (model prog w) A (Ha (.ref it)) Q E s:=by
 obtain⟨o,ho,hc,hd⟩:=id hit
 unfold Ha
 refine Ge (Hb (GL (name:=Str.ofString "__next__") hit.typeIs RF.slot_rev_next
  (GM RF.slot_rev_next hit.typeIs RF.entry_rev_next ?_ (RF.args_rev_next_1 _))))
 unfold Builtin.«reversed.__next__»
 refine Ge (G8 (a:=(Value.ref it,[])) rfl ?_)
 try dsimp only
 refine Ge (GK ho hd (x:=.ref l) rfl ?_)
 refine Ge (GK ho hd (x:=G7 (-1)) rfl ?_)
 show wpAny _ _ (if (-1:Int)<0 then _ else _) _ _ s
 rw[if_pos (by decide)]
 refine Ge (Gj ?_)
 show wpAny _ _ ((do setField (.ref it) 1 (G7 (-1));setField (.ref it) 0 .none) >>= _) _ _ s
 refine Ge (Ge (Hc ho hd (by simp) ?_))
 have ho1:=EN (Obj.mapFields fun fs=>fs.setIfInBounds 1 (G7 (-1))) ho (Obj.isFreed_of_fields (Obj.data_mapFields hd _))
 have hd1:=Obj.data_mapFields hd (fun fs=>fs.setIfInBounds 1 (G7 (-1)))
 refine Hc ho1 hd1 (by simp) ?_
 first
 | show wpAny _ _ (Hd (.type "StopIteration") [] >>= _) _ _ _
 | (refine Ge ?_;show wpAny _ _ (Hd (.type "StopIteration") [] >>= _) _ _ _)
 refine Ge ?_
 simp only[Hd,newTuple]
 refine Ge (Gi ?_ (by size_fits))
 refine Ge (m:=He _ _) (G8 (a:=Value.none) (by first|rfl|(simp only[He];rfl)) ?_)
 refine Gi ?_ (by size_fits)
 simp only[raiseNew]
 refine Ge (Hf ?_)
 first|rw[show A.in1.handled=none from hh]|rw[hh]
 refine Ge (Gh (Hg ?_))
 refine Ge (Hh (T:="StopIteration") (b:=true) ⟨_,EM _ rfl,rfl⟩ Hi ?_)
 refine Gh (hQ _ ?_)
 refine((Heap.ExtBut.push (Heap.ExtBut.push ?_ _)) _)
 exact fun b o hb e=>((Heap.SameBut.update ..).2 b hb).trans (((Heap.SameBut.update ..).2 b hb).trans e)
theorem uP {it l:Addr}{i:Int}{Q:Value->Shared->Prop}(hit:dY s.heap it l i)(h:Q (.ref it) s):wpAny (model prog w) A (Gn (.ref it)) Q E s:=by
 refine Hj hit.typeIs RF.slot_rev_iter (GM RF.slot_rev_iter hit.typeIs RF.entry_rev_iter ?_ (RF.args_rev_iter_1 _))
 show wpAny _ _ (ret (.ref it)) _ _ s
 exact Gh ⟨_,rfl,"reversed",_,hit.typeIs,RF.slot_rev_next.lookup,h⟩
theorem AM {l:Addr}{items:Array Value}{Q:Value->Shared->Prop}(hl:IsTup s.heap l items)(hz:(items.size:Int)<2 ^ 63)
  (h:Q (.ref s.heap.objs.size) { s with heap:=s.heap.push (jp l ((items.size:Int)-1)),toks:=s.toks+1+1 }):wpAny (model prog w) A (call (.type "reversed") [.ref l]) Q E s:=by
 refine callType_new RF.called_rev (by decide) (PySem.F.typeCall_reversed_1 _) (PySem.F.newCall_reversed_1 _) (fun obj=>PySem.F.args_object_init_2 obj _) PySem.F.entry_reversed_new (vW l items) ⟨⟨hl,hz⟩,?_⟩
 exact⟨⟨_,EM _ rfl,rfl⟩,h⟩
end
def iW (K:W.Frag)(a:Addr)(n:Nat):It :=
 ⟨fun i H=>∃ xs x,aV K H a xs/\xs.length=n/\i<n/\xs[n-1-i]?=some x,fun i H x H'=>H'=H/\∀ xs,aV K H a xs->xs[n-1-i]?=some x,fun i _=>i=n⟩
theorem AR {P:Program} {w:World} {K:PySem.W.Frag} {tg:Expr} (a it:Addr) (n:Nat):fB P w K tg (iW K a n) [it] it (fun i h=>dY h it a ((n:Int) - 1 - (i:Int))∧True) where
  mem:=by simp
  obj:=fun i h st b hb=>by
    have e:b=it:=by simpa using hb
    subst e
    obtain ⟨⟨o,e,c,d⟩,_⟩:=st
    exact ⟨o,e,fun v z=>by rw [d] at z; cases z⟩
  keep:=fun i h h' st k=>⟨st.1.at fun o e=>k it (by simp) o e,trivial⟩
  item:=by
    intro X hP hw hK hc i pins s σ H E I hf st hg
    subst hP hw hK
    obtain ⟨xs,x,hq,hlen,hin,hx⟩:=hg
    obtain ⟨its,rv,p,hz⟩:=I.tuple hq
    obtain ⟨u,hu,ru⟩:=rv.get hx
    obtain ⟨f0,f1,f2,f3,f4,f5⟩:=hf it (by simp)
    have hl:=rv.length
    have hn:=fE
    have e1:(n:Int) - 1 - (i:Int)=((n - 1 - i:Nat):Int):=by omega
    have st1:=st.1
    rw [e1] at st1
    refine Bl st1 p (x:=u) (by simpa using hu) (by rw [List.size_toArray]; omega) fun h' st' sb=>?_
    have I1:aa X pins σ H { s with heap:=h',toks:=s.toks + 1 }:=I.turned (t':=s.toks + 1) (fun b o hb e=>(sb.2 b hb).trans e) f0 f1 f3 f4 f5
    obtain ⟨o,e,c,d⟩:=id st'
    have e2:((n - 1 - i:Nat):Int) - 1=(n:Int) - 1 - ((i + 1:Nat):Int):=by omega
    rw [e2] at st'
    exact ⟨u,rfl,jb (s:={ s with heap:=h',toks:=s.toks + 1 }) e c d (by decide) ⟨x,H,I1,ru,⟨rfl,fun ys hy=>by rw [I.tuple_inj hy hq]; exact hx⟩,⟨st',trivial⟩,fun b hb=>(hf b hb).1⟩⟩
  done:=by
    intro X hP hw hK hc i pins s σ H E I hf st hg
    subst hP hw hK
    have hg:i=n:=hg
    obtain ⟨f0,f1,f2,f3,f4,f5⟩:=hf it (by simp)
    have e1:(n:Int) - 1 - (i:Int)=-1:=by omega
    have st1:=st.1
    rw [e1] at st1
    exact AX (I.ok.hd hc) st1 fun h' eb=>⟨rfl,I.turned (t':=s.toks) (fun b o hb e=>eb b o hb e) f0 f1 f3 f4 f5⟩
  self:=fun _ _ _ _ _ st h=>uP st.1 h
section
variable {X:Cx}{tg:Expr}
def Cz (K:W.Frag)(ta:TA):TI:=fun σ H R=>ta σ H fun vs H1=>∃ a xs,vs=[.ref a]/\aV K H1 a xs/\R (iW K a xs.length) H1
theorem vU {a:Expr}{ta:TA}{p pos:Pos}(hg:Gl X "reversed")(hm:X.mg "reversed"=none)(ha:PA X [a] ta)(hs:FV [a] X.env=[(false,eval a X.env)]:=by rfl):PI X tg (.Call (.Name "reversed" p) [a] [] pos) (Cz X.K ta):=by
 intro pins s σ H R I h
 refine Call_ (eP I hg hm boot_reversed (PyProof.Rows.callWith_type1 (ag (ha pos pins s σ H _ I h) fun us s1 ⟨vs,H1,I1,r1,q1⟩=>?_) hs rfl))
 obtain⟨a,xs,e,hq,q⟩:=q1
 subst e
 obtain⟨u,rfl,rx⟩:=bX r1
 cases rx
 obtain⟨its,rv,pl,hz⟩:=I1.tuple hq
 have hl:=rv.length
 have hn:=fE
 refine AM pl (by rw[CY];omega) ?_
 have st:dY (s1.heap.push (jp a ((its.toArray.size:Int)-1))) s1.heap.objs.size a ((xs.length:Int)-1-((0:Nat):Int)):=by
  refine⟨_,EM _ rfl,rfl,?_⟩
  show Data.fields #[Value.ref a,G7 ((its.toArray.size:Int)-1)]=_
  rw[CY,hl]
  congr 3
  simp
 refine uP (s:={ s1 with heap:=s1.heap.push (jp a ((its.toArray.size:Int)-1)),toks:=s1.toks+1+1 }) st ?_
 refine⟨s1.heap.objs.size,[s1.heap.objs.size],_,_,H1,rfl,I1.kept fun b o e=>EL _ e,AR a _ xs.length,⟨st,trivial⟩,fun b hb=>?_,q⟩
 have e:b=s1.heap.objs.size:=by simpa using hb
 subst e
 exact I1.fpOk (EU _) (I1.hok.fresh (EU _))
end
theorem BA {K:W.Frag}{a:Addr}{xs:List V}{g:TG}{tb:TS}{D:cU}{σ:St}{H:Hp}(Pv:Nat->St->Hp->Prop)(h0:Pv 0 σ H)(hl:∀ i σ H,i<=xs.length->Pv i σ H->aV K H a xs)
  (hs:∀ i x σ H,i<xs.length->xs[xs.length-1-i]?=some x->Pv i σ H->g x σ H fun σ2 H2=>tb { D with nx:=Pv (i+1),ct:=Pv (i+1),bk:=D.nx } σ2 H2) (hd:∀ σ H,Pv xs.length σ H->D.nx σ H) :
  ∃ W:Nat->Nat->St->Hp->Prop,(∃ m,W 0 m σ H)/\∀ i m σ H,W i m σ H ->
   ((iW K a xs.length).stop i H/\D.nx σ H)\/((iW K a xs.length).go i H/\∃ N:St->Hp->Prop,(∀ σ' H',N σ' H'->∃ m',m'<m/\W (i+1) m' σ' H')/\∀ x H',(iW K a xs.length).yld i H x H'->g x σ H' fun σ2 H2=>tb { D with nx:=N,ct:=N,bk:=D.nx } σ2 H2):=by
 refine⟨fun i m σ H=>m=xs.length-i/\i<=xs.length/\Pv i σ H,⟨xs.length,by simp,EX _,h0⟩,?_⟩
 rintro i m σ H ⟨rfl,hi,p⟩
 have q:=hl i σ H hi p
 by_cases hlt:i<xs.length
 ·refine .inr ⟨⟨xs,xs[xs.length-1-i]'(by omega),q,rfl,hlt,CZ _⟩,Pv (i+1),fun σ' H' p'=>⟨xs.length-(i+1),by omega,rfl,hlt,p'⟩,fun x H' y=>?_⟩
  obtain⟨e,y⟩:=y
  subst e
  exact hs i x σ _ hlt (y xs q) p
 ·have e:i=xs.length:=by omega
  subst e
  exact .inl ⟨rfl,hd σ H p⟩
end L2
namespace L2
open PySem PySem.Spec PyProof.Rows
def dC (cells:List (Str×Addr))(cs:List (Str×Addr))(p:Str×NameKind):List (Str×Addr) :=
 if (p.2 == NameKind.free)=true then (match cells.lookup p.1 with|some a=>(p.1,a)::cs|none=>cs) else cs
def cj (sc:Scope)(cells:List (Str×Addr)):List (Str×Addr):=sc.names.foldl (dC cells) []
theorem ki {sc:Scope}{env:Env}(h:∀ p∈sc.names,p.2=.free->∃ a,env.cells.lookup p.1=some a):closureFor sc env=pure (cj sc env.cells):=by
 have key:∀ (l:List (Str×NameKind)) (cs:List (Str×Addr)),(∀ p∈l,p.2=.free->∃ a,env.cells.lookup p.1=some a) ->
   (forIn l cs fun (x:Str×NameKind) (r:List (Str×Addr))=>match x with
    | (name,kind)=>if (kind == NameKind.free)=true then (do let a <-cellOf env name;pure (ForInStep.yield ((name,a)::r))) else (pure (ForInStep.yield r):Sem (ForInStep (List (Str×Addr)))))=(pure (l.foldl (dC env.cells) cs):Sem (List (Str×Addr))):=by
  intro l
  induction l with
  | nil=>intro cs _;rfl
  | cons p r ih =>
   intro cs hp
   obtain⟨n,k⟩:=p
   rw[List.forIn_cons,Dh]
   by_cases hk:(k == NameKind.free)=true
   ·obtain⟨a,ea⟩:=hp (n,k) C6 (by simpa using hk)
    have e1:dC env.cells cs (n,k)=(n,a)::cs:=by unfold dC;rw[if_pos hk];dsimp only;dsimp only at ea;rw[ea]
    rw[e1]
    dsimp only at ea ⊢
    rw[if_pos hk]
    unfold cellOf
    rw[ea]
    simp only[pure_bind]
    exact ih _ fun q hq=>hp q (C5 _ hq)
   ·have e1:dC env.cells cs (n,k)=cs:=by unfold dC;rw[if_neg hk]
    rw[e1]
    dsimp only
    rw[if_neg hk]
    simp only[pure_bind]
    exact ih _ fun q hq=>hp q (C5 _ hq)
 unfold closureFor cj
 rw[<-key sc.names [] h]
 simp only[bind_pure]
theorem bW (sc:Scope)(cells:List (Str×Addr)){y:Str}{c:Addr}:(cj sc cells).lookup y=some c->cells.lookup y=some c:=by
 have key:∀ (l:List (Str×NameKind)) (cs:List (Str×Addr)),(∀ y c,cs.lookup y=some c->cells.lookup y=some c)->∀ y c,(l.foldl (dC cells) cs).lookup y=some c->cells.lookup y=some c:=by
  intro l
  induction l with
  | nil=>intro cs h;exact h
  | cons p r ih =>
   intro cs h
   rw[Dh]
   refine ih _ ?_
   intro y c e
   unfold dC at e
   split at e
   ·split at e
    ·rename_i a ea
     rw[Dk] at e
     cases q:y == p.1 with
     | true =>
      rw[q] at e
      cases e
      rw[eq_of_beq q];exact ea
     | false=>rw[q] at e;exact h y c e
    ·exact h y c e
   ·exact h y c e
 exact key sc.names [] (fun _ _ h=>by cases h) y c
theorem iA (sc:Scope)(cells:List (Str×Addr))(h:∀ p∈sc.names,p.2=.free->∃ a,cells.lookup p.1=some a){y:Str}(hy:(y,NameKind.free)∈sc.names):∃ c,(cj sc cells).lookup y=some c:=by
 have mono:∀ (l:List (Str×NameKind)) (cs:List (Str×Addr)),(∃ c,cs.lookup y=some c)->∃ c,(l.foldl (dC cells) cs).lookup y=some c:=by
  intro l
  induction l with
  | nil=>intro cs h;exact h
  | cons p r ih =>
   intro cs hc
   rw[Dh]
   refine ih _ ?_
   unfold dC
   split
   ·split
    ·rw[Dk]
     cases q:y == p.1 with
     | true=>exact⟨_,rfl⟩
     | false=>exact hc
    ·exact hc
   ·exact hc
 have key:∀ (l:List (Str×NameKind)) (cs:List (Str×Addr)),(∀ p∈l,p.2=.free->∃ a,cells.lookup p.1=some a)->(y,NameKind.free)∈l->∃ c,(l.foldl (dC cells) cs).lookup y=some c:=by
  intro l
  induction l with
  | nil=>intro cs _ hm;cases hm
  | cons p r ih =>
   intro cs hp hm
   rw[Dh]
   rcases List.mem_cons.mp hm with e|hm
   ·subst e
    obtain⟨a,ea⟩:=hp (y,.free) C6 rfl
    refine mono r _ ⟨a,?_⟩
    unfold dC
    rw[if_pos (show (NameKind.free == NameKind.free)=true by decide)]
    dsimp only at ea ⊢
    rw[ea,Dk,beq_self_eq_true]
   ·exact ih _ (fun q hq=>hp q (C5 _ hq)) hm
 exact key sc.names [] h hy
def cv (X:Cx)(x:Str)(scope:Scope)(C:Addr)(fp:List Addr)(s:Shared)(H:Hp):Cx where
 prog:=X.prog
 w:=X.w
 K:=X.K
 mg:=X.mg
 base:=X.base
 A:=X.A
 N:=x::X.N
 s₀:=s
 H₀:=H
 env:=Hk scope (cj scope X.env.cells) C X.env
 outer:=X.stack
 stack:=X.stack
 ex:=fp
 fn:=fun _=>false
 calm:=X.calm
 pn:=[]
 xe:=fun _ _=>False
structure fM (X:Cx)(x:Str)(sc:Scope):Prop where
 kind:sc.kind=.function
 nocell:∀ p∈sc.names,p.2≠.cell
 loc:sc.names.lookup x=some .local
 names:∀ p∈sc.names,p.2=.local->sc.names.lookup p.1=some .local
 apart:∀ y∈X.N,sc.names.lookup y≠some .local
 nd:X.N.Nodup
 free:∀ p∈sc.names,p.2=.free->X.env.kindOf p.1=some .cell\/X.env.kindOf p.1=some .free
section
variable {X:Cx}{pins:List (Addr×Obj)}{σ:St}{H:Hp}{s:Shared}{x:Str}{sc:Scope}{C:Addr}{fp:List Addr}
theorem cK {env:Env}:∀ {names:List (Str×NameKind)}{y:Str}{k:NameKind},(names.map fun (n,k)=>if (k == NameKind.free && env.scope.kind == .function && env.kindOf n == some .cell) then (n,NameKind.cell) else (n,k)).lookup y=some k ->
  ∃ k',names.lookup y=some k'/\(k=k'\/(k'=.free/\k=.cell))
 | [],_,_,h=>by simp at h
 | (n,k0)::r,y,k,h=>by
  have ih:=@cK env r y k
  have h:Dm y ((if (k0 == NameKind.free && env.scope.kind == .function && env.kindOf n == some .cell)=true then (n,NameKind.cell) else (n,k0))::(r.map _))=some k:=h
  cases hx:y == n with
  | true =>
   refine⟨k0,by rw[Dk,hx],?_⟩
   by_cases hc:(k0 == NameKind.free && env.scope.kind == .function && env.kindOf n == some .cell)=true
   ·rw[if_pos hc,Dk,hx] at h
    cases h
    simp only[Bool.and_eq_true,beq_iff_eq] at hc
    exact .inr ⟨hc.1.1,rfl⟩
   ·rw[if_neg hc,Dk,hx] at h
    cases h
    exact .inl rfl
  | false =>
   by_cases hc:(k0 == NameKind.free && env.scope.kind == .function && env.kindOf n == some .cell)=true
   ·rw[if_pos hc,Dk,hx] at h
    rw[Dk,hx];exact ih h
   ·rw[if_neg hc,Dk,hx] at h
    rw[Dk,hx];exact ih h
theorem fM.cells (S:fM X x sc)(ok:X.Ok):∀ p∈sc.names,p.2=.free->∃ a,X.env.cells.lookup p.1=some a:=fun p hp e=>ok.has p.1 (S.free p hp e)
theorem aa.okLC (I:aa X pins σ H s)(S:fM X x sc)(hC:s.heap.objs.size<=C)(hf:∀ b∈fp,aZ X pins H b)(hlt:∀ b∈fp,b<s.heap.objs.size):(cv X x sc C fp s H).Ok where
 mod:=I.ok.mod
 kind:=S.kind
 glob:=I.ok.glob
 blt:=I.ok.blt
 above:=hC
 inj:=fun y z c e1 e2=>I.ok.inj y z c (bW sc X.env.cells e1) (bW sc X.env.cells e2)
 has:=fun y hy=>by
  have hy':(Hl sc X.env).names.lookup y=some .cell\/(Hl sc X.env).names.lookup y=some .free:=hy
  have fr:sc.names.lookup y=some .free:=by
   rcases hy' with h|h
   ·obtain⟨k',e,q⟩:=cK h
    rcases q with q|⟨q,_⟩
    ·subst q;exact absurd rfl (S.nocell _ (PySem.mem_of_lookup e))
    ·rw[e,q]
   ·obtain⟨k',e,q⟩:=cK h
    rcases q with q|⟨_,q⟩
    ·rw[e,<-q]
    ·cases q
  exact iA sc X.env.cells (S.cells I.ok) (PySem.mem_of_lookup fr)
 cab:=fun y c e=>by cases (show false=true from e)
 hd:=I.ok.hd
 frames:=I.ok.frames
 stk:=.inl rfl
 exf:=fun b hb=>⟨EV (EW (hlt b hb) hC),fun y c e=>(hf b hb).2.2.2.2.1 y c (bW sc X.env.cells e)⟩
 bs:=I.bs
 bsz:=EY I.ok.bsz I.sz
 noex:=fun b o e hb=>by
  rcases (hf b hb).2.2.2.1 with q|q
  ·exact I.ok.noex b o e q
  ·exact absurd (EW (EK e) (EY I.ok.bsz q)) (E3 _)
 exfs:=fun b hb z=>by
  rcases List.mem_cons.mp (I.stkSub b z) with q|q
  ·exact(hf b hb).2.1 q
  ·exact(hf b hb).2.2.1 q
 funs:=I.stack
 frf:=I.stkFree
theorem aa.startLC {D:Addr}{h1:Heap}{m:Str->Option Value}{tk:Nat}(I:aa X pins σ H s)(S:fM X x sc)(hf:∀ b∈fp,aZ X pins H b)(hlt:∀ b∈fp,b<s.heap.objs.size)
  (hD:D=s.heap.objs.size) (hC:s.heap.objs.size<=C) (hDC:C≠D) (hk:∀ b o,s.heap.get? b=some o->h1.get? b=some o) (hn:h1.Ns C m) (hl:h1.get? D=some { cls:=.type "list",data:=.seq ([]:List Value).toArray 0 }) :
  aa (cv X x sc C fp s H) [] (none::σ) (upd H D (.lst [])) { s with heap:=h1,toks:=tk }:=by
 have hDle:s.heap.objs.size<=D:=by rw[hD];exact EU _
 have cells:∀ y c,(cj sc X.env.cells).lookup y=some c->c<s.heap.objs.size:=fun y c e=>by
  obtain⟨v,q⟩:=I.cell y c (bW sc X.env.cells e)
  exact q.lt
 refine⟨I.okLC S hC hf hlt,rfl,I.bare,Un.laid hk hDle (I.hok.fresh hDle),⟨m,hn,fun i y v e1 e2 e3=>?_⟩,fun y c e=>?_,?_,fun y c e=>?_,fun p hp=>absurd (show p∈([]:List (Addr×Obj)) from hp) (by simp),I.hok.laid hk hDle ⟨EX _,[],0,.nil,hl⟩,?_⟩
 ·cases i with
  | zero=>cases (show some (none:Option V)=some (some v) from e2)
  | succ j =>
   have e1':X.N[j]?=some y:=e1
   have e2':σ[j]?=some (some v):=e2
   have e3':gG (Hl sc X.env) y:=e3
   have ny:sc.names.lookup y≠some .local:=S.apart y (De e1')
   have fr:sc.names.lookup y=some .free/\((Hl sc X.env).names.lookup y=some .cell\/(Hl sc X.env).names.lookup y=some .free):=by
    rcases e3' with h|h|h
    ·obtain⟨k',e,q⟩:=cK h
     rcases q with q|⟨_,q⟩
     ·subst q;exact absurd e ny
     ·cases q
    ·obtain⟨k',e,q⟩:=cK h
     rcases q with q|⟨q,_⟩
     ·subst q;exact absurd rfl (S.nocell _ (PySem.mem_of_lookup e))
     ·exact⟨by rw[e,q],.inl h⟩
    ·obtain⟨k',e,q⟩:=cK h
     rcases q with q|⟨_,q⟩
     ·exact⟨by rw[e,<-q],.inr h⟩
     ·cases q
   have ok:=S.free (y,.free) (PySem.mem_of_lookup fr.1) rfl
   obtain⟨m0,hn0,hl0⟩:=I.loc
   obtain⟨u,r,l⟩:=hl0 j y v e1' e2' (.inr ok)
   refine⟨u,r,.inr ⟨fr.2,?_⟩⟩
   rcases l with⟨k,_⟩|⟨_,c,ec,z⟩
   ·rcases ok with q|q <;> (rw[show X.env.kindOf y=some .local from k] at q;cases q)
   ·obtain⟨c',ec'⟩:=iA sc X.env.cells (S.cells I.ok) (PySem.mem_of_lookup fr.1)
    have:=bW sc X.env.cells ec'
    rw[ec] at this
    cases this
    obtain⟨o,ho,hd⟩:=z
    exact⟨c,ec',o,hk _ _ ho,hd⟩
 ·obtain⟨v,o,ho,hd⟩:=I.cell y c (bW sc X.env.cells e)
  exact⟨v,o,hk _ _ ho,hd⟩
 ·show upd H D (.lst []) C=none
  rw[upd_ne hDC]
  exact I.hok.fresh hC
 ·show upd H D (.lst []) c=none
  rw[upd_ne (EV (EW (cells y c e) hDle))]
  exact I.freeC y c (bW sc X.env.cells e)
 ·show (none::σ).length=(x::X.N).length
  rw[C4,C4,I.len]
theorem aa.butC {h':Heap}(I:aa X pins σ H s)(hs:Heap.SameBut C s.heap h')(hC:X.s₀.heap.objs.size<=C)(hn:H C=none)(hL:C≠X.env.locals)(hc:∀ y c,X.env.cells.lookup y=some c->c≠C)(hp:∀ p∈X.pn++pins,p.1≠C) :
 aa X pins σ H { s with heap:=h' }:=I.turned (t':=s.toks) (fun b o hb e=>(hs.2 b hb).trans e) hn hL (.inr hC) hc hp
theorem aa.endLC {s2:Shared}{H2:Hp}{st:St}{pl:List (Addr×Obj)}(I:aa X pins σ H s)(J:aa (cv X x sc C fp s H) pl st H2 s2)(hf:∀ b∈fp,aZ X pins H b):aa X pins σ H2 s2 :=
 I.call' (ch:=fp) J.os J.base J.hok J.bare fun b hb=>⟨(hf b hb).2.2.2.1,(hf b hb).2.1,(hf b hb).2.2.2.2.1,(hf b hb).2.2.2.2.2⟩
end
def fw (X:Cx)(ifs:List Expr)(t:TT):Prop :=
 ∀ (pins:List (Addr×Obj)) (s:Shared) (σ:St) (H:Hp) (Q:Bool->Hp->Prop),aa X pins σ H s->t σ H Q ->
  wpAny (model X.prog X.w) X.A (forIn ifs true fun c r=>if r=true then do let ok <-isTrue c X.env (eval c X.env);pure (ForInStep.yield ok) else pure (ForInStep.yield r)) (TP X pins σ Q) X.xe s
def ji:TT:=fun _ H Q=>Q true H
theorem ca {X:Cx}:fw X [] ji:=fun _ _ _ H _ I h=>wpAny_tests_nil ⟨H,I,h⟩
theorem ju {X:Cx}{c:Expr}{t:TT}(h:PT X c t):fw X [c] t:=fun pins s σ H Q I q=>wpAny_tests_one (h pins s σ H Q I q)
theorem uy {prog:FN}{w:World}{A:Around}{R:Gv->Shared->Prop}{s:Shared}{elt target iter:Expr}{ifs:List Expr}{scope:Scope}{pos:Pos}{it acc:Value}{env:Env}(I:Nat->Shared->Prop)
  (turn:∀ n s,I n s->wpAny (model prog w) A (Ha it) (fun r s1=>match r with
   | none=>R (.ok .next) s1
   | some v=>wpAny (model prog w) A (Hm target it v) (fun _ s1=>wpAny (model prog w) A (Ga target env v) (fun _ s2 =>
    wpAny (model prog w) A (forIn ifs true fun c r=>if r=true then do let ok <-isTrue c env (eval c env);pure (ForInStep.yield ok) else pure (ForInStep.yield r)) (fun ok s3 =>
     if ok=true then wpAny (model prog w) A (eval elt env) (fun x s4 =>
      wpAny (model prog w) A (call (.builtin "list.append") [acc,x]) (fun _ s5=>∃ m,m<n/\I m s5) (fun _ _=>False) s4) (fun _ _=>False) s3
     else ∃ m,m<n/\I m s3) (fun _ _=>False) s2) (fun _ _=>False) s1) (fun _ _=>False) s1) (fun _ _=>False) s)
  (n:Nat) (h:I n s) :
  Gw (model prog w) A (.compLoop (.ListComp elt [⟨target,iter,ifs,0⟩] scope pos) 0 it acc env) R s:=by
 refine Hn rfl I (fun n s hI=>?_) n h
 show wpAny _ A ((Ho (.ListComp elt [⟨target,iter,ifs,0⟩] scope pos) 0 it acc env).onRaise (fun x=>do Hq x env;Hr x)) _ _ s
 refine wpAny_noted ?_
 rw[compTurn_list]
 refine Ge (Gg (Ge (FW (turn n s hI) (fun r s1 h1=>?_) fun _ _ h'=>h'.elim)))
 cases r with
 | none=>exact Gh h1
 | some v =>
  refine Ge (FW h1 (fun _ s1 h1=>?_) fun _ _ h'=>h'.elim)
  refine Ge (FW h1 (fun _ s2 h2=>Ge (FW h2 (fun ok s3 h3=>?_) fun _ _ h'=>h'.elim)) fun _ _ h'=>h'.elim)
  cases ok with
  | false=>exact Gh ⟨rfl,h3⟩
  | true =>
   exact Ge (Ge (FW h3 (fun x s4 h4=>Ge (FW h4 (fun _ s5 h5=>Gh (Gh ⟨rfl,h5⟩)) fun _ _ h'=>h'.elim)) fun _ _ h'=>h'.elim))
def fT (tc:TT) (te:TE) (σ:St) (J:It) (D:Addr) (Fin:Hp→Prop) (H:Hp):Prop :=
  ∃ W:Nat→Nat→List V→Hp→Prop,(∃ m,W 0 m [] (upd H D (.lst [])))∧∀ i m ys H,W i m ys H→H D=some (.lst ys) ∧
    ((J.stop i H∧Fin H)∨(J.go i H∧∀ x H',J.yld i H x H'→tc (some x::σ) H' fun b H2=>if b=true then te (some x::σ) H2 fun y H3=>H3 D=some (.lst ys)∧ys.length < sizeLine∧∃ m',m' < m∧W (i + 1) m' (ys++[y]) (upd H3 D (.lst (ys++[y])))
      else ∃ m',m' < m∧W (i + 1) m' ys H2))
def oh (wi:TI)(tc:TT)(te:TE):TE:=fun σ H Q=>wi σ H fun J H1=>∀ D,H1 D=none->fT tc te σ J D (fun H2=>Q (.ref D) H2) H1
section
variable {X:Cx}{x:Str}{sc:Scope}{elt iter:Expr}{ifs:List Expr}{px pos:Pos}{wi:TI}{tc:TT}{te:TE}
theorem uN {pins:List (Addr×Obj)}{σ:St}{H:Hp}{s:Shared}{it:Addr}{fp:List Addr}{tn:Nat->Heap->Prop}{J:It}{Fin:Addr->Hp->Prop}{RR:Value->Addr->Gv->Shared->Prop}{E:Value->Shared->Prop}
  (hc:X.calm=true) (S:fM X x sc) (I:aa X pins σ H s) (T:fB X.prog X.w X.K (.Name x px) J fp it tn) (st:tn 0 s.heap) (hf:∀ b∈fp,aZ X pins H b)
  (ht:∀ C s0 H0,fw (cv X x sc C fp s0 H0) ifs tc) (he:∀ C s0 H0,PE (cv X x sc C fp s0 H0) elt te) (q:∀ D,H D=none->fT tc te σ J D (Fin D) H)
  (hR:∀ D C H2 s2 m,s.heap.objs.size<=C->aa X pins σ H2 s2->H2 C=none->s2.heap.Ns C m->Fin D H2->RR (.ref D) C (.ok .next) s2) :
  wpAny (model X.prog X.w) X.A (newList []) (fun acc s3=>wpAny (model X.prog X.w) X.A (Hs sc X.env.globals (cj sc X.env.cells) [] X.env.qual none .none (some X.env)) (fun cenv s4 =>
   Gw (model X.prog X.w) X.A (.compStart (.ListComp elt [⟨.Name x px,iter,ifs,0⟩] sc pos) 0 (.ref it) acc { cenv with scope:=Hl sc X.env }) (RR acc cenv.locals) s4) E s3) E s:=by
 have hlt:∀ b∈fp,b<s.heap.objs.size:=fun b hb=>by
  obtain⟨o,e,_⟩:=T.obj 0 _ st b hb
  exact EK e
 refine Gi (Ht S.nocell (by intro y hy;simp at hy) (fun h1 hns1 hsb1=>?_) S.kind)
 dsimp only at hns1 hsb1 ⊢
 generalize hH2:s.heap.push { cls:=.type "list",dict:=none,data:=.seq ([]:List Value).toArray }=G at hns1 hsb1 ⊢
 have hC:G.objs.size=s.heap.objs.size+1:=by rw[<-hH2,EO]
 have hCle:s.heap.objs.size<=G.objs.size:=by rw[hC];exact E2 _
 have hDC:G.objs.size≠s.heap.objs.size:=by rw[hC];exact Fb _
 have old:∀ b o,s.heap.get? b=some o->h1.get? b=some o:=fun b o e=>hsb1.extBut b o (EV (EW (EK e) hCle)) (EL _ (hH2▸EL _ e))
 have hacc:h1.get? s.heap.objs.size=some { cls:=.type "list",data:=.seq ([]:List Value).toArray 0 }:=hsb1.extBut _ _ (Ne.symm hDC) (EL _ (hH2▸EM _ rfl))
 have hDn:H s.heap.objs.size=none:=I.hok.fresh (EU _)
 obtain⟨W,⟨m0,w0⟩,turn⟩:=q s.heap.objs.size hDn
 have st1:tn 0 h1:=T.keep _ _ _ st fun b _ o e=>old b o e
 have I1:=fun tk=>I.startLC (tk:=tk) S hf hlt rfl hCle hDC old hns1 hacc
 have fr1:∀ b∈fp,upd H s.heap.objs.size (.lst []) b=none:=fun b hb=>by rw[upd_ne (EV (hlt b hb))];exact(hf b hb).1
 have loop:∀ s3:Shared,s3={ s with heap:=h1,toks:=s.toks+([]:List (Str×Value)).length } ->
   Gw (model X.prog X.w) X.A (.compLoop (.ListComp elt [⟨.Name x px,iter,ifs,0⟩] sc pos) 0 (.ref it) (.ref s.heap.objs.size) (Hk sc (cj sc X.env.cells) G.objs.size X.env))
    (RR (.ref s.heap.objs.size) G.objs.size) s3:=by
  rintro s3 rfl
  have fpk:∀ {H':Hp},(∀ b∈fp,H' b=none)->∀ b∈fp,aZ (cv X x sc G.objs.size fp s H) [] H' b:=fun hn b hb =>
   ⟨hn b hb,EV (EW (hlt b hb) hCle),(I.okLC (C:=G.objs.size) S hCle hf hlt).exfs b hb,.inl hb,fun y c e=>(hf b hb).2.2.2.2.1 y c (bW sc X.env.cells e),fun p hp=>absurd (show p∈([]:List (Addr×Obj)) from hp) (by simp)⟩
  refine uy (fun n s'=>∃ i w ys H',aa (cv X x sc G.objs.size fp s H) [] (w::σ) H' s'/\tn i s'.heap/\(∀ b∈fp,H' b=none)/\W i n ys H') ?_ m0 ⟨0,none,[],_,I1 _,st1,fr1,w0⟩
  rintro n s3 ⟨i,v0,ys,H3,I3,st3,fr3,w3⟩
  obtain⟨hD3,turn3⟩:=turn i n ys H3 w3
  rcases turn3 with⟨stop,fin⟩|⟨go,step⟩
  ·refine ag (T.done (cv X x sc G.objs.size fp s H) rfl rfl rfl hc i [] s3 _ H3 _ I3 (fpk fr3) st3 stop) fun r s4 ⟨hr,I4⟩=>?_
   subst hr
   obtain⟨m4,hn4,_⟩:=I4.loc
   exact hR _ _ H3 s4 m4 hCle (I.endLC I4 hf) I4.free hn4 fin
  ·refine ag (T.item (cv X x sc G.objs.size fp s H) rfl rfl rfl hc i [] s3 _ H3 _ I3 (fpk fr3) st3 go) fun r s4 ⟨u,hr,h4⟩=>?_
   subst hr
   refine ag h4 fun _ s5 ⟨y,H5,I5,r5,y5,st5,fr5⟩=>?_
   have I5':=I5.pinned (fpk fr5) (T.obj _ _ st5)
   have hN:(x::X.N).Nodup:=List.nodup_cons.mpr ⟨fun hm=>S.apart x hm S.loc,S.nd⟩
   have pg:PG (cv X x sc G.objs.size fp s H) (.Name x px) (fh 0):=ba hN rfl (.inl (Hu S.loc)) (.inr (Hu S.loc))
   refine ag (pg _ s5 _ H5 y u (fun σ6 H6=>σ6=some y::σ/\H6=H5) I5' r5 ⟨rfl,rfl⟩) fun _ s6 ⟨σ6,H6,I6,e6,e6'⟩=>?_
   subst e6;subst e6'
   refine ag (ht G.objs.size s H _ s6 _ H6 _ I6 (step y H6 y5)) fun ok s7 ⟨H7,I7,q7⟩=>?_
   have again:∀ {H8:Hp}{s8:Shared}{zs:List V},aa (cv X x sc G.objs.size fp s H) ([]++dG fp s5.heap) (some y::σ) H8 s8->(∃ m',m'<n/\W (i+1) m' zs H8)->∃ m,m<n/\∃ i w ys H',aa (cv X x sc G.objs.size fp s H) [] (w::σ) H' s8/\tn i s8.heap/\(∀ b∈fp,H' b=none)/\W i m ys H':=fun {H8 s8 zs} I8 ⟨m',hm,w8⟩=>by
    refine⟨m',hm,i+1,some y,zs,H8,I8.unpinned,T.keep _ _ _ st5 fun b hb o e=>(I8.pin (b,o) (C3 _ (C3 _ (ej hb e)))).1,fun b hb=>?_,w8⟩
    obtain⟨o,e,d⟩:=T.obj _ _ st5 b hb
    exact(I8.pin (b,o) (C3 _ (C3 _ (ej hb e)))).2.1
   cases ok with
   | false =>
    rw[if_neg Bool.false_ne_true] at q7 ⊢
    exact again I7 q7
   | true =>
    rw[if_pos rfl] at q7 ⊢
    refine ag (he G.objs.size s H _ s7 _ H7 _ I7 q7) fun z s8 ⟨zv,H8,I8,r8,hD8,hz8,w8⟩=>?_
    refine ag (er _ s8 _ H8 (.ref s.heap.objs.size) [zv] (.ref s.heap.objs.size) [z] (fun _ H9=>∃ m',m'<n/\W (i+1) m' (ys++[zv]) H9) I8 rfl (.cons r8 .nil) ⟨_,ys,zv,rfl,rfl,hD8,hz8,w8⟩) fun _ s9 ⟨_,H9,I9,_,w9⟩=>?_
    exact again I9 w9
 exact Hv (loop _ rfl) (T.self X.A 0 _ _ _ st1 (loop _ rfl))
theorem cm (hc:X.calm=true)(S:fM X x sc)(hi:PI X (.Name x px) iter wi)(ht:∀ C fp s0 H0,fw (cv X x sc C fp s0 H0) ifs tc)(he:∀ C fp s0 H0,PE (cv X x sc C fp s0 H0) elt te)
  (hs:∀ v,Gq iter X.env v=pure v:=by intro _;rfl):PE X (.ListComp elt [⟨.Name x px,iter,ifs,0⟩] sc pos) (oh wi tc te):=by
 refine⟨?_⟩
 intro pins s σ H Q I h
 rw[eval_ListComp]
 refine Hw (use:=none) rfl hs (ki (S.cells I.ok)) S.kind S.names (ag (hi pins s σ H _ I h) fun v s1 h1=>ag h1 fun itv s2 h2=>?_)
 obtain⟨it,fp,tn,J,H2,e,I2,T,st2,f2,q2⟩:=h2
 subst e
 refine uN (RR:=fun acc C=>compPost (model X.prog X.w) X.A X.xe none (EP X pins σ Q) acc C) (Fin:=fun D H3=>Q (.ref D) H3) hc S I2 T st2 f2 (fun C s0 H0=>ht C fp s0 H0) (fun C s0 H0=>he C fp s0 H0) q2 ?_
 intro D C H3 s3 m hC I3 hn hN q3
 refine⟨m,hN,fun h' hs'=>⟨.ref D,H3,I3.butC hs' (EY I2.sz hC) hn (E1 (EW I2.lt hC)) (fun y c e=>?_) (fun p hp=>?_),rfl,q3⟩⟩
 ·obtain⟨v,z⟩:=I2.cell y c e
  exact EV (EW z.lt hC)
 ·exact EV (EW (EK (I2.pin p hp).1) hC)
theorem kg {i:Nat}{y:Str}{py spos:Pos}(hc:X.calm=true)(hi':X.N[i]?=some y)(hy:X.env.scope.names.lookup y=some .local)(S:fM X x sc)(hi:PI X (.Name x px) iter wi)(ht:∀ C fp s0 H0,fw (cv X x sc C fp s0 H0) ifs tc)(he:∀ C fp s0 H0,PE (cv X x sc C fp s0 H0) elt te)
  (hsw:F9 (.ListComp elt [⟨.Name x px,iter,ifs,0⟩] sc pos) (some (.Name y py)) spos.line X.env=pure true:=by rfl) (hs:∀ v,Gq iter X.env v=pure v:=by intro _;rfl) :
  PS X (.Assign [.Name y py] (.ListComp elt [⟨.Name x px,iter,ifs,0⟩] sc pos) spos) (lB (oh wi tc te) (fh i)):=by
 refine⟨?_⟩
 intro pins s σ H Dn I h
 rw[exec_Assign_Name_used _ _ _ _ hsw]
 refine Ge (Gg (Ge ?_))
 show wpAny _ X.A (do let _ <-comprehension (.ListComp elt [⟨.Name x px,iter,ifs,0⟩] sc pos) sc X.env _ (newList []) false (eval iter X.env) (some (Ga (.Name y py) X.env))) _ _ s
 refine Ge (FW (Hw (use:=some (Ga (.Name y py) X.env)) (Q:=fun _ s'=>SP X pins Dn .next s') rfl hs (ki (S.cells I.ok)) S.kind S.names
  (ag (hi pins s σ H _ I h) fun v s1 h1=>ag h1 fun itv s2 h2=>?_)) (fun _ s' hq=>Gh (Gh hq)) fun _ _ e=>e)
 obtain⟨it,fp,tn,J,H2,e,I2,T,st2,f2,q2⟩:=h2
 subst e
 refine uN (RR:=fun acc C=>compPost (model X.prog X.w) X.A X.xe (some (Ga (.Name y py) X.env)) (fun _ s'=>SP X pins Dn .next s') acc C) (Fin:=fun D H3=>fh i (.ref D) σ H3 Dn.nx) hc S I2 T st2 f2 (fun C s0 H0=>ht C fp s0 H0) (fun C s0 H0=>he C fp s0 H0) q2 ?_
 intro D C H3 s3 m hC I3 hn hN q3
 show wpAny _ _ (Ga (.Name y py) X.env (.ref D)) _ _ s3
 have cne:∀ y c,X.env.cells.lookup y=some c->c≠C:=fun y c e=>by
  obtain⟨v,z⟩:=I2.cell y c e
  exact EV (EW z.lt hC)
 refine wpAny_assign_Name (ub I3 S.nd hi' (.inl hy) (show ar (.ref D) (.ref D) from rfl) (fun s4 I4 ⟨a,hs4,ha⟩=>?_) (.inr hy))
 have haC:C≠a:=by
  rcases ha with e|e
  ·rw[e];exact E1 (EW I2.lt hC)
  ·exact Ne.symm (cne y a e)
 refine⟨m,hN.sameBut hs4 haC,fun h' hs'=>⟨_,H3,I4.butC hs' (EY I2.sz hC) hn (E1 (EW I2.lt hC)) cne (fun p hp=>?_),q3⟩⟩
 exact EV (EW (EK (I2.pin p hp).1) hC)
end
end L2
namespace L2
open PySem PySem.Spec PyProof.Rows
structure Fn (K:W.Frag)(mg:Str->Option Value)(x:Str)(st:Stmt)(ps:List Str)(f:Addr)(fd:Gy):Prop where
 fn:bq K x x st f fd
 m:mg x=some (.ref f)
 b:bB K fd ps []
structure Fm (K:W.Frag)(C:Addr)(x qual:Str)(st:Stmt)(ps:List Str)(f:Addr)(fd:Gy):Prop where
 fn:bq K x qual st f fd
 m:iP K C x f
 b:bB K fd ps []
def aK (P:FN)(w:World)(K:W.Frag)(mg:Str->Option Value)(base:Heap)(k:Nat)(x:Str)(ps:List Str)(sp:Sp):Prop :=
 ∃ f fd,ce P w K mg base cH k f fd ps sp/\mg x=some (.ref f)/\W.keepIn K (.ref f)=true/\bB K fd ps []
def dU (P:FN)(w:World)(K:W.Frag)(mg:Str->Option Value)(base:Heap)(C:Addr)(k:Nat)(x:Str)(ps:List Str)(sp:Sp):Prop :=
 ∃ f fd,ce P w K mg base cH k f fd ps sp/\iP K C x f/\bB K fd ps []
section
variable {P:FN}{w:World}{K:W.Frag}{mg:Str->Option Value}{base:Heap}
theorem aW {x:Str}{st:Stmt}{N ps:List Str}{k:Nat}{sp:Sp}(h:∃ f fd,Fn K mg x st ps f fd)(S:aA N ps (aw st))(len:∀ vs H Q E,sp vs H Q E->vs.length=ps.length)
  (hbody:∀ (f:Addr) (cdv:Value) (A:Around) (outer:List Env) (s:Shared) (H:Hp) (vs:List V) (Q:VK) (E:XK),aQ k (A.deeper (GI x (aw st) s.heap.objs.size f cdv))->sp vs H Q E ->
   ∃ t,b7 (fJ cH P w K mg base N x (aw st) f cdv A outer s H E).nox (eJ st) t/\t { nx:=fun _ H'=>Q .non H',rt:=Q } (d8 N vs) H):aK P w K mg base (k+1) x ps sp:=by
 obtain⟨f,fd,F⟩:=h
 exact⟨f,fd,F.fn.ok S len fun cdv A outer s H vs Q E hr h=>hbody f cdv A outer s H vs Q E hr h,F.m,F.fn.kp,F.b⟩
theorem fC {C:Addr}{x qual:Str}{st:Stmt}{N ps:List Str}{k:Nat}{sp:Sp}(h:∃ f fd,Fm K C x qual st ps f fd)(S:aA N ps (aw st))(len:∀ vs H Q E,sp vs H Q E->vs.length=ps.length)
  (hbody:∀ (f:Addr) (cdv:Value) (A:Around) (outer:List Env) (s:Shared) (H:Hp) (vs:List V) (Q:VK) (E:XK),aQ k (A.deeper (GI qual (aw st) s.heap.objs.size f cdv))->sp vs H Q E ->
   ∃ t,b7 (fJ cH P w K mg base N qual (aw st) f cdv A outer s H E).nox (eJ st) t/\t { nx:=fun _ H'=>Q .non H',rt:=Q } (d8 N vs) H):dU P w K mg base C (k+1) x ps sp:=by
 obtain⟨f,fd,F⟩:=h
 exact⟨f,fd,F.fn.ok S len fun cdv A outer s H vs Q E hr h=>hbody f cdv A outer s H vs Q E hr h,F.m,F.b⟩
end
section
variable {X:Cx}{k k':Nat}{x m:Str}{ps:List Str}{sp:Sp}{p pos apos:Pos}{e o:Expr}{es:List Expr}{ta:TE}{t:TA}{C:Addr}
theorem ai (h:aK X.prog X.w X.K X.mg X.base k x ps sp)(hr:aQ k' X.A)(ha:PA X (e::es) t)(hg:Gl X x:=by rfl)(hk:k<=k':=by decide)(hdb:(x == ("__debug__" : Str))=false:=by decide)
  (hs:FV (e::es) X.env=(false,eval e X.env)::FV es X.env:=by rfl) (hpl:(FU pos (FV es X.env)).any (·.1)=false:=by rfl):PE X (.Call (.Name x p) (e::es) [] pos) (jl sp [] E0 t):=by
 obtain⟨f,fd,F,hm,kp,b⟩:=h
 exact Bc F (hr.mono hk) hg hm kp b .nil gf ha hdb hs hpl
theorem df {pl:Sem Bool}(ho:PE X o ta)(c:du X.K C)(h:dU X.prog X.w X.K X.mg X.base C k m ps sp)(hr:aQ k' X.A)(ha:PA X (e::es) t)(hk:k<=k':=by decide)
  (hst:FV (e::es) X.env=(false,eval e X.env)::FV es X.env:=by rfl) (hpl:(FU pos (FV es X.env)).any (·.1)=false:=by rfl)
  (ht:eval (.Call (.Attribute o m apos) (e::es) [] pos) X.env=(do
   let ov <-eval o X.env
   F5 apos.atName
   let (f,first) <-F6 [ov] (Gu ov m pl)
   callWith pos f first (FU pos (FV (e::es) X.env)) (GE pos (GF [] X.env))):=by rfl):PE X (.Call (.Attribute o m apos) (e::es) [] pos) (jk C m sp [] E0 ta t):=by
 obtain⟨f,fd,F,hm,b⟩:=h
 exact zI (pl:=pl) ho c hm F (hr.mono hk) b .nil gf ha hst hpl ht
theorem gH {pl:Sem Bool}(ho:PE X o ta)(c:du X.K C)(h:dU X.prog X.w X.K X.mg X.base C k m ps sp)(hr:aQ k' X.A)(hk:k<=k':=by decide)
  (ht:eval (.Call (.Attribute o m apos) [] [] pos) X.env=(do
   let ov <-eval o X.env
   F5 apos.atName
   let (f,first) <-F6 [ov] (Gu ov m pl)
   callWith pos f first (FU pos (FV [] X.env)) (GE pos (GF [] X.env))):=by rfl):PE X (.Call (.Attribute o m apos) [] [] pos) (jk C m sp [] E0 ta fu):=by
 obtain⟨f,fd,F,hm,b⟩:=h
 exact AD (pl:=pl) ho c hm F (hr.mono hk) b .nil gf ht
theorem eG {n:Int}(h:∃ t,X.mg x=some (.int n t))(hg:Gl X x:=by rfl)(hd:(x == ("__debug__" : Str))=false:=by decide):PE X (.Name x pos) (tC (.int n)):=by
 obtain⟨t,h⟩:=h
 exact vB hg h ⟨t,rfl⟩ hd
theorem aM {id:String}{r:List V->Hp->VK->Prop}(hc:bm X (.builtin id) r)(hm:X.mg x=none)(hv:FS x=some (.builtin id))(ha:PA X (e::es) t)(hg:Gl X x:=by rfl)(hn:x≠"__name__":=by decide)(hdb:(x == ("__debug__" : Str))=false:=by decide)
 (he:FV (e::es) X.env=(false,eval e X.env)::FV es X.env:=by rfl) (hpl:(FU pos (FV es X.env)).any (·.1)=false:=by rfl):PE X (.Call (.Name x p) (e::es) [] pos) (jj r t):=xR hc hg hm hv ha hn hdb he hpl
theorem cq {T:String}{r:List V->Hp->VK->Prop}(hc:bm X (.type T) r)(hm:X.mg x=none)(hv:FS x=some (.type T))(ha:PA X (e::es) t)(hg:Gl X x:=by rfl)(hn:x≠"__name__":=by decide)(hdb:(x == ("__debug__" : Str))=false:=by decide)
 (he:FV (e::es) X.env=(false,eval e X.env)::FV es X.env:=by rfl) (hpl:(FU pos (FV es X.env)).any (·.1)=false:=by rfl):PE X (.Call (.Name x p) (e::es) [] pos) (jj r t):=ye hc hg hm hv ha hn hdb he hpl
theorem ah {a:Expr}{ta:TE}(ha:PE X a ta)(hs:FV [a] X.env=(false,eval a X.env)::FV [] X.env:=by rfl):PA X [a] (fV ta fu):=aR ha cT hs
theorem ao {a b:Expr}{ta tb:TE}(ha:PE X a ta)(hb:PE X b tb)(hs:FV [a,b] X.env=(false,eval a X.env)::FV [b] X.env:=by rfl)(hs2:FV [b] X.env=(false,eval b X.env)::FV [] X.env:=by rfl):PA X [a,b] (fV ta (fV tb fu)):=aR ha (aR hb cT hs2) hs
theorem aO {a b c:Expr}{ta tb tc:TE}(ha:PE X a ta)(hb:PE X b tb)(hc:PE X c tc)(hs:FV [a,b,c] X.env=(false,eval a X.env)::FV [b,c] X.env:=by rfl)(hs1:FV [b,c] X.env=(false,eval b X.env)::FV [c] X.env:=by rfl)(hs2:FV [c] X.env=(false,eval c X.env)::FV [] X.env:=by rfl):PA X [a,b,c] (fV ta (fV tb (fV tc fu))):=aR ha (aR hb (aR hc cT hs2) hs1) hs
end
def ax (p:Addr)(H H':Hp):Prop:=∀ b o,H b=some o->b≠p->H' b=some o
theorem ax.trans {p:Addr}{H H1 H2:Hp}(a:ax p H H1)(b:ax p H1 H2):ax p H H2:=fun c o h n=>b c o (a c o h n) n
theorem ab.but {p:Addr}{H H':Hp}(a:ab H H'):ax p H H':=fun b o h _=>a b o h
theorem ab.upd {H:Hp}{p:Addr}{o:HO}(h:H p=none):ab H (upd H p o):=fun b u e=>by rw[upd_ne (aJ e h)];exact e
theorem ab.sqT {K:W.Frag}{H H':Hp}{a:Addr}{xs:List V}(e:ab H H')(h:aV K H a xs):aV K H' a xs:=by
 rcases h with (h|⟨o,h⟩)|h
 ·exact .inl (.inl (e _ _ h))
 ·exact .inl (.inr ⟨o,e _ _ h⟩)
 ·exact .inr h
end L2
namespace L2
open PySem PySem.Spec PyProof.Rows
theorem pA:∀ {us:List Value},us.length=1->∃ a,us=[a]
 | [a],_=>⟨a,rfl⟩
theorem oG {us:List Value}(h:us.length=2):∃ a b,us=[a,b]:=by
 cases us with
 | nil=>cases h
 | cons a r=>obtain⟨b,rfl⟩:=pA (Nat.succ.inj h);exact⟨a,b,rfl⟩
theorem vK {us:List Value}(h:us.length=3):∃ a b c,us=[a,b,c]:=by
 cases us with
 | nil=>cases h
 | cons a r=>obtain⟨b,c,rfl⟩:=oG (Nat.succ.inj h);exact⟨a,b,c,rfl⟩
theorem oI {us:List Value}(h:us.length=4):∃ a b c d,us=[a,b,c,d]:=by
 cases us with
 | nil=>cases h
 | cons a r=>obtain⟨b,c,d,rfl⟩:=vK (Nat.succ.inj h);exact⟨a,b,c,d,rfl⟩
theorem zU {us:List Value}(h:us.length=5):∃ a b c d e,us=[a,b,c,d,e]:=by
 cases us with
 | nil=>cases h
 | cons a r=>obtain⟨b,c,d,e,rfl⟩:=oI (Nat.succ.inj h);exact⟨a,b,c,d,e,rfl⟩
section
variable {K:W.Frag}{x qual p q r s t u:Str}{st:Stmt}{g:Addr}{fd:Gy}
abbrev gN (x qual:Str)(st:Stmt)(kV doc pm:Value)(an:Option Addr)(cdv ct:Value):Gy:=W.fnOf x qual (gA st) (eJ st) (aw st) .none kV doc pm an cdv ct
theorem bq.b0 (F:bq K x qual st g fd)(h:∀ kV doc pm an cdv ct,GA (gN x qual st kV doc pm an cdv ct) ⟨[],[]⟩=pure []):bB K fd [] []:=F.binds fun kV doc pm an cdv ct us hl=>by
 obtain rfl:us=[]:=Dz hl
 exact h kV doc pm an cdv ct
theorem bq.b1 (F:bq K x qual st g fd)(h:∀ kV doc pm an cdv ct a,GA (gN x qual st kV doc pm an cdv ct) ⟨[a],[]⟩=pure [(p,a)]):bB K fd [p] []:=F.binds fun kV doc pm an cdv ct us hl=>by
 obtain⟨a,rfl⟩:=pA hl
 exact h kV doc pm an cdv ct a
theorem bq.b2 (F:bq K x qual st g fd)(h:∀ kV doc pm an cdv ct a b,GA (gN x qual st kV doc pm an cdv ct) ⟨[a,b],[]⟩=pure [(p,a),(q,b)]):bB K fd [p,q] []:=F.binds fun kV doc pm an cdv ct us hl=>by
 obtain⟨a,b,rfl⟩:=oG hl
 exact h kV doc pm an cdv ct a b
theorem bq.b3 (F:bq K x qual st g fd)(h:∀ kV doc pm an cdv ct a b c,GA (gN x qual st kV doc pm an cdv ct) ⟨[a,b,c],[]⟩=pure [(p,a),(q,b),(r,c)]):bB K fd [p,q,r] []:=F.binds fun kV doc pm an cdv ct us hl=>by
 obtain⟨a,b,c,rfl⟩:=vK hl
 exact h kV doc pm an cdv ct a b c
theorem bq.b4 (F:bq K x qual st g fd)(h:∀ kV doc pm an cdv ct a b c d,GA (gN x qual st kV doc pm an cdv ct) ⟨[a,b,c,d],[]⟩=pure [(p,a),(q,b),(r,c),(s,d)]):bB K fd [p,q,r,s] []:=F.binds fun kV doc pm an cdv ct us hl=>by
 obtain⟨a,b,c,d,rfl⟩:=oI hl
 exact h kV doc pm an cdv ct a b c d
theorem bq.b5 (F:bq K x qual st g fd)(h:∀ kV doc pm an cdv ct a b c d e,GA (gN x qual st kV doc pm an cdv ct) ⟨[a,b,c,d,e],[]⟩=pure [(p,a),(q,b),(r,c),(s,d),(t,e)]):bB K fd [p,q,r,s,t] []:=F.binds fun kV doc pm an cdv ct us hl=>by
 obtain⟨a,b,c,d,e,rfl⟩:=zU hl
 exact h kV doc pm an cdv ct a b c d e
end
end L2
namespace L2
open PySem PySem.Spec PyProof.Rows
section
variable {P:FN}{w:World}{H H':Hp}{h h':Heap}{a:Addr}{o:HO}
end
section
variable {X:Cx}{pins:List (Addr×Obj)}{σ:St}{H H':Hp}{s s₁:Shared}{cls:Value}{a:Addr}{new:Bool}
end
end L2
namespace L2
open PySem PySem.Spec PyProof.Rows
section
variable {X:Cx}{E:XK}{x:Str}{C:Addr}{e₀:Expr}{rest:List Expr}{t:TA}{np cpos pos:Pos}
end
section
variable {P:FN}{w:World}{K:W.Frag}{mg:Str->Option Value}{base:Heap}
end
section
variable {X:Cx}{k k':Nat}{x:Str}{ps:List Str}{sp:Sp}{p pos:Pos}{e:Expr}{es:List Expr}{t:TA}{E:XK}
end
section
variable {X:Cx}{pins pins2:List (Addr×Obj)}{σ:St}{H:Hp}{s:Shared}{xe:Value->Shared->Prop}{a:Addr}
end
section
variable {X:Cx}{body:List Stmt}{h₀:Hy}{hs:List Hy}{t:XK->TS}{th:Value->TS}{pos:Pos}
end
end L2
namespace L2
open PySem PySem.Spec PyProof.Rows
section
variable {X:Cx}{x n:Str}{C:Addr}{b₀:Stmt}{suite:List Stmt}{rest:List Hy}{pos np:Pos}{th:Value->TS}
end
end L2
namespace L2
open PySem PySem.Spec PySem.W PyProof.Rows
section
variable {prog:FN}{w:World}{A:Around}{E:Value->Shared->Prop}{s:Shared}{K:Frag}{a C:Addr}{oe:Obj}
end
end L2
namespace L2
open PySem PySem.Spec PyProof.Rows
end L2
namespace L2
open PySem PySem.Spec PyProof.Rows
section
variable {X:Cx}{CX:dD}{k:Nat}{f C:Addr}{fd:Gy}{ps:List Str}{sp:Sp}{dvs:List V}{ds:List Value}{E:XK}{x m:Str}{p pos apos:Pos}{e o:Expr}{es:List Expr}{ta:TE}{t:TA}
end
section
variable {P:FN}{w:World}{K:W.Frag}{mg:Str->Option Value}{base:Heap}
end
section
variable {X:Cx}{k k':Nat}{x:Str}{ps:List Str}{sp:Sp}{p pos:Pos}{e:Expr}{es:List Expr}{t:TA}
end
end L2
namespace L2
open PySem PySem.Spec PyProof.Rows
def bG (mg:Str->Option Value)(x:Str):Addr:=match mg x with
 | some (.ref C)=>C
 | _=>0
theorem eU {mg:Str->Option Value}{x:Str}{C:Addr}(h:mg x=some (.ref C)):bG mg x=C:=by unfold bG;rw[h]
end L2
namespace Pr
open PySem L2
def aD (i:Nat):Stmt:=PySem.Challenge.pw_peakroll_k63_whole_broken.main.body.getD i (.Pass ⟨0,0,0,0⟩)
abbrev nr:Stmt:=aD 2
abbrev mY:Stmt:=aD 3
abbrev m9:Stmt:=aD 4
abbrev me:Stmt:=aD 5
abbrev mx:Stmt:=aD 6
abbrev nJ:Stmt:=aD 17
abbrev lv:Stmt:=aD 18
abbrev li:Stmt:=aD 19
abbrev mO:Stmt:=aD 20
abbrev lC:Stmt:=aD 21
abbrev mP:Stmt:=aD 22
abbrev kK:Stmt:=aD 23
abbrev nM:Stmt:=aD 24
abbrev nz:Stmt:=aD 26
abbrev lX:Stmt:=aD 27
abbrev og:Stmt:=aD 29
abbrev nh:Stmt:=aD 30
abbrev nN:Stmt:=aD 34
abbrev lG:Stmt:=aD 35
abbrev lY:Stmt:=aD 42
abbrev kC:Stmt:=aD 43
abbrev ng:Stmt:=aD 44
abbrev kJ:Stmt:=aD 45
abbrev lm:Stmt:=aD 46
abbrev mL:Stmt:=aD 47
abbrev mq:Stmt:=aD 50
abbrev lS:Stmt:=aD 51
abbrev md:Stmt:=aD 52
abbrev kB:Stmt:=aD 53
abbrev nH:Stmt:=aD 54
abbrev mB:Stmt:=aD 55
abbrev lj:Stmt:=aD 56
abbrev mQ:Stmt:=aD 57
abbrev kD:Stmt:=aD 58
abbrev mz:Stmt:=aD 59
abbrev kE:Stmt:=aD 60
abbrev lK:Stmt:=aD 61
abbrev mI:Stmt:=aD 62
abbrev kM:Stmt:=aD 63
abbrev j6:Stmt:=aD 64
abbrev jx:Stmt:=cX (aD 48) 0
abbrev rW:Stmt:=cX (aD 48) 1
abbrev rc:Stmt:=cX (aD 48) 2
abbrev qc:Stmt:=cX (aD 48) 3
abbrev kL:Stmt:=cX (aD 48) 4
abbrev mw:Stmt:=cX (aD 48) 5
abbrev mW:Stmt:=cX (aD 48) 6
abbrev nT:Stmt:=cX (aD 48) 7
abbrev jE:Stmt:=cX (aD 32) 0
abbrev lp:Stmt:=cX (aD 32) 1
abbrev nC:Stmt:=cX (aD 32) 2
abbrev mD:Stmt:=cX (aD 32) 3
abbrev kI:Stmt:=cX (aD 32) 5
structure Txt (K:W.Frag)(mg:Str->Option Value)(C:Addr):Prop where
 f_empty:∃ f fd,Fn K mg "empty" nr [] f fd
 f_in_order:∃ f fd,Fn K mg "in_order" mY ["entries"] f fd
 f_place_of:∃ f fd,Fn K mg "place_of" m9 ["entry"] f fd
 f_bar_of:∃ f fd,Fn K mg "bar_of" me ["entries"] f fd
 f_joined:∃ f fd,Fn K mg "joined" mx ["one","other"] f fd
 f_is_whole:∃ f fd,Fn K mg "is_whole" nJ ["value"] f fd
 f_is_whole_from:∃ f fd,Fn K mg "is_whole_from" lv ["value","least","greatest"] f fd
 f_is_wide:∃ f fd,Fn K mg "is_wide" li ["value"] f fd
 f_is_list:∃ f fd,Fn K mg "is_list" mO ["value"] f fd
 f_is_list_from:∃ f fd,Fn K mg "is_list_from" lC ["value","fewest","most"] f fd
 f_need_moment:∃ f fd,Fn K mg "need_moment" mP ["value"] f fd
 f_need_roll:∃ f fd,Fn K mg "need_roll" kK ["value","least","greatest"] f fd
 f_need_number:∃ f fd,Fn K mg "need_number" nM ["value"] f fd
 f_bars_of:∃ f fd,Fn K mg "bars_of" nz ["ladder","roll","entries"] f fd
 f_gathered:∃ f fd,Fn K mg "gathered" lX ["pairs"] f fd
 f_changes:∃ f fd,Fn K mg "changes" og ["ladder","one","other"] f fd
 f_unlike_bars:∃ f fd,Fn K mg "unlike_bars" nh ["one","other"] f fd
 f_first_of:∃ f fd,Fn K mg "first_of" nN ["begin","sizes","number"] f fd
 f_number_of:∃ f fd,Fn K mg "number_of" lG ["begin","sizes","place"] f fd
 f_is_part:∃ f fd,Fn K mg "is_part" lY ["value"] f fd
 f_are_parts:∃ f fd,Fn K mg "are_parts" kC ["value"] f fd
 f_are_sizes:∃ f fd,Fn K mg "are_sizes" ng ["value"] f fd
 f_is_row:∃ f fd,Fn K mg "is_row" kJ ["value"] f fd
 f_are_rows:∃ f fd,Fn K mg "are_rows" lm ["value"] f fd
 f_bar_lengths:∃ f fd,Fn K mg "bar_lengths" mL ["parts"] f fd
 f_law_pot:∃ f fd,Fn K mg "_law_pot" mq ["_law_script","_law_k"] f fd
 f_law_digit:∃ f fd,Fn K mg "_law_digit" lS ["_law_pot_here","_law_many"] f fd
 f_law_parts:∃ f fd,Fn K mg "_law_parts" md ["_law_pot_here"] f fd
 f_law_rows:∃ f fd,Fn K mg "_law_rows" kB ["_law_pot_here"] f fd
 f_law_begin:∃ f fd,Fn K mg "_law_begin" nH ["_law_pot_here"] f fd
 f_law_near:∃ f fd,Fn K mg "_law_near" mB ["_law_pot_here","_law_begin_here"] f fd
 f_law_bar:∃ f fd,Fn K mg "_law_bar" lj ["_law_pot_here","_law_ladder","_law_begin_here"] f fd
 f_law_wide:∃ f fd,Fn K mg "_law_wide" mQ ["_law_pot_here"] f fd
 f_law_moment:∃ f fd,Fn K mg "_law_moment" kD ["_law_pot_here","_law_ladder","_law_begin_here","_law_shut"] f fd
 f_law_entries:∃ f fd,Fn K mg "_law_entries" mz ["_law_pot_here","_law_ladder","_law_begin_here","_law_shut"] f fd
 f_law_changed:∃ f fd,Fn K mg "_law_changed" kE ["_law_pot_here","_law_ladder","_law_begin_here","_law_shut","_law_entries_here"] f fd
 f_law_fold:∃ f fd,Fn K mg "_law_fold" lK ["_law_entries_here","_law_stretch"] f fd
 f_law_due:∃ f fd,Fn K mg "_law_due" mI ["_law_ladder","_law_shut","_law_one","_law_other"] f fd
 f_law_right:∃ f fd,Fn K mg "_law_right" kM ["_law_locks","_law_one","_law_other","_law_due_here"] f fd
 f_law:∃ f fd,Fn K mg "law" j6 ["_law_script"] f fd
 c_WIDE_END:∃ t,mg "WIDE_END"=some (.int 1000000000000000000000000000000 t)
 c_NUMBER_END:∃ t,mg "NUMBER_END"=some (.int 10000000000000000000000000000000000000000 t)
 c_MOST_PARTS:∃ t,mg "MOST_PARTS"=some (.int 12 t)
 c_MOST_LENGTH:∃ t,mg "MOST_LENGTH"=some (.int 1000000000 t)
 c_MOST_ROWS:∃ t,mg "MOST_ROWS"=some (.int 4 t)
 c_MOST_SIZES:∃ t,mg "MOST_SIZES"=some (.int 12 t)
 c_MOST_SIZE:∃ t,mg "MOST_SIZE"=some (.int 1000 t)
 b_ValueError:mg "ValueError"=none
 b_abs:mg "abs"=none
 b_all:mg "all"=none
 b_bool:mg "bool"=none
 b_dict:mg "dict"=none
 b_divmod:mg "divmod"=none
 b_int:mg "int"=none
 b_isinstance:mg "isinstance"=none
 b_len:mg "len"=none
 b_list:mg "list"=none
 b_max:mg "max"=none
 b_min:mg "min"=none
 b_range:mg "range"=none
 b_reversed:mg "reversed"=none
 b_sorted:mg "sorted"=none
 b_str:mg "str"=none
 b_sum:mg "sum"=none
 b_tuple:mg "tuple"=none
 cl:du K C
 mgC:mg "Ladder"=some (.ref C)
 n_open_lengths:dN K C "open_lengths"
 n_part_lengths:dN K C "part_lengths"
 n_steps:dN K C "steps"
 m_init:∃ f fd,bq K "__init__" "Ladder.__init__" jx f fd/\Mk K C f/\bB K fd ["self","begin","parts","rows"] []
 m_begin:∃ f fd,Fm K C "begin" "Ladder.begin" rW ["self"] f fd
 m_parts:∃ f fd,Fm K C "parts" "Ladder.parts" rc ["self"] f fd
 m_rows:∃ f fd,Fm K C "rows" "Ladder.rows" qc ["self"] f fd
 m_rolls:∃ f fd,Fm K C "rolls" "Ladder.rolls" kL ["self"] f fd
 m_bar_at:∃ f fd,Fm K C "bar_at" "Ladder.bar_at" mw ["self","roll","moment"] f fd
 m_stretch:∃ f fd,Fm K C "stretch" "Ladder.stretch" mW ["self","roll","number"] f fd
 m_first_moment:∃ f fd,Fm K C "first_moment" "Ladder.first_moment" nT ["self","roll","number"] f fd
 cl_Locks:du K (bG mg "Locks")
 mg_Locks:mg "Locks"=some (.ref (bG mg "Locks"))
 n_Locks_ladder:dN K (bG mg "Locks") "ladder"
 n_Locks_shut_pairs:dN K (bG mg "Locks") "shut_pairs"
 m_Locks_init:∃ f fd,bq K "__init__" "Locks.__init__" jE f fd/\Mk K (bG mg "Locks") f/\bB K fd ["self","ladder"] []
 m_Locks_shut:∃ f fd,Fm K (bG mg "Locks") "shut" "Locks.shut" lp ["self","roll","number"] f fd
 m_Locks_open_bar:∃ f fd,Fm K (bG mg "Locks") "open_bar" "Locks.open_bar" nC ["self","roll","number"] f fd
 m_Locks_is_shut:∃ f fd,Fm K (bG mg "Locks") "is_shut" "Locks.is_shut" mD ["self","roll","number"] f fd
 m_Locks_broken:∃ f fd,Fm K (bG mg "Locks") "broken" "Locks.broken" kI ["self","one","other"] f fd
end Pr
namespace Lad
def Good (S:List Int):Prop:=S≠[]/\∀ v∈S,1<=v
def fst (b:Int)(S:List Int)(k:Int):Int:=b+k / (S.length:Int)*S.sum+(S.take (k % (S.length:Int)).toNat).sum
def sz (S:List Int)(k:Int):Int:=S.getD (k % (S.length:Int)).toNat 0
def walk:List Int->Int->Nat
 | [],_=>0
 | v::r,x=>if x<v then 0 else walk r (x-v)+1
def num (b:Int)(S:List Int)(p:Int):Int:=(p-b) / S.sum*(S.length:Int)+(walk S ((p-b) % S.sum):Int)
theorem uC:∀ (S:List Int),(∀ v∈S,1<=v)->(S.length:Int)<=S.sum
 | [],_=>by simp
 | v::r,h=>by
  have h1:=uC r fun x hx=>h x (C5 _ hx)
  have h2:=h v C6
  rw[C4,Dd]
  omega
theorem Good.len {S:List Int}(g:Good S):1<=S.length:=by
 cases S with
 | nil=>exact absurd rfl g.1
 | cons v r=>rw[C4];omega
theorem Good.sum {S:List Int}(g:Good S):1<=S.sum:=by
 have:=uC S g.2
 have:=g.len
 omega
theorem lQ (S:List Int)(i:Nat):(S.take (i+1)).sum=(S.take i).sum+S.getD i 0:=by
 rw[C9,Eu]
 cases e:S[i]? with
 | none=>simp[C0,e]
 | some v=>simp[C0,e]
theorem getD_pos {S:List Int}(h:∀ v∈S,1<=v){i:Nat}(hi:i<S.length):1<=S.getD i 0:=by
 rw[C0,CZ hi]
 exact h _ (Dr hi)
theorem vJ:∀ (S:List Int) (x:Int),0<=x->x<S.sum->walk S x<S.length/\(S.take (walk S x)).sum<=x/\x<(S.take (walk S x+1)).sum
 | [],x,h0,h1=>by simp at h1;omega
 | v::r,x,h0,h1=>by
  rw[Dd] at h1
  unfold walk
  by_cases h:x<v
  ·rw[if_pos h]
   refine⟨by rw[C4];omega,by simpa using h0,?_⟩
   rw[DS,Dd,Ef,Eg]
   omega
  ·rw[if_neg h]
   obtain⟨a,b,c⟩:=vJ r (x-v) (by omega) (by omega)
   refine⟨by rw[C4];omega,?_,?_⟩
   ·rw[DS,Dd];omega
   ·rw[DS,Dd];omega
theorem pJ (b:Int)(S:List Int):fst b S 0=b:=by unfold fst;simp
theorem jH {b:Int}{S:List Int}{q r:Int}(h0:0<=r)(h1:r<(S.length:Int)):fst b S (q*(S.length:Int)+r)=b+q*S.sum+(S.take r.toNat).sum:=by
 unfold fst
 have e1:(q*(S.length:Int)+r) / (S.length:Int)=q:=by
  rw[Fw,Int.add_mul_ediv_right _ _ (by omega),Int.ediv_eq_zero_of_lt h0 h1]
  omega
 have e2:(q*(S.length:Int)+r) % (S.length:Int)=r:=by
  rw[Fw,FA,FB h0 h1]
 rw[e1,e2]
theorem oM {S:List Int}(g:Good S)(b k:Int):fst b S (k+1)=fst b S k+sz S k:=by
 have hn:=g.len
 have hr0:0<=k % (S.length:Int):=Ft _ (by omega)
 have hr1:k % (S.length:Int)<(S.length:Int):=Fu _ (by omega)
 have hk:k=k / (S.length:Int)*(S.length:Int)+k % (S.length:Int):=by
  have:=FC k (S.length:Int)
  rw[FD] at this
  omega
 have e0:fst b S k=b+k / (S.length:Int)*S.sum+(S.take (k % (S.length:Int)).toNat).sum:=rfl
 rw[e0]
 unfold sz
 generalize k / (S.length:Int)=q at *
 generalize k % (S.length:Int)=r at *
 by_cases h:r+1<(S.length:Int)
 ·have e:k+1=q*(S.length:Int)+(r+1):=by omega
  rw[e,jH (by omega) h]
  have e2:(r+1).toNat=r.toNat+1:=by omega
  rw[e2,lQ]
  omega
 ·have e:k+1=(q+1)*(S.length:Int)+0:=by rw[Int.add_mul];omega
  rw[e,jH (by omega) (by omega)]
  have e2:S.sum=(S.take r.toNat).sum+S.getD r.toNat 0:=by
   rw[<-lQ,show r.toNat+1=S.length by omega,Dg]
  rw[show ((0:Int).toNat)=0 from rfl,Ef,Eg,Int.add_mul,Int.one_mul]
  omega
theorem CF {S:List Int}(g:Good S)(k:Int):1<=sz S k:=by
 have hn:=g.len
 have hr0:0<=k % (S.length:Int):=Ft _ (by omega)
 have hr1:k % (S.length:Int)<(S.length:Int):=Fu _ (by omega)
 exact getD_pos g.2 (by omega)
theorem BI {S:List Int}(g:Good S)(b k:Int):∀ n:Nat,fst b S k+n<=fst b S (k+n):=by
 intro n
 induction n with
 | zero=>simp
 | succ n ih =>
  have e:k+((n+1:Nat):Int)=(k+n)+1:=by omega
  rw[e,oM g]
  have:=CF g (k+n)
  omega
theorem iz {S:List Int}(g:Good S)(b:Int){j k:Int}(h:j<=k):fst b S j+(k-j)<=fst b S k:=by
 have:=BI g b j (k-j).toNat
 have e:j+((k-j).toNat:Int)=k:=by omega
 rw[e] at this
 omega
theorem yk {S:List Int}(g:Good S)(b p:Int):0<=(walk S ((p-b) % S.sum):Int)/\(walk S ((p-b) % S.sum):Int)<(S.length:Int)/\fst b S (num b S p)<=p/\p<fst b S (num b S p+1):=by
 have hs:=g.sum
 have h0:0<=(p-b) % S.sum:=Ft _ (by omega)
 have h1:(p-b) % S.sum<S.sum:=Fu _ (by omega)
 have hp:p-b=(p-b) / S.sum*S.sum+(p-b) % S.sum:=by
  have:=FC (p-b) S.sum
  rw[FD] at this
  omega
 obtain⟨a,c,d⟩:=vJ S _ h0 h1
 have a':(walk S ((p-b) % S.sum):Int)<(S.length:Int):=by omega
 refine⟨by omega,a',?_,?_⟩
 ·unfold num
  rw[jH (by omega) a',Fs]
  omega
 ·rw[oM g]
  have hz:sz S (num b S p)=S.getD (walk S ((p-b) % S.sum)) 0:=by
   unfold sz num
   rw[Fw,FA,FB (by omega) a',Fs]
  rw[hz]
  unfold num
  rw[jH (by omega) a',Fs]
  rw[lQ] at d
  omega
theorem pN {S:List Int}(g:Good S)(b p:Int):fst b S (num b S p)<=p/\p<fst b S (num b S p+1):=(yk g b p).2.2
theorem wz {S:List Int}(g:Good S)(b p:Int):(0<=num b S p/\num b S p<=p-b)\/(num b S p<0/\p-b<=num b S p):=by
 obtain⟨a,c⟩:=pN g b p
 by_cases h:0<=num b S p
 ·have:=iz g b h
  rw[pJ] at this
  exact .inl ⟨h,by omega⟩
 ·have:=iz g b (show num b S p+1<=0 by omega)
  rw[pJ] at this
  exact .inr ⟨by omega,by omega⟩
abbrev Step:=Int×List Int
def up (st:List Step)(m:Int):Int:=st.foldl (fun n s=>num s.1 s.2 n) m
def down (st:List Step)(k:Int):Int:=st.foldr (fun s p=>fst s.1 s.2 p) k
def Goods (st:List Step):Prop:=∀ s∈st,Good s.2
theorem o9:∀ (st:List Step),Goods st->∀ {j k:Int},j<=k->down st j+(k-j)<=down st k
 | [],_,j,k,h=>by show j+(k-j)<=k;omega
 | s::r,g,j,k,h=>by
  have h1:=o9 r (fun x hx=>g x (C5 _ hx)) h
  have h2:=iz (g s C6) s.1 (show down r j<=down r k by omega)
  show fst s.1 s.2 (down r j)+(k-j)<=fst s.1 s.2 (down r k)
  omega
theorem rm:∀ (st:List Step),Goods st->∀ m,down st (up st m)<=m/\m<down st (up st m+1)
 | [],_,m=>by show m<=m/\m<m+1;omega
 | s::r,g,m=>by
  have gs:=g s C6
  obtain⟨a,b⟩:=rm r (fun x hx=>g x (C5 _ hx)) (num s.1 s.2 m)
  obtain⟨c,d⟩:=pN gs s.1 m
  have h1:=iz gs s.1 a
  have h2:=iz gs s.1 (show num s.1 s.2 m+1<=down r (up r (num s.1 s.2 m)+1) by omega)
  show fst s.1 s.2 (down r (up r (num s.1 s.2 m)))<=m/\m<fst s.1 s.2 (down r (up r (num s.1 s.2 m)+1))
  omega
theorem up_bound {B:Int}(hB:0<=B):∀ (st:List Step),Goods st->(∀ s∈st,-B<=s.1/\s.1<=B)->∀ m:Int,-(B*(st.length:Int))-(if m<0 then -m else m)<=up st m/\up st m<=B*(st.length:Int)+(if m<0 then -m else m)
 | [],_,_,m=>by
  show -(B*((0:Nat):Int))-(if m<0 then -m else m)<=m/\m<=B*((0:Nat):Int)+(if m<0 then -m else m)
  split <;> omega
 | s::r,g,h,m=>by
  have ih:=up_bound hB r (fun x hx=>g x (C5 _ hx)) (fun x hx=>h x (C5 _ hx)) (num s.1 s.2 m)
  have hb:=wz (g s C6) s.1 m
  have hs:=h s C6
  have e:B*(((s::r).length:Nat):Int)=B*(r.length:Int)+B:=by rw[C4,FF,Int.mul_add];simp
  show -(B*(((s::r).length:Nat):Int))-_<=up r (num s.1 s.2 m)/\up r (num s.1 s.2 m)<=B*(((s::r).length:Nat):Int)+_
  rw[e]
  generalize num s.1 s.2 m=n at *
  generalize up r n=u at *
  generalize B*(r.length:Int)=c at *
  split at ih <;> split <;> omega
def PartsOk (ps:List Int):Prop:=(∀ p∈ps,p≠0)/\∃ p r,ps=p::r/\0<p
def cr (cur:Int):List Int->List Int
 | []=>[cur]
 | p::r=>if 0<p then cur::cr p r else cr (cur-p) r
def bars:List Int->List Int
 | []=>[]
 | p::r=>cr p r
def opens (ps:List Int):List Int:=ps.filter fun p=>decide (0<p)
def absI (p:Int):Int:=if p<0 then -p else p
def total (ps:List Int):Int:=(ps.map absI).sum
def addPart (acc:List Int)(p:Int):List Int:=if 0<p then acc++[p] else acc.dropLast++[acc.getLastD 0-p]
theorem nQ:∀ (r:List Int) (acc:List Int) (cur:Int),r.foldl addPart (acc++[cur])=acc++cr cur r
 | [],acc,cur=>rfl
 | p::r,acc,cur=>by
  rw[Dh]
  unfold addPart cr
  by_cases h:0<p
  ·rw[if_pos h,if_pos h]
   have:=nQ r (acc++[cur]) p
   unfold addPart at this
   rw[this,DT]
   rfl
  ·rw[if_neg h,if_neg h]
   have e:(acc++[cur]).dropLast++[(acc++[cur]).getLastD 0-p]=acc++[cur-p]:=by simp
   rw[e]
   have:=nQ r acc (cur-p)
   unfold addPart at this
   exact this
theorem foldl_bars {ps:List Int}(h:PartsOk ps):ps.foldl addPart []=bars ps:=by
 obtain⟨_,p,r,rfl,hp⟩:=h
 rw[Dh]
 have e:addPart [] p=[]++[p]:=by unfold addPart;rw[if_pos hp]
 rw[e,nQ]
 rfl
theorem k8:∀ (r:List Int) (cur:Int),(∀ p∈r,p≠0)->1<=cur->(∀ v∈cr cur r,1<=v)/\cr cur r≠[]
 | [],cur,_,h=>⟨fun v hv=>by
   have e:v=cur:=by simpa [cr] using hv
   omega,by simp[cr]⟩
 | p::r,cur,hr,h=>by
  have hp:=hr p C6
  unfold cr
  by_cases h1:0<p
  ·rw[if_pos h1]
   obtain⟨a,b⟩:=k8 r p (fun x hx=>hr x (C5 _ hx)) h1
   refine⟨fun v hv=>?_,by simp⟩
   rcases List.mem_cons.mp hv with e|hv
   ·omega
   ·exact a v hv
  ·rw[if_neg h1]
   exact k8 r (cur-p) (fun x hx=>hr x (C5 _ hx)) (by omega)
theorem bars_good {ps:List Int}(h:PartsOk ps):Good (bars ps):=by
 obtain⟨h0,p,r,rfl,hp⟩:=h
 obtain⟨a,b⟩:=k8 r p (fun x hx=>h0 x (C5 _ hx)) hp
 exact⟨b,a⟩
theorem lq:∀ (r:List Int) (cur:Int),(cr cur r).sum=cur+total r
 | [],cur=>by simp[cr,total]
 | p::r,cur=>by
  unfold cr total
  rw[C1,Dd]
  by_cases h1:0<p
  ·rw[if_pos h1,Dd,lq r p]
   unfold total absI
   rw[if_neg (show ¬ p<0 by omega)]
  ·rw[if_neg h1,lq r (cur-p)]
   unfold total absI
   by_cases h2:p<0
   ·rw[if_pos h2];omega
   ·rw[if_neg h2];omega
theorem bars_sum {ps:List Int}(h:PartsOk ps):(bars ps).sum=total ps:=by
 obtain⟨h0,p,r,rfl,hp⟩:=h
 show (cr p r).sum=_
 rw[lq]
 unfold total absI
 rw[C1,Dd,if_neg (show ¬ p<0 by omega)]
theorem nv:∀ (r:List Int) (cur:Int),(cr cur r).length=1+(opens r).length
 | [],cur=>rfl
 | p::r,cur=>by
  unfold cr opens
  by_cases h1:0<p
  ·rw[if_pos h1,C4,nv r p,Ev (by simpa using h1),C4]
   show 1+(opens r).length+1=1+((opens r).length+1)
   omega
  ·rw[if_neg h1,nv r (cur-p),List.filter_cons_of_neg (by simpa using h1)]
   rfl
theorem bars_len {ps:List Int}(h:PartsOk ps):(bars ps).length=(opens ps).length:=by
 obtain⟨h0,p,r,rfl,hp⟩:=h
 show (cr p r).length=_
 rw[nv]
 unfold opens
 rw[Ev (by simpa using hp),C4]
 omega
end Lad
namespace Lad
end Lad
namespace L2
open PySem PySem.Spec PyProof.Rows
section
variable {X:Cx}{st:Stmt}{rest:List Stmt}{t u:TS}{e:Expr}{te:TE}
def CJ (t u:TS):TS:=fun D σ H=>∃ M:St->Hp->Prop,t { D with nx:=M } σ H/\∀ σ' H',M σ' H'->u D σ' H'
theorem jy (h1:PS X st t)(h2:b7 X rest u):b7 X (st::rest) (CJ t u):=by
 refine⟨?_⟩
 intro pins s σ H D I h
 obtain⟨M,a,b⟩:=h
 refine F8 (ag (h1 pins s σ H { D with nx:=M } I a) fun f s1 q=>?_)
 cases f with
 | next =>
  obtain⟨σ',H',I',q⟩:=q
  exact h2 pins s1 σ' H' D I' (b _ _ q)
 | ret v=>exact q
 | brk=>exact q
 | cont=>exact q
end
end L2
namespace L2
open PySem PySem.Spec PyProof.Rows
def bw (n i:Nat)(D:Addr)(ys:List V)(Pv:Nat->List V->Hp->Prop)(y:V)(H3:Hp):Prop :=
 H3 D=some (.lst ys)/\ys.length<FO/\∃ m',m'<n-i/\(m'=n-(i+1)/\i+1<=n/\Pv (i+1) (ys++[y]) (upd H3 D (.lst (ys++[y]))))
def cN (n i:Nat)(ys:List V)(Pv:Nat->List V->Hp->Prop)(H3:Hp):Prop:=∃ m',m'<n-i/\(m'=n-(i+1)/\i+1<=n/\Pv (i+1) ys H3)
theorem bw.mk {n i:Nat}{D:Addr}{ys:List V}{Pv:Nat->List V->Hp->Prop}{y:V}{H3:Hp}(hi:i<n)(hn:n<=1000)(hl:ys.length<=i)(h:H3 D=some (.lst ys))(p:Pv (i+1) (ys++[y]) (upd H3 D (.lst (ys++[y])))):bw n i D ys Pv y H3 :=
 ⟨h,cR (by omega),n-(i+1),by omega,rfl,hi,p⟩
theorem cN.mk {n i:Nat}{ys:List V}{Pv:Nat->List V->Hp->Prop}{H3:Hp}(hi:i<n)(p:Pv (i+1) ys H3):cN n i ys Pv H3:=⟨n-(i+1),by omega,rfl,hi,p⟩
theorem jQ {tc:TT}{te:TE}{σ:St}{J:It}{D:Addr}{Fin:Hp->Prop}{H:Hp}{n:Nat}(Pv:Nat->List V->Hp->Prop)(h0:Pv 0 [] (upd H D (.lst [])))
  (hD:∀ i ys H,Pv i ys H->H D=some (.lst ys)) (hend:∀ ys H,Pv n ys H->J.stop n H/\Fin H)
  (hgo:∀ i ys H,i<n->Pv i ys H->J.go i H/\∀ x H',J.yld i H x H'->tc (some x::σ) H' fun b H2=>if b=true then te (some x::σ) H2 (bw n i D ys Pv) else cN n i ys Pv H2):fT tc te σ J D Fin H:=by
 refine⟨fun i m ys H=>m=n-i/\i<=n/\Pv i ys H,⟨n,rfl,EX _,h0⟩,?_⟩
 rintro i m ys H ⟨rfl,hi,p⟩
 refine⟨hD i ys H p,?_⟩
 by_cases hlt:i<n
 ·exact .inr (hgo i ys H hlt p)
 ·have e:i=n:=by omega
  subst e
  exact .inl (hend ys H p)
theorem fF {K:W.Frag}{a:Addr}{xs:List V}{tc:TT}{te:TE}{σ:St}{D:Addr}{Fin:Hp->Prop}{H:Hp}(Pv:Nat->List V->Hp->Prop)(h0:Pv 0 [] (upd H D (.lst [])))
  (hD:∀ i ys H,Pv i ys H->H D=some (.lst ys)/\aU K H a xs) (hend:∀ ys H,Pv xs.length ys H->Fin H)
  (hgo:∀ i x ys H,i<xs.length->xs[i]?=some x->Pv i ys H->tc (some x::σ) H fun b H2=>if b=true then te (some x::σ) H2 (bw xs.length i D ys Pv) else cN xs.length i ys Pv H2):fT tc te σ (eV K a) D Fin H:=by
 refine jQ Pv h0 (fun i ys H p=>(hD i ys H p).1) (fun ys H p=>⟨⟨xs,(hD _ _ _ p).2,EU _⟩,hend ys H p⟩) fun i ys H hi p=>?_
 refine⟨⟨xs,xs[i],(hD _ _ _ p).2,CZ hi⟩,fun x H' y=>?_⟩
 obtain⟨e,y⟩:=y
 subst e
 exact hgo i x ys _ hi (y xs (hD _ _ _ p).2) p
theorem wW {K:W.Frag}{a:Addr}{xs:List V}{tc:TT}{te:TE}{σ:St}{D:Addr}{Fin:Hp->Prop}{H:Hp}(Pv:Nat->List V->Hp->Prop)(h0:Pv 0 [] (upd H D (.lst [])))
  (hD:∀ i ys H,Pv i ys H->H D=some (.lst ys)/\aV K H a xs) (hend:∀ ys H,Pv xs.length ys H->Fin H)
  (hgo:∀ i x ys H,i<xs.length->xs[i]?=some x->Pv i ys H->tc (some x::σ) H fun b H2=>if b=true then te (some x::σ) H2 (bw xs.length i D ys Pv) else cN xs.length i ys Pv H2):fT tc te σ (fX K a) D Fin H:=by
 refine jQ Pv h0 (fun i ys H p=>(hD i ys H p).1) (fun ys H p=>⟨⟨xs,(hD _ _ _ p).2,EU _⟩,hend ys H p⟩) fun i ys H hi p=>?_
 refine⟨⟨xs,xs[i],(hD _ _ _ p).2,CZ hi⟩,fun x H' y=>?_⟩
 obtain⟨e,y⟩:=y
 subst e
 exact hgo i x ys _ hi (y xs (hD _ _ _ p).2) p
theorem BD {lo:Int}{n:Nat}{tc:TT}{te:TE}{σ:St}{D:Addr}{Fin:Hp->Prop}{H:Hp}(Pv:Nat->List V->Hp->Prop)(h0:Pv 0 [] (upd H D (.lst [])))
  (hD:∀ i ys H,Pv i ys H->H D=some (.lst ys)) (hend:∀ ys H,Pv n ys H->Fin H)
  (hgo:∀ i ys H,i<n->Pv i ys H->tc (some (.int (lo+i))::σ) H fun b H2=>if b=true then te (some (.int (lo+i))::σ) H2 (bw n i D ys Pv) else cN n i ys Pv H2):fT tc te σ (fK lo n) D Fin H:=by
 refine jQ Pv h0 hD (fun ys H p=>⟨EU _,hend ys H p⟩) fun i ys H hi p=>?_
 refine⟨hi,fun x H' y=>?_⟩
 obtain⟨e,y⟩:=y
 subst e y
 exact hgo i ys _ hi p
section
variable {X:Cx}
theorem cb (K:W.Frag)(e:X.K=K:=by rfl):gt X (lH K):=by rw[<-e];exact j9
theorem bH (K:W.Frag)(e:X.K=K:=by rfl):gt X (jN K):=by rw[<-e];exact tQ
end
theorem cI {σ:St}{H:Hp}{A B:Hp->Prop}(h:A H):ji σ H (fun b H2=>if b=true then A H2 else B H2):=by
 show if true=true then A H else B H
 rw[if_pos rfl]
 exact h
theorem bR {X:Cx}{x:Str}{sc scp:Scope}{N ps:List Str}(S:aA N ps scp)(hN:X.N=N:=by rfl)(hs:X.env.scope=scp:=by rfl)(h1:sc.kind=.function:=by rfl)(h2:∀ p∈sc.names,p.2≠.cell:=by decide +kernel)(h3:sc.names.lookup x=some .local:=by rfl)
  (h4:∀ p∈sc.names,p.2=.local->sc.names.lookup p.1=some .local:=by decide +kernel) (h5:∀ y∈N,sc.names.lookup y≠some .local:=by decide +kernel)
  (h7:∀ p∈sc.names,p.2=.free->scp.names.lookup p.1=some .cell\/scp.names.lookup p.1=some .free:=by decide +kernel):fM X x sc :=
 ⟨h1,h2,h3,h4,by rw[hN];exact h5,by rw[hN];exact S.nd,fun p hp e=>by
  show X.env.scope.names.lookup p.1=_\/X.env.scope.names.lookup p.1=_
  rw[hs]
  exact h7 p hp e⟩
theorem Paired.get {α β:Type}{F:α->β->Prop}:∀ {xs:List α}{ys:List β}{i:Nat}{x:α},Paired F xs ys->xs[i]?=some x->∃ y,ys[i]?=some y/\F x y
 | _,_,_,_,.nil,e=>by simp at e
 | _,_,0,_,.cons r _,e=>by simp at e;subst e;exact⟨_,rfl,r⟩
 | _,_,i+1,x,.cons _ t,e=>by
  obtain⟨u,h1,h2⟩:=Paired.get (i:=i) (x:=x) t (by simpa using e)
  exact⟨u,by simpa using h1,h2⟩
theorem Paired.take {α β:Type}{F:α->β->Prop}:∀ {xs:List α}{ys:List β} (n:Nat),Paired F xs ys->Paired F (xs.take n) (ys.take n)
 | _,_,0,_=>.nil
 | _,_,_+1,.nil=>.nil
 | _,_,n+1,.cons r t=>.cons r (Paired.take n t)
end L2
namespace Srt
open PySem PySem.W PyProof.Rows
def Good (n:Nat)(lt:Nat->Nat->Bool){α:Type}:KasT α->(α->Prop)->Prop
 | .ret a,Q=>Q a
 | .ask i j k,Q=>i<n/\j<n/\Good n lt (k (lt i j)) Q
section
variable {n:Nat}{lt:Nat->Nat->Bool}{α β:Type}
theorem good_mono {Q Q':α->Prop}(h:∀ a,Q a->Q' a):∀ t:KasT α,Good n lt t Q->Good n lt t Q'
 | .ret a,q=>h a q
 | .ask i j k,q=>⟨q.1,q.2.1,good_mono h (k (lt i j)) q.2.2⟩
theorem hX {f:α->KasT β}{Q:β->Prop}:∀ t:KasT α,Good n lt t (fun a=>Good n lt (f a) Q)->Good n lt (t.bind f) Q
 | .ret a,q=>q
 | .ask i j k,q=>⟨q.1,q.2.1,hX (k (lt i j)) q.2.2⟩
theorem good_wp {cmp:Nat->Nat->(Bool->Shared->Prop)->Shared->Prop}{s:Shared}{Q:α->Shared->Prop}(hc:∀ i j (C:Bool->Shared->Prop),i<n->j<n->C (lt i j) s->cmp i j C s):∀ t:KasT α,Good n lt t (fun a=>Q a s)->t.kasWp cmp Q s
 | .ret a,q=>q
 | .ask i j k,q=>hc i j _ q.1 q.2.1 (good_wp hc (k (lt i j)) q.2.2)
end
structure Ord (lt:Nat->Nat->Bool):Prop where
 asym:∀ {a b},lt a b=true->lt b a=false
 tr:∀ {a b c},lt b a=false->lt c b=false->lt c a=false
section
variable {lt:Nat->Nat->Bool}{N:Nat}
theorem Ord.ltle (O:Ord lt){a b c:Nat}(h:lt a b=true)(h':lt c b=false):lt a c=true:=by
 cases e:lt a c with
 | true=>rfl
 | false=>rw[O.tr h' e] at h;cases h
theorem Ord.lelt (O:Ord lt){a b c:Nat}(h:lt b a=false)(h':lt b c=true):lt a c=true:=by
 cases e:lt a c with
 | true=>rfl
 | false=>rw[O.tr e h] at h';cases h'
def R (lt:Nat->Nat->Bool)(a b:Nat):Prop:=lt a b=true\/(lt b a=false/\a<b)
theorem R.le (O:Ord lt){a b:Nat}(h:R lt a b):lt b a=false:=h.elim O.asym (·.1)
abbrev g (p:Array Nat)(i:Nat):Nat:=p.getD i 0
theorem fz {p:Array Nat}{i:Nat}:g p i=(p[i]?).getD 0:=by simp[g]
theorem dE {p:Array Nat}{i j:Nat}(hj:j<=p.size)(k:Nat):g (kas_rev p i j) k=if i<=k/\k<j then g p (i+j-1-k) else g p k:=by
 unfold kas_rev
 rw[fz,getElem?_mirror_all hj,fz,fz]
 split <;> rfl
theorem yn {p:Array Nat}{k d:Nat}(hs:k<p.size)(hd:d<=k)(i:Nat):g (bubble p k d) i=if i=k-d then g p k else if k-d<i/\i<=k then g p (i-1) else g p i:=by
 rw[fz,getElem?_bubble hs d hd,fz,fz,fz]
 split
 ·rfl
 ·split <;> rfl
structure Pm (N:Nat)(p:Array Nat)(n:Nat):Prop where
 sz:p.size=N
 pm:p.Perm (Di (C2 N))
 lo:∀ i,i<n->g p i<n
 hi:∀ i,n<=i->i<N->g p i=i
theorem Pm.rev {p:Array Nat}{n i j:Nat}(h:Pm N p n)(hj:j<=n)(hn:n<=N):Pm N (kas_rev p i j) n where
 sz:=by rw[kas_rev_size];exact h.sz
 pm:=(mirror_perm _ _ _ _).trans h.pm
 lo:=fun k hk=>by
  rw[dE (by rw[h.sz];omega)]
  split
  ·exact h.lo _ (by omega)
  ·exact h.lo _ hk
 hi:=fun k hk hk2=>by
  rw[dE (by rw[h.sz];omega),if_neg (by omega)]
  exact h.hi k hk hk2
theorem Pm.succ {p:Array Nat}{n:Nat}(h:Pm N p n)(hn:n<N):Pm N p (n+1) where
 sz:=h.sz
 pm:=h.pm
 lo:=fun i hi=>by
  rcases EZ i n with h1|h1
  ·exact E6 (h.lo i h1)
  ·rw[h.hi i h1 (by omega)];exact hi
 hi:=fun i h1 h2=>h.hi i (by omega) h2
def Asc (lt:Nat->Nat->Bool)(p:Array Nat)(n:Nat):Prop:=∀ i j,i<j->j<n->R lt (g p i) (g p j)
theorem lL (O:Ord lt)(p:Array Nat):∀ (f n:Nat),1<=n->n+f=N->Pm N p n->Asc lt p n ->
  Good N lt (kas_asc p f n) (fun m=>n<=m/\m<=N/\Pm N p m/\Asc lt p m/\(m<N->lt (g p m) (g p (m-1))=true))
 | 0,n,h1,hn,hp,ha=>⟨EU _,by omega,hp,ha,fun h=>by omega⟩
 | f+1,n,h1,hn,hp,ha=>by
  have hnN:n<N:=by omega
  have en:=hp.hi n (EU _) hnN
  have e1:=hp.lo (n-1) (by omega)
  show Good N lt (.ask (g p n) (g p (n-1)) fun c=>if c=true then .ret n else kas_asc p f (n+1)) _
  refine⟨by omega,by omega,?_⟩
  cases hc:lt (g p n) (g p (n-1)) with
  | true =>
   try dsimp only
   rw[if_pos rfl]
   exact⟨EU _,by omega,hp,ha,fun _=>hc⟩
  | false =>
   try dsimp only
   rw[if_neg (by simp)]
   refine good_mono (fun m h=>⟨by omega,h.2⟩) _ (lL O p f (n+1) (by omega) (by omega) (hp.succ hnN) fun i j hij hj=>?_)
   rcases EZ j n with h2|h2
   ·exact ha i j hij h2
   ·obtain rfl:j=n:=by omega
    have hlo:=hp.lo i hij
    refine .inr ⟨?_,by omega⟩
    rcases EZ i (j-1) with h3|h3
    ·exact O.tr ((ha i (j-1) h3 (by omega)).le O) hc
    ·obtain rfl:i=j-1:=by omega
     exact hc
structure gr (lt:Nat->Nat->Bool)(p:Array Nat)(n q:Nat):Prop where
 a:∀ i j,i<j->j<n-(q+1)->R lt (g p j) (g p i)
 b:∀ i j,i<n-(q+1)->n-(q+1)<=j->j<n->lt (g p j) (g p i)=true
 c:∀ i j,n-(q+1)<=i->i<j->j<n->lt (g p i) (g p j)=false/\lt (g p j) (g p i)=false/\g p i<g p j
def Rv (lt:Nat->Nat->Bool)(p:Array Nat)(n:Nat):Prop:=∀ i j,i<j->j<n->R lt (g p j) (g p i)
theorem gr.rv0 {p:Array Nat}{n:Nat}(h:gr lt p n 0)(h1:1<=n):Rv lt p n:=fun i j hij hj=>by
 rcases EZ j (n-1) with h2|h2
 ·exact h.a i j hij h2
 ·exact .inl (h.b i j (by omega) h2 hj)
theorem gr.rv {p:Array Nat}{n q:Nat}(h:gr lt p n q)(hq:q+1<=n)(hn:n<=p.size):Rv lt (kas_rev p (n-(q+1)) n) n:=fun i j hij hj=>by
 rw[dE hn,dE hn]
 by_cases hi:n-(q+1)<=i
 ·rw[if_pos ⟨by omega,hj⟩,if_pos ⟨hi,by omega⟩]
  obtain⟨c1,c2,c3⟩:=h.c (n-(q+1)+n-1-j) (n-(q+1)+n-1-i) (by omega) (by omega) (by omega)
  exact .inr ⟨c2,c3⟩
 ·rw[if_neg (show ¬ (n-(q+1)<=i/\i<n) by omega)]
  by_cases hj2:n-(q+1)<=j
  ·rw[if_pos ⟨hj2,hj⟩]
   exact .inl (h.b i _ (by omega) (by omega) (by omega))
  ·rw[if_neg (by omega)]
   exact h.a i j hij (by omega)
theorem mK (O:Ord lt):∀ (f:Nat) (p:Array Nat) (n q:Nat),q+1<=n->n+f=N->Pm N p n->gr lt p n q ->
  Good N lt (kas_desc f p n q) (fun r=>r.2.2+1<=r.2.1/\r.2.1<=N/\Pm N r.1 r.2.1/\gr lt r.1 r.2.1 r.2.2)
 | 0,p,n,q,hq,hn,hp,hd=>⟨hq,by show n<=N;omega,hp,hd⟩
 | f+1,p,n,q,hq,hn,hp,hd=>by
  have hnN:n<N:=by omega
  have en:=hp.hi n (EU _) hnN
  have e1:=hp.lo (n-1) (by omega)
  have hsz:=hp.sz
  refine⟨by show g p n<N;omega,by show g p (n-1)<N;omega,?_⟩
  cases hc:lt (p.getD n 0) (p.getD (n-1) 0) with
  | true =>
   try dsimp only
   rw[if_pos rfl]
   have hx:∀ i,i<n->lt (g p n) (g p i)=true:=fun i hi=>by
    rcases EZ i (n-(q+1)) with h2|h2
    ·have:=hd.b i (n-1) h2 (by omega) (by omega)
     exact O.ltle hc (O.asym this)
    ·rcases EZ i (n-1) with h3|h3
     ·exact O.ltle hc (hd.c i (n-1) h2 h3 (by omega)).1
     ·obtain rfl:i=n-1:=by omega
      exact hc
   have go:∀ p':Array Nat,Pm N p' n->Rv lt p' n->(∀ i,i<n->∃ i',i'<n/\g p' i=g p i')->g p' n=g p n ->
     Good N lt (kas_desc f p' (n+1) 0) (fun r=>r.2.2+1<=r.2.1/\r.2.1<=N/\Pm N r.1 r.2.1/\gr lt r.1 r.2.1 r.2.2):=fun p' hp' hv hs he=>by
    refine mK O f p' (n+1) 0 (by omega) (by omega) (hp'.succ hnN) ⟨fun i j hij hj=>hv i j hij (by omega),fun i j hi hj hj2=>?_,fun i j hi hij hj=>by omega⟩
    obtain rfl:j=n:=by omega
    obtain⟨i',hi',e⟩:=hs i (by omega)
    rw[he,e]
    exact hx i' hi'
   by_cases hq0:q>0
   ·rw[if_pos hq0]
    refine go _ (hp.rev (EU _) (by omega)) (hd.rv hq (by omega)) (fun i hi=>?_) ?_
    ·rw[dE (by omega)]
     split
     ·exact⟨_,by omega,rfl⟩
     ·exact⟨i,hi,rfl⟩
    ·rw[dE (by omega),if_neg (by omega)]
   ·rw[if_neg hq0]
    obtain rfl:q=0:=by omega
    exact go p hp (hd.rv0 hq) (fun i hi=>⟨i,hi,rfl⟩) rfl
  | false =>
   try dsimp only
   rw[if_neg (by simp)]
   refine⟨by show g p (n-1)<N;omega,by show g p n<N;omega,?_⟩
   cases hdd:lt (p.getD (n-1) 0) (p.getD n 0) with
   | true =>
    try dsimp only
    rw[if_pos rfl]
    exact⟨hq,by show n<=N;omega,hp,hd⟩
   | false =>
    try dsimp only
    rw[if_neg (by simp)]
    have eb:n+1-(q+1+1)=n-(q+1):=by omega
    refine mK O f p (n+1) (q+1) (by omega) (by omega) (hp.succ hnN) ⟨fun i j hij hj=>hd.a i j hij (by omega),fun i j hi hj hj2=>?_,fun i j hi hij hj=>?_⟩
    ·rw[eb] at hi hj
     rcases EZ j n with h2|h2
     ·exact hd.b i j hi hj h2
     ·obtain rfl:j=n:=by omega
      exact O.lelt (c:=g p i) hdd (hd.b i (j-1) hi (by omega) (by omega))
    ·rw[eb] at hi
     rcases EZ j n with h2|h2
     ·exact hd.c i j hi hij h2
     ·obtain rfl:j=n:=by omega
      have hlo:=hp.lo i hij
      rcases EZ i (j-1) with h3|h3
      ·obtain⟨c1,c2,c3⟩:=hd.c i (j-1) hi h3 (by omega)
       exact⟨O.tr hdd c1,O.tr c2 hc,by omega⟩
      ·obtain rfl:i=j-1:=by omega
       exact⟨hdd,hc,by omega⟩
abbrev mj (N:Nat)(lt:Nat->Nat->Bool)(r:Nat×Array Nat):Prop:=1<=r.1/\r.1<=N/\Pm N r.2 r.1/\Asc lt r.2 r.1
theorem qI (O:Ord lt){p:Array Nat}{n:Nat}(h1:1<=n)(hn:n<=N)(hp:Pm N p n)(hv:Rv lt p n):Good N lt (kas_tail3 n N p) (mj N lt):=by
 have hsz:=hp.sz
 refine hX _ (good_mono (fun m h=>?_) _ (lL O (kas_rev p 0 n) (N-n) n h1 (by omega) (hp.rev (EU _) hn) fun i j hij hj=>?_))
 ·exact⟨by show 1<=m;omega,h.2.1,h.2.2.1,h.2.2.2.1⟩
 ·rw[dE (by omega),dE (by omega),if_pos (by omega),if_pos (by omega)]
  exact hv _ _ (by omega) (by omega)
theorem tO (O:Ord lt){p:Array Nat}{n:Nat}(hn:n<N)(hp:Pm N p n)(hv:Rv lt p n)(hx:∀ i,i<n->lt (g p n) (g p i)=true):Good N lt (kas_descPart n N p) (mj N lt):=by
 refine hX _ (good_mono (fun r h=>?_) _ (mK O (N-(n+1)) p (n+1) 0 (by omega) (by omega) (hp.succ hn) ⟨fun i j hij hj=>hv i j hij (by omega),fun i j hi hj hj2=>?_,fun i j hi hij hj=>by omega⟩))
 ·obtain⟨q1,q2,q3,q4⟩:=h
  have hsz:=q3.sz
  by_cases hq:r.2.2>0
  ·rw[if_pos hq]
   exact qI O (by omega) q2 (q3.rev (EU _) q2) (q4.rv q1 (by omega))
  ·rw[if_neg hq]
   have e0:r.2.2=0:=by omega
   rw[e0] at q4
   exact qI O (by omega) q2 q3 (q4.rv0 (by omega))
 ·obtain rfl:j=n:=by omega
  exact hx i (by omega)
theorem yD (O:Ord lt){p:Array Nat}(h1:1<=N)(hp:Pm N p 1):Good N lt (kas_count N p) (mj N lt):=by
 have hsz:=hp.sz
 refine hX _ (good_mono (fun m h=>?_) _ (lL O p (N-1) 1 (EU _) (by omega) hp fun i j hij hj=>by omega))
 obtain⟨m1,m2,m3,m4,m5⟩:=h
 by_cases hm:m=N
 ·rw[if_pos (by rw[hm];exact beq_self_eq_true _)]
  exact⟨m1,m2,m3,m4⟩
 ·rw[if_neg (by intro e;exact hm (by simpa using e))]
  have hlt:=m5 (by omega)
  by_cases hm1:m>1
  ·rw[if_pos hm1]
   have l0:=m3.lo 0 (by omega)
   have l1:=m3.lo (m-1) (by omega)
   refine⟨by show g p 0<N;omega,by show g p (m-1)<N;omega,?_⟩
   cases hc:lt (p.getD 0 0) (p.getD (m-1) 0) with
   | true =>
    try dsimp only
    rw[if_pos rfl]
    exact⟨m1,m2,m3,m4⟩
   | false =>
    try dsimp only
    rw[if_neg (by simp)]
    have le1:∀ i,i<m->lt (g p i) (g p (m-1))=false:=fun i hi=>by
     rcases Fc i with h0|h0
     ·subst h0;exact hc
     ·exact O.tr hc ((m4 0 i h0 hi).le O)
    have le2:∀ i,i<m->lt (g p (m-1)) (g p i)=false:=fun i hi=>by
     rcases EZ i (m-1) with h0|h0
     ·exact(m4 i (m-1) h0 (by omega)).le O
     ·obtain rfl:i=m-1:=by omega
      exact le1 _ hi
    have all:∀ i j,i<m->j<m->lt (g p i) (g p j)=false:=fun i j hi hj=>O.tr (le2 j hj) (le1 i hi)
    have idx:∀ i j,i<j->j<m->g p i<g p j:=fun i j hij hj=>by
     rcases m4 i j hij hj with h|h
     ·rw[all i j (by omega) hj] at h;cases h
     ·exact h.2
    refine tO O (by omega) (m3.rev (EU _) m2) (fun i j hij hj=>?_) fun i hi=>?_
    ·rw[dE (by omega),dE (by omega),if_pos (by omega),if_pos (by omega)]
     exact .inr ⟨all _ _ (by omega) (by omega),idx _ _ (by omega) (by omega)⟩
    ·rw[dE (by omega),dE (by omega),if_neg (by omega),if_pos (by omega)]
     exact O.ltle hlt (le1 _ (by omega))
  ·rw[if_neg hm1]
   obtain rfl:m=1:=by omega
   refine tO O (by omega) m3 (fun i j hij hj=>by omega) fun i hi=>?_
   obtain rfl:i=0:=by omega
   exact hlt
theorem nZ (O:Ord lt){p:Array Nat}{k:Nat}(hk:k<N)(hp:Pm N p k)(ha:Asc lt p k):∀ (f l r:Nat),l<=r->r<=k->r-l<=f->(∀ i,i<l->lt (g p k) (g p i)=false)->(∀ i,r<=i->i<k->lt (g p k) (g p i)=true) ->
  Good N lt (kas_place p k f l r) (fun l'=>l'<=k/\(∀ i,i<l'->lt (g p k) (g p i)=false)/\∀ i,l'<=i->i<k->lt (g p k) (g p i)=true)
 | 0,l,r,h1,h2,h3,hl,hr=>⟨by omega,hl,fun i h4 h5=>hr i (by omega) h5⟩
 | f+1,l,r,h1,h2,h3,hl,hr=>by
  show Good N lt (if l >= r then .ret l else .ask (p.getD k 0) (p.getD ((l+r) / 2) 0) fun c=>if c=true then kas_place p k f l ((l+r) / 2) else kas_place p k f ((l+r) / 2+1) r) _
  by_cases hlr:l >= r
  ·rw[if_pos hlr]
   exact⟨by omega,hl,fun i h4 h5=>hr i (by omega) h5⟩
  ·rw[if_neg hlr]
   have ek:=hp.hi k (EU _) hk
   have em:=hp.lo ((l+r) / 2) (by omega)
   refine⟨by show g p k<N;omega,by show g p _<N;omega,?_⟩
   cases hc:lt (p.getD k 0) (p.getD ((l+r) / 2) 0) with
   | true =>
    try dsimp only
    rw[if_pos rfl]
    refine nZ O hk hp ha f l ((l+r) / 2) (by omega) (by omega) (by omega) hl fun i h4 h5=>?_
    rcases EZ ((l+r) / 2) i with h6|h6
    ·exact O.ltle hc ((ha _ i h6 h5).le O)
    ·obtain rfl:i=(l+r) / 2:=by omega
     exact hc
   | false =>
    try dsimp only
    rw[if_neg (by simp)]
    refine nZ O hk hp ha f ((l+r) / 2+1) r (by omega) h2 (by omega) (fun i h4=>?_) hr
    rcases EZ i ((l+r) / 2) with h6|h6
    ·exact O.tr ((ha i _ h6 (by omega)).le O) hc
    ·obtain rfl:i=(l+r) / 2:=by omega
     exact hc
theorem oN (O:Ord lt):∀ (f:Nat) (p:Array Nat) (k:Nat),k+f=N->Pm N p k->Asc lt p k->Good N lt (kas_bin f p k) (fun p'=>Pm N p' N/\Asc lt p' N)
 | 0,p,k,hk,hp,ha=>by
  obtain rfl:k=N:=by omega
  exact⟨hp,ha⟩
 | f+1,p,k,hk,hp,ha=>by
  refine hX _ (good_mono (fun l h=>?_) _ (nZ O (by omega) hp ha k 0 k (EX _) (EU _) (by omega) (fun i h=>by omega) fun i h1 h2=>by omega))
  obtain⟨hl,h1,h2⟩:=h
  have hsz:=hp.sz
  have ek:=hp.hi k (EU _) (by omega)
  have gb:=fun i=>yn (p:=p) (k:=k) (d:=k-l) (by omega) (by omega) i
  have el:k-(k-l)=l:=by omega
  rw[el] at gb
  refine oN O f _ (k+1) (by omega) ⟨by rw[bubble_size];exact hsz,(bubble_perm _ _ _).trans hp.pm,fun i hi=>?_,fun i hi hi2=>?_⟩ fun i j hij hj=>?_
  ·rw[gb]
   split
   ·omega
   ·split
    ·have:=hp.lo (i-1) (by omega);omega
    ·have:=hp.lo i (by omega);omega
  ·rw[gb,if_neg (by omega),if_neg (by omega)]
   exact hp.hi i (by omega) hi2
  ·rw[gb,gb]
   by_cases j1:j=l
   ·rw[if_pos j1,if_neg (by omega),if_neg (by omega)]
    have:=hp.lo i (by omega)
    exact .inr ⟨h1 i (by omega),by omega⟩
   ·rw[if_neg j1]
    by_cases i1:i=l
    ·rw[if_pos i1,if_pos (by omega)]
     exact .inl (h2 (j-1) (by omega) (by omega))
    ·rw[if_neg i1]
     by_cases j2:l<j/\j<=k
     ·rw[if_pos j2]
      split
      ·exact ha _ _ (by omega) (by omega)
      ·exact ha _ _ (by omega) (by omega)
     ·rw[if_neg j2,if_neg (by omega)]
      exact ha i j hij (by omega)
theorem x9 (N:Nat):Pm N (Di (C2 N)) 1 where
 sz:=by simp
 pm:=Array.Perm.refl _
 lo:=fun i hi=>by
  obtain rfl:i=0:=by omega
  rw[fz]
  cases N with
  | zero=>simp
  | succ m=>simp
 hi:=fun i _ hi=>by rw[fz];simp[hi]
theorem sort_ok (O:Ord lt)(h1:1<=N):Good N lt (kas_sort N) (fun p=>Pm N p N/\Asc lt p N):=by
 refine hX _ (good_mono (fun r h=>?_) _ (yD O h1 (x9 N)))
 obtain⟨r1,r2,r3,r4⟩:=h
 by_cases hr:r.1<N
 ·rw[if_pos hr]
  have em:max r.1 1=r.1:=by omega
  rw[em]
  exact oN O _ _ _ (by omega) r3 r4
 ·rw[if_neg hr]
  have e:r.1=N:=by omega
  rw[e] at r3 r4
  exact⟨r3,r4⟩
theorem out_ok {p:Array Nat}(hp:Pm N p N)(ha:Asc lt p N):p.toList.Perm (C2 N)/\p.toList.Pairwise (R lt):=by
 refine⟨by simpa using Array.perm_iff_toList_perm.mp hp.pm,List.pairwise_iff_getElem.mpr fun i j hi hj hij=>?_⟩
 have hsz:=hp.sz
 rw[Fj] at hi hj
 have:=ha i j hij (by omega)
 simpa [g,Fk,hi,hj] using this
end
end Srt
namespace L2
open PySem PySem.Spec PyProof.Rows
def inn (X:Cx):Cx:={ X with A:=X.A.in1.in1,xe:=fun _ _=>False }
section
variable {X:Cx}{pins:List (Addr×Obj)}{σ:St}{H:Hp}{s:Shared}
theorem aa.inn (I:aa X pins σ H s):aa (inn X) pins σ H s :=
 ⟨⟨I.ok.mod,I.ok.kind,I.ok.glob,I.ok.blt,I.ok.above,I.ok.inj,I.ok.has,I.ok.cab,I.ok.hd,I.ok.frames,I.ok.stk,I.ok.exf,I.ok.bs,I.ok.bsz,I.ok.noex,I.ok.exfs,I.ok.funs,I.ok.frf⟩,I.os,I.bare,I.base,I.loc,I.cell,I.free,I.freeC,I.pin,I.hok,I.len⟩
theorem aa.out (ok:X.Ok)(I:aa (L2.inn X) pins σ H s):aa X pins σ H s :=
 ⟨ok,I.os,I.bare,I.base,I.loc,I.cell,I.free,I.freeC,I.pin,I.hok,I.len⟩
theorem aa.track {D:Addr}{ys:List V}{its:List Value}{n:Nat}(I:aa X pins σ H s)(f:aZ X pins H D)(hg:s.heap.get? D=some { cls:=.type "list",data:=.seq its.toArray n })(hv:ap ys its)(hz:ys.length<=FO):aa X pins σ (upd H D (.lst ys)) s:=by
 obtain⟨f1,f2,f3,f4,f5,f6⟩:=f
 have nD:∀ b u,H b=some u->b≠D:=fun b u e z=>by rw[z,f1] at e;cases e
 have J:=I.step (h':=s.heap) (g':=s.gens) (t':=s.toks) (d':=s.drawn) (ch:=[D]) (H':=upd H D (.lst ys)) (fun b hb=>by
   have e:b=D:=by simpa using hb
   subst e
   exact⟨f4,f2,f5,f6⟩)
  (fun b o _ _ _ e _=>e) (fun b o _ _ _ e _=>⟨o.slots,e⟩) (fun b o hc e n=>by rw[upd_ne (by simpa using hc)];exact n) (fun b o _ e=>⟨o,e⟩)
  (fun b xs e=>by rw[upd_ne (nD _ _ e)];exact e) (fun b o u e=>by rw[upd_ne (nD _ _ e)];exact e) (fun b ps e=>⟨#[],by rw[upd_ne (nD _ _ e),e];simp⟩) (fun m hm=>hm) (fun b u e=>by
   by_cases hb:b=D
   ·subst hb
    rw[ae] at e
    cases e
    exact⟨hz,its,n,hv,hg⟩
   ·rw[upd_ne hb] at e
    exact(I.hok b u e).stay (fun _ _ _ q=>q) (fun c q=>by rw[upd_ne (nD _ _ q)];exact q) fun c xs q=>by rw[upd_ne (nD _ _ q)];exact q) I.bare
 exact J
theorem aZ.pinned {b:Addr}{pl:List (Addr×Obj)}(f:aZ X pins H b)(h:∀ p∈pl,p.1≠b):aZ X (pins++pl) H b:=by
 obtain⟨f1,f2,f3,f4,f5,f6⟩:=f
 refine⟨f1,f2,f3,f4,f5,fun p hp=>?_⟩
 rcases List.mem_append.mp hp with hp|hp
 ·exact f6 p (Dj _ hp)
 ·rcases List.mem_append.mp hp with hp|hp
  ·exact f6 p (C3 _ hp)
  ·exact h p hp
theorem aZ.on {b:Addr}{H':Hp}(f:aZ X pins H b)(h:H' b=none):aZ X pins H' b:=⟨h,f.2⟩
theorem aa.wr {b:Addr}{h':Heap}{t':Nat}(I:aa X pins σ H s)(f:aZ X pins H b)(k:∀ c o,c≠b->s.heap.get? c=some o->h'.get? c=some o):aa X pins σ H { s with heap:=h',toks:=t' } :=
 I.turned k f.1 f.2.1 f.2.2.2.1 f.2.2.2.2.1 f.2.2.2.2.2
theorem iD {h:Heap}{b:Addr}{f:Obj->Obj}:∀ c o,c≠b->h.get? c=some o->(h.update b f).get? c=some o:=fun c o hc e=>by
 rw[ES _ _ _ _ hc]
 exact e
end
abbrev kd (pins:List (Addr×Obj))(kS D:Addr)(ks:List Value)(e e1:Nat):List (Addr×Obj):=pins++[(kS,Hz "list" ks.toArray e),(D,Hz "list" #[] e1)]
section
variable {X:Cx}{pins:List (Addr×Obj)}{σ:St}{H:Hp}{s:Shared}{kS D:Addr}{its:List Value}{xs:List V}{f:Value}{Q:VK}
structure rR (X:Cx)(n:Nat)(ks:List Value)(s:Shared)(κ:SortKind)(lt:Nat->Nat->Bool):Prop where
 ord:Srt.Ord lt
 kind:2<=n->∀ Q:SortKind->Shared->Prop,Q κ s->wpAny (model X.prog X.w) X.A.in1.in1 (keyKind' ks.toArray) Q (fun _ _=>False) s
 ask:∀ i j (C:Bool->Shared->Prop),i<n->j<n->C (lt i j) s->W.kas_ask X.prog X.w X.A.in1.in1 κ ks i j C s
def mM (X:Cx)(xs:List V)(Q:VK)(J:Nat->Hp->List Value->Prop):Prop:=∀ (pins:List (Addr×Obj)) (σ:St) (H:Hp) (s:Shared) (ks:List Value),J xs.length H ks->ks.length=xs.length->aa (inn X) pins σ H s->∃ κ lt,rR X xs.length ks s κ lt /\
 ∀ p:List Nat,p.Perm (C2 xs.length)->p.Pairwise (Srt.R lt)->∀ D,H D=none->Q (.ref D) (upd H D (.lst (p.map fun i=>xs.getD i .non)))
theorem pG {xs:List V}{its:List Value}(r:ap xs its):∀ (p:List Nat),(∀ i∈p,i<xs.length)->ap (p.map fun i=>xs.getD i .non) (p.map fun i=>its.getD i Value.none)
 | [],_=>.nil
 | i::p,h=>by
  have hi:=h i C6
  refine .cons ?_ (pG r p fun j hj=>h j (C5 _ hj))
  obtain⟨u,e,ru⟩:=r.get (CZ hi)
  show ar (xs.getD i .non) (its.getD i Value.none)
  rw[C0,C0,e,CZ hi]
  exact ru
theorem sQ {out:List Value}{ys:List V}{ks:List Value}{e e1:Nat}{st:SortSt}{E:Value->Shared->Prop}(ok:X.Ok)(I:aa (inn X) (kd pins kS D ks e e1) σ H s)(fk:aZ (inn X) pins H kS)(fD:aZ (inn X) pins H D)(hne:kS≠D)(hz:out.length<64)(hkz:ks.length<64)
  (hout:(arrOf st).map (·.2)=Di out) (hf:failedOf st=none) (hv:ap ys out) (q:Q (.ref D) (upd H D (.lst ys))) :
  wpAny (model X.prog X.w) X.A.in1.in1 (ksk_tail D false e1 (.ref kS) st) (fun fin s'=>fin=.done (.ret .none)/\EP X pins σ Q (.ref D) s') E s:=by
 have pk:=I.pin (kS,Hz "list" ks.toArray e) (by simp)
 have pD:=I.pin (D,Hz "list" #[] e1) (by simp)
 have I0:aa (inn X) pins σ H s:=I.pins_of fun p hp=>I.pin p (C3 _ (Dj _ hp))
 unfold ksk_tail
 try dsimp only
 rw[hout]
 refine Ge (HH pk.1 rfl ?_ (by rw[CY,Gs];omega) (EX _))
 refine Ge (HQ ?_)
 have gD:(s.heap.update kS (Obj.mapSeq fun _=>(#[]:Array Value))).get? D=some (Hz "list" #[] e1):=iD D _ (Ne.symm hne) pD.1
 refine Ge (HR gD rfl ?_)
 refine Ge (HH gD rfl ?_ (EX _) (by simp only[Bool.false_eq_true,if_false];rw[CY,Gs];omega))
 rw[hf]
 simp only[bne_self_eq_false,Bool.false_eq_true,if_false]
 have I1:=I0.wr (t':=s.toks) fk (h':=s.heap.update kS (Obj.mapSeq fun _=>(#[]:Array Value))) iD
 have I2:=I1.wr (t':=s.toks) fD (h':=(s.heap.update kS (Obj.mapSeq fun _=>(#[]:Array Value))).update D (Obj.mapSeq fun _=>Di out)) iD
 obtain⟨c2,hc2⟩:∃ c2,((s.heap.update kS (Obj.mapSeq fun _=>(#[]:Array Value))).update D (Obj.mapSeq fun _=>Di out)).get? D=some (Hz "list" (Di out) c2):=⟨_,HS gD fun _=>Di out⟩
 have I3:=I2.track (ys:=ys) (its:=out) (n:=c2) fD hc2 hv (by rw[hv.length,Gs];omega)
 exact Gh ⟨rfl,.ref D,_,aa.out ok I3,rfl,q⟩
theorem CH {J:Nat->Hp->List Value->Prop}{ks:List Value}{e e1:Nat}{E:Value->Shared->Prop}(ok:X.Ok)(I:aa (inn X) (kd pins kS D ks e e1) σ H s)(fk:aZ (inn X) pins H kS)(fD:aZ (inn X) pins H D)(hne:kS≠D)(h64:its.length<64)
  (rv:ap xs its) (hk:ks.length=xs.length) (hJ:J xs.length H ks) (h:mM X xs Q J) :
  wpAny (model X.prog X.w) X.A.in1.in1 (ksk_end D false its.toArray e1 (.ref kS) ks.toArray) (fun fin s'=>fin=.done (.ret .none)/\EP X pins σ Q (.ref D) s') E s:=by
 have hl:=rv.length
 obtain⟨κ,lt,ha,q⟩:=h _ _ _ _ ks hJ hk I
 unfold ksk_end
 try dsimp only
 simp only[Bool.false_eq_true,if_false]
 by_cases h2:its.toArray.size<2
 ·rw[if_pos h2,if_pos h2]
  refine Ge (Gh ?_)
  rw[StateT.run_pure]
  refine Ge (Gh ?_)
  try dsimp only
  rw[CY] at h2
  have ep:(C2 xs.length).map (fun i=>xs.getD i .non)=xs:=by
   refine DC (by simp) fun i h1 h2=>?_
   simp at h1
   simp[h1]
  have q0:=q (C2 xs.length) (List.Perm.refl _) (by
   rcases EZ xs.length 1 with z|z
   ·rw[show xs.length=0 by omega];exact List.Pairwise.nil
   ·rw[show xs.length=1 by omega];exact DN _ _) D fD.1
  rw[ep] at q0
  refine sQ (st:=SortSt.mk' general' (ks.toArray.zip its.toArray) #[] 7 none) ok I fk fD hne h64 (by omega) ?_ rfl rv q0
  show (ks.toArray.zip its.toArray).map (·.2)=its.toArray
  apply Array.toList_inj.mp
  rw[Array.toList_map,ksk_zip]
  simp only[List.toList_toArray]
  exact List.map_snd_zip (by omega)
 ·rw[if_neg h2,if_neg h2]
  rw[CY] at h2
  refine Ge (FW (ha.kind (by omega) (fun κ' s'=>κ'=κ/\s'=s) ⟨rfl,rfl⟩) (fun κ' s' hκ=>?_) fun _ _ x=>x.elim)
  obtain⟨rfl,rfl⟩:=hκ
  have so:=Srt.good_wp (Q:=fun p s''=>s''=s'/\Srt.Pm its.length p its.length/\Srt.Asc lt p its.length) (s:=s') (cmp:=W.kas_ask X.prog X.w X.A.in1.in1 κ' ks) (fun i j C hi hj hC=>ha.ask i j C (by omega) (by omega) hC)
   (W.kas_sort its.length) (Srt.good_mono (fun p hp=>⟨rfl,hp⟩) _ (Srt.sort_ok ha.ord (by omega)))
  refine Ge (FW (W.kat_run (Q:=fun st' s''=>∃ p:Array Nat,arrOf st'=p.map (W.kas_item (ks.toArray.zip its.toArray))/\failedOf st'=none/\s''=s'/\Srt.Pm its.length p its.length/\Srt.Asc lt p its.length)
   (by omega) (by omega) h64 (fun p' st' s'' a1 a2 a3 a4=>⟨p',a2,a3,a4⟩) so) ?_ fun _ _ x=>x)
  rintro⟨⟨⟩,st'⟩ s'' ⟨p,har,hf,rfl,hp,hasc⟩
  try dsimp only
  obtain⟨o1,o2⟩:=Srt.out_ok hp hasc
  rw[<-hl] at o1
  have hlt:∀ i∈p.toList,i<xs.length:=fun i hi=>List.mem_range.mp (o1.mem_iff.mp hi)
  refine sQ (out:=p.toList.map fun i=>its.getD i Value.none) (ys:=p.toList.map fun i=>xs.getD i .non) ok I fk fD hne ?_ (by omega) (W.kat_snds (by omega) har) hf (pG rv _ hlt) (q _ o1 o2 D fD.1)
  rw[CW,Fj,hp.sz]
  exact h64
theorem Bi {J:Nat->Hp->List Value->Prop}{e1:Nat}{E:Value->Shared->Prop}(ok:X.Ok)(I:aa (inn X) (kd pins kS D [] 0 e1) σ H s)(fk:aZ (inn X) pins H kS)(fD:aZ (inn X) pins H D)(hne:kS≠D)(h64:its.length<64)
  (rv:ap xs its) (hJ:J 0 H []) (turn:∀ (i:Nat) (x:V) (v:Value) (pins:List (Addr×Obj)) (σ:St) (H:Hp) (s:Shared) (ks:List Value),xs[i]?=some x->ar x v->J i H ks->ks.length=i->aa (inn X) pins σ H s ->
   wpAny (model X.prog X.w) X.A.in1.in1 (call f [v]) (fun u s2=>∃ H2,aa (inn X) pins σ H2 s2/\J (i+1) H2 (ks++[u])) (fun _ _=>False) s) (h:mM X xs Q J) :
  wpAny (model X.prog X.w) X.A.in1.in1 (ksk_rest D f false its.toArray e1 (.ref kS)) (fun fin s'=>fin=.done (.ret .none)/\EP X pins σ Q (.ref D) s') E s:=by
 have hl:=rv.length
 unfold ksk_rest
 refine Ge (Gj ?_)
 rw[List.forIn_toArray]
 refine Ge (ksk_fold (fun i s'=>∃ H' ks e,J i H' ks/\ks.length=i/\aa (inn X) (kd pins kS D ks e e1) σ H' s') its 0 s ⟨H,[],0,hJ,rfl,I⟩ ?step ?done)
 case step =>
  rintro j v s' hv ⟨H',ks,e,hJ',hk,I'⟩
  simp only[Fe] at hJ' hk ⊢
  have hj:j<its.length:=(List.getElem?_eq_some_iff.mp hv).1
  have hx:xs[j]?=some (xs[j]'(by omega)):=CZ _
  obtain⟨u,eu,ru⟩:=rv.get hx
  rw[hv] at eu
  cases eu
  refine Ge (Hb (FW (turn j _ v _ _ _ _ ks hx ru hJ' hk I') (fun u s2 hu=>?_) fun _ _ hF=>hF.elim))
  obtain⟨H2,I2,J2⟩:=hu
  try dsimp only
  have pk:=I2.pin (kS,Hz "list" ks.toArray e) (by simp)
  have pD:=I2.pin (D,Hz "list" #[] e1) (by simp)
  have I3:aa (inn X) (pins++[(D,Hz "list" #[] e1)]) σ H2 s2:=I2.pins_of fun p hp=>I2.pin p (by
   refine C3 _ ?_
   rcases List.mem_append.mp hp with z|z
   ·exact Dj _ z
   ·exact C3 _ (.tail _ z))
  refine Ge (HH pk.1 rfl ?_ (by rw[CY,Gs];omega) (EY (Fa (Array.size_push ..)) (by rw[CY,Gs];omega)))
  have ea:(Di ks).push u=Di (ks++[u]):=by simp
  obtain⟨c2,hc2⟩:∃ c2,(s2.heap.update kS (Obj.mapSeq (·.push u))).get? kS=some (Hz "list" (Di (ks++[u])) c2):=⟨_,by rw[<-ea];exact HS pk.1 (·.push u)⟩
  have I4:=I3.wr (t':=s2.toks) ((fk.on pk.2.1).pinned fun p hp=>by rw[List.mem_singleton.mp hp];exact Ne.symm hne) (h':=s2.heap.update kS (Obj.mapSeq (·.push u))) iD
  refine Gh ⟨rfl,H2,ks++[u],c2,J2,by rw[C7,Dp,hk],I4.pins_of fun p hp=>?_⟩
  rcases List.mem_append.mp hp with z|z
  ·exact I4.pin p (C3 _ (Dj _ z))
  ·rcases List.mem_cons.mp z with rfl|z
   ·exact⟨hc2,pk.2.1,pk.2.2.1,pk.2.2.2.1,fun v e=>nomatch e⟩
   ·exact I4.pin p (C3 _ (C3 _ z))
 case done =>
  rintro s' ⟨H',ks,e,hJ',hk,I'⟩
  rw[Fe,<-hl] at hJ' hk
  have pk:=I'.pin (kS,Hz "list" ks.toArray e) (by simp)
  have pD:=I'.pin (D,Hz "list" #[] e1) (by simp)
  try dsimp only
  refine Ge (HU pk.1 rfl ?_)
  exact CH ok I' (fk.on pk.2.1) (fD.on pD.2.1) hne h64 rv hk hJ' h
theorem Cb {J:Nat->Hp->List Value->Prop}{l q:Addr}(I:aa X pins σ H s)(hl:aU X.K H l xs)(h64:xs.length<64)
  (hJ:J 0 H []) (turn:∀ (i:Nat) (x:V) (v:Value) (pins:List (Addr×Obj)) (σ:St) (H:Hp) (s:Shared) (ks:List Value),xs[i]?=some x->ar x v->J i H ks->ks.length=i->aa (inn X) pins σ H s ->
   wpAny (model X.prog X.w) X.A.in1.in1 (call (.ref q) [v]) (fun u s2=>∃ H2,aa (inn X) pins σ H2 s2/\J (i+1) H2 (ks++[u])) (fun _ _=>False) s) (h:mM X xs Q J) :
  wpAny (model X.prog X.w) X.A (call (.builtin "sorted") [.ref l] [(Str.ofString "key",.ref q)]) (EP X pins σ Q) X.xe s:=by
 obtain⟨its,rv,hIl,hzl⟩:=I.list hl
 have hlen:=rv.length
 have h64':its.length<64:=by omega
 refine call_function_entry_kw HV HW Ia (ksk_s1 _ _) ?_
 unfold Builtin.«sorted»
 refine Ge (m:=Ib "sorted" 1 1 _) (Gh ?_)
 refine Ge (collect_list hIl.isList ?_ (by rw[Gs];omega))
 refine Ge (Ic ?_ (by rw[Gs];omega))
 have hsz:((s.heap.push (Hz "list" #[] 0)).update s.heap.objs.size (Obj.mapSeq (·++its.toArray))).objs.size=s.heap.objs.size+1:=by
  rw[Heap.size_update,Ie]
 have hoL:(((s.heap.push (Hz "list" #[] 0)).update s.heap.objs.size (Obj.mapSeq (·++its.toArray))).push (Hz "list" its.toArray 0)).get? (s.heap.objs.size+1)=some (Hz "list" its.toArray 0):=by
  rw[<-hsz];exact EM _ rfl
 have keep:∀ b o,s.heap.get? b=some o->(((s.heap.push (Hz "list" #[] 0)).update s.heap.objs.size (Obj.mapSeq (·++its.toArray))).push (Hz "list" its.toArray 0)).get? b=some o:=fun b o q=>by
  have hlt:b<s.heap.objs.size:=EK q
  rw[ET _ _ _ (by rw[hsz];exact EV (E6 hlt)),ES _ _ _ _ (EV hlt),ET _ _ _ (EV hlt)]
  exact q
 show wpAny _ _ _ _ _ { s with heap:=((s.heap.push (Hz "list" #[] 0)).update s.heap.objs.size (Obj.mapSeq (·++its.toArray))).push (Hz "list" its.toArray 0) }
 rw[hsz]
 have fD:aZ (inn X) pins H (s.heap.objs.size+1):=I.inn.fpOk (E2 _) (I.hok.fresh (E2 _))
 have I1:=I.inn.kept (t':=s.toks) keep
 refine Ge (Gf (wpAny_call_entry_kw Ig ⟨_,hoL,rfl⟩ Ih ?body (ksk_l1 _ _)))
 case body =>
  show wpAny (model X.prog X.w) X.A.in1.in1 (Builtin.«list.sort» ⟨[.ref (s.heap.objs.size+1)],_⟩) _ _ _
  rw[ksk_t1]
  unfold ksk_tree
  refine Ge (HU hoL rfl ?_)
  refine Ge (HH hoL rfl ?_ (by rw[CY,Gs];omega) (EX _))
  obtain⟨e1,ho1⟩:∃ e1,((((s.heap.push (Hz "list" #[] 0)).update s.heap.objs.size (Obj.mapSeq (·++its.toArray))).push (Hz "list" its.toArray 0)).update (s.heap.objs.size+1) (Obj.mapSeq fun _=>(#[]:Array Value))).get? (s.heap.objs.size+1)=some (Hz "list" #[] e1):=⟨_,HS hoL fun _=>#[]⟩
  have I2:=I1.wr (t':=s.toks) fD (h':=(((s.heap.push (Hz "list" #[] 0)).update s.heap.objs.size (Obj.mapSeq (·++its.toArray))).push (Hz "list" its.toArray 0)).update (s.heap.objs.size+1) (Obj.mapSeq fun _=>(#[]:Array Value))) iD
  generalize hh:(((s.heap.push (Hz "list" #[] 0)).update s.heap.objs.size (Obj.mapSeq (·++its.toArray))).push (Hz "list" its.toArray 0)).update (s.heap.objs.size+1) (Obj.mapSeq fun _=>(#[]:Array Value))=h2 at *
  refine Ge (HR ho1 rfl ?_)
  refine Ge (Ii ?_ (by show its.length<=_;rw[Gs];omega))
  refine Ge (Ic ?_ (EX _))
  refine Gf ?_
  have hlt:s.heap.objs.size+1<h2.objs.size:=EK ho1
  have k3:∀ b o,h2.get? b=some o->((h2.push (Hz "tuple" its.toArray 0)).push (Hz "list" #[] 0)).get? b=some o:=fun b o q=>EL _ (EL _ q)
  have I3:=I2.kept (t':=s.toks) (h':=(h2.push (Hz "tuple" its.toArray 0)).push (Hz "list" #[] 0)) k3
  have hkS:(h2.push (Hz "tuple" its.toArray 0)).objs.size=h2.objs.size+1:=Ie _ _
  have fk:aZ (inn X) pins H (h2.push (Hz "tuple" its.toArray 0)).objs.size:=I2.fpOk (by show h2.objs.size<=_;rw[hkS];exact E2 _) (I2.hok.fresh (by show h2.objs.size<=_;rw[hkS];exact E2 _))
  refine FW (Bi (s:={ s with heap:=(h2.push (Hz "tuple" its.toArray 0)).push (Hz "list" #[] 0) }) (kS:=(h2.push (Hz "tuple" its.toArray 0)).objs.size) (D:=s.heap.objs.size+1) (σ:=σ) (e1:=e1) (f:=.ref q) I.ok ?_ fk fD (E1 (by rw[hkS];omega)) h64' rv hJ turn h) (fun fin s' hq=>?_) fun _ _ x=>x
  ·refine I3.pins_of fun p hp=>?_
   rcases List.mem_append.mp hp with z|z
   ·exact I3.pin p (C3 _ z)
   ·rcases List.mem_cons.mp z with rfl|z
    ·exact⟨EM _ rfl,fk.1,fk.2.1,fk.2.2.1,fun v e=>nomatch e⟩
    ·rw[List.mem_singleton.mp z]
     exact⟨k3 _ _ ho1,fD.1,fD.2.1,fD.2.2.1,fun v e=>nomatch e⟩
  ·obtain⟨rfl,hq⟩:=hq
   exact⟨_,rfl,Gh ⟨_,rfl,hq⟩⟩
end
end L2
namespace L2
open PySem PySem.Spec PyProof.Rows
def Ob (o:HO)(xs:List V):Prop:=o=.lst xs\/o=.tup xs
theorem Ob.sq {K:W.Frag}{H:Hp}{a:Addr}{o:HO}{xs:List V}(h:Ob o xs)(e:H a=some o):aU K H a xs\/aV K H a xs:=by
 rcases h with h|h
 ·subst h;exact .inl (.of e)
 ·subst h;exact .inr (.of e)
def iY (J:It)(a:Addr)(o:HO)(xs:List V):Prop:=∀ H:Hp,H a=some o->(∀ i x,xs[i]?=some x->J.go i H/\∀ y H',J.yld i H y H'->H'=H/\y=x)/\J.stop xs.length H
def Av (K:W.Frag)(tl:TE):TI:=fun σ H R=>tl σ H fun x H1=>∃ a o xs,x=.ref a/\H1 a=some o/\Ob o xs/\∀ J,iY J a o xs->R J H1
theorem zh {K:W.Frag}{a:Addr}{xs:List V}:iY (eV K a) a (.lst xs) xs:=fun H e=>⟨fun i x hx=>⟨⟨xs,x,.of e,hx⟩,fun y H' z=>⟨z.1,by
 have:=z.2 xs (.of e)
 rw[hx] at this
 exact(Option.some.inj this).symm⟩⟩,⟨xs,.of e,EU _⟩⟩
theorem zX {K:W.Frag}{a:Addr}{xs:List V}:iY (fX K a) a (.tup xs) xs:=fun H e=>⟨fun i x hx=>⟨⟨xs,x,.of e,hx⟩,fun y H' z=>⟨z.1,by
 have:=z.2 xs (.of e)
 rw[hx] at this
 exact(Option.some.inj this).symm⟩⟩,⟨xs,.of e,EU _⟩⟩
section
variable {X:Cx}{tg:Expr}
theorem fR {l:Expr}{tl:TE}(hl:PE X l tl):PI X tg l (Av X.K tl):=by
 intro pins s σ H R I h
 refine ag (hl pins s σ H _ I h) fun v s1 ⟨x,H1,I1,r1,q1⟩=>?_
 obtain⟨a,o,xs,e,ha,ho,q⟩:=q1
 subst e
 cases r1
 have fpk:∀ b∈[s1.heap.objs.size],aZ X pins H1 b:=fun b hb=>by
  have e:b=s1.heap.objs.size:=by simpa using hb
  subst e
  exact I1.fpOk (EU _) (I1.hok.fresh (EU _))
 rcases ho with ho|ho
 ·subst ho
  obtain⟨its,rv,p,hz⟩:=I1.list (.of ha:aU X.K H1 a xs)
  refine Go p.isList ?_
  exact⟨s1.heap.objs.size,[s1.heap.objs.size],_,_,H1,rfl,I1.kept (t':=s1.toks) fun b o e=>EL _ e,uk a _,⟨_,EM _ rfl,rfl,rfl⟩,fpk,q _ zh⟩
 ·subst ho
  obtain⟨its,rv,p,hz⟩:=I1.tuple (.of ha:aV X.K H1 a xs)
  refine Gp (show s1.heap.IsTuple a its.toArray from p) ?_
  exact⟨s1.heap.objs.size,[s1.heap.objs.size],_,_,H1,rfl,I1.kept (t':=s1.toks) fun b o e=>EL _ e,oX a _,⟨_,EM _ rfl,rfl,rfl⟩,fpk,q _ zX⟩
def A0 (K:W.Frag):R2:=fun x y H Q=>∃ p xs i v,x=.ref p/\y=.int i/\(aU K H p xs\/aV K H p xs)/\bY xs i=some v/\Q v H
theorem wV:gt X (A0 X.K):=by
 intro value slice pins s σ H x y v u Q I rx ry h hs
 obtain⟨p,xs,i,z,e1,e2,hq,he,q⟩:=h
 rcases hq with hq|hq
 ·exact tQ value slice pins s σ H x y v u Q I rx ry ⟨p,xs,i,z,e1,e2,hq,he,q⟩ hs
 ·exact j9 value slice pins s σ H x y v u Q I rx ry ⟨p,xs,i,z,e1,e2,hq,he,q⟩ hs
end
theorem f9 {J:It}{a:Addr}{o:HO}{xs:List V}{tc:TT}{te:TE}{σ:St}{D:Addr}{Fin:Hp->Prop}{H:Hp}(hJ:iY J a o xs)(Pv:Nat->List V->Hp->Prop)(h0:Pv 0 [] (upd H D (.lst [])))
  (hD:∀ i ys H,Pv i ys H->H D=some (.lst ys)/\H a=some o) (hend:∀ ys H,Pv xs.length ys H->Fin H)
  (hgo:∀ i x ys H,i<xs.length->xs[i]?=some x->Pv i ys H->tc (some x::σ) H fun b H2=>if b=true then te (some x::σ) H2 (bw xs.length i D ys Pv) else cN xs.length i ys Pv H2):fT tc te σ J D Fin H:=by
 refine jQ Pv h0 (fun i ys H p=>(hD i ys H p).1) (fun ys H p=>⟨(hJ H (hD _ _ _ p).2).2,hend ys H p⟩) fun i ys H hi p=>?_
 obtain⟨g,k⟩:=(hJ H (hD _ _ _ p).2).1 i xs[i] (CZ hi)
 refine⟨g,fun x H' y=>?_⟩
 obtain⟨e1,e2⟩:=k x H' y
 subst e1 e2
 exact hgo i _ ys _ hi (CZ hi) p
theorem Cu {J:It}{a:Addr}{o:HO}{xs:List V}{g:TG}{tb:TS}{D:cU}{σ:St}{H:Hp}(hJ:iY J a o xs)(Pv:Nat->St->Hp->Prop)(h0:Pv 0 σ H)(hl:∀ i σ H,i<=xs.length->Pv i σ H->H a=some o)
  (hs:∀ i x σ H,xs[i]?=some x->Pv i σ H->g x σ H fun σ2 H2=>tb { D with nx:=Pv (i+1),ct:=Pv (i+1),bk:=D.nx } σ2 H2) (hd:∀ σ H,Pv xs.length σ H->D.nx σ H) :
  ∃ W:Nat->Nat->St->Hp->Prop,(∃ m,W 0 m σ H)/\∀ i m σ H,W i m σ H ->
   (J.stop i H/\D.nx σ H)\/(J.go i H/\∃ N:St->Hp->Prop,(∀ σ' H',N σ' H'->∃ m',m'<m/\W (i+1) m' σ' H')/\∀ x H',J.yld i H x H'->g x σ H' fun σ2 H2=>tb { D with nx:=N,ct:=N,bk:=D.nx } σ2 H2):=by
 refine⟨fun i m σ H=>m=xs.length-i/\i<=xs.length/\Pv i σ H,⟨xs.length,by simp,EX _,h0⟩,?_⟩
 rintro i m σ H ⟨rfl,hi,p⟩
 have q:=hl i σ H hi p
 by_cases hlt:i<xs.length
 ·obtain⟨gg,k⟩:=(hJ H q).1 i xs[i] (CZ hlt)
  refine .inr ⟨gg,Pv (i+1),fun σ' H' p'=>⟨xs.length-(i+1),by omega,rfl,hlt,p'⟩,fun x H' y=>?_⟩
  obtain⟨e1,e2⟩:=k x H' y
  subst e1 e2
  exact hs i _ σ _ (CZ hlt) p
 ·have e:i=xs.length:=by omega
  subst e
  exact .inl ⟨(hJ H q).2,hd σ H p⟩
section
variable {X:Cx}
end
end L2
namespace L2
open PySem PySem.Spec PyProof.Rows
def aI (X:Cx)(xs Ns:List Str)(scope:Scope)(C:Addr)(fp:List Addr)(s:Shared)(H:Hp):Cx where
 prog:=X.prog
 w:=X.w
 K:=X.K
 mg:=X.mg
 base:=X.base
 A:=X.A
 N:=xs++Ns
 s₀:=s
 H₀:=H
 env:=Hk scope (cj scope X.env.cells) C X.env
 outer:=X.stack
 stack:=X.stack
 ex:=fp
 fn:=fun _=>false
 calm:=X.calm
 pn:=[]
 xe:=fun _ _=>False
structure dH (X:Cx)(xs Ns:List Str)(sc:Scope):Prop where
 kind:sc.kind=.function
 nocell:∀ p∈sc.names,p.2≠.cell
 loc:∀ x∈xs,sc.names.lookup x=some .local
 names:∀ p∈sc.names,p.2=.local->sc.names.lookup p.1=some .local
 apart:∀ y∈Ns,sc.names.lookup y≠some .local
 sub:∀ (i:Nat) (y:Str),Ns[i]?=some y->sc.names.lookup y=some .free->X.N[i]?=some y
 len:Ns.length=X.N.length
 all:(xs++Ns).Nodup
 free:∀ p∈sc.names,p.2=.free->X.env.kindOf p.1=some .cell\/X.env.kindOf p.1=some .free
section
variable {X:Cx}{pins:List (Addr×Obj)}{σ:St}{H:Hp}{s:Shared}{xs Ns:List Str}{sc:Scope}{C:Addr}{fp:List Addr}
theorem dH.cells (S:dH X xs Ns sc)(ok:X.Ok):∀ p∈sc.names,p.2=.free->∃ a,X.env.cells.lookup p.1=some a:=fun p hp e=>ok.has p.1 (S.free p hp e)
theorem aa.okLN (I:aa X pins σ H s)(S:dH X xs Ns sc)(hC:s.heap.objs.size<=C)(hf:∀ b∈fp,aZ X pins H b)(hlt:∀ b∈fp,b<s.heap.objs.size):(aI X xs Ns sc C fp s H).Ok where
 mod:=I.ok.mod
 kind:=S.kind
 glob:=I.ok.glob
 blt:=I.ok.blt
 above:=hC
 inj:=fun y z c e1 e2=>I.ok.inj y z c (bW sc X.env.cells e1) (bW sc X.env.cells e2)
 has:=fun y hy=>by
  have hy':(Hl sc X.env).names.lookup y=some .cell\/(Hl sc X.env).names.lookup y=some .free:=hy
  have fr:sc.names.lookup y=some .free:=by
   rcases hy' with h|h
   ·obtain⟨k',e,q⟩:=cK h
    rcases q with q|⟨q,_⟩
    ·subst q;exact absurd rfl (S.nocell _ (PySem.mem_of_lookup e))
    ·rw[e,q]
   ·obtain⟨k',e,q⟩:=cK h
    rcases q with q|⟨_,q⟩
    ·rw[e,<-q]
    ·cases q
  exact iA sc X.env.cells (S.cells I.ok) (PySem.mem_of_lookup fr)
 cab:=fun y c e=>by cases (show false=true from e)
 hd:=I.ok.hd
 frames:=I.ok.frames
 stk:=.inl rfl
 exf:=fun b hb=>⟨EV (EW (hlt b hb) hC),fun y c e=>(hf b hb).2.2.2.2.1 y c (bW sc X.env.cells e)⟩
 bs:=I.bs
 bsz:=EY I.ok.bsz I.sz
 noex:=fun b o e hb=>by
  rcases (hf b hb).2.2.2.1 with q|q
  ·exact I.ok.noex b o e q
  ·exact absurd (EW (EK e) (EY I.ok.bsz q)) (E3 _)
 exfs:=fun b hb z=>by
  rcases List.mem_cons.mp (I.stkSub b z) with q|q
  ·exact(hf b hb).2.1 q
  ·exact(hf b hb).2.2.1 q
 funs:=I.stack
 frf:=I.stkFree
theorem aa.startLN {D:Addr}{h1:Heap}{m:Str->Option Value}{tk:Nat}{w:St}(I:aa X pins σ H s)(S:dH X xs Ns sc)(hf:∀ b∈fp,aZ X pins H b)(hlt:∀ b∈fp,b<s.heap.objs.size)(hw:w=xs.map fun _=>none)
  (hD:D=s.heap.objs.size) (hC:s.heap.objs.size<=C) (hDC:C≠D) (hk:∀ b o,s.heap.get? b=some o->h1.get? b=some o) (hn:h1.Ns C m) (hl:h1.get? D=some { cls:=.type "list",data:=.seq ([]:List Value).toArray 0 }) :
  aa (aI X xs Ns sc C fp s H) [] (w++σ) (upd H D (.lst [])) { s with heap:=h1,toks:=tk }:=by
 have hwl:w.length=xs.length:=by rw[hw,CW]
 have hDle:s.heap.objs.size<=D:=by rw[hD];exact EU _
 have cells:∀ y c,(cj sc X.env.cells).lookup y=some c->c<s.heap.objs.size:=fun y c e=>by
  obtain⟨v,q⟩:=I.cell y c (bW sc X.env.cells e)
  exact q.lt
 refine⟨I.okLN S hC hf hlt,rfl,I.bare,Un.laid hk hDle (I.hok.fresh hDle),⟨m,hn,fun i y v e1 e2 e3=>?_⟩,fun y c e=>?_,?_,fun y c e=>?_,fun p hp=>absurd (show p∈([]:List (Addr×Obj)) from hp) (by simp),I.hok.laid hk hDle ⟨EX _,[],0,.nil,hl⟩,?_⟩
 ·have e1:(xs++Ns)[i]?=some y:=e1
  have e2:(w++σ)[i]?=some (some v):=e2
  rcases EZ i xs.length with hi|hi
  ·rw[Ec (by omega),hw,Da,CZ hi] at e2
   cases e2
  ·have e1':Ns[i-xs.length]?=some y:=by rw[DK hi] at e1;exact e1
   have e2':σ[i-xs.length]?=some (some v):=by rw[DK (by omega),hwl] at e2;exact e2
   have e3':gG (Hl sc X.env) y:=e3
   have ny:sc.names.lookup y≠some .local:=S.apart y (De e1')
   have fr:sc.names.lookup y=some .free/\((Hl sc X.env).names.lookup y=some .cell\/(Hl sc X.env).names.lookup y=some .free):=by
    rcases e3' with h|h|h
    ·obtain⟨k',e,q⟩:=cK h
     rcases q with q|⟨_,q⟩
     ·subst q;exact absurd e ny
     ·cases q
    ·obtain⟨k',e,q⟩:=cK h
     rcases q with q|⟨q,_⟩
     ·subst q;exact absurd rfl (S.nocell _ (PySem.mem_of_lookup e))
     ·exact⟨by rw[e,q],.inl h⟩
    ·obtain⟨k',e,q⟩:=cK h
     rcases q with q|⟨_,q⟩
     ·exact⟨by rw[e,<-q],.inr h⟩
     ·cases q
   have ok:=S.free (y,.free) (PySem.mem_of_lookup fr.1) rfl
   obtain⟨m0,hn0,hl0⟩:=I.loc
   obtain⟨u,r,l⟩:=hl0 _ y v (S.sub _ y e1' fr.1) e2' (.inr ok)
   refine⟨u,r,.inr ⟨fr.2,?_⟩⟩
   rcases l with⟨k,_⟩|⟨_,c,ec,z⟩
   ·rcases ok with q|q <;> (rw[show X.env.kindOf y=some .local from k] at q;cases q)
   ·obtain⟨c',ec'⟩:=iA sc X.env.cells (S.cells I.ok) (PySem.mem_of_lookup fr.1)
    have:=bW sc X.env.cells ec'
    rw[ec] at this
    cases this
    obtain⟨o,ho,hd⟩:=z
    exact⟨c,ec',o,hk _ _ ho,hd⟩
 ·obtain⟨v,o,ho,hd⟩:=I.cell y c (bW sc X.env.cells e)
  exact⟨v,o,hk _ _ ho,hd⟩
 ·show upd H D (.lst []) C=none
  rw[upd_ne hDC]
  exact I.hok.fresh hC
 ·show upd H D (.lst []) c=none
  rw[upd_ne (EV (EW (cells y c e) hDle))]
  exact I.freeC y c (bW sc X.env.cells e)
 ·show (w++σ).length=(xs++Ns).length
  rw[C7,C7,I.len,hwl,S.len]
theorem aa.endLN {s2:Shared}{H2:Hp}{st:St}{pl:List (Addr×Obj)}(I:aa X pins σ H s)(J:aa (aI X xs Ns sc C fp s H) pl st H2 s2)(hf:∀ b∈fp,aZ X pins H b):aa X pins σ H2 s2 :=
 I.call' (ch:=fp) J.os J.base J.hok J.bare fun b hb=>⟨(hf b hb).2.2.2.1,(hf b hb).2.1,(hf b hb).2.2.2.2.1,(hf b hb).2.2.2.2.2⟩
end
def jr (n:Nat) (g:TG) (tc:TT) (te:TE) (σ:St) (J:It) (D:Addr) (Fin:Hp→Prop) (H:Hp):Prop :=
  ∃ W:Nat→Nat→List V→Hp→Prop,(∃ m,W 0 m [] (upd H D (.lst [])))∧∀ i m ys H,W i m ys H→H D=some (.lst ys) ∧
    ((J.stop i H∧Fin H)∨(J.go i H∧∀ x H' (u:St),u.length=n→J.yld i H x H'→g x (u++σ) H' fun σ2 H2=>(∃ u2:St,u2.length=n∧σ2=u2++σ)∧tc σ2 H2 fun b H3=>if b=true then te σ2 H3 fun y H4=>H4 D=some (.lst ys)∧ys.length < sizeLine∧∃ m',m' < m∧W (i + 1) m' (ys++[y]) (upd H4 D (.lst (ys++[y])))
      else ∃ m',m' < m∧W (i + 1) m' ys H3))
def Cy (n:Nat)(wi:TI)(g:TG)(tc:TT)(te:TE):TE:=fun σ H Q=>wi σ H fun J H1=>∀ D,H1 D=none->jr n g tc te σ J D (fun H2=>Q (.ref D) H2) H1
section
variable {X:Cx}{xs Ns:List Str}{sc:Scope}{elt iter tg:Expr}{ifs:List Expr}{pos:Pos}{wi:TI}{g:TG}{tc:TT}{te:TE}
theorem z8 {pins:List (Addr×Obj)}{σ:St}{H:Hp}{s:Shared}{it:Addr}{fp:List Addr}{tn:Nat->Heap->Prop}{J:It}{Fin:Addr->Hp->Prop}{RR:Value->Addr->Gv->Shared->Prop}{E:Value->Shared->Prop}
  (hc:X.calm=true) (S:dH X xs Ns sc) (I:aa X pins σ H s) (T:fB X.prog X.w X.K tg J fp it tn) (st:tn 0 s.heap) (hf:∀ b∈fp,aZ X pins H b) (hg:∀ C s0 H0,PG (aI X xs Ns sc C fp s0 H0) tg g)
  (ht:∀ C s0 H0,fw (aI X xs Ns sc C fp s0 H0) ifs tc) (he:∀ C s0 H0,PE (aI X xs Ns sc C fp s0 H0) elt te) (q:∀ D,H D=none->jr xs.length g tc te σ J D (Fin D) H)
  (hR:∀ D C H2 s2 m,s.heap.objs.size<=C->aa X pins σ H2 s2->H2 C=none->s2.heap.Ns C m->Fin D H2->RR (.ref D) C (.ok .next) s2) :
  wpAny (model X.prog X.w) X.A (newList []) (fun acc s3=>wpAny (model X.prog X.w) X.A (Hs sc X.env.globals (cj sc X.env.cells) [] X.env.qual none .none (some X.env)) (fun cenv s4 =>
   Gw (model X.prog X.w) X.A (.compStart (.ListComp elt [⟨tg,iter,ifs,0⟩] sc pos) 0 (.ref it) acc { cenv with scope:=Hl sc X.env }) (RR acc cenv.locals) s4) E s3) E s:=by
 have hlt:∀ b∈fp,b<s.heap.objs.size:=fun b hb=>by
  obtain⟨o,e,_⟩:=T.obj 0 _ st b hb
  exact EK e
 refine Gi (Ht S.nocell (by intro y hy;simp at hy) (fun h1 hns1 hsb1=>?_) S.kind)
 dsimp only at hns1 hsb1 ⊢
 generalize hH2:s.heap.push { cls:=.type "list",dict:=none,data:=.seq ([]:List Value).toArray }=G at hns1 hsb1 ⊢
 have hC:G.objs.size=s.heap.objs.size+1:=by rw[<-hH2,EO]
 have hCle:s.heap.objs.size<=G.objs.size:=by rw[hC];exact E2 _
 have hDC:G.objs.size≠s.heap.objs.size:=by rw[hC];exact Fb _
 have old:∀ b o,s.heap.get? b=some o->h1.get? b=some o:=fun b o e=>hsb1.extBut b o (EV (EW (EK e) hCle)) (EL _ (hH2▸EL _ e))
 have hacc:h1.get? s.heap.objs.size=some { cls:=.type "list",data:=.seq ([]:List Value).toArray 0 }:=hsb1.extBut _ _ (Ne.symm hDC) (EL _ (hH2▸EM _ rfl))
 have hDn:H s.heap.objs.size=none:=I.hok.fresh (EU _)
 obtain⟨W,⟨m0,w0⟩,turn⟩:=q s.heap.objs.size hDn
 have st1:tn 0 h1:=T.keep _ _ _ st fun b _ o e=>old b o e
 have I1:=fun tk=>I.startLN (tk:=tk) (w:=xs.map fun _=>none) S hf hlt rfl rfl hCle hDC old hns1 hacc
 have fr1:∀ b∈fp,upd H s.heap.objs.size (.lst []) b=none:=fun b hb=>by rw[upd_ne (EV (hlt b hb))];exact(hf b hb).1
 have loop:∀ s3:Shared,s3={ s with heap:=h1,toks:=s.toks+([]:List (Str×Value)).length } ->
   Gw (model X.prog X.w) X.A (.compLoop (.ListComp elt [⟨tg,iter,ifs,0⟩] sc pos) 0 (.ref it) (.ref s.heap.objs.size) (Hk sc (cj sc X.env.cells) G.objs.size X.env))
    (RR (.ref s.heap.objs.size) G.objs.size) s3:=by
  rintro s3 rfl
  have fpk:∀ {H':Hp},(∀ b∈fp,H' b=none)->∀ b∈fp,aZ (aI X xs Ns sc G.objs.size fp s H) [] H' b:=fun hn b hb =>
   ⟨hn b hb,EV (EW (hlt b hb) hCle),(I.okLN (C:=G.objs.size) S hCle hf hlt).exfs b hb,.inl hb,fun y c e=>(hf b hb).2.2.2.2.1 y c (bW sc X.env.cells e),fun p hp=>absurd (show p∈([]:List (Addr×Obj)) from hp) (by simp)⟩
  refine uy (fun n s'=>∃ i w ys H',w.length=xs.length/\aa (aI X xs Ns sc G.objs.size fp s H) [] (w++σ) H' s'/\tn i s'.heap/\(∀ b∈fp,H' b=none)/\W i n ys H') ?_ m0 ⟨0,_,[],_,CW _,I1 _,st1,fr1,w0⟩
  rintro n s3 ⟨i,v0,ys,H3,hv0,I3,st3,fr3,w3⟩
  obtain⟨hD3,turn3⟩:=turn i n ys H3 w3
  rcases turn3 with⟨stop,fin⟩|⟨go,step⟩
  ·refine ag (T.done (aI X xs Ns sc G.objs.size fp s H) rfl rfl rfl hc i [] s3 _ H3 _ I3 (fpk fr3) st3 stop) fun r s4 ⟨hr,I4⟩=>?_
   subst hr
   obtain⟨m4,hn4,_⟩:=I4.loc
   exact hR _ _ H3 s4 m4 hCle (I.endLN I4 hf) I4.free hn4 fin
  ·refine ag (T.item (aI X xs Ns sc G.objs.size fp s H) rfl rfl rfl hc i [] s3 _ H3 _ I3 (fpk fr3) st3 go) fun r s4 ⟨u,hr,h4⟩=>?_
   subst hr
   refine ag h4 fun _ s5 ⟨y,H5,I5,r5,y5,st5,fr5⟩=>?_
   have I5':=I5.pinned (fpk fr5) (T.obj _ _ st5)
   refine ag (hg G.objs.size s H _ s5 _ H5 y u _ I5' r5 (step y H5 v0 hv0 y5)) fun _ s6 ⟨σ6,H6,I6,⟨w6,hw6,e6⟩,q6⟩=>?_
   subst e6
   refine ag (ht G.objs.size s H _ s6 _ H6 _ I6 q6) fun ok s7 ⟨H7,I7,q7⟩=>?_
   have again:∀ {H8:Hp}{s8:Shared}{zs:List V},aa (aI X xs Ns sc G.objs.size fp s H) ([]++dG fp s5.heap) (w6++σ) H8 s8->(∃ m',m'<n/\W (i+1) m' zs H8)->∃ m,m<n/\∃ i w ys H',w.length=xs.length/\aa (aI X xs Ns sc G.objs.size fp s H) [] (w++σ) H' s8/\tn i s8.heap/\(∀ b∈fp,H' b=none)/\W i m ys H':=fun {H8 s8 zs} I8 ⟨m',hm,w8⟩=>by
    refine⟨m',hm,i+1,w6,zs,H8,hw6,I8.unpinned,T.keep _ _ _ st5 fun b hb o e=>(I8.pin (b,o) (C3 _ (C3 _ (ej hb e)))).1,fun b hb=>?_,w8⟩
    obtain⟨o,e,d⟩:=T.obj _ _ st5 b hb
    exact(I8.pin (b,o) (C3 _ (C3 _ (ej hb e)))).2.1
   cases ok with
   | false =>
    rw[if_neg Bool.false_ne_true] at q7 ⊢
    exact again I7 q7
   | true =>
    rw[if_pos rfl] at q7 ⊢
    refine ag (he G.objs.size s H _ s7 _ H7 _ I7 q7) fun z s8 ⟨zv,H8,I8,r8,hD8,hz8,w8⟩=>?_
    refine ag (er _ s8 _ H8 (.ref s.heap.objs.size) [zv] (.ref s.heap.objs.size) [z] (fun _ H9=>∃ m',m'<n/\W (i+1) m' (ys++[zv]) H9) I8 rfl (.cons r8 .nil) ⟨_,ys,zv,rfl,rfl,hD8,hz8,w8⟩) fun _ s9 ⟨_,H9,I9,_,w9⟩=>?_
    exact again I9 w9
 exact Hv (loop _ rfl) (T.self X.A 0 _ _ _ st1 (loop _ rfl))
theorem wa (hc:X.calm=true)(S:dH X xs Ns sc)(hi:PI X tg iter wi)(hg:∀ C fp s0 H0,PG (aI X xs Ns sc C fp s0 H0) tg g)(ht:∀ C fp s0 H0,fw (aI X xs Ns sc C fp s0 H0) ifs tc)(he:∀ C fp s0 H0,PE (aI X xs Ns sc C fp s0 H0) elt te)
  (hs:∀ v,Gq iter X.env v=pure v:=by intro _;rfl):PE X (.ListComp elt [⟨tg,iter,ifs,0⟩] sc pos) (Cy xs.length wi g tc te):=by
 refine⟨?_⟩
 intro pins s σ H Q I h
 rw[eval_ListComp]
 refine Hw (use:=none) rfl hs (ki (S.cells I.ok)) S.kind S.names (ag (hi pins s σ H _ I h) fun v s1 h1=>ag h1 fun itv s2 h2=>?_)
 obtain⟨it,fp,tn,J,H2,e,I2,T,st2,f2,q2⟩:=h2
 subst e
 refine z8 (RR:=fun acc C=>compPost (model X.prog X.w) X.A X.xe none (EP X pins σ Q) acc C) (Fin:=fun D H3=>Q (.ref D) H3) hc S I2 T st2 f2 (fun C s0 H0=>hg C fp s0 H0) (fun C s0 H0=>ht C fp s0 H0) (fun C s0 H0=>he C fp s0 H0) q2 ?_
 intro D C H3 s3 m hC I3 hn hN q3
 refine⟨m,hN,fun h' hs'=>⟨.ref D,H3,I3.butC hs' (EY I2.sz hC) hn (E1 (EW I2.lt hC)) (fun y c e=>?_) (fun p hp=>?_),rfl,q3⟩⟩
 ·obtain⟨v,z⟩:=I2.cell y c e
  exact EV (EW z.lt hC)
 ·exact EV (EW (EK (I2.pin p hp).1) hC)
theorem AJ {x:Str}{p1:Pos}(S:dH X [x] Ns sc):∀ C fp s0 H0,PG (aI X [x] Ns sc C fp s0 H0) (.Name x p1) (fh 0):=fun C fp s0 H0=>by
 have lx:(Hl sc X.env).names.lookup x=some .local:=Hu (S.loc x (by simp))
 exact ba (X:=aI X [x] Ns sc C fp s0 H0) (i:=0) S.all rfl (.inl lx) (.inr lx)
end
theorem we {tc:TT}{te:TE}{g:TG}{k:Nat}{σ:St}{J:It}{D:Addr}{Fin:Hp->Prop}{H:Hp}{n:Nat}(Pv:Nat->List V->Hp->Prop)(h0:Pv 0 [] (upd H D (.lst [])))
  (hD:∀ i ys H,Pv i ys H->H D=some (.lst ys)) (hend:∀ ys H,Pv n ys H->J.stop n H/\Fin H)
  (hgo:∀ i ys H,i<n->Pv i ys H->J.go i H/\∀ x H' (u:St),u.length=k->J.yld i H x H'->g x (u++σ) H' fun σ2 H2=>(∃ u2:St,u2.length=k/\σ2=u2++σ)/\tc σ2 H2 fun b H3=>if b=true then te σ2 H3 (bw n i D ys Pv) else cN n i ys Pv H3):jr k g tc te σ J D Fin H:=by
 refine⟨fun i m ys H=>m=n-i/\i<=n/\Pv i ys H,⟨n,rfl,EX _,h0⟩,?_⟩
 rintro i m ys H ⟨rfl,hi,p⟩
 refine⟨hD i ys H p,?_⟩
 by_cases hlt:i<n
 ·exact .inr (hgo i ys H hlt p)
 ·have e:i=n:=by omega
  subst e
  exact .inl (hend ys H p)
theorem CI {K:W.Frag}{a:Addr}{xs:List V}{tc:TT}{te:TE}{g:TG}{k:Nat}{σ:St}{D:Addr}{Fin:Hp->Prop}{H:Hp}(Pv:Nat->List V->Hp->Prop)(h0:Pv 0 [] (upd H D (.lst [])))
  (hD:∀ i ys H,Pv i ys H->H D=some (.lst ys)/\aU K H a xs) (hend:∀ ys H,Pv xs.length ys H->Fin H)
  (hgo:∀ i x ys H (u:St),u.length=k->i<xs.length->xs[i]?=some x->Pv i ys H->g x (u++σ) H fun σ2 H2=>(∃ u2:St,u2.length=k/\σ2=u2++σ)/\tc σ2 H2 fun b H3=>if b=true then te σ2 H3 (bw xs.length i D ys Pv) else cN xs.length i ys Pv H3):jr k g tc te σ (eV K a) D Fin H:=by
 refine we Pv h0 (fun i ys H p=>(hD i ys H p).1) (fun ys H p=>⟨⟨xs,(hD _ _ _ p).2,EU _⟩,hend ys H p⟩) fun i ys H hi p=>?_
 refine⟨⟨xs,xs[i],(hD _ _ _ p).2,CZ hi⟩,fun x H' u hu y=>?_⟩
 obtain⟨e,y⟩:=y
 subst e
 exact hgo i x ys _ u hu hi (y xs (hD _ _ _ p).2) p
theorem jZ {α:Type}:∀ {u:List α},u.length=1->∃ a,u=[a]
 | [a],_=>⟨a,rfl⟩
theorem BM {N Ns:List Str}{sc:Scope}(h:(Ns.zip N).all (fun p=>decide (p.1=p.2) || !(sc.names.lookup p.1 == some NameKind.free))=true)(hl:Ns.length=N.length):∀ (i:Nat) (y:Str),Ns[i]?=some y->sc.names.lookup y=some .free->N[i]?=some y:=fun i y e f=>by
 have hi:i<Ns.length:=(List.getElem?_eq_some_iff.mp e).1
 have hN:N[i]?=some (N[i]'(by omega)):=CZ (by omega)
 have hm:(y,N[i]'(by omega))∈Ns.zip N:=by
  refine De (i:=i) ?_
  rw[List.getElem?_zip_eq_some]
  exact⟨e,hN⟩
 have:=List.all_eq_true.mp h _ hm
 dsimp only at this
 rw[f] at this
 have z:y=N[i]'(by omega):=by simpa using this
 rw[hN,<-z]
theorem i5 {X:Cx}{xs:List Str}(Ns:List Str){sc scp:Scope}{N ps:List Str}(S:aA N ps scp)(hN:X.N=N:=by rfl)(hs:X.env.scope=scp:=by rfl)(h1:sc.kind=.function:=by rfl)(h2:∀ p∈sc.names,p.2≠.cell:=by decide +kernel)(h3:∀ x∈xs,sc.names.lookup x=some .local:=by decide +kernel)
  (h4:∀ p∈sc.names,p.2=.local->sc.names.lookup p.1=some .local:=by decide +kernel) (h5:∀ y∈Ns,sc.names.lookup y≠some .local:=by decide +kernel) (h6:(Ns.zip N).all (fun p=>decide (p.1=p.2) || !(sc.names.lookup p.1 == some NameKind.free))=true:=by decide +kernel) (hl:Ns.length=N.length:=by rfl) (hall:(xs++Ns).Nodup:=by decide +kernel)
  (h7:∀ p∈sc.names,p.2=.free->scp.names.lookup p.1=some .cell\/scp.names.lookup p.1=some .free:=by decide +kernel):dH X xs Ns sc :=
 ⟨h1,h2,h3,h4,h5,by rw[hN];exact BM h6 hl,by rw[hN];exact hl,hall,fun p hp e=>by
  show X.env.scope.names.lookup p.1=_\/X.env.scope.names.lookup p.1=_
  rw[hs]
  exact h7 p hp e⟩
end L2
namespace HT
open PySem PyProof.Rows
section
variable {prog:FN}{w:World}{A:Around}{E:Value->Shared->Prop}{s:Shared}
theorem getItem_tuple_whole {t sl:Addr}{items:Array Value}{vl vu:Value}{lo hi:Option Int}{Q:Value->Shared->Prop}(ht:IsTup s.heap t items)(hs:s.heap.IsSliceOf sl vl vu .none)(pl:GJ vl lo)(pu:GJ vu hi)
  (hw:sIx items.size 0 lo=0/\sIx items.size items.size hi=items.size)
  (h:Q (.ref t) s):wpAny (model prog w) A (Gk (.ref t) (.ref sl)) Q E s:=by
 obtain⟨os,hos,hcs,hds⟩:=id hs
 have hTs:s.TypeIs (.ref sl) "slice":=⟨os,hos,hcs⟩
 unfold Gk
 try with_reducible refine Gf ?_
 first|refine Ge (Gh ?_)|skip
 refine Ge (wpAny_sequenceKey ht.typeIs (by decide) ?_)
 refine Ge (GL (name:=Str.ofString "__getitem__") ht.typeIs PyProof.Rows.slot_tuple_getitem
  (GM PyProof.Rows.slot_tuple_getitem ht.typeIs entry_tuple_getitem ?_ (args_tuple_getitem _ _)))
 show wpAny _ _ (Builtin.Tuple.tupleItemsOf (.ref t) >>= _) _ _ s
 refine Ge (tupleItemsOf_ ht ?_)
 refine Ge (GN hTs ?_)
 rw[if_pos (by decide)]
 refine Ge (vH hs pl pu ?_)
 have hyes:(((sIx items.size 0 lo:Nat):Int) == 0 && (1:Int) == 1 && (sIx items.size items.size hi-sIx items.size 0 lo) == items.size)=true:=by
  rw[hw.1,hw.2]
  simp
 show wpAny _ _ (if (((sIx items.size 0 lo:Nat):Int) == 0 && (1:Int) == 1 && (sIx items.size items.size hi-sIx items.size 0 lo) == items.size)=true then _ else _) _ _ s
 rw[if_pos hyes]
 wp_walk
 obtain⟨ot,hot,hct,_⟩:=id ht
 refine wpAny_loadPart hot (Gh (Gh ?_))
 rw[hct,if_pos (by decide)]
 exact Ge (Gj (Gh ⟨_,rfl,Gh h⟩))
end
end HT
namespace L2
open PySem PySem.Spec PyProof.Rows
section
variable {X:Cx}{e:Expr}{te:TE}{pos p2:Pos}
def xE (K:W.Frag):V->Option Int->Option Int->Hp->VK->Prop:=fun x lo hi H Q=>∃ a xs,x=.ref a/\aV K H a xs /\
 (HT.sIx xs.length 0 lo=0/\HT.sIx xs.length xs.length hi=xs.length)/\Q (.ref a) H
theorem xz:iK X (xE X.K):=by
 intro pins s σ H x v vl vu lo hi sl Q I rx hs pl pu h
 obtain⟨a,xs,rfl,hx,hw,q⟩:=h
 cases rx
 obtain⟨its,r,ht,hz⟩:=I.tuple hx
 have hlen:its.toArray.size=xs.length:=by rw[CY];exact r.length.symm
 refine⟨"tuple",_,PyProof.Rows.slot_tuple_getitem.lookup,ht.typeIs,?_⟩
 exact HT.getItem_tuple_whole ht hs pl pu (by rw[hlen];exact hw) ⟨.ref a,H,I,rfl,q⟩
theorem Co:iK X (fun x lo hi H Q=>∃ a xs,x=.ref a/\aV X.K H a xs/\((HT.sIx xs.length 0 lo=0/\HT.sIx xs.length xs.length hi=xs.length)->Q (.ref a) H)/\∀ p,H p=none->Q (.ref p) (upd H p (.tup (gi xs lo hi)))):=by
 intro pins s σ H x v vl vu lo hi sl Q I rx hs pl pu h
 obtain⟨a,xs,ex,hx,q1,q2⟩:=h
 by_cases hw:HT.sIx xs.length 0 lo=0/\HT.sIx xs.length xs.length hi=xs.length
 ·exact xz pins s σ H x v vl vu lo hi sl Q I rx hs pl pu ⟨a,xs,ex,hx,hw,q1 hw⟩
 ·exact o4 pins s σ H x v vl vu lo hi sl Q I rx hs pl pu ⟨a,xs,ex,hx,hw,q2⟩
end
end L2
namespace L2
open PySem PySem.Spec PyProof.Rows
section
variable {X:Cx}{tg:Expr}
theorem cc (K:W.Frag){l:Expr}{tl:TE}(hl:PE X l tl)(e:X.K=K:=by rfl):PI X tg l (qP K tl):=by subst e;exact y6 hl
theorem pC (K:W.Frag){l:Expr}{tl:TE}(hl:PE X l tl)(e:X.K=K:=by rfl):PI X tg l (u7 K tl):=by subst e;exact oC hl
inductive ua (K:W.Frag)(xs:List V)(H:Hp)(Q:VK):Prop
 | mk (p:Addr)(ys:List V)(e:xs=[.ref p])(h:aU K H p ys\/aV K H p ys)(q:Q (.int ys.length) H):ua K xs H Q
theorem gY (K:W.Frag)(e:X.K=K:=by rfl):bm X (.builtin "len") (ua K):=by
 subst e
 intro pins s σ H xs us Q I r h
 obtain⟨p,ys,e,h,q⟩:=h
 exact iL pins s σ H xs us Q I r ⟨p,ys,e,h,q⟩
inductive rs (K:W.Frag)(xs:List V)(H:Hp)(Q:VK):Prop
 | mk (p:Addr)(ns:List Int)(e:xs=[.ref p])(h:aU K H p (ns.map V.int)\/aV K H p (ns.map V.int))(q:Q (.int ns.sum) H):rs K xs H Q
theorem km (K:W.Frag)(hc:X.calm=true)(e:X.K=K:=by rfl):bm X (.builtin "sum") (rs K):=by
 subst e
 intro pins s σ H xs us Q I r h
 obtain⟨p,ns,e,h,q⟩:=h
 exact jR hc pins s σ H xs us Q I r ⟨p,ns,e,h,q⟩
theorem BS (K:W.Frag)(e:X.K=K:=by rfl):bm X (.type "list") (fun xs H Q=>∃ p ys,xs=[.ref p]/\(aU K H p ys\/aV K H p ys)/\∀ l,H l=none->Q (.ref l) (upd H l (.lst ys))):=by subst e;exact vt
theorem gZ (K:W.Frag){e:Expr}{f:Str}{ta:TE}{pos:Pos}(he:PE X e ta)(hb:Gx e f X.env (eval e X.env)=eval e X.env)(ek:X.K=K:=by rfl):PE X (.Attribute e f pos) (qM K ta f):=by subst ek;exact ko he hb
theorem gw (K:W.Frag){es:List Expr}{k:Nat}{t:f7}{n:Nat}{pos:Pos}(hc:X.calm=true)(h:iS X es t)(hn:(Gc es X.env).length=n:=by rfl)(hst:(Gc es X.env).findIdx? (·.1)=none:=by rfl)(ek:X.K=K:=by rfl):PG X (.Tuple es k pos) (lR K n t):=by subst ek;exact i9 hc h hn hst
theorem fI (K:W.Frag){o e:Expr}{es:List Expr}{to:TE}{t:TA}{name:Str}{apos cpos:Pos}{T id:String}{r:V->List V->Hp->VK->Prop}(pa:PlainAttrs T)(slot:Slot T name id)(hty:typeOf (.builtin id)=pure (.type "method_descriptor"))(hm:kR X id r)(ho:PE X o to)(ha:PA X (e::es) t)
 (hbase:Gx o name X.env (eval o X.env)=eval o X.env:=by rfl)
 (hfew:((FU cpos (FV (e::es) X.env)).all (fun x=>!x.1) && (GE cpos (GF [] X.env)).all (fun x=>x.1.isSome) && decide ((e::es).length+([]:List GG).length+(if ([]:List GG).isEmpty then 0 else 1)<30))=true:=by rfl)
 (hline:(apos.endLine == cpos.line)=true:=by rfl) (hs:FV (e::es) X.env=(false,eval e X.env)::FV es X.env:=by rfl) (hplain:(FU cpos (FV es X.env)).any (·.1)=false:=by rfl) (ek:X.K=K:=by rfl) :
 PE X (.Call (.Attribute o name apos) (e::es) [] cpos) (rB K T r to t):=by subst ek;exact qx pa slot hty hm ho ha hbase hfew hline hs hplain
end
end L2
namespace L2
open PySem PySem.Spec PyProof.Rows
section
variable {X:Cx}{pins:List (Addr×Obj)}{σ:St}{H:Hp}{s:Shared}
end
section
variable {X:Cx}
end
end L2
namespace L2
open PySem PySem.Spec PyProof.Rows
section
variable {X:Cx}{pins:List (Addr×Obj)}{σ:St}{H:Hp}{s:Shared}
end
section
variable {X:Cx}
end
end L2
namespace Pr
open PySem L2 PyProof.Rows
def Sq (H:Hp)(a:Addr)(xs:List V):Prop:=H a=some (.lst xs)\/H a=some (.tup xs)
theorem Sq.same {H H':Hp}{a:Addr}{xs:List V}(h:Sq H a xs)(s:ab H H'):Sq H' a xs:=by
 rcases h with h|h
 ·exact .inl (s _ _ h)
 ·exact .inr (s _ _ h)
theorem Sq.or {K:W.Frag}{H:Hp}{a:Addr}{xs:List V}(h:Sq H a xs):aU K H a xs\/aV K H a xs:=by
 rcases h with h|h
 ·exact .inl (.of h)
 ·exact .inr (.of h)
theorem bE:2<=FO:=by decide
theorem dZ:3<=FO:=by decide
theorem r9 (xs:List V){k:Int}(h:0<=k):gi xs none (some k)=xs.take k.toNat:=by
 unfold gi
 obtain⟨n,rfl⟩:∃ n:Nat,k=n:=⟨k.toNat,by omega⟩
 rw[HT.sIx_none,HT.sIx_nat,Ew,Ff,Fs,List.take_eq_take_iff]
 omega
theorem eE {c:Bool}{A B:Prop}(h1:c=true->A)(h2:c=false->B):if c=true then A else B:=by
 cases c with
 | true=>rw[if_pos rfl];exact h1 rfl
 | false=>rw[if_neg Bool.false_ne_true];exact h2 rfl
section
variable {P:FN}{w:World}{K:W.Frag}{mg:Str->Option Value}{base:Heap}{C:Addr}
theorem B2 (K:W.Frag):W.kitOne K (.type "int") (.type "int")=some true:=by rfl
theorem CS (K:W.Frag):W.kitOne K (.type "int") (.type "bool")=some false:=by rfl
theorem Ax (K:W.Frag):W.kitAny K (.type "list") [.type "list",.type "tuple"]=some true:=by rfl
theorem zC (K:W.Frag):W.kitAny K (.type "tuple") [.type "list",.type "tuple"]=some true:=by rfl
inductive qK (vs:List V)(H:Hp)(Q:VK)(E:XK):Prop
 | mk (i:Int)(h0_:vs=[.int i])(h1_:Q (.bl true) H):qK vs H Q E
theorem wk:aA ["value"] ["value"] (aw nJ):=aE
theorem n9 (T:Txt K mg C):aK P w K mg base 1 "is_whole" ["value"] qK:=by
 refine aW T.f_is_whole wk (fun vs H Q E h=>?_) (fun f cdv A outer s H vs Q E hr h=>?_)
 ·obtain⟨i,rfl,_⟩:=h
  rfl
 ·obtain⟨i,rfl,k⟩:=h
  refine⟨_,aq (aB (dF (aM om T.b_isinstance Ij (ao (pv 0) (jO rfl T.b_int boot_int))) (eg (Cp (aM om T.b_isinstance Ij (ao (pv 0) (jO rfl T.b_bool boot_bool))))))),?_⟩
  refine⟨_,rfl,_,_,_,_,rfl,.int i,B2 _,_,rfl,bP ?_⟩
  exact⟨_,rfl,_,_,_,_,rfl,.int i,CS _,_,rfl,k⟩
inductive vz (vs:List V)(H:Hp)(Q:VK)(E:XK):Prop
 | mk (i:Int)(a:Int)(b:Int)(h0_:vs=[.int i,.int a,.int b])(h1_:Q (.bl (decide (a<=i) && decide (i<=b))) H):vz vs H Q E
theorem AE:aA ["value","least","greatest"] ["value","least","greatest"] (aw lv):=aE
theorem nP (T:Txt K mg C):aK P w K mg base 2 "is_whole_from" ["value","least","greatest"] vz:=by
 refine aW T.f_is_whole_from AE (fun vs H Q E h=>?_) (fun f cdv A outer s H vs Q E hr h=>?_)
 ·obtain⟨i,a,b,rfl,_⟩:=h
  rfl
 ·obtain⟨i,a,b,rfl,k⟩:=h
  refine⟨_,aq (aB (dF (ai (n9 T) hr (ah (pv 0))) (eg (k5 iZ iZ (pv 1) (pv 0) (pv 2))))),?_⟩
  refine⟨_,rfl,i,rfl,_,rfl,bP ?_⟩
  refine⟨_,rfl,_,rfl,_,_,rfl,rfl,_,rfl,?_⟩
  refine eE (fun h=>?_) (fun h=>?_)
  ·rw[h,Bool.true_and] at k
   exact⟨_,rfl,_,_,rfl,rfl,k⟩
  ·rw[h,Bool.false_and] at k
   exact k
abbrev aN:Int:=1000000000000000000000000000000
abbrev cu:Int:=10000000000000000000000000000000000000000
inductive qm (vs:List V)(H:Hp)(Q:VK)(E:XK):Prop
 | mk (i:Int)(h0_:vs=[.int i])(h1_:Q (.bl (decide (-aN<i) && decide (i<aN))) H):qm vs H Q E
theorem CA:aA ["value"] ["value"] (aw li):=aE
theorem lD (T:Txt K mg C):aK P w K mg base 2 "is_wide" ["value"] qm:=by
 refine aW T.f_is_wide CA (fun vs H Q E h=>?_) (fun f cdv A outer s H vs Q E hr h=>?_)
 ·obtain⟨i,rfl,_⟩:=h
  rfl
 ·obtain⟨i,rfl,k⟩:=h
  refine⟨_,aq (aB (dF (ai (n9 T) hr (ah (pv 0))) (eg (k5 iV iV (eL eM (eG T.c_WIDE_END)) (pv 0) (eG T.c_WIDE_END))))),?_⟩
  refine⟨_,rfl,i,rfl,_,rfl,bP ?_⟩
  refine⟨_,rfl,_,rfl,_,_,rfl,rfl,_,rfl,?_⟩
  refine eE (fun h=>?_) (fun h=>?_)
  ·rw[h,Bool.true_and] at k
   exact⟨_,_,rfl,rfl,k⟩
  ·rw[h,Bool.false_and] at k
   exact k
inductive qY (vs:List V)(H:Hp)(Q:VK)(E:XK):Prop
 | mk (a:Addr)(xs:List V)(h0_:vs=[.ref a])(h1_:Sq H a xs)(h2_:∀ H',ab H H'->Q (.bl true) H'):qY vs H Q E
theorem xN:aA ["value"] ["value"] (aw mO):=aE
theorem Ba (T:Txt K mg C):aK P w K mg base 1 "is_list" ["value"] qY:=by
 refine aW T.f_is_list xN (fun vs H Q E h=>?_) (fun f cdv A outer s H vs Q E hr h=>?_)
 ·obtain⟨a,xs,rfl,_⟩:=h
  rfl
 ·obtain⟨a,xs,rfl,hq,k⟩:=h
  refine⟨_,aq (aB (aM zB T.b_isinstance Ij (ao (pv 0) (be (ao (jO rfl T.b_list Ik) (jO rfl T.b_tuple Il)))))),?_⟩
  refine⟨_,rfl,bE,fun p hp=>?_⟩
  have s1:∀ o,ab H (upd H p o):=fun o=>ab.upd hp
  rcases hq.same (s1 _) with hq|hq
  ·exact⟨_,_,p,_,_,_,rfl,.of ae,.lst hq,Ax _,k _ (s1 _)⟩
  ·exact⟨_,_,p,_,_,_,rfl,.of ae,.tup hq,zC _,k _ (s1 _)⟩
inductive pB (vs:List V)(H:Hp)(Q:VK)(E:XK):Prop
 | mk (a:Addr)(xs:List V)(lo:Int)(hi:Int)(h0_:vs=[.ref a,.int lo,.int hi])(h1_:Sq H a xs)(h2_:∀ H',ab H H'->Q (.bl (decide (lo<=(xs.length:Int)) && decide ((xs.length:Int)<=hi))) H'):pB vs H Q E
theorem zj:aA ["value","fewest","most"] ["value","fewest","most"] (aw lC):=aE
theorem jD (T:Txt K mg C):aK P w K mg base 2 "is_list_from" ["value","fewest","most"] pB:=by
 refine aW T.f_is_list_from zj (fun vs H Q E h=>?_) (fun f cdv A outer s H vs Q E hr h=>?_)
 ·obtain⟨a,xs,lo,hi,rfl,_⟩:=h
  rfl
 ·obtain⟨a,xs,lo,hi,rfl,hq,k⟩:=h
  refine⟨_,aq (aB (dF (ai (Ba T) hr (ah (pv 0))) (eg (k5 iZ iZ (pv 1) (aM iL T.b_len Im (ah (pv 0))) (pv 2))))),?_⟩
  refine⟨_,rfl,a,xs,rfl,hq,fun H1 s1=>⟨_,rfl,bP ?_⟩⟩
  refine⟨_,rfl,_,rfl,a,xs,rfl,(hq.same s1).or,_,_,rfl,rfl,_,rfl,?_⟩
  have k1:=k H1 s1
  refine eE (fun h=>?_) (fun h=>?_)
  ·rw[h,Bool.true_and] at k1
   exact⟨_,rfl,_,_,rfl,rfl,k1⟩
  ·rw[h,Bool.false_and] at k1
   exact k1
inductive su (vs:List V)(H:Hp)(Q:VK)(E:XK):Prop
 | mk (i:Int)(a:Int)(b:Int)(h0_:vs=[.int i,.int a,.int b])(h1_:a<=i)(h2_:i<=b)(h3_:Q .non H):su vs H Q E
theorem zn:aA ["value","least","greatest"] ["value","least","greatest"] (aw kK):=aE
theorem jv (T:Txt K mg C):aK P w K mg base 3 "need_roll" ["value","least","greatest"] su:=by
 refine aW T.f_need_roll zn (fun vs H Q E h=>?_) (fun f cdv A outer s H vs Q E hr h=>?_)
 ·obtain⟨i,a,b,rfl,_⟩:=h
  rfl
 ·obtain⟨i,a,b,rfl,h1,h2,k⟩:=h
  refine⟨_,aq (bJ (eY (eX (ai (nP T) hr (aO (pv 0) (pv 1) (pv 2))))) ii bQ),?_⟩
  refine⟨_,rfl,_,rfl,_,rfl,i,a,b,rfl,_,rfl,?_⟩
  rw[decide_eq_true h1,decide_eq_true h2]
  exact bK k
inductive pU (vs:List V)(H:Hp)(Q:VK)(E:XK):Prop
 | mk (i:Int)(h0_:vs=[.int i])(h1_ : -cu<i)(h2_:i<cu)(h3_:Q .non H):pU vs H Q E
theorem xM:aA ["value"] ["value"] (aw nM):=aE
theorem rK (T:Txt K mg C):aK P w K mg base 2 "need_number" ["value"] pU:=by
 refine aW T.f_need_number xM (fun vs H Q E h=>?_) (fun f cdv A outer s H vs Q E hr h=>?_)
 ·obtain⟨i,rfl,_⟩:=h
  rfl
 ·obtain⟨i,rfl,h1,h2,k⟩:=h
  refine⟨_,aq (bJ (vp (eY (eX (ai (n9 T) hr (ah (pv 0))))) (qZ (eY (rO iV iV (eL eM (eG T.c_NUMBER_END)) (pv 0) (eG T.c_NUMBER_END))))).pt ii bQ),?_⟩
  refine⟨_,rfl,i,rfl,_,rfl,bK ?_⟩
  refine⟨_,rfl,_,rfl,_,_,rfl,rfl,_,rfl,?_⟩
  rw[decide_eq_true h1]
  refine bP ⟨_,_,rfl,rfl,_,rfl,?_⟩
  rw[decide_eq_true h2]
  exact bK k
structure iM (S:List Int):Prop where
 g:Lad.Good S
 n:S.length<=1000
 s:S.sum<2 ^ 60
inductive rQ (vs:List V)(H:Hp)(Q:VK)(E:XK):Prop
 | mk (b:Int)(a:Addr)(S:List Int)(k:Int)(h0_:vs=[.int b,.ref a,.int k])(h1_:H a=some (.tup (S.map V.int)))(h2_:iM S)(h3_:∀ H',ab H H'->Q (.int (Lad.fst b S k)) H'):rQ vs H Q E
theorem k6:aA ["begin","sizes","number","turns","at"] ["begin","sizes","number"] (aw nN):=aE
theorem z6 (T:Txt K mg C):aK P w K mg base 1 "first_of" ["begin","sizes","number"] rQ:=by
 refine aW T.f_first_of k6 (fun vs H Q E h=>?_) (fun f cdv A outer s H vs Q E hr h=>?_)
 ·obtain⟨b,a,S,k,rfl,_⟩:=h
  rfl
 ·obtain⟨b,a,S,k,rfl,ha,⟨g,hn,hs⟩,q⟩:=h
  refine⟨_,am (fU (aM vg T.b_divmod boot_divmod (ao (pv 2) (aM iL T.b_len Im (ah (pv 1))))) (i9 rfl (bI (ba (i:=3) k6.nd rfl (Or.inl rfl)) (bI (ba (i:=4) k6.nd rfl (Or.inl rfl)) dQ))))
   (aq (aB (au cg (au cg (pv 0) (au cS (pv 3) (aM (jR rfl) T.b_sum Io (ah (pv 1))))) (aM (jR rfl) T.b_sum Io (ah (kW o4 (pv 1) mH (lI (pv 4)))))))),?_⟩
  have h1:=g.len
  have h2:=g.sum
  have hl:(((S.map V.int).length:Nat):Int)=(S.length:Int):=by rw[CW]
  refine⟨_,rfl,_,rfl,a,_,rfl,.inr (.of ha),k,_,rfl,⟨by omega,by omega⟩,fun p hp=>?_⟩
  have s1:∀ o,ab H (upd H p o):=fun o=>ab.upd hp
  refine⟨p,_,rfl,.of ae,rfl,_,_,rfl,_,_,rfl,rfl,?_⟩
  refine⟨_,rfl,_,rfl,_,rfl,a,S,rfl,.inr (.of (s1 _ _ _ ha)),_,_,rfl,rfl,.inr ⟨by omega,by omega⟩,_,_,rfl,rfl,?_⟩
  have hk0:0<=k % (((S.map V.int).length:Nat):Int):=Ft _ (by omega)
  have hk1:k % (((S.map V.int).length:Nat):Int)<(((S.map V.int).length:Nat):Int):=Fu _ (by omega)
  refine⟨_,rfl,_,rfl,_,rfl,a,_,rfl,.of (s1 _ _ _ ha),?_,fun p2 hp2=>?_⟩
  ·rintro⟨_,z⟩
   obtain⟨n,e⟩:∃ n:Nat,k % (((S.map V.int).length:Nat):Int)=n:=⟨_,(Int.toNat_of_nonneg hk0).symm⟩
   rw[e] at z hk1
   rw[HT.sIx_nat] at z
   omega
  ·have s2:∀ o,ab (upd H p _) (upd (upd H p _) p2 o):=fun o=>ab.upd hp2
   refine⟨p2,S.take (k % (S.length:Int)).toNat,rfl,.inr (.of ?_),_,_,rfl,rfl,?_⟩
   ·rw[ae,r9 _ hk0,hl,List.map_take]
   ·have e:b+k / (((S.map V.int).length:Nat):Int)*S.sum+(S.take (k % (S.length:Int)).toNat).sum=Lad.fst b S k:=by rw[hl];rfl
    show Q (.int (b+k / (((S.map V.int).length:Nat):Int)*S.sum+(S.take (k % (S.length:Int)).toNat).sum)) _
    rw[e]
    exact q _ ((s1 _).trans (s2 _))
theorem jt {S:List Int}{i:Int}(h0:0<=i)(h1:i<(S.length:Int)):bY (S.map V.int) i=some (.int (S.getD i.toNat 0)):=by
 obtain⟨n,rfl⟩:∃ n:Nat,i=n:=⟨i.toNat,by omega⟩
 refine bz ?_
 rw[Fs,Da,CZ (by omega),C0,CZ (by omega)]
 rfl
inductive uE (vs:List V)(H:Hp)(Q:VK)(E:XK):Prop
 | mk (b:Int)(a:Addr)(S:List Int)(p:Int)(h0_:vs=[.int b,.ref a,.int p])(h1_:H a=some (.tup (S.map V.int)))(h2_:iM S)(h3_:∀ H',ab H H'->Q (.int (Lad.num b S p)) H'):uE vs H Q E
theorem h9:aA ["begin","sizes","place","turns","rest","at"] ["begin","sizes","place"] (aw lG):=aE
theorem yS (S:List Int):∀ (n:Nat) (x:Int),n<S.length->S.getD n 0<=x->Lad.walk (S.drop n) x=Lad.walk (S.drop (n+1)) (x-S.getD n 0)+1:=by
 intro n x hn h
 rw[DU hn]
 have e:S.getD n 0=S[n]:=by rw[C0,CZ hn];rfl
 rw[e] at h ⊢
 show (if x<S[n] then 0 else _)=_
 rw[if_neg (by omega)]
theorem Aq (S:List Int){n:Nat}{x:Int}(hn:n<S.length)(h:x<S.getD n 0):Lad.walk (S.drop n) x=0:=by
 rw[DU hn]
 have e:S.getD n 0=S[n]:=by rw[C0,CZ hn];rfl
 rw[e] at h
 show (if x<S[n] then 0 else _)=_
 rw[if_pos h]
theorem yW (S:List Int)(n:Nat)(hn:n<S.length):(S.drop n).sum=S.getD n 0+(S.drop (n+1)).sum:=by
 rw[DU hn,Dd,C0,CZ hn]
 rfl
theorem Cg (T:Txt K mg C):aK P w K mg base 1 "number_of" ["begin","sizes","place"] uE:=by
 refine aW T.f_number_of h9 (fun vs H Q E h=>?_) (fun f cdv A outer s H vs Q E hr h=>?_)
 ·obtain⟨b,a,S,p,rfl,_⟩:=h
  rfl
 ·obtain⟨b,a,S,p,rfl,ha,⟨g,hn,hs⟩,q⟩:=h
  refine⟨_,am (fU (aM vg T.b_divmod boot_divmod (ao (au bV (pv 2) (pv 0)) (aM (jR rfl) T.b_sum Io (ah (pv 1))))) (i9 rfl (bI (ba (i:=3) h9.nd rfl (Or.inl rfl)) (bI (ba (i:=4) h9.nd rfl (Or.inl rfl)) dQ))))
   (am (aG (i:=5) h9.nd rfl (Or.inl rfl) ac)
   (am (zK PassesOwn.never (bU mT (pv 4) (ay j9 (pv 1) (pv 5) (fun _ _=>rfl)) (bD _))
    (am (rG (i:=4) h9.nd rfl (Or.inl rfl) (ay j9 (pv 1) (pv 5) (fun _ _=>rfl)) tL)
     (aq (rG (i:=5) h9.nd rfl (Or.inl rfl) ac wK))))
   (aq (aB (au cg (au cS (pv 3) (aM iL T.b_len Im (ah (pv 1)))) (pv 5)))))),?_⟩
  have h1:=g.len
  have h2:=g.sum
  have hl:(((S.map V.int).length:Nat):Int)=(S.length:Int):=by rw[CW]
  refine⟨_,rfl,_,rfl,_,_,rfl,rfl,_,rfl,a,S,rfl,.inr (.of ha),_,_,rfl,⟨by omega,by omega⟩,fun p1 hp1=>?_⟩
  have s1:∀ o,ab H (upd H p1 o):=fun o=>ab.upd hp1
  refine⟨p1,_,rfl,.of ae,rfl,_,_,rfl,_,_,rfl,rfl,?_⟩
  have hr0:0<=(p-b) % S.sum:=Ft _ (by omega)
  have hr1:(p-b) % S.sum<S.sum:=Fu _ (by omega)
  refine⟨fun m σ H2=>∃ (n:Nat) (x:Int),m=S.length-n/\n<S.length/\0<=x/\x<(S.drop n).sum/\Lad.walk S ((p-b) % S.sum)=n+Lad.walk (S.drop n) x/\ab H H2 /\
   σ=[some (.int b),some (.ref a),some (.int p),some (.int ((p-b) / S.sum)),some (.int x),some (.int n)],⟨_,0,(p-b) % S.sum,rfl,by omega,hr0,by simpa using hr1,by simp,s1 _,rfl⟩,?_⟩
  rintro m σ H2 ⟨n,x,rfl,hnl,hx0,hx1,hw,s2,rfl⟩
  refine⟨_,rfl,_,rfl,_,rfl,a,_,_,_,rfl,rfl,.of (s2 _ _ ha),jt (i:=(n:Int)) (by omega) (by omega),_,_,rfl,rfl,_,rfl,?_⟩
  rw[Fs]
  have hd:=yW S n hnl
  have hpos:=Lad.getD_pos g.2 hnl
  refine j8 (fun hc=>?_) (fun hc=>?_)
  ·have hc:S.getD n 0<=x:=of_decide_eq_true hc
   have hn1:n+1<S.length:=by
    rcases EZ (n+1) S.length with z|z
    ·exact z
    ·rw[List.drop_eq_nil_of_le z,Eg] at hd
     omega
   refine⟨fun σ' H'=>∃ (n':Nat) (x':Int),S.length-n'<S.length-n/\n'<S.length/\0<=x'/\x'<(S.drop n').sum/\Lad.walk S ((p-b) % S.sum)=n'+Lad.walk (S.drop n') x'/\ab H H' /\
    σ'=[some (.int b),some (.ref a),some (.int p),some (.int ((p-b) / S.sum)),some (.int x'),some (.int n')],fun σ' H' ⟨n',x',l,r⟩=>⟨_,l,n',x',rfl,r⟩,?_⟩
   refine⟨_,rfl,_,rfl,_,rfl,a,_,_,_,rfl,rfl,.of (s2 _ _ ha),jt (i:=(n:Int)) (by omega) (by omega),_,_,rfl,rfl,?_⟩
   refine⟨_,rfl,_,_,rfl,rfl,?_⟩
   rw[Fs]
   refine⟨n+1,x-S.getD n 0,by omega,hn1,by omega,by omega,?_,s2,rfl⟩
   rw[hw,yS S n x hnl hc]
   omega
  ·have hc:¬ S.getD n 0<=x:=fun z=>hc (decide_eq_true z)
   refine⟨_,rfl,_,rfl,a,_,rfl,.inr (.of (s2 _ _ ha)),_,_,rfl,rfl,.inr ⟨by omega,by omega⟩,_,rfl,_,_,rfl,rfl,?_⟩
   have e:(p-b) / S.sum*(((S.map V.int).length:Nat):Int)+(n:Int)=Lad.num b S p:=by
    unfold Lad.num
    rw[hw,Aq S hnl (by omega),hl]
    omega
   show Q (.int ((p-b) / S.sum*(((S.map V.int).length:Nat):Int)+(n:Int))) H2
   rw[e]
   exact q _ s2
end
end Pr
namespace L2
open PySem PySem.Spec PyProof.Rows
section
variable {X:Cx}
def uj:R2:=fun x y H Q=>∃ p o xs i v,x=.ref p/\y=.int i/\H p=some o/\Ob o xs/\bY xs i=some v/\Q v H
theorem cV:gt X uj:=by
 intro value slice pins s σ H x y v u Q I rx ry h hs
 obtain⟨p,o,xs,i,z,e1,e2,hp,ho,he,q⟩:=h
 exact wV value slice pins s σ H x y v u Q I rx ry ⟨p,xs,i,z,e1,e2,ho.sq hp,he,q⟩ hs
theorem fO:bm X (.type "tuple") (fun xs H Q=>∃ a o ys,xs=[.ref a]/\H a=some o/\Ob o ys/\∀ l H',ab H H'->H' l=some (.tup ys)->Q (.ref l) H'):=by
 intro pins s σ H xs us Q I r h
 obtain⟨a,o,ys,e1,ha,ho,q⟩:=h
 refine wG pins s σ H xs us Q I r ⟨a,ys,e1,?_⟩
 rcases ho with ho|ho
 ·subst ho
  exact .inl ⟨.of ha,fun l hl=>q l _ (ab.upd hl) ae⟩
 ·subst ho
  exact .inr ⟨.of ha,q a H (ab.refl _) ha⟩
end
end L2
namespace Pr
open PySem L2 PyProof.Rows
theorem _root_.L2.Ob.to {H:Hp}{a:Addr}{o:HO}{xs:List V}(h:Ob o xs)(e:H a=some o):Sq H a xs:=by
 rcases h with h|h
 ·subst h;exact .inl e
 ·subst h;exact .inr e
theorem _root_.L2.Ob.ne {H:Hp}{a p C dx:Addr}{o:HO}{xs:List V}{fs:List (Str×V)}(h:Ob o xs)(e:H a=some o)(hp:H p=some (.ins C dx fs)):a≠p:=by
 rcases h with h|h
 ·subst h;exact cW e hp (by intro z;cases z)
 ·subst h;exact cW e hp (by intro z;cases z)
def dR (i:Int):Bool:=(decide (-1000000000<=i) && decide (i<=1000000000)) && !decide (i=0)
def ip (i:Int):Bool:=decide (1<=i) && decide (i<=1000)
def fZ (i:Int):Bool:=decide (-aN<i) && decide (i<aN)
def bS (lo hi:Int)(n:Nat):Bool:=decide (lo<=(n:Int)) && decide ((n:Int)<=hi)
def iX (ps:List Int):Bool:=decide (0<ps.headD 0)
def eh (ps:List Int):Bool:=bS 1 12 ps.length && (ps.all dR && iX ps)
def eK (S:List Int):Bool:=bS 1 12 S.length && S.all ip
def dB (s:Lad.Step):Bool:=fZ s.1 && eK s.2
def eQ (rows:List Lad.Step):Bool:=bS 0 4 rows.length && rows.all dB
section
variable {P:FN}{w:World}{K:W.Frag}{mg:Str->Option Value}{base:Heap}{C:Addr}
inductive qk (vs:List V)(H:Hp)(Q:VK)(E:XK):Prop
 | mk (i:Int)(h0_:vs=[.int i])(h1_:Q (.bl (dR i)) H):qk vs H Q E
theorem yy:aA ["value"] ["value"] (aw lY):=aE
theorem xv (T:Txt K mg C):aK P w K mg base 3 "is_part" ["value"] qk:=by
 refine aW T.f_is_part yy (fun vs H Q E h=>?_) (fun f cdv A outer s H vs Q E hr h=>?_)
 ·obtain⟨i,rfl,_⟩:=h
  rfl
 ·obtain⟨i,rfl,k⟩:=h
  refine⟨_,aq (aB (dF (ai (nP T) hr (aO (pv 0) (eL eM (eG T.c_MOST_LENGTH)) (eG T.c_MOST_LENGTH))) (eg (ic qU (pv 0) ac (bD _))))),?_⟩
  refine⟨_,rfl,_,rfl,_,_,_,rfl,_,rfl,?_⟩
  have e:decide (V.int i=V.int 0)=decide (i=0):=by rw[lN];exact Bool.beq_eq_decide_eq i 0
  unfold dR at k
  refine eE (fun h=>?_) (fun h=>?_)
  ·have h':(decide (-1000000000<=i) && decide (i<=1000000000))=true:=h
   rw[h',Bool.true_and,<-e] at k
   exact⟨_,rfl,rfl,k⟩
  ·have h':(decide (-1000000000<=i) && decide (i<=1000000000))=false:=h
   rw[h',Bool.false_and] at k
   exact k
theorem all_map (f:Int->Bool)(S:List Int):((S.map f).all id)=S.all f:=by rw[Ex];rfl
inductive sn (vs:List V)(H:Hp)(Q:VK)(E:XK):Prop
 | mk (a:Addr)(o:HO)(ps:List Int)(h0_:vs=[.ref a])(h1_:H a=some o)(h2_:Ob o (ps.map V.int))(h3_:ps.length<=1000)(h4_:∀ H',ab H H'->Q (.bl (eh ps)) H'):sn vs H Q E
theorem pT:aA ["value"] ["value"] (aw kC):=aE
theorem ia {S:List Int}{i:Nat}{x:V}(e:(S.map V.int)[i]?=some x):∃ n,S[i]?=some n/\x=.int n:=by
 rw[Da] at e
 cases q:S[i]? with
 | none=>rw[q] at e;cases e
 | some n=>rw[q] at e;exact⟨n,rfl,(Option.some.inj e).symm⟩
theorem my {α β:Type}{S:List α}{i:Nat}{n:α}(f:α->β)(e:S[i]?=some n):(S.take i).map f++[f n]=(S.take (i+1)).map f:=by
 rw[C9,e,C8]
 rfl
theorem B6 (T:Txt K mg C):aK P w K mg base 4 "are_parts" ["value"] sn:=by
 refine aW T.f_are_parts pT (fun vs H Q E h=>?_) (fun f cdv A outer s H vs Q E hr h=>?_)
 ·obtain⟨a,o,ps,rfl,_⟩:=h
  rfl
 ·obtain⟨a,o,ps,rfl,ha,ho,hlen,k⟩:=h
  refine⟨_,aq (aB (dF (ai (jD T) hr (aO (pv 0) ac (eG T.c_MOST_PARTS)))
   (dF (aM (mX rfl) T.b_all boot_all (ah (cm rfl (bR pT) (fR (pv 0)) (fun _ _ _ _=>ca) (fun _ _ _ _=>ai (xv T) hr (ah (pv 0))))))
   (eg (ic gy (ay cV (pv 0) ac (fun _ _=>rfl)) ac (bD _)))))),?_⟩
  refine⟨_,rfl,a,_,_,_,rfl,ho.to ha,fun H1 s1=>⟨_,rfl,?_⟩⟩
  have ha1:=s1 _ _ ha
  refine eE (fun h=>?_) (fun h=>?_)
  ·have h':bS 1 12 ps.length=true:=by unfold bS;rw[CW] at h;exact h
   refine⟨_,rfl,a,o,_,rfl,ha1,ho,fun J hJ D hD=>?_⟩
   refine f9 hJ (fun i ys H2=>ys=((ps.take i).map dR).map V.bl/\ab H1 H2/\H2 D=some (.lst ys)) ⟨rfl,ab.upd hD,ae⟩ (fun i ys H2 ⟨_,s2,d⟩=>⟨d,s2 _ _ ha1⟩) (fun ys H2 ⟨e,s2,d⟩=>?_) (fun i x ys H2 hi hx ⟨e,s2,d⟩=>?_)
   ·rw[CW,Dg] at e
    subst e
    refine⟨D,ps.map dR,rfl,.of d,_,rfl,?_⟩
    rw[all_map]
    have k2:=k _ (s1.trans s2)
    unfold eh at k2
    rw[h',Bool.true_and] at k2
    refine eE (fun h2=>?_) (fun h2=>?_)
    ·rw[h2,Bool.true_and] at k2
     have hne:1<=ps.length:=by
      unfold bS at h'
      rw[Bool.and_eq_true,decide_eq_true_eq] at h'
      omega
     refine⟨_,rfl,a,o,_,_,_,rfl,rfl,s2 _ _ ha1,ho,jt (i:=0) (by omega) (by omega),_,_,rfl,rfl,?_⟩
     have e:iX ps=decide (0<ps.getD 0 0):=by
      unfold iX
      cases ps <;> rfl
     rw[e] at k2
     exact k2
    ·rw[h2,Bool.false_and] at k2
     exact k2
   ·obtain⟨n,hn,rfl⟩:=ia hx
    rw[CW] at hi
    refine cI ⟨_,rfl,n,rfl,bw.mk (by rw[CW];exact hi) (by rw[CW];exact hlen) (by rw[e,CW,CW,Db];omega) d ⟨?_,?_,ae⟩⟩
    ·rw[e,<-my dR hn,C8]
     rfl
    ·exact fun b o z=>by rw[upd_ne (aJ z hD)];exact s2 b o z
  ·have h':bS 1 12 ps.length=false:=by unfold bS;rw[CW] at h;exact h
   have k2:=k _ s1
   unfold eh at k2
   rw[h',Bool.false_and] at k2
   exact k2
inductive p9 (vs:List V)(H:Hp)(Q:VK)(E:XK):Prop
 | mk (a:Addr)(o:HO)(S:List Int)(h0_:vs=[.ref a])(h1_:H a=some o)(h2_:Ob o (S.map V.int))(h3_:S.length<=1000)(h4_:∀ H',ab H H'->Q (.bl (eK S)) H'):p9 vs H Q E
theorem vq:aA ["value"] ["value"] (aw ng):=aE
theorem zW (T:Txt K mg C):aK P w K mg base 3 "are_sizes" ["value"] p9:=by
 refine aW T.f_are_sizes vq (fun vs H Q E h=>?_) (fun f cdv A outer s H vs Q E hr h=>?_)
 ·obtain⟨a,o,S,rfl,_⟩:=h
  rfl
 ·obtain⟨a,o,S,rfl,ha,ho,hlen,k⟩:=h
  refine⟨_,aq (aB (dF (ai (jD T) hr (aO (pv 0) ac (eG T.c_MOST_SIZES)))
   (eg (aM (mX rfl) T.b_all boot_all (ah (cm rfl (bR vq) (fR (pv 0)) (fun _ _ _ _=>ca) (fun _ _ _ _=>ai (nP T) hr (aO (pv 0) ac (eG T.c_MOST_SIZE))))))))),?_⟩
  refine⟨_,rfl,a,_,_,_,rfl,ho.to ha,fun H1 s1=>⟨_,rfl,?_⟩⟩
  have ha1:=s1 _ _ ha
  refine eE (fun h=>?_) (fun h=>?_)
  ·have h':bS 1 12 S.length=true:=by unfold bS;rw[CW] at h;exact h
   refine⟨_,rfl,a,o,_,rfl,ha1,ho,fun J hJ D hD=>?_⟩
   refine f9 hJ (fun i ys H2=>ys=((S.take i).map ip).map V.bl/\ab H1 H2/\H2 D=some (.lst ys)) ⟨rfl,ab.upd hD,ae⟩ (fun i ys H2 ⟨_,s2,d⟩=>⟨d,s2 _ _ ha1⟩) (fun ys H2 ⟨e,s2,d⟩=>?_) (fun i x ys H2 hi hx ⟨e,s2,d⟩=>?_)
   ·rw[CW,Dg] at e
    subst e
    refine⟨D,S.map ip,rfl,.of d,?_⟩
    rw[all_map]
    have k2:=k _ (s1.trans s2)
    unfold eK at k2
    rw[h',Bool.true_and] at k2
    exact k2
   ·obtain⟨n,hn,rfl⟩:=ia hx
    rw[CW] at hi
    refine cI ⟨_,rfl,_,_,_,rfl,bw.mk (by rw[CW];exact hi) (by rw[CW];exact hlen) (by rw[e,CW,CW,Db];omega) d ⟨?_,?_,ae⟩⟩
    ·rw[e,<-my ip hn,C8]
     rfl
    ·exact fun b o z=>by rw[upd_ne (aJ z hD)];exact s2 b o z
  ·have h':bS 1 12 S.length=false:=by unfold bS;rw[CW] at h;exact h
   have k2:=k _ s1
   unfold eK at k2
   rw[h',Bool.false_and] at k2
   exact k2
inductive cZ (H:Hp)(v:V)(s:Lad.Step):Prop
 | mk (r:Addr)(l:Addr)(o1:HO)(o2:HO)(h0_:v=.ref r)(h1_:H r=some o1)(h2_:Ob o1 [.int s.1,.ref l])(h3_:H l=some o2)(h4_:Ob o2 (s.2.map V.int))(h5_:s.2.length<=1000):cZ H v s
theorem cZ.same {H H':Hp}(e:ab H H'){v:V}{s:Lad.Step}(h:cZ H v s):cZ H' v s:=by
 obtain⟨r,l,o1,o2,e1,h1,h2,h3,h4,h5⟩:=h
 exact⟨r,l,o1,o2,e1,e _ _ h1,h2,e _ _ h3,h4,h5⟩
inductive tj (vs:List V)(H:Hp)(Q:VK)(E:XK):Prop
 | mk (v:V)(st:Lad.Step)(h0_:vs=[v])(h1_:cZ H v st)(h2_:∀ H',ab H H'->Q (.bl (dB st)) H'):tj vs H Q E
theorem ya:aA ["value"] ["value"] (aw kJ):=aE
theorem CG (T:Txt K mg C):aK P w K mg base 4 "is_row" ["value"] tj:=by
 refine aW T.f_is_row ya (fun vs H Q E h=>?_) (fun f cdv A outer s H vs Q E hr h=>?_)
 ·obtain⟨v,st,rfl,_⟩:=h
  rfl
 ·obtain⟨v,st,rfl,⟨r,l,o1,o2,rfl,hr1,ho1,hl1,ho2,hlen⟩,k⟩:=h
  refine⟨_,aq (aB (dF (ai (jD T) hr (aO (pv 0) ac ac))
   (dF (ai (lD T) hr (ah (ay cV (pv 0) ac (fun _ _=>rfl)))) (eg (ai (zW T) hr (ah (ay cV (pv 0) ac (fun _ _=>rfl)))))))),?_⟩
  refine⟨_,rfl,r,_,_,_,rfl,ho1.to hr1,fun H1 s1=>⟨_,rfl,bP ?_⟩⟩
  have hr2:=s1 _ _ hr1
  have hl2:=s1 _ _ hl1
  refine⟨_,rfl,r,o1,_,_,_,rfl,rfl,hr2,ho1,rfl,_,rfl,_,rfl,?_⟩
  refine eE (fun h=>?_) (fun h=>?_)
  ·refine⟨_,rfl,r,o1,_,_,_,rfl,rfl,hr2,ho1,rfl,l,o2,st.2,rfl,hl2,ho2,hlen,fun H2 s2=>?_⟩
   have k2:=k _ (s1.trans s2)
   unfold dB fZ at k2
   rw[h,Bool.true_and] at k2
   exact k2
  ·have k2:=k _ s1
   unfold dB fZ at k2
   rw[h,Bool.false_and] at k2
   exact k2
inductive tJ (vs:List V)(H:Hp)(Q:VK)(E:XK):Prop
 | mk (a:Addr)(o:HO)(us:List V)(rows:List Lad.Step)(h0_:vs=[.ref a])(h1_:H a=some o)(h2_:Ob o us)(h3_:Paired (cZ H) us rows)(h4_:rows.length<=1000)(h5_:∀ H',ab H H'->Q (.bl (eQ rows)) H'):tJ vs H Q E
theorem uS:aA ["value"] ["value"] (aw lm):=aE
theorem ze (f:Lad.Step->Bool)(S:List Lad.Step):((S.map f).all id)=S.all f:=by rw[Ex];rfl
theorem AQ (T:Txt K mg C):aK P w K mg base 5 "are_rows" ["value"] tJ:=by
 refine aW T.f_are_rows uS (fun vs H Q E h=>?_) (fun f cdv A outer s H vs Q E hr h=>?_)
 ·obtain⟨a,o,us,rows,rfl,_⟩:=h
  rfl
 ·obtain⟨a,o,us,rows,rfl,ha,ho,hp,hlen,k⟩:=h
  refine⟨_,aq (aB (dF (ai (jD T) hr (aO (pv 0) ac (eG T.c_MOST_ROWS)))
   (eg (aM (mX rfl) T.b_all boot_all (ah (cm rfl (bR uS) (fR (pv 0)) (fun _ _ _ _=>ca) (fun _ _ _ _=>ai (CG T) hr (ah (pv 0))))))))),?_⟩
  have hl:us.length=rows.length:=Paired.length hp
  refine⟨_,rfl,a,_,_,_,rfl,ho.to ha,fun H1 s1=>⟨_,rfl,?_⟩⟩
  have ha1:=s1 _ _ ha
  refine eE (fun h=>?_) (fun h=>?_)
  ·have h':bS 0 4 rows.length=true:=by unfold bS;rw[hl] at h;exact h
   refine⟨_,rfl,a,o,_,rfl,ha1,ho,fun J hJ D hD=>?_⟩
   refine f9 hJ (fun i ys H2=>ys=((rows.take i).map dB).map V.bl/\ab H1 H2/\H2 D=some (.lst ys)) ⟨rfl,ab.upd hD,ae⟩ (fun i ys H2 ⟨_,s2,d⟩=>⟨d,s2 _ _ ha1⟩) (fun ys H2 ⟨e,s2,d⟩=>?_) (fun i x ys H2 hi hx ⟨e,s2,d⟩=>?_)
   ·rw[hl,Dg] at e
    subst e
    refine⟨D,rows.map dB,rfl,.of d,?_⟩
    rw[ze]
    have k2:=k _ (s1.trans s2)
    unfold eQ at k2
    rw[h',Bool.true_and] at k2
    exact k2
   ·obtain⟨st,hn,hst⟩:=Paired.get hp hx
    refine cI ⟨_,rfl,_,st,rfl,(hst.same s1).same s2,fun H3 s3=>bw.mk hi (by omega) (by rw[e,CW,CW,Db];omega) (s3 _ _ d) ⟨?_,?_,ae⟩⟩
    ·rw[e,<-my dB hn,C8]
     rfl
    ·exact fun b o z=>by rw[upd_ne (aJ z hD)];exact s3 b o (s2 b o z)
  ·have h':bS 0 4 rows.length=false:=by unfold bS;rw[hl] at h;exact h
   have k2:=k _ s1
   unfold eQ at k2
   rw[h',Bool.false_and] at k2
   exact k2
inductive tT (vs:List V)(H:Hp)(Q:VK)(E:XK):Prop
 | mk (a:Addr)(o:HO)(ps:List Int)(h0_:vs=[.ref a])(h1_:H a=some o)(h2_:Ob o (ps.map V.int))(h3_:Lad.PartsOk ps)(h4_:ps.length<=1000)(h5_:∀ l H',ab H H'->H l=none->H' l=some (.lst ((Lad.bars ps).map V.int))->Q (.ref l) H'):tT vs H Q E
theorem kG:aA ["parts","lengths","part"] ["parts"] (aw mL):=aE
theorem z5 (acc:List Int)(p:Int):(Lad.addPart acc p).length<=acc.length+1:=by
 unfold Lad.addPart
 split
 ·simp
 ·rw[C7,List.length_dropLast,Dp];omega
theorem t9:∀ (ps acc:List Int),(ps.foldl Lad.addPart acc).length<=acc.length+ps.length
 | [],acc=>by simp
 | p::r,acc=>by
  rw[Dh,C4]
  have h1:=t9 r (Lad.addPart acc p)
  have h2:=z5 acc p
  omega
theorem oO:∀ (ps acc:List Int),acc≠[]->ps.foldl Lad.addPart acc≠[]
 | [],acc,h=>h
 | p::r,acc,h=>by
  rw[Dh]
  refine oO r _ ?_
  unfold Lad.addPart
  split <;> simp
theorem Ag (T:Txt K mg C):aK P w K mg base 1 "bar_lengths" ["parts"] tT:=by
 refine aW T.f_bar_lengths kG (fun vs H Q E h=>?_) (fun f cdv A outer s H vs Q E hr h=>?_)
 ·obtain⟨a,o,ps,rfl,_⟩:=h
  rfl
 ·obtain⟨a,o,ps,rfl,ha,ho,hok,hlen,k⟩:=h
  refine⟨_,am (aG (i:=1) kG.nd rfl (Or.inl rfl) (bO cT))
   (am (cP PassesOwn.never rfl (fR (pv 0)) (ba (i:=2) kG.nd rfl (Or.inl rfl))
    (aq (bJ (bU gy (pv 2) ac (bD _))
     (aq (b8 (qx PySem.F.plainAttrs_list PySem.F.slot_list_append PySem.F.type_list_append er (pv 1) (ah (pv 2)))))
     (aq (Am (pv 1) (eL eM ac) CM (pv 2) tL iR)))))
   (aq (aB (pv 1)))),?_⟩
  refine⟨EX _,fun l hl=>?_⟩
  have s1:∀ o,ab H (upd H l o):=fun o=>ab.upd hl
  refine⟨_,rfl,a,o,_,rfl,s1 _ _ _ ha,ho,fun J hJ=>Cu hJ (fun i σ H2=>∃ v,σ=[some (.ref a),some (.ref l),v]/\ab H H2/\H2 l=some (.lst (((ps.take i).foldl Lad.addPart []).map V.int)))
   ⟨none,rfl,s1 _,ae⟩ (fun i σ H2 _ ⟨_,_,s2,_⟩=>s2 _ _ ha) ?_ ?_⟩
  ·rintro i x σ H2 hx ⟨v,rfl,s2,d⟩
   obtain⟨n,hn,rfl⟩:=ia hx
   have hi:i<ps.length:=(List.getElem?_eq_some_iff.mp hn).1
   have hfl:=t9 (ps.take i) []
   rw[Db,DM] at hfl
   have e1:(ps.take (i+1)).foldl Lad.addPart []=Lad.addPart ((ps.take i).foldl Lad.addPart []) n:=by
    rw[C9,hn,Eh]
    rfl
   refine⟨_,rfl,_,_,rfl,rfl,_,rfl,?_⟩
   refine j8 (fun hc=>?_) (fun hc=>?_)
   ·have hc:0<n:=of_decide_eq_true hc
    refine⟨_,rfl,.inl ⟨rfl,_,.of d⟩,_,rfl,l,_,_,rfl,rfl,d,cR (by rw[CW];omega),_,rfl,?_,?_⟩
    ·exact fun b o z=>by rw[upd_ne (aJ z hl)];exact s2 b o z
    ·rw[ae,e1]
     unfold Lad.addPart
     rw[if_pos hc,C8]
     rfl
   ·have hc:¬ 0<n:=fun z=>hc (decide_eq_true z)
    have hi0:i≠0:=by
     rintro rfl
     obtain⟨_,p,r,rfl,hp⟩:=hok
     have:n=p:=by simpa using hn.symm
     omega
    have hne:(ps.take i).foldl Lad.addPart []≠[]:=by
     obtain⟨hz,p,r,rfl,hp⟩:=hok
     obtain⟨j,rfl⟩:∃ j,i=j+1:=⟨i-1,by omega⟩
     rw[DS,Dh]
     refine oO _ _ ?_
     unfold Lad.addPart
     rw[if_pos hp]
     simp
    generalize hL:(ps.take i).foldl Lad.addPart []=L at *
    obtain⟨L0,z,rfl⟩:∃ L0 z,L=L0++[z]:=⟨L.dropLast,L.getLast hne,(Ey hne).symm⟩
    have ez:(L0++[z]).map V.int=L0.map V.int++[V.int z]:=by rw[C8];rfl
    rw[ez] at d
    have eix:cz (L0.map V.int++[V.int z]).length (-1)=some L0.length:=by
     unfold cz
     rw[if_neg (by omega),C7,CW,Dp,if_pos (by omega)]
     congr 1
     omega
    refine⟨_,rfl,_,rfl,l,_,_,_,rfl,rfl,.of d,jd _ _,_,rfl,_,_,rfl,rfl,l,_,_,_,rfl,rfl,d,eix,_,rfl,?_,?_⟩
    ·exact fun b o q=>by rw[upd_ne (aJ q hl)];exact s2 b o q
    ·rw[ae,e1]
     unfold Lad.addPart
     rw[if_neg hc]
     congr 2
     rw[C8,List.dropLast_concat,List.getLastD_concat,Ez _ _ (by rw[CW];exact EU _),CW,Fg]
     rfl
  ·rintro σ H2 ⟨v,rfl,s2,d⟩
   rw[CW,Dg,Lad.foldl_bars hok] at d
   exact⟨_,rfl,k l H2 s2 hl d⟩
def fQ (a o c:Addr):List (Str×V):=bN "steps" (.ref c) (bN "open_lengths" (.ref o) (bN "part_lengths" (.ref a) []))
theorem mf (a o c:Addr):(fQ a o c).lookup ("steps" : Str)=some (.ref c):=by
 unfold fQ;rw[iq,if_pos rfl]
theorem dO (a o c:Addr){m:Str}(h1:¬ m="steps")(h2:¬ m="open_lengths")(h3:¬ m="part_lengths"):(fQ a o c).lookup m=none:=by
 unfold fQ
 rw[iq,if_neg h1,iq,if_neg h2,iq,if_neg h3]
 rfl
inductive dM (H:Hp)(v:V)(s:Lad.Step):Prop
 | mk (r:Addr)(l:Addr)(h0_:v=.ref r)(h1_:H r=some (.tup [.int s.1,.ref l]))(h2_:H l=some (.tup (s.2.map V.int))):dM H v s
theorem dM.same {H H':Hp}(e:ab H H'){v:V}{s:Lad.Step}(h:dM H v s):dM H' v s:=by
 obtain⟨r,l,e1,h1,h2⟩:=h
 exact⟨r,l,e1,e _ _ h1,e _ _ h2⟩
theorem cZ.but {p:Addr}{H H':Hp}(e:ax p H H'){C dx:Addr}{fs:List (Str×V)}(hp:H p=some (.ins C dx fs)){v:V}{s:Lad.Step}(h:cZ H v s):cZ H' v s:=by
 obtain⟨r,l,o1,o2,e1,h1,h2,h3,h4,h5⟩:=h
 exact⟨r,l,o1,o2,e1,e _ _ h1 (h2.ne h1 hp),h2,e _ _ h3 (h4.ne h3 hp),h4,h5⟩
theorem dM.but {p:Addr}{H H':Hp}(e:ax p H H'){C dx:Addr}{fs:List (Str×V)}(hp:H p=some (.ins C dx fs)){v:V}{s:Lad.Step}(h:dM H v s):dM H' v s:=by
 obtain⟨r,l,e1,h1,h2⟩:=h
 exact⟨r,l,e1,e _ _ h1 (cW h1 hp (by intro z;cases z)),e _ _ h2 (cW h2 hp (by intro z;cases z))⟩
inductive bu (C:Addr)(H:Hp)(p:Addr)(b:Int)(ps:List Int)(rows:List Lad.Step):Prop
 | mk (dx:Addr)(a:Addr)(o:Addr)(c:Addr)(us:List V)(h0_:H p=some (.ins C dx (fQ a o c)))(h1_:H a=some (.tup (ps.map V.int)))(h2_:H o=some (.tup ((Lad.opens ps).map V.int)))(h3_:H c=some (.tup us))(h4_:Paired (dM H) us ((b,Lad.bars ps)::rows)):bu C H p b ps rows
theorem bu.same {C:Addr}{H H':Hp}{p:Addr}{b:Int}{ps:List Int}{rows:List Lad.Step}(h:bu C H p b ps rows)(e:ab H H'):bu C H' p b ps rows:=by
 obtain⟨dx,a,o,c,us,h1,h2,h3,h4,h5⟩:=h
 exact⟨dx,a,o,c,us,e _ _ h1,e _ _ h2,e _ _ h3,e _ _ h4,Paired.mono (fun _ _ x=>x.same e) h5⟩
structure cf (b:Int)(ps:List Int)(rows:List Lad.Step):Prop where
 b:fZ b=true
 p:eh ps=true
 r:eQ rows=true
theorem qf {ps:List Int}(h:eh ps=true):Lad.PartsOk ps/\ps.length<=12/\∀ p∈ps,-1000000000<=p/\p<=1000000000:=by
 unfold eh bS at h
 simp only[Bool.and_eq_true,decide_eq_true_eq,Dq] at h
 obtain⟨⟨h1,h2⟩,h3,h4⟩:=h
 have hp:∀ p∈ps,(-1000000000<=p/\p<=1000000000)/\p≠0:=fun p hp=>by
  have:=h3 p hp
  unfold dR at this
  simpa using this
 refine⟨⟨fun p hq=>(hp p hq).2,?_⟩,by omega,fun p hq=>(hp p hq).1⟩
 unfold iX at h4
 cases ps with
 | nil=>simp at h1
 | cons p r=>exact⟨p,r,rfl,by simpa using h4⟩
theorem wZ {S:List Int}(h:eK S=true):Lad.Good S/\S.length<=12/\∀ v∈S,v<=1000:=by
 unfold eK bS at h
 simp only[Bool.and_eq_true,decide_eq_true_eq,Dq] at h
 obtain⟨⟨h1,h2⟩,h3⟩:=h
 have hp:∀ p∈S,1<=p/\p<=1000:=fun p hp=>by
  have:=h3 p hp
  unfold ip at this
  simpa using this
 refine⟨⟨fun e=>?_,fun v hv=>(hp v hv).1⟩,by omega,fun v hv=>(hp v hv).2⟩
 rw[e] at h1
 simp at h1
theorem qH {i:Int}(h:fZ i=true) : -aN<i/\i<aN:=by
 unfold fZ at h
 simpa using h
theorem ik {rows:List Lad.Step}(h:eQ rows=true):rows.length<=4/\∀ s∈rows,dB s=true:=by
 unfold eQ bS at h
 simp only[Bool.and_eq_true,decide_eq_true_eq,Dq] at h
 exact⟨by omega,h.2⟩
theorem nj:∀ {S:List Int}{B:Int},(∀ v∈S,v<=B)->S.sum<=B*(S.length:Int)
 | [],B,_=>by simp
 | v::r,B,h=>by
  have h1:=nj (S:=r) (B:=B) fun x hx=>h x (C5 _ hx)
  have h2:=h v C6
  rw[Dd,C4,FF,Int.mul_add]
  omega
theorem xF {S:List Int}(h:eK S=true):iM S:=by
 obtain⟨g,n,v⟩:=wZ h
 refine⟨g,by omega,?_⟩
 have:=nj v
 omega
theorem xX {ps:List Int}(h:∀ p∈ps,-1000000000<=p/\p<=1000000000):Lad.total ps<=1000000000*(ps.length:Int):=by
 have:∀ v∈ps.map Lad.absI,v<=1000000000:=fun v hv=>by
  obtain⟨p,hp,rfl⟩:=List.mem_map.mp hv
  have:=h p hp
  unfold Lad.absI
  split <;> omega
 have:=nj this
 rw[CW] at this
 exact this
theorem Cq (ps:List Int):(Lad.opens ps).length<=ps.length:=Dl _ _
theorem AW {ps:List Int}(h:eh ps=true):iM (Lad.bars ps):=by
 obtain⟨ok,n,v⟩:=qf h
 have h1:=xX v
 have h2:=Cq ps
 refine⟨Lad.bars_good ok,?_,?_⟩
 ·rw[Lad.bars_len ok];omega
 ·rw[Lad.bars_sum ok];omega
theorem cf.steps {b:Int}{ps:List Int}{rows:List Lad.Step}(h:cf b ps rows):∀ s∈(b,Lad.bars ps)::rows,iM s.2/\-aN<s.1/\s.1<aN:=fun s hs=>by
 rcases List.mem_cons.mp hs with e|hs
 ·rw[e]
  exact⟨AW h.p,qH h.b⟩
 ·have:=(ik h.r).2 s hs
  unfold dB at this
  rw[Bool.and_eq_true] at this
  exact⟨xF this.2,qH this.1⟩
theorem ax.same {p:Addr}{H H1 H2:Hp}(a:ax p H H1)(b:ab H1 H2):ax p H H2:=fun c o h n=>b c o (a c o h n)
theorem ax.upd {p:Addr}{H:Hp}{o:HO}:ax p H (upd H p o):=fun c u h n=>by rw[upd_ne n];exact h
theorem zt {S:List Int}{i:Nat}{n:Int}(f:Int->Bool)(e:S[i]?=some n):(S.take (i+1)).filter f=(S.take i).filter f++(if f n then [n] else []):=by
 rw[C9,e,DW]
 cases h:f n <;> simp[h]
inductive pY (C:Addr)(vs:List V)(H:Hp)(Q:VK)(E:XK):Prop
 | mk (p:Addr)(dx:Addr)(b:Int)(pa:Addr)(po:HO)(ps:List Int)(ra:Addr)(ro:HO)(us:List V)(rows:List Lad.Step)(h0_:vs=[.ref p,.int b,.ref pa,.ref ra])(h1_:H p=some (.ins C dx []))(h2_:H pa=some po)(h3_:Ob po (ps.map V.int))(h4_:H ra=some ro)(h5_:Ob ro us)(h6_:Paired (cZ H) us rows)(h7_:cf b ps rows)(h8_:∀ H',ax p H H'->bu C H' p b ps rows->Q .non H'):pY C vs H Q E
theorem jW:aA ["self","begin","parts","rows","lowest"] ["self","begin","parts","rows"] (aw jx):=aE
theorem AK (T:Txt K mg C){f:Addr}{fd:Gy}(F:bq K "__init__" "Ladder.__init__" jx f fd):ce P w K mg base cH 6 f fd ["self","begin","parts","rows"] (pY C):=by
 refine F.ok jW (fun vs H Q E h=>?_) (fun cdv A outer s H vs Q E hr h=>?_)
 ·obtain⟨p,dx,b,pa,po,ps,ra,ro,us,rows,rfl,_⟩:=h
  rfl
 ·obtain⟨p,dx,b,pa,po,ps,ra,ro,us,rows,rfl,hp,hpa,hpo,hra,hro,hrows,ok,k⟩:=h
  obtain⟨pok,plen,_⟩:=qf ok.p
  obtain⟨rlen,_⟩:=ik ok.r
  have hul:us.length=rows.length:=Paired.length hrows
  refine⟨_,am (bJ (eY (jV (eX (ai (lD T) hr (ah (pv 1)))) (jV (eX (ai (B6 T) hr (ah (pv 2)))) (nq (eX (ai (AQ T) hr (ah (pv 3))))))).pt) ii bQ)
   (am (jg (pv 0) (cq fO T.b_tuple Il (ah (pv 2))) rfl)
   (am (jg (pv 0) (cq fO T.b_tuple Il (ah (cm rfl (bR jW) (fR (pv 2)) (fun _ _ _ _=>ju (bU gy (pv 0) ac (bD _))) (fun _ _ _ _=>pv 0)))) rfl)
   (am (aG (i:=4) jW.nd rfl (Or.inl rfl) (be (ao (pv 1) (cq fO T.b_tuple Il (ah (ai (Ag T) hr (ah (pv 2))))))))
   (aq (jg (pv 0) (cq fO T.b_tuple Il (ah (au mo (bO (ah (pv 4)))
    (cm rfl (bR jW) (fR (pv 3)) (fun _ _ _ _=>ca) (fun _ _ _ _=>be (ao (ay cV (pv 0) ac (fun _ _=>rfl)) (cq fO T.b_tuple Il (ah (ay cV (pv 0) ac (fun _ _=>rfl)))))))))) rfl))))),?_⟩
  have wb:(decide (-aN<b) && decide (b<aN))=true:=ok.b
  refine⟨_,rfl,b,rfl,_,rfl,?_⟩
  rw[wb]
  refine bP ⟨_,rfl,pa,po,ps,rfl,hpa,hpo,by omega,fun H0 s0=>⟨_,rfl,?_⟩⟩
  rw[ok.p]
  refine bP ⟨_,rfl,ra,ro,us,rows,rfl,s0 _ _ hra,hro,Paired.mono (fun _ _ x=>x.same s0) hrows,by omega,fun H1 s1'=>⟨_,rfl,?_⟩⟩
  rw[ok.r]
  refine bK ?_
  have s1:ab H H1:=s0.trans s1'
  have hp1:=s1 _ _ hp
  have hpa1:=s1 _ _ hpa
  refine⟨_,rfl,pa,po,_,rfl,hpa1,hpo,fun l1 H2 s2 hl1=>?_⟩
  have hp2:=s2 _ _ hp1
  have n1:p≠l1:=cW hp2 hl1 (by intro z;cases z)
  refine⟨_,rfl,p,C,dx,_,rfl,hp2,T.cl,T.n_part_lengths,(by show 0<1000;decide),?_⟩
  generalize hH3:upd H2 p _=H3
  have b3:ax p H1 H3:=by rw[<-hH3];exact s2.but.trans ax.upd
  have hp3:H3 p=some (.ins C dx (bN "part_lengths" (.ref l1) [])):=by rw[<-hH3];exact ae
  have hl13:H3 l1=some (.tup (ps.map V.int)):=by rw[<-hH3,upd_ne (Ne.symm n1)];exact hl1
  have hpa3:H3 pa=some po:=b3 _ _ hpa1 (hpo.ne hpa1 hp1)
  clear hH3
  refine⟨_,rfl,pa,po,_,rfl,hpa3,hpo,fun J hJ D hD=>?_⟩
  refine f9 hJ (fun i ys H4=>ys=((ps.take i).filter fun q=>decide (0<q)).map V.int/\ab H3 H4/\H4 D=some (.lst ys)) ⟨rfl,ab.upd hD,ae⟩ (fun i ys H4 ⟨_,s4,d⟩=>⟨d,s4 _ _ hpa3⟩) (fun ys H4 ⟨e,s4,d⟩=>?_) (fun i x ys H4 hi hx ⟨e,s4,d⟩=>?_)
  case refine_2 =>
   obtain⟨n,hn,rfl⟩:=ia hx
   rw[CW] at hi
   refine⟨_,rfl,_,_,rfl,rfl,_,rfl,?_⟩
   have e2:=zt (fun q=>decide (0<q)) hn
   refine eE (fun hc=>?_) (fun hc=>?_)
   ·refine⟨_,rfl,bw.mk (by rw[CW];exact hi) (by rw[CW];omega) (by rw[e,CW];exact EY (Dl _ _) (by rw[Db];omega)) d ⟨?_,?_,ae⟩⟩
    ·rw[e2,if_pos hc,e,C8]
     rfl
    ·exact fun b o z=>by rw[upd_ne (aJ z hD)];exact s4 b o z
   ·refine cN.mk (by rw[CW];exact hi) ⟨?_,s4,d⟩
    rw[e2,if_neg (by rw[hc];exact Bool.false_ne_true),e,DJ]
  rw[CW,Dg] at e
  subst e
  refine⟨D,_,_,rfl,d,.inl rfl,fun l2 H4' s4' hl2=>?_⟩
  have hp4:=s4' _ _ (s4 _ _ hp3)
  have n2:p≠l2:=cW hp4 hl2 (by intro z;cases z)
  refine⟨_,rfl,p,C,dx,_,rfl,hp4,T.cl,T.n_open_lengths,(by show 1<1000;decide),?_⟩
  generalize hH5:upd H4' p _=H5
  have b5:ax p H4 H5:=by rw[<-hH5];exact s4'.but.trans ax.upd
  have hp5:H5 p=some (.ins C dx (bN "open_lengths" (.ref l2) (bN "part_lengths" (.ref l1) []))):=by rw[<-hH5];exact ae
  have hl25:H5 l2=some (.tup ((Lad.opens ps).map V.int)):=by rw[<-hH5,upd_ne (Ne.symm n2)];exact hl2
  have hl15:H5 l1=some (.tup (ps.map V.int)):=b5 _ _ (s4 _ _ hl13) (Ne.symm n1)
  have hpa5:H5 pa=some po:=b5 _ _ (s4 _ _ hpa3) (hpo.ne hpa1 hp1)
  have b15:ax p H1 H5:=(b3.trans s4.but).trans b5
  clear hH5
  refine⟨_,rfl,_,rfl,pa,po,ps,rfl,hpa5,hpo,pok,by omega,fun l3 H6 s6 hl3 h6=>?_⟩
  refine⟨l3,_,_,rfl,h6,.inl rfl,fun l4 H6' s6' hl4=>⟨bE,fun l5 hl5=>?_⟩⟩
  generalize hH7:upd H6' l5 _=H7
  have s7:ab H6 H7:=by rw[<-hH7];exact s6'.trans (ab.upd hl5)
  have hl47:H7 l4=some (.tup ((Lad.bars ps).map V.int)):=by rw[<-hH7];exact ab.upd hl5 _ _ hl4
  have hl57:H7 l5=some (.tup [.int b,.ref l4]):=by rw[<-hH7];exact ae
  have s57:ab H5 H7:=s6.trans s7
  have b17:ax p H1 H7:=ax.same b15 s57
  have hra7:H7 ra=some ro:=b17 _ _ (s1 _ _ hra) (hro.ne hra hp)
  have hrows7:Paired (cZ H7) us rows:=Paired.mono (fun _ _ x=>cZ.but b17 hp1 (x.same s1)) hrows
  clear hH7
  refine⟨_,rfl,Nat.succ_le_of_lt (cR (by decide)),fun l6 hl6=>?_⟩
  have s8:∀ o,ab H7 (upd H7 l6 o):=fun o=>ab.upd hl6
  generalize hH8:upd H7 l6 _=H8
  have s78:ab H7 H8:=by rw[<-hH8];exact s8 _
  have hl68:H8 l6=some (.lst [.ref l5]):=by rw[<-hH8];exact ae
  clear hH8
  have hra8:=s78 _ _ hra7
  refine⟨_,rfl,ra,ro,_,rfl,hra8,hro,fun J2 hJ2 D2 hD2=>?_⟩
  refine f9 hJ2 (fun i ys H9=>Paired (dM H9) ys (rows.take i)/\ab H8 H9/\H9 D2=some (.lst ys)) ⟨.nil,ab.upd hD2,ae⟩ (fun i ys H9 ⟨_,s9,d⟩=>⟨d,s9 _ _ hra8⟩) (fun ys H9 ⟨e,s9,d9⟩=>?_) (fun i x ys H9 hi hx ⟨e,s9,d9⟩=>?_)
  case refine_2 =>
   obtain⟨st,hn,r,l,o1,o2,rfl,hr1,ho1,hl1',ho2,_⟩:=Paired.get hrows7 hx
   have hr9:=s9 _ _ (s78 _ _ hr1)
   have hl9:=s9 _ _ (s78 _ _ hl1')
   have hyl:ys.length=(rows.take i).length:=Paired.length e
   rw[Db] at hyl
   refine cI ⟨_,rfl,r,o1,_,_,_,rfl,rfl,hr9,ho1,rfl,_,rfl,r,o1,_,_,_,rfl,rfl,hr9,ho1,rfl,l,o2,_,rfl,hl9,ho2,fun m1 H10 t1 hm1=>⟨bE,fun m2 hm2=>?_⟩⟩
   have t2:∀ o',ab H9 (upd H10 m2 o'):=fun o'=>t1.trans (ab.upd hm2)
   have d10:=t1 _ _ d9
   have nD1:D2≠m1:=cW d10 hm1 (by intro z;cases z)
   have nD2:D2≠m2:=aJ d10 hm2
   refine bw.mk hi (by omega) (by omega) (t2 _ _ _ d9) ⟨?_,?_,ae⟩
   ·have e3:rows.take (i+1)=rows.take i++[st]:=by rw[C9,hn];rfl
    rw[e3]
    have up:∀ {v:V}{s':Lad.Step},dM H9 v s'->dM (upd (upd H10 m2 (.tup [.int st.1,.ref m1])) D2 (.lst (ys++[.ref m2]))) v s':=fun {v s'} ⟨r',l',e',q1,q2⟩ =>
     ⟨r',l',e',by rw[upd_ne (cW q1 d9 (by intro z;cases z))];exact t2 _ _ _ q1,by rw[upd_ne (cW q2 d9 (by intro z;cases z))];exact t2 _ _ _ q2⟩
    refine Paired.snoc (Paired.mono (fun _ _ x=>up x) e) ⟨m2,m1,rfl,?_,?_⟩
    ·rw[upd_ne (Ne.symm nD2),ae]
    ·rw[upd_ne (Ne.symm nD1)];exact ab.upd hm2 _ _ hm1
   ·exact fun b o z=>by rw[upd_ne (aJ z hD2)];exact t2 _ _ _ (s9 b o z)
  rw[hul,Dg] at e
  have hyl:ys.length=rows.length:=Paired.length e
  have hl69:=s9 _ _ hl68
  refine⟨l6,D2,_,_,rfl,rfl,hl69,d9,E7 (cR (by rw[Dp];omega)),fun l7 hl7=>?_⟩
  refine⟨l7,_,_,rfl,ae,.inl rfl,fun l8 H10 s10' hl8=>?_⟩
  have s10:ab H9 H10:=(ab.upd hl7).trans s10'
  have s59:ab H5 H9:=(s57.trans s78).trans s9
  have hp9:H9 p=some (.ins C dx (bN "open_lengths" (.ref l2) (bN "part_lengths" (.ref l1) []))):=s59 _ _ hp5
  have n8:p≠l8:=cW (s10 _ _ hp9) hl8 (by intro z;cases z)
  refine⟨_,rfl,p,C,dx,_,rfl,s10 _ _ hp9,T.cl,T.n_steps,(by show 2<1000;decide),?_⟩
  generalize hH11:upd H10 p _=H11
  have b11:ax p H9 H11:=by rw[<-hH11];exact s10.but.trans ax.upd
  have hp11:H11 p=some (.ins C dx (fQ l1 l2 l8)):=by rw[<-hH11];exact ae
  have hl811:H11 l8=some (.tup (.ref l5::ys)):=by rw[<-hH11,upd_ne (Ne.symm n8)];exact hl8
  have b511:∀ c o,H5 c=some o->c≠p->H11 c=some o:=fun c o h n=>b11 _ _ (s59 _ _ h) n
  have nl:∀ {c:Addr}{xs:List V},H9 c=some (.tup xs)->c≠p:=fun h=>cW h hp9 (by intro z;cases z)
  refine k H11 (fun c o h n=>b511 c o (b15 c o (s1 c o h) n) n) ⟨dx,l1,l2,l8,_,hp11,b511 _ _ hl15 (Ne.symm n1),b511 _ _ hl25 (Ne.symm n2),hl811,.cons ⟨l5,l4,rfl,?_,?_⟩ (Paired.mono (fun _ _ x=>dM.but b11 hp9 x) e)⟩
  ·have z:=s9 _ _ (s78 _ _ hl57)
   exact b11 _ _ z (nl z)
  ·have z:=s9 _ _ (s78 _ _ hl47)
   exact b11 _ _ z (nl z)
theorem BW {α:Type}{xs:List α}{k:Int}(h0:0<=k)(h:HT.sIx xs.length xs.length (some k)=xs.length):xs.take k.toNat=xs:=by
 obtain⟨n,rfl⟩:∃ n:Nat,k=n:=⟨k.toNat,by omega⟩
 rw[HT.sIx_nat] at h
 rw[Fs,Df (by omega)]
theorem vG {X:Cx}:iK X (fun x lo hi H Q=>∃ a us n,x=.ref a/\H a=some (.tup us)/\lo=none/\hi=some n/\0<=n/\∀ t H1,ab H H1->H1 t=some (.tup (us.take n.toNat))->Q (.ref t) H1):=by
 intro pins s σ H x v vl vu lo hi sl Q I rx hs pl pu h
 obtain⟨a,us,n,rfl,ha,rfl,rfl,hn,k⟩:=h
 refine Co pins s σ H _ v vl vu none (some n) sl Q I rx hs pl pu ⟨a,us,rfl,.of ha,fun hw=>?_,fun t ht=>?_⟩
 ·refine k a H (ab.refl _) ?_
  rw[BW hn hw.2]
  exact ha
 ·refine k t _ (ab.upd ht) ?_
  rw[ae,r9 _ hn]
inductive qy (C:Addr)(vs:List V)(H:Hp)(Q:VK)(E:XK):Prop
 | mk (p:Addr)(b:Int)(ps:List Int)(rows:List Lad.Step)(h0_:vs=[.ref p])(h1_:bu C H p b ps rows)(h2_:Q (.int ((rows.length+1:Nat):Int)) H):qy C vs H Q E
theorem Bj:aA ["self"] ["self"] (aw kL):=aE
theorem io (T:Txt K mg C):dU P w K mg base C 1 "rolls" ["self"] (qy C):=by
 refine fC T.m_rolls Bj (fun vs H Q E h=>?_) (fun f cdv A outer s H vs Q E hr h=>?_)
 ·obtain⟨p,b,ps,rows,rfl,_⟩:=h
  rfl
 ·obtain⟨p,b,ps,rows,rfl,⟨dx,a,o,c,us,h1,h2,h3,h4,h5⟩,k⟩:=h
  refine⟨_,aq (aB (aM iL T.b_len Im (ah (ko (pv 0) rfl)))),?_⟩
  refine⟨_,rfl,p,C,dx,_,_,rfl,h1,T.cl,T.n_steps,mf _ _ _,c,us,rfl,.inr (.of h4),?_⟩
  have e:us.length=rows.length+1:=Paired.length h5
  rw[e]
  exact k
def et (b:Int)(ps:List Int)(rows:List Lad.Step)(r:Int):List Lad.Step:=((b,Lad.bars ps)::rows).take (r+1).toNat
inductive qd (C:Addr)(vs:List V)(H:Hp)(Q:VK)(E:XK):Prop
 | mk (p:Addr)(r:Int)(n:Int)(b:Int)(ps:List Int)(rows:List Lad.Step)(h0_:vs=[.ref p,.int r,.int n])(h1_:bu C H p b ps rows)(h2_:cf b ps rows)(h3_:0<=r)(h4_:r<=(rows.length:Int))(h5_:∀ H',ab H H'->Q (.int (Lad.down (et b ps rows r) n)) H'):qd C vs H Q E
theorem i4:aA ["self","roll","number","place","begin","sizes"] ["self","roll","number"] (aw nT):=aE
theorem Cw (st:List Lad.Step)(n:Int){i:Nat}{s:Lad.Step}(h:st[i]?=some s):Lad.down (st.drop i) n=Lad.fst s.1 s.2 (Lad.down (st.drop (i+1)) n):=by
 have hi:i<st.length:=(List.getElem?_eq_some_iff.mp h).1
 rw[DU hi]
 have e:st[i]=s:=(List.getElem?_eq_some_iff.mp h).2
 rw[e]
 rfl
theorem vc (T:Txt K mg C):dU P w K mg base C 2 "first_moment" ["self","roll","number"] (qd C):=by
 refine fC T.m_first_moment i4 (fun vs H Q E h=>?_) (fun f cdv A outer s H vs Q E hr h=>?_)
 ·obtain⟨p,r,n,b,ps,rows,rfl,_⟩:=h
  rfl
 ·obtain⟨p,r,n,b,ps,rows,rfl,L,ok,r0,r1,k⟩:=h
  obtain⟨dx,a,o,c,us,h1,h2,h3,h4,h5⟩:=id L
  refine⟨_,am (aG (i:=3) i4.nd rfl (Or.inl rfl) (pv 2))
   (am (cP PassesOwn.never rfl (vU rfl T.b_reversed (ah (kW vG (ko (pv 0) rfl) mH (lI (au cg (pv 1) ac)))))
     (i9 rfl (bI (ba (i:=4) i4.nd rfl (Or.inl rfl)) (bI (ba (i:=5) i4.nd rfl (Or.inl rfl)) dQ)))
     (aq (aG (i:=3) i4.nd rfl (Or.inl rfl) (ai (z6 T) hr (aO (pv 4) (pv 5) (pv 3))))))
   (aq (aB (pv 3)))),?_⟩
  refine⟨_,rfl,?_⟩
  refine⟨_,rfl,p,C,dx,_,_,rfl,h1,T.cl,T.n_steps,mf _ _ _,_,rfl,_,_,rfl,rfl,_,rfl,c,us,_,rfl,h4,rfl,rfl,by omega,fun t H1 s1 ht=>?_⟩
  have hlt:(us.take (r+1).toNat).length=(((b,Lad.bars ps)::rows).take (r+1).toNat).length:=Paired.length (Paired.take _ h5)
  refine⟨t,us.take (r+1).toNat,rfl,.of ht,BA (K:=K) (a:=t) (xs:=us.take (r+1).toNat) (fun i σ H2=>i<=(us.take (r+1).toNat).length/\∃ x y,σ=[some (.ref p),some (.int r),some (.int n),some (.int (Lad.down ((((b,Lad.bars ps)::rows).take (r+1).toNat).drop ((us.take (r+1).toNat).length-i)) n)),x,y]/\ab H1 H2)
    ⟨EX _,none,none,by rw[Ff,hlt,List.drop_length];rfl,ab.refl _⟩ (fun i σ H2 _ ⟨_,_,_,_,s2⟩=>.of (s2 _ _ ht)) ?_ ?_⟩
  ·rintro i x σ H2 hi hx ⟨_,x0,y0,rfl,s2⟩
   obtain⟨st,hst,r',l',rfl,hr',hl'⟩:=Paired.get (Paired.take (r+1).toNat h5) hx
   have hr2:=s2 _ _ (s1 _ _ hr')
   have hl2:=s2 _ _ (s1 _ _ hl')
   have hmem:st∈(b,Lad.bars ps)::rows:=DO (De hst)
   refine⟨r',_,rfl,.of hr2,rfl,_,_,rfl,_,_,rfl,rfl,?_⟩
   refine⟨_,rfl,_,rfl,_,rfl,_,l',st.2,_,rfl,hl2,(ok.steps st hmem).1,fun H3 s3=>?_⟩
   refine⟨hi,some (.int st.1),some (.ref l'),?_,s2.trans s3⟩
   have e:=Cw (((b,Lad.bars ps)::rows).take (r+1).toNat) n hst
   have e2:(us.take (r+1).toNat).length-1-i+1=(us.take (r+1).toNat).length-i:=by omega
   have e3:(us.take (r+1).toNat).length-1-i=(us.take (r+1).toNat).length-(i+1):=by omega
   rw[e2,e3] at e
   rw[e]
   rfl
  ·rintro σ H2 ⟨_,x0,y0,rfl,s2⟩
   refine⟨_,rfl,?_⟩
   rw[Fg,Ew]
   exact k H2 (s1.trans s2)
inductive qB (C:Addr)(vs:List V)(H:Hp)(Q:VK)(E:XK):Prop
 | mk (p:Addr)(r:Int)(n:Int)(b:Int)(ps:List Int)(rows:List Lad.Step)(h0_:vs=[.ref p,.int r,.int n])(h1_:bu C H p b ps rows)(h2_:cf b ps rows)(h3_:0<=r)(h4_:r<=(rows.length:Int))(h5_ : -cu<n)(h6_:n<cu)(h7_:∀ t H',ab H H'->H' t=some (.tup [.int (Lad.down (et b ps rows r) n),.int (Lad.down (et b ps rows r) (n+1))])->Q (.ref t) H'):qB C vs H Q E
theorem xj:aA ["self","roll","number"] ["self","roll","number"] (aw mW):=aE
theorem ph (T:Txt K mg C):dU P w K mg base C 4 "stretch" ["self","roll","number"] (qB C):=by
 refine fC T.m_stretch xj (fun vs H Q E h=>?_) (fun f cdv A outer s H vs Q E hr h=>?_)
 ·obtain⟨p,r,n,b,ps,rows,rfl,_⟩:=h
  rfl
 ·obtain⟨p,r,n,b,ps,rows,rfl,L,ok,r0,r1,n0,n1,k⟩:=h
  obtain⟨dx,a,o,c,us,h1,h2,h3,h4,h5⟩:=id L
  refine⟨_,am (b8 (ai (jv T) hr (aO (pv 1) ac (au bV (gH (pv 0) T.cl (io T) hr) ac))))
   (am (b8 (ai (rK T) hr (ah (pv 2))))
   (aq (aB (be (ao (df (pv 0) T.cl (vc T) hr (ao (pv 1) (pv 2))) (df (pv 0) T.cl (vc T) hr (ao (pv 1) (au cg (pv 2) ac)))))))),?_⟩
  have nof:(fQ a o c).lookup ("first_moment" : Str)=none:=dO _ _ _ (by decide +kernel) (by decide +kernel) (by decide +kernel)
  refine⟨_,rfl,_,rfl,p,dx,_,rfl,h1,dO _ _ _ (by decide +kernel) (by decide +kernel) (by decide +kernel),p,b,ps,rows,rfl,L,_,_,rfl,rfl,_,_,_,rfl,r0,by omega,?_⟩
  refine⟨_,rfl,n,rfl,n0,n1,?_⟩
  refine⟨_,rfl,p,dx,_,rfl,h1,nof,_,rfl,_,rfl,p,r,n,b,ps,rows,rfl,L,ok,r0,r1,fun H1 s1=>?_⟩
  refine⟨_,rfl,p,dx,_,rfl,s1 _ _ h1,nof,_,rfl,_,rfl,_,_,rfl,rfl,p,r,n+1,b,ps,rows,rfl,L.same s1,ok,r0,r1,fun H2 s2=>?_⟩
  exact⟨bE,fun t ht=>k t _ ((s1.trans s2).trans (ab.upd ht)) ae⟩
def yG:Sp:=fun vs H Q _=>∃ i,vs=[.int i]/\-aN<i/\i<aN/\Q .non H
theorem vZ:aA ["value"] ["value"] (aw mP):=aE
theorem By (T:Txt K mg C):aK P w K mg base 3 "need_moment" ["value"] yG:=by
 refine aW T.f_need_moment vZ (fun vs H Q E h=>?_) (fun f cdv A outer s H vs Q E hr h=>?_)
 ·obtain⟨i,rfl,_⟩:=h
  rfl
 ·obtain⟨i,rfl,h1,h2,k⟩:=h
  refine⟨_,aq (bJ (eY (eX (ai (lD T) hr (ah (pv 0))))) ii bQ),?_⟩
  refine⟨_,rfl,i,rfl,_,rfl,?_⟩
  rw[decide_eq_true h1,decide_eq_true h2]
  exact bK k
theorem BV (st:List Lad.Step)(s:Lad.Step)(m:Int):Lad.up (st++[s]) m=Lad.num s.1 s.2 (Lad.up st m):=by
 unfold Lad.up
 rw[Eh]
 rfl
def wq (C:Addr):Sp:=fun vs H Q _=>∃ p r m b ps rows,vs=[.ref p,.int r,.int m]/\bu C H p b ps rows/\cf b ps rows/\0<=r/\r<=(rows.length:Int)/\-aN<m/\m<aN/\∀ H',ab H H'->Q (.int (Lad.up (et b ps rows r) m)) H'
theorem jf:aA ["self","roll","moment","number","begin","sizes"] ["self","roll","moment"] (aw mw):=aE
theorem qu (T:Txt K mg C):dU P w K mg base C 4 "bar_at" ["self","roll","moment"] (wq C):=by
 refine fC T.m_bar_at jf (fun vs H Q E h=>?_) (fun f cdv A outer s H vs Q E hr h=>?_)
 ·obtain⟨p,r,m,b,ps,rows,rfl,_⟩:=h
  rfl
 ·obtain⟨p,r,m,b,ps,rows,rfl,L,ok,r0,r1,m0,m1,k⟩:=h
  obtain⟨dx,a,o,c,us,h1,h2,h3,h4,h5⟩:=id L
  refine⟨_,am (b8 (ai (jv T) hr (aO (pv 1) ac (au bV (gH (pv 0) T.cl (io T) hr) ac))))
   (am (b8 (ai (By T) hr (ah (pv 2))))
   (am (aG (i:=3) jf.nd rfl (Or.inl rfl) (pv 2))
   (am (cP PassesOwn.never rfl (oC (kW vG (ko (pv 0) rfl) mH (lI (au cg (pv 1) ac))))
     (i9 rfl (bI (ba (i:=4) jf.nd rfl (Or.inl rfl)) (bI (ba (i:=5) jf.nd rfl (Or.inl rfl)) dQ)))
     (aq (aG (i:=3) jf.nd rfl (Or.inl rfl) (ai (Cg T) hr (aO (pv 4) (pv 5) (pv 3))))))
   (aq (aB (pv 3)))))),?_⟩
  refine⟨_,rfl,_,rfl,p,dx,_,rfl,h1,dO _ _ _ (by decide +kernel) (by decide +kernel) (by decide +kernel),p,b,ps,rows,rfl,L,_,_,rfl,rfl,_,_,_,rfl,r0,by omega,?_⟩
  refine⟨_,rfl,m,rfl,m0,m1,_,rfl,?_⟩
  refine⟨_,rfl,p,C,dx,_,_,rfl,h1,T.cl,T.n_steps,mf _ _ _,_,rfl,_,_,rfl,rfl,_,rfl,c,us,_,rfl,h4,rfl,rfl,by omega,fun t H1 s1 ht=>?_⟩
  refine⟨t,rfl,⟨_,.of ht⟩,BF (K:=K) (a:=t) (xs:=us.take (r+1).toNat) (fun i σ H2=>∃ x y,σ=[some (.ref p),some (.int r),some (.int m),some (.int (Lad.up ((((b,Lad.bars ps)::rows).take (r+1).toNat).take i) m)),x,y]/\ab H1 H2)
    ⟨none,none,rfl,ab.refl _⟩ (fun i σ H2 _ ⟨_,_,_,s2⟩=>.of (s2 _ _ ht)) ?_ ?_⟩
  ·rintro i x σ H2 hx ⟨x0,y0,rfl,s2⟩
   obtain⟨st,hst,r',l',rfl,hr',hl'⟩:=Paired.get (Paired.take (r+1).toNat h5) hx
   have hr2:=s2 _ _ (s1 _ _ hr')
   have hl2:=s2 _ _ (s1 _ _ hl')
   have hmem:st∈(b,Lad.bars ps)::rows:=DO (De hst)
   refine⟨r',_,rfl,.of hr2,rfl,_,_,rfl,_,_,rfl,rfl,?_⟩
   refine⟨_,rfl,_,rfl,_,rfl,_,l',st.2,_,rfl,hl2,(ok.steps st hmem).1,fun H3 s3=>?_⟩
   refine⟨some (.int st.1),some (.ref l'),?_,s2.trans s3⟩
   have e:(((b,Lad.bars ps)::rows).take (r+1).toNat).take (i+1)=(((b,Lad.bars ps)::rows).take (r+1).toNat).take i++[st]:=by rw[C9,hst];rfl
   rw[e,BV]
   rfl
  ·rintro σ H2 ⟨x0,y0,rfl,s2⟩
   refine⟨_,rfl,?_⟩
   have hl:(us.take (r+1).toNat).length=(((b,Lad.bars ps)::rows).take (r+1).toNat).length:=Paired.length (Paired.take _ h5)
   rw[hl,Dg]
   exact k H2 (s1.trans s2)
end
end Pr
namespace Lad
def dn (st:List Step)(r:Nat)(n:Int):Int:=down (st.take (r+1)) n
def ur (st:List Step)(r:Nat)(m:Int):Int:=up (st.take (r+1)) m
theorem goods_take {st:List Step}(g:Goods st)(r:Nat):Goods (st.take r):=fun s hs=>g s (DO hs)
section
variable {st:List Step}(g:Goods st)
include g
theorem qJ (r:Nat){j k:Int}(h:j<=k):dn st r j+(k-j)<=dn st r k:=o9 _ (goods_take g _) h
theorem ur_spec (r:Nat)(m:Int):dn st r (ur st r m)<=m/\m<dn st r (ur st r m+1):=rm _ (goods_take g _) m
theorem le_ur (r:Nat)(m n:Int):n<=ur st r m↔dn st r n<=m:=by
 obtain⟨a,b⟩:=ur_spec g r m
 constructor
 ·intro h
  have:=qJ g r h
  omega
 ·intro h
  refine Classical.byContradiction fun z=>?_
  have:=qJ g r (show ur st r m+1<=n by omega)
  omega
end
section
variable {st:List Step}(g:Goods st)
include g
end
end Lad
namespace Pr
open PySem L2 PyProof.Rows
abbrev aX (b:Int)(ps:List Int)(rows:List Lad.Step):List Lad.Step:=(b,Lad.bars ps)::rows
theorem cf.goods {b:Int}{ps:List Int}{rows:List Lad.Step}(h:cf b ps rows):Lad.Goods (aX b ps rows):=fun s hs=>(h.steps s hs).1.g
theorem uv (b:Int)(ps:List Int)(rows:List Lad.Step)(r:Nat)(n:Int):Lad.down (et b ps rows (r:Int)) n=Lad.dn (aX b ps rows) r n:=by
 unfold et Lad.dn
 rw[show ((r:Int)+1).toNat=r+1 by omega]
theorem qo (b:Int)(ps:List Int)(rows:List Lad.Step)(r:Nat)(m:Int):Lad.up (et b ps rows (r:Int)) m=Lad.ur (aX b ps rows) r m:=by
 unfold et Lad.ur
 rw[show ((r:Int)+1).toNat=r+1 by omega]
theorem wc {b:Int}{ps:List Int}{rows:List Lad.Step}(h:cf b ps rows)(r:Nat){m:Int}(m0 : -aN<m)(m1:m<aN) : -(6*aN)<Lad.ur (aX b ps rows) r m/\Lad.ur (aX b ps rows) r m<6*aN:=by
 have hb:=Lad.up_bound (B:=aN) (by decide) ((aX b ps rows).take (r+1)) (Lad.goods_take h.goods _) (fun s hs=>by have:=(h.steps s (DO hs)).2;omega) m
 have hl:((aX b ps rows).take (r+1)).length<=5:=by
  have:=(ik h.r).1
  rw[Db,C4]
  omega
 have hW:aN=1000000000000000000000000000000:=rfl
 have h5:aN*(((aX b ps rows).take (r+1)).length:Int)<=aN*5:=Int.mul_le_mul_of_nonneg_left (by omega) (by decide)
 have:Lad.ur (aX b ps rows) r m=Lad.up ((aX b ps rows).take (r+1)) m:=rfl
 split at hb <;> omega
theorem zq {n:Nat}(h:n<=1000):n<=FO:=by rw[Gs];omega
theorem eW {c:Bool}{A B:Prop}(hc:c=true)(h:A):if c=true then A else B:=by rw[hc];exact bP h
theorem eI {c:Bool}{A B:Prop}(hc:c=false)(h:B):if c=true then A else B:=by rw[hc];exact bK h
theorem ig {C:Addr}{H:Hp}{p:Addr}{b:Int}{ps:List Int}{rows:List Lad.Step}(h:bu C H p b ps rows):∃ dx a o c,H p=some (.ins C dx (fQ a o c)):=by
 obtain⟨dx,a,o,c,us,h,_⟩:=h
 exact⟨dx,a,o,c,h⟩
end Pr
namespace Srt
open PySem
abbrev Pl:=Int×Str
def plt (a b:Pl):Bool:=if a.1=b.1 then decide (a.2.cps.toList<b.2.cps.toList) else decide (a.1<b.1)
theorem l9 {a b:Pl}(h:plt a b=true):plt b a=false:=by
 unfold plt at h ⊢
 by_cases e:a.1=b.1
 ·rw[if_pos e] at h
  rw[if_pos e.symm]
  exact decide_eq_false (List.lt_asymm (of_decide_eq_true h))
 ·rw[if_neg e] at h
  rw[if_neg (Ne.symm e)]
  have:=of_decide_eq_true h
  exact decide_eq_false (by omega)
theorem plt_irr (a:Pl):plt a a=false:=by
 cases h:plt a a with
 | false=>rfl
 | true=>exact(l9 h).symm.trans h▸rfl
theorem plt_tr {a b c:Pl}(h:plt b a=false)(h':plt c b=false):plt c a=false:=by
 unfold plt at h h' ⊢
 by_cases e:b.1=a.1 <;> by_cases e':c.1=b.1
 ·rw[if_pos e] at h
  rw[if_pos e'] at h'
  rw[if_pos (e'.trans e)]
  have h1:=List.not_lt.mp (of_decide_eq_false h)
  have h2:=List.not_lt.mp (of_decide_eq_false h')
  exact decide_eq_false (List.not_lt.mpr (List.le_trans h1 h2))
 ·rw[if_neg e'] at h'
  have:=of_decide_eq_false h'
  rw[if_neg (by omega)]
  exact decide_eq_false (by omega)
 ·rw[if_neg e] at h
  have:=of_decide_eq_false h
  rw[if_neg (by omega)]
  exact decide_eq_false (by omega)
 ·rw[if_neg e] at h
  rw[if_neg e'] at h'
  have:=of_decide_eq_false h
  have:=of_decide_eq_false h'
  rw[if_neg (by omega)]
  exact decide_eq_false (by omega)
theorem plt_one {a b:Pl}(h:plt a b=false)(h':plt b a=false):a=b:=by
 unfold plt at h h'
 by_cases e:a.1=b.1
 ·rw[if_pos e] at h
  rw[if_pos e.symm] at h'
  have h1:=List.not_lt.mp (of_decide_eq_false h)
  have h2:=List.not_lt.mp (of_decide_eq_false h')
  have h3:=List.le_antisymm h2 h1
  obtain⟨a1,⟨⟨a2⟩⟩⟩:=a
  obtain⟨b1,⟨⟨b2⟩⟩⟩:=b
  cases e
  cases h3
  rfl
 ·rw[if_neg e] at h
  rw[if_neg (Ne.symm e)] at h'
  have:=of_decide_eq_false h
  have:=of_decide_eq_false h'
  exact absurd (show a.1=b.1 by omega) e
def ltOf (es:List Pl)(i j:Nat):Bool:=plt (es.getD i (0,⟨#[]⟩)) (es.getD j (0,⟨#[]⟩))
theorem ltOf_ord (es:List Pl):Ord (ltOf es):=⟨l9,plt_tr⟩
end Srt
namespace L2
open PySem PySem.Spec PyProof.Rows
abbrev wC (H:Hp)(xs:List V)(es:List Srt.Pl):Prop:=Paired (fun x (e:Srt.Pl)=>∃ a r,x=.ref a/\H a=some (.tup (.int e.1::.str e.2::r))) xs es
inductive i7 (vs:List V)(H:Hp)(Q:VK)(E:XK):Prop
 | mk (a:Addr)(m:Int)(k:Str)(r:List V)(h0:vs=[.ref a])(h1:H a=some (.tup (.int m::.str k::r)))(q:∀ t,H t=none->Q (.ref t) (upd H t (.tup [.int m,.str k]))):i7 vs H Q E
def PJ (H0:Hp)(es:List Srt.Pl)(i:Nat)(H:Hp)(ks:List Value):Prop :=
 ab H0 H/\Paired (fun (u:Value) (e:Srt.Pl)=>∃ t,u=.ref t/\H t=some (.tup [.int e.1,.str e.2])) ks (es.take i)
section
variable {X:Cx}{pins:List (Addr×Obj)}{σ:St}{H:Hp}{s:Shared}
theorem kT (I:aa X pins σ H s){t:Addr}{m:Int}{k:Str}(h:H t=some (.tup [.int m,.str k])):∃ o n tm tk,s.heap.get? t=some o/\o.cls=.type "tuple"/\o.data=.seq #[.int m tm,.str k tk] n:=by
 obtain⟨_,its,rv,o,ho,hc,n,hd⟩:=I.hok t _ h
 obtain⟨u,v,rfl,⟨tm,rfl⟩,⟨tk,rfl⟩⟩:=fg rv
 exact⟨o,n,tm,tk,ho,hc,hd⟩
theorem yQ (I:aa X pins σ H s){A:Around}{t t':Addr}{e e':Srt.Pl}(h:H t=some (.tup [.int e.1,.str e.2]))(h':H t'=some (.tup [.int e'.1,.str e'.2])){C:Bool->Shared->Prop}{E:Value->Shared->Prop}(q:C (Srt.plt e e') s) :
  wpAny (model X.prog X.w) A (keyLt' (Ip true) (.ref t) (.ref t')) C E s:=by
 obtain⟨o,n,tm,tk,ho,hc,hd⟩:=kT I h
 obtain⟨o',n',tm',tk',ho',hc',hd'⟩:=kT I h'
 refine W.kat_lt ho hd ho' hd' ?_
 refine W.kat_cons (Iq (W.kat_go (fun e1=>W.kat_yes ?_) fun e1=>W.kat_no ?_))
 ·have e1':e.1=e'.1:=by simpa using e1
  refine W.kat_cons (wpAny_eqBool_str (W.kat_go (fun e2=>W.kat_yes (W.kat_nil ?_)) fun e2=>W.kat_no ?_))
  ·have e2':e.2=e'.2:=by simpa using e2
   have e3:Srt.plt e e'=false:=by
    unfold Srt.plt
    rw[if_pos e1',e2']
    exact decide_eq_false (List.lt_irrefl _)
   rw[e3] at q
   exact q
  ·have e3:Srt.plt e e'=decide (e.2.cps.toList<e'.2.cps.toList):=by
    unfold Srt.plt
    rw[if_pos e1']
   rw[e3] at q
   exact W.kat_one _ _ (lt_str q)
 ·have e1':¬ e.1=e'.1:=by simpa using e1
  have e3:Srt.plt e e'=decide (e.1<e'.1):=by
   unfold Srt.plt
   rw[if_neg e1']
  rw[e3] at q
  exact oneLt_int q
theorem vF (I:aa X pins σ H s):∀ {ks:List Value}{es:List Srt.Pl},Paired (fun (u:Value) (e:Srt.Pl)=>∃ t,u=.ref t/\H t=some (.tup [.int e.1,.str e.2])) ks es->∃ fs,W.KatTups s.heap ks fs/\fs.length=ks.length/\∀ v∈fs,∃ m tm,v=Value.int m tm
 | _,_,.nil=>⟨[],.nil,rfl,fun v h=>nomatch h⟩
 | _,_,.cons ⟨t,e,h⟩ r=>by
  obtain⟨fs,h1,h2,h3⟩:=vF I r
  obtain⟨o,n,tm,tk,ho,hc,hd⟩:=kT I h
  subst e
  refine⟨_::fs,.cons ho hc hd rfl h1,by rw[C4,C4,h2],fun v hv=>?_⟩
  rcases List.mem_cons.mp hv with rfl|hv
  ·exact⟨_,_,rfl⟩
  ·exact h3 v hv
theorem Paired.getR {α β:Type}{F:α->β->Prop}:∀ {xs:List α}{ys:List β}{i:Nat}{y:β},Paired F xs ys->ys[i]?=some y->∃ x,xs[i]?=some x/\F x y
 | _,_,_,_,.nil,e=>by simp at e
 | _,_,0,_,.cons r _,e=>by simp at e;subst e;exact⟨_,rfl,r⟩
 | _,_,i+1,y,.cons _ t,e=>by
  obtain⟨u,h1,h2⟩:=Paired.getR (i:=i) (y:=y) t (by simpa using e)
  exact⟨u,by simpa using h1,h2⟩
theorem Paired.snoc {α β:Type}{F:α->β->Prop}{x:α}{y:β}(h:F x y):∀ {xs:List α}{ys:List β},Paired F xs ys->Paired F (xs++[x]) (ys++[y])
 | _,_,.nil=>.cons h .nil
 | _,_,.cons r t=>.cons r (Paired.snoc h t)
inductive mR (K:W.Frag)(vs:List V)(H:Hp)(Q:VK):Prop
 | mk (l:Addr)(xs:List V)(es:List Srt.Pl)(h0:vs=[.ref l])(h1:aU K H l xs)(h2:xs.length<64)(h3:wC H xs es)
  (q:∀ D H' (p:List Nat),ab H H'->H D=none->H' D=some (.lst (p.map fun i=>xs.getD i .non))->p.Perm (C2 xs.length)->p.Pairwise (Srt.R (Srt.ltOf es))->Q (.ref D) H'):mR K vs H Q
theorem Ay {k k':Nat}{kf pn:Str}{vs:List V}{us:List Value}{Q:VK}{f:Addr}{fd:Gy}(F:ce X.prog X.w X.K X.mg X.base cH k f fd [pn] i7)(hb:bB X.K fd [pn] [])(hr:aQ (k+2) X.A)
  (I:aa X pins σ H s) (r:ap vs us) (h:mR X.K vs H Q):wpAny (model X.prog X.w) X.A (call (.builtin "sorted") us [(Str.ofString "key",.ref f)]) (EP X pins σ Q) X.xe s:=by
 obtain⟨l,xs,es,rfl,hl,h64,hp,q⟩:=h
 obtain⟨u,rfl,ru⟩:=bX r
 cases ru
 have hlen:xs.length=es.length:=hp.length
 refine Cb (J:=PJ H es) I hl h64 ⟨ab.refl _,by rw[Ef];exact .nil⟩ (fun i x v pins σ H' s ks hx rx hJ hk J=>?_) fun pins σ H' s ks hJ hk J=>?_
 ·obtain⟨hs,hP⟩:=hJ
  obtain⟨e,he,a,rr,rfl,ha⟩:=Paired.get hp hx
  cases rx
  have run:=i6 (X:=inn X) (k:=k) (f:=f) (fd:=fd) (ps:=[pn]) (sp:=i7) (dvs:=[]) (ds:=[]) (E:=E0) (CX:=cH) (us:=[Value.ref a]) (vs:=[V.ref a]) (Q:=fun v H2=>∃ t,v=.ref t/\ab H' H2/\H2 t=some (.tup [.int e.1,.str e.2])) F hr.in1.in1 hb .nil gf J (.cons rfl .nil)
   ⟨a,e.1,e.2,rr,rfl,hs _ _ ha,fun t ht=>⟨t,rfl,ab.upd ht,ae⟩⟩
  refine ag run fun u s2 hu=>?_
  obtain⟨v,H2,J2,rv,t,rfl,s2',ht⟩:=hu
  cases rv
  refine⟨H2,J2,hs.trans s2',?_⟩
  rw[C9,he]
  exact Paired.snoc ⟨t,rfl,ht⟩ (Paired.mapP hP fun _ _ ⟨t',e1,e2⟩=>⟨t',e1,s2' _ _ e2⟩)
 ·obtain⟨hs,hP⟩:=hJ
  rw[Df (by omega)] at hP
  refine⟨Ip true,Srt.ltOf es,⟨Srt.ltOf_ord es,fun h2 Q hQ=>?_,fun i j C hi hj hC=>?_⟩,fun p p1 p2 D hD=>q D _ p (hs.trans (ab.upd hD)) (hs.free hD) ae p1 p2⟩
  ·obtain⟨fs,t1,t2,t3⟩:=vF J hP
   refine W.kat_kind (T:=.type "int") t1 (by omega) (fun v hv=>?_) (by decide +kernel) ?_
   ·obtain⟨m,tm,rfl⟩:=t3 v hv
    exact W.Looks.of_pure rfl
   ·exact hQ
  ·have hi':es[i]?=some es[i]:=CZ (by omega)
   have hj':es[j]?=some es[j]:=CZ (by omega)
   obtain⟨u,eu,t,rfl,ht⟩:=Paired.getR hP hi'
   obtain⟨u',eu',t',rfl,ht'⟩:=Paired.getR hP hj'
   unfold W.kas_ask
   rw[C0,C0,eu,eu']
   refine yQ J ht ht' ?_
   unfold Srt.ltOf at hC
   rw[C0,C0,hi',hj'] at hC
   exact hC
end
section
variable {X:Cx}{k:Nat}{kf pn:Str}{e:Expr}{t:TA}{p pos kp kpos:Pos}
theorem vS (K:W.Frag)(h:aK X.prog X.w X.K X.mg X.base k kf [pn] i7)(hr:aQ (k+2) X.A)(hm:X.mg "sorted"=none)(ha:PA X [e] t)(ek:X.K=K:=by rfl)(hg:Gl X "sorted":=by rfl)(hg2:Gl X kf:=by rfl)(hdb:(kf == ("__debug__" : Str))=false:=by decide)
  (he:FU pos (FV [e] X.env)=(false,eval e X.env)::FU pos (FV [] X.env):=by rfl) (hpl:(FU pos (FV [e] X.env)).any (·.1)=false:=by rfl) :
  PE X (.Call (.Name "sorted" p) [e] [⟨some "key",.Name kf kp,kpos⟩] pos) (fun σ H Q=>t σ H fun vs H1=>mR K vs H1 Q):=by
 subst ek
 refine⟨?_⟩
 intro pins s σ H Q I hq
 obtain⟨f,fd,F,hmf,kpn,hb⟩:=h
 refine GC (eP I hg hm Ir ?_ (by decide) (by decide))
 refine callWith_kw (ag (ha pos pins s σ H _ I hq) fun us s1 ⟨vs,H1,I1,r,q⟩=>?_) he hpl
 refine ag ((yi (nm:=some "key") (kpos:=kpos) (vB (pos:=kp) hg2 hmf (v:=.ref f) rfl hdb) zF) pos pins s1 σ H1 (fun zs H2=>zs=[.ref f]/\H2=H1) I1 ⟨rfl,rfl⟩) fun ws s2 ⟨zs,H2,I2,r2,e1,e2⟩=>?_
 subst e1 e2
 obtain⟨u,rfl,ru⟩:=bX r2
 cases ru
 exact Ay (kf:=kf) (k':=0) F hb hr I2 r q
end
end L2
namespace L2
open PySem PySem.Spec PyProof.Rows
mutual
def aj (H:Hp):PyData->V->Prop
 | .none,v=>v=.non
 | .bool b,v=>v=.bl b
 | .int i,v=>v=.int i
 | .str x,v=>v=.str x
 | .list ds,v=>∃ a xs,v=.ref a/\H a=some (.lst xs)/\av H ds xs
 | .tuple ds,v=>∃ a xs,v=.ref a/\H a=some (.tup xs)/\av H ds xs
 | .dict _,_=>False
def av (H:Hp):List PyData->List V->Prop
 | [],xs=>xs=[]
 | d::ds,xs=>∃ x r,xs=x::r/\aj H d x/\av H ds r
end
mutual
theorem aj.same {H H':Hp}(s:∀ b o,H b=some o->H' b=some o):∀ (d:PyData) (v:V),aj H d v->aj H' d v
 | .none,v,h=>by unfold aj at h ⊢;exact h
 | .bool _,v,h=>by unfold aj at h ⊢;exact h
 | .int _,v,h=>by unfold aj at h ⊢;exact h
 | .str _,v,h=>by unfold aj at h ⊢;exact h
 | .list ds,v,h=>by
  unfold aj at h ⊢
  obtain⟨a,xs,e,h1,h2⟩:=h
  exact⟨a,xs,e,s _ _ h1,av.same s ds xs h2⟩
 | .tuple ds,v,h=>by
  unfold aj at h ⊢
  obtain⟨a,xs,e,h1,h2⟩:=h
  exact⟨a,xs,e,s _ _ h1,av.same s ds xs h2⟩
 | .dict _,v,h=>by unfold aj at h;exact h.elim
theorem av.same {H H':Hp}(s:∀ b o,H b=some o->H' b=some o):∀ (ds:List PyData) (xs:List V),av H ds xs->av H' ds xs
 | [],xs,h=>by unfold av at h ⊢;exact h
 | d::ds,xs,h=>by
  unfold av at h ⊢
  obtain⟨x,r,e,h1,h2⟩:=h
  exact⟨x,r,e,aj.same s d x h1,av.same s ds r h2⟩
end
section
variable {X:Cx}{pins:List (Addr×Obj)}{σ:St}{H:Hp}{s:Shared}
mutual
theorem aj.reads (I:aa X pins σ H s):∀ (d:PyData) (v:V) (u:Value),ar v u->aj H d v->∃ as,Reads s.heap u d as
 | .none,v,u,r,h=>by unfold aj at h;subst h;cases r;exact⟨_,.none⟩
 | .bool b,v,u,r,h=>by unfold aj at h;subst h;cases r;exact⟨_,.bool b⟩
 | .int i,v,u,r,h=>by unfold aj at h;subst h;obtain⟨t,rfl⟩:=r;exact⟨_,.int i t⟩
 | .str x,v,u,r,h=>by unfold aj at h;subst h;obtain⟨t,rfl⟩:=r;exact⟨_,.str x t⟩
 | .list ds,v,u,r,h=>by
  unfold aj at h
  obtain⟨a,xs,rfl,h1,h2⟩:=h
  cases r
  obtain⟨_,its,n,rv,e⟩:=I.hok a _ h1
  obtain⟨as,hr⟩:=av.reads I ds xs its rv h2
  exact⟨_,.list e rfl rfl (by simpa using hr)⟩
 | .tuple ds,v,u,r,h=>by
  unfold aj at h
  obtain⟨a,xs,rfl,h1,h2⟩:=h
  cases r
  obtain⟨_,its,rv,o,ho,hc,n,hd⟩:=I.hok a _ h1
  obtain⟨as,hr⟩:=av.reads I ds xs its rv h2
  exact⟨_,.tuple ho hc hd (by simpa using hr)⟩
 | .dict _,v,u,r,h=>by unfold aj at h;exact h.elim
theorem av.reads (I:aa X pins σ H s):∀ (ds:List PyData) (xs:List V) (us:List Value),ap xs us->av H ds xs->∃ as,ReadsAll s.heap us ds as
 | [],xs,us,r,h=>by unfold av at h;subst h;cases r;exact⟨_,.nil⟩
 | d::ds,xs,us,r,h=>by
  unfold av at h
  obtain⟨x,rr,rfl,h1,h2⟩:=h
  cases r with
  | cons rx rt =>
   obtain⟨as,q1⟩:=aj.reads I d x _ rx h1
   obtain⟨bs,q2⟩:=av.reads I ds rr _ rt h2
   exact⟨_,.cons q1 q2⟩
end
end
section
variable {X:Cx}
inductive nu (neg:Bool)(x y:V)(H:Hp)(Q:VK):Prop
 | mk (d d':PyData)(h:aj H d x)(h':aj H d' y)(f:d.canLay0=true)(f':d'.canLay0=true)(p:d.depth<=8)(q:Q (.bl (if neg then !PyData.eqv d d' else PyData.eqv d d')) H):nu neg x y H Q
theorem sJ {k:Nat}(hr:aQ k X.A):bj X (FX .Eq) (nu false):=by
 intro pins s σ H x y v u Q I rx ry h
 obtain⟨d,d',h1,h2,f,f',p,q⟩:=h
 obtain⟨as,r1⟩:=aj.reads I d _ _ rx h1
 obtain⟨bs,r2⟩:=aj.reads I d' _ _ ry h2
 exact SeqAt.eqOverData X.prog X.w X.A X.xe s v u d d' as bs _ r1 r2 f f' (by have:=hr.un;omega) (bb I q rfl)
theorem ke {k:Nat}(hr:aQ k X.A):bj X (FX .NotEq) (nu true):=by
 intro pins s σ H x y v u Q I rx ry h
 obtain⟨d,d',h1,h2,f,f',p,q⟩:=h
 obtain⟨as,r1⟩:=aj.reads I d _ _ rx h1
 obtain⟨bs,r2⟩:=aj.reads I d' _ _ ry h2
 exact SeqAt.compareNe_reads r1 r2 f f' (by have:=hr.un;omega) (bb I q rfl)
end
theorem mr:∀ {ns:List Int}{us:List Value},ap (ns.map V.int) us->∃ l:List (Int×Tok),us=l.map (fun p=>Value.int p.1 p.2)/\l.map (·.1)=ns
 | [],us,h=>by
  cases h
  exact⟨[],rfl,rfl⟩
 | x::r,us,h=>by
  cases h with
  | cons a b =>
   obtain⟨t,rfl⟩:=a
   obtain⟨l,rfl,e⟩:=mr b
   exact⟨(x,t)::l,rfl,by rw[C1,e]⟩
theorem jM (l:List (Int×Tok))(i:Nat):numAt l.toArray i=(l.map (·.1)).getD i 0:=by
 unfold numAt
 rw[C0,Da]
 simp
theorem vi (l:List (Int×Tok)):intItems l.toArray=(l.map fun p=>Value.int p.1 p.2).toArray:=by
 unfold intItems
 simp
section
variable {X:Cx}
inductive lF (K:W.Frag)(le:Int->Int->Prop)(vs:List V)(H:Hp)(Q:VK):Prop
 | mk (p:Addr)(ns:List Int)(e:vs=[.ref p])(h:aU K H p (ns.map V.int))(ne:ns≠[])(q:∀ m,m∈ns->(∀ x∈ns,le x m)->Q (.int m) H):lF K le vs H Q
theorem nw (K:W.Frag)(hc:X.calm=true)(ek:X.K=K:=by rfl):bm X (.builtin "max") (lF K fun x m=>x<=m):=by
 subst ek
 intro pins s σ H xs us Q I r h
 obtain⟨p,ns,rfl,hq,hne,q⟩:=h
 obtain⟨u,rfl,rx⟩:=bX r
 cases rx
 obtain⟨its,rv,pl,hz⟩:=I.list hq
 obtain⟨l,rfl,el⟩:=mr rv
 have hlen:l.length=ns.length:=by rw[<-el,CW]
 have hpos:0<ns.length:=List.length_pos_iff.mpr hne
 refine max_intList (xs:=l.toArray) (I.ok.hd hc) (by rw[vi];exact pl.isList) (by rw[CY];omega) fun v h' tk hv hk=>?_
 obtain⟨t,rfl⟩:=intItems_at hv
 obtain⟨b1,b2⟩:=argBest_gt (numAt l.toArray) (l.toArray.size-1)
 rw[CY] at b1 b2 ⊢
 have hb:argBest (fun i j=>decide (numAt l.toArray i>numAt l.toArray j)) (l.length-1)<ns.length:=by omega
 refine⟨.int _,H,I.kept hk,⟨t,rfl⟩,q _ ?_ fun x hx=>?_⟩
 ·rw[jM,el,C0,CZ hb]
  exact Dr hb
 ·obtain⟨j,hj,rfl⟩:=Dy hx
  have:=b2 j (by omega)
  rw[jM l j,el,C0 (l:=ns) (i:=j),CZ hj] at this
  exact this
theorem n6 (K:W.Frag)(hc:X.calm=true)(ek:X.K=K:=by rfl):bm X (.builtin "min") (lF K fun x m=>m<=x):=by
 subst ek
 intro pins s σ H xs us Q I r h
 obtain⟨p,ns,rfl,hq,hne,q⟩:=h
 obtain⟨u,rfl,rx⟩:=bX r
 cases rx
 obtain⟨its,rv,pl,hz⟩:=I.list hq
 obtain⟨l,rfl,el⟩:=mr rv
 have hlen:l.length=ns.length:=by rw[<-el,CW]
 have hpos:0<ns.length:=List.length_pos_iff.mpr hne
 refine min_intList (xs:=l.toArray) (I.ok.hd hc) (by rw[vi];exact pl.isList) (by rw[CY];omega) fun v h' tk hv hk=>?_
 obtain⟨t,rfl⟩:=intItems_at hv
 obtain⟨b1,b2⟩:=argBest_lt (numAt l.toArray) (l.toArray.size-1)
 rw[CY] at b1 b2 ⊢
 have hb:argBest (fun i j=>decide (numAt l.toArray i<numAt l.toArray j)) (l.length-1)<ns.length:=by omega
 refine⟨.int _,H,I.kept hk,⟨t,rfl⟩,q _ ?_ fun x hx=>?_⟩
 ·rw[jM,el,C0,CZ hb]
  exact Dr hb
 ·obtain⟨j,hj,rfl⟩:=Dy hx
  have:=b2 j (by omega)
  rw[jM l j,el,C0 (l:=ns) (i:=j),CZ hj] at this
  exact this
end
end L2
namespace Ent
open PySem
abbrev En:=Int×Str×Int
def pl (e:En):Srt.Pl:=(e.1,e.2.1)
def eD (e:En):PyData:=.tuple [.int e.1,.str e.2.1,.int e.2.2]
def cw:PyData:=.tuple [.int 0,.int 0,.none,.none,.none,.none]
def d7 (n:Nat)(s lo hi:Int)(f l:En):PyData:=.tuple [.int n,.int s,.int lo,.int hi,eD f,eD l]
def ck (a b:En):Bool:=Srt.plt (pl a) (pl b)
def aH (es:List En):List Int:=es.map (·.2.2)
def Keyed (es:List En):Prop:=(es.map (·.2.1)).Nodup
inductive bn (es:List En)(b:PyData):Prop
 | non (h:es=[]) (e:b=cw):bn es b
 | some (lo hi:Int) (f l:En) (h1:lo∈aH es) (h2:∀ v∈aH es,lo<=v) (h3:hi∈aH es) (h4:∀ v∈aH es,v<=hi) (h5:f∈es) (h6:∀ e∈es,ck e f=false) (h7:l∈es) (h8:∀ e∈es,ck l e=false)
  (e:b=d7 es.length (aH es).sum lo hi f l):bn es b
theorem lU:∀ {es:List En}{a b:En},Keyed es->a∈es->b∈es->a.2.1=b.2.1->a=b
 | [],a,b,_,h,_,_=>nomatch h
 | e::es,a,b,k,ha,hb,hk=>by
  unfold Keyed at k
  rw[C1,Ei] at k
  rcases List.mem_cons.mp ha with ea|ha <;> rcases List.mem_cons.mp hb with eb|hb
  ·rw[ea,eb]
  ·exact absurd (List.mem_map.mpr ⟨b,hb,by rw[<-hk,ea]⟩) k.1
  ·exact absurd (List.mem_map.mpr ⟨a,ha,by rw[hk,eb]⟩) k.1
  ·exact lU k.2 ha hb hk
theorem qh {xs ys:List Int}(h:xs.Perm ys):xs.sum=ys.sum:=by
 induction h with
 | nil=>rfl
 | cons x _ ih=>rw[Dd,Dd,ih]
 | swap x y l=>rw[Dd,Dd,Dd,Dd];omega
 | trans _ _ i1 i2=>exact i1.trans i2
theorem bn.one {es es':List En}{b b':PyData}(p:es.Perm es')(k:Keyed es)(h:bn es b)(h':bn es' b'):b=b':=by
 cases h with
 | non e1 e2 =>
  cases h' with
  | non e3 e4=>rw[e2,e4]
  | some lo hi f l h1 h2 h3 h4 h5 =>
   rw[e1] at p
   rw[p.symm.eq_nil] at h5
   exact nomatch h5
 | some lo hi f l h1 h2 h3 h4 h5 h6 h7 h8 e =>
  cases h' with
  | non e3 e4 =>
   rw[e3] at p
   rw[p.eq_nil] at h5
   exact nomatch h5
  | some lo' hi' f' l' g1 g2 g3 g4 g5 g6 g7 g8 e' =>
   have pv:(aH es).Perm (aH es'):=p.map _
   have a1:=h2 lo' (pv.mem_iff.mpr g1)
   have a2:=g2 lo (pv.mem_iff.mp h1)
   have a3:=h4 hi' (pv.mem_iff.mpr g3)
   have a4:=g4 hi (pv.mem_iff.mp h3)
   have b1:pl f=pl f':=Srt.plt_one (g6 f (p.mem_iff.mp h5)) (h6 f' (p.mem_iff.mpr g5))
   have b2:pl l=pl l':=Srt.plt_one (h8 l' (p.mem_iff.mpr g7)) (g8 l (p.mem_iff.mp h7))
   have c1:f=f':=lU k h5 (p.mem_iff.mpr g5) (congrArg (·.2) b1)
   have c2:l=l':=lU k h7 (p.mem_iff.mpr g7) (congrArg (·.2) b2)
   have d1:lo=lo':=by omega
   have d2:hi=hi':=by omega
   rw[e,e',c1,c2,d1,d2,p.length_eq,qh pv]
theorem bn.perm {es es':List En}{b:PyData}(p:es.Perm es')(h:bn es b):bn es' b:=by
 cases h with
 | non e1 e2=>exact .non (by rw[e1] at p;exact p.symm.eq_nil) e2
 | some lo hi f l h1 h2 h3 h4 h5 h6 h7 h8 e =>
  have pv:(aH es).Perm (aH es'):=p.map _
  exact .some lo hi f l (pv.mem_iff.mp h1) (fun v hv=>h2 v (pv.mem_iff.mpr hv)) (pv.mem_iff.mp h3) (fun v hv=>h4 v (pv.mem_iff.mpr hv)) (p.mem_iff.mp h5) (fun v hv=>h6 v (p.mem_iff.mpr hv)) (p.mem_iff.mp h7) (fun v hv=>h8 v (p.mem_iff.mpr hv)) (by rw[e,p.length_eq,qh pv])
def dn:En:=(0,⟨#[]⟩,0)
def bA (es:List En)(p:List Nat):List En:=p.map fun i=>es.getD i dn
theorem fy {es:List En}{p:List Nat}(hp:p.Perm (C2 es.length)):(bA es p).Perm es:=by
 have h:=hp.map fun i=>es.getD i dn
 have e:(C2 es.length).map (fun i=>es.getD i dn)=es:=by
  refine DC (by simp) fun i h1 h2=>?_
  simp[h2]
 rw[e] at h
 exact h
theorem rH (es:List En){i j:Nat}(hi:i<es.length)(hj:j<es.length):Srt.ltOf (es.map pl) i j=ck (es.getD i dn) (es.getD j dn):=by
 unfold Srt.ltOf ck
 rw[C0,C0,C0,C0,Da,Da,CZ hi,CZ hj]
 rfl
theorem jz (e:En):ck e e=false:=Srt.plt_irr _
theorem rY {es:List En}{p:List Nat}{f:En}{r:List En}(hp:p.Perm (C2 es.length))(hs:p.Pairwise (Srt.R (Srt.ltOf (es.map pl))))(h:bA es p=f::r):f∈es/\∀ e∈es,ck e f=false:=by
 refine⟨(fy hp).mem_iff.mp (by rw[h];exact C6),fun e he=>?_⟩
 have he':=(fy hp).mem_iff.mpr he
 cases p with
 | nil=>cases h
 | cons i q =>
  have hlt:∀ k∈i::q,k<es.length:=fun k hk=>List.mem_range.mp (hp.mem_iff.mp hk)
  unfold bA at h he'
  rw[C1] at h he'
  have ef:=(List.cons.inj h).1
  rcases List.mem_cons.mp he' with e1|e1
  ·rw[e1,<-ef];exact jz _
  ·obtain⟨j,hj,rfl⟩:=List.mem_map.mp e1
   have hR:=(List.pairwise_cons.mp hs).1 j hj
   have:=Srt.R.le (Srt.ltOf_ord _) hR
   rw[rH es (hlt j (C5 _ hj)) (hlt i C6)] at this
   rw[<-ef]
   exact this
theorem rS {es:List En}{p:List Nat}{l:En}{r:List En}(hp:p.Perm (C2 es.length))(hs:p.Pairwise (Srt.R (Srt.ltOf (es.map pl))))(h:bA es p=r++[l]):l∈es/\∀ e∈es,ck l e=false:=by
 refine⟨(fy hp).mem_iff.mp (by rw[h];simp),fun e he=>?_⟩
 have he':=(fy hp).mem_iff.mpr he
 rcases Ds p with rfl|⟨q,i,rfl⟩
 ·unfold bA at h;simp at h
 ·rw[Dt] at *
  have hlt:∀ k∈q++[i],k<es.length:=fun k hk=>List.mem_range.mp (hp.mem_iff.mp hk)
  unfold bA at h he'
  rw[C8,List.map_singleton] at h he'
  have ef:=(List.append_inj' h rfl).2
  have el:es.getD i dn=l:=(List.cons.inj ef).1
  rcases List.mem_append.mp he' with e1|e1
  ·obtain⟨j,hj,rfl⟩:=List.mem_map.mp e1
   have hR:=(List.pairwise_append.mp hs).2.2 j hj i C6
   have:=Srt.R.le (Srt.ltOf_ord _) hR
   rw[rH es (hlt i (by simp)) (hlt j (Dj _ hj)),el] at this
   exact this
  ·rw[List.mem_singleton.mp e1,el];exact jz _
structure Lf (d:PyData):Prop where
 sh:d.showable=true
 cl:d.canLay0=true
 ls:d.leavesShort 62=true
theorem AA:Lf .none:=⟨rfl,rfl,rfl⟩
theorem fW {i:Int}(h:i.natAbs<10 ^ 40):Lf (.int i) where
 sh:=by
  unfold PyData.showable
  exact decide_eq_true (PySem.Spec.log2_small (E4 h (by decide +kernel)))
 cl:=rfl
 ls:=by
  unfold PyData.leavesShort
  refine decide_eq_true ?_
  show (Str.ofString (toString i)).length<=62
  rw[ofString_length]
  exact EY (int_text_length_le10 (k:=40) (by decide) h) (by decide)
def iy (k:Str):Prop:=k.cps.size<=8/\∀ c∈k.cps.toList,c<128
theorem uo {k:Str}(h:iy k):Lf (.str k) where
 sh:=rfl
 cl:=by
  unfold PyData.canLay0 PyData.strOk
  rw[Array.all_eq_true_iff_forall_mem]
  intro c hc
  have:=h.2 c (Array.mem_toList_iff.mpr hc)
  exact decide_eq_true (by omega)
 ls:=by
  unfold PyData.leavesShort
  rw[Dq]
  intro c hc
  have:=h.2 c hc
  have e:(16:Nat) ^ 8=4294967296:=by decide
  exact decide_eq_true (by omega)
theorem jB:∀ {ds:List PyData},(∀ d∈ds,Lf d)->PyData.showableAll ds=true/\PyData.canLayAll0 ds=true/\PyData.leavesShortAll 62 ds=true
 | [],_=>⟨rfl,rfl,rfl⟩
 | d::ds,h=>by
  obtain⟨a,b,c⟩:=jB fun x hx=>h x (C5 d hx)
  have hd:=h d C6
  unfold PyData.showableAll PyData.canLayAll0 PyData.leavesShortAll
  rw[a,b,c,hd.sh,hd.cl,hd.ls]
  exact⟨rfl,rfl,rfl⟩
theorem kN {ds:List PyData}(h:∀ d∈ds,Lf d):Lf (.tuple ds) where
 sh:=by unfold PyData.showable;exact(jB h).1
 cl:=by unfold PyData.canLay0;exact(jB h).2.1
 ls:=by unfold PyData.leavesShort;exact(jB h).2.2
structure bi (e:En):Prop where
 m:e.1.natAbs<10 ^ 30
 v:e.2.2.natAbs<10 ^ 30
 k:iy e.2.1
theorem j7 {i:Int}(h:i.natAbs<10 ^ 30):i.natAbs<10 ^ 40:=E4 h (by decide +kernel)
theorem wX {e:En}(h:bi e):∀ d∈[PyData.int e.1,.str e.2.1,.int e.2.2],Lf d:=fun d hd=>by
 rcases List.mem_cons.mp hd with rfl|hd
 ·exact fW (j7 h.m)
 ·rcases List.mem_cons.mp hd with rfl|hd
  ·exact uo h.k
  ·rw[List.mem_singleton.mp hd];exact fW (j7 h.v)
theorem tY {e:En}(h:bi e):Lf (eD e):=kN (wX h)
theorem sL {e:En}(h:bi e):(eD e).bulk<=11:=by
 have:=h.k.1
 unfold eD
 simp only[PyData.bulk,PyData.bulkAll]
 omega
theorem xG (e:En):(eD e).depth=1:=by
 unfold eD
 simp[PyData.depth,PyData.depthAll]
theorem q9:∀ {ns:List Int},(∀ n∈ns,n.natAbs<10 ^ 30)->ns.sum.natAbs<=ns.length*10 ^ 30
 | [],_=>by simp
 | n::r,h=>by
  have h1:=q9 fun x hx=>h x (C5 n hx)
  have h2:=h n C6
  rw[Dd,C4,Nat.add_mul]
  omega
end Ent
namespace L2
open PySem PySem.Spec PyProof.Rows
section
variable {X:Cx}{k k':Nat}{x:Str}{sp:Sp}{p pos:Pos}
theorem iG (h:aK X.prog X.w X.K X.mg X.base k x [] sp)(hr:aQ k' X.A)(hg:Gl X x:=by rfl)(hk:k<=k':=by decide)(hdb:(x == ("__debug__" : Str))=false:=by decide):PE X (.Call (.Name x p) [] [] pos) (jl sp [] E0 fu):=by
 obtain⟨f,fd,F,hm,kp,b⟩:=h
 exact xU F (hr.mono hk) hg hm kp b .nil gf hdb
end
theorem ab.but_ne {H H':Hp}{D:Addr}{o:HO}(s:ab H H')(h:H D=none):ab H (L2.upd H' D o):=fun b u e=>by
 rw[L2.upd_ne (aJ e h)]
 exact s _ _ e
theorem Paired.mono2 {α β:Type}{F G:α->β->Prop}(f:∀ a b,F a b->G a b){l₁:List α}{l₂:List β}(r:Paired F l₁ l₂):Paired G l₁ l₂:=Paired.mapP r f
theorem Paired.mapR {α β γ:Type}{F:α->β->Prop}{G:α->γ->Prop}{g:β->γ}(h:∀ a b,F a b->G a (g b)):∀ {xs:List α}{ys:List β},Paired F xs ys->Paired G xs (ys.map g)
 | _,_,.nil=>.nil
 | _,_,.cons r t=>.cons (h _ _ r) (Paired.mapR h t)
theorem Paired.picks {α β:Type}{F:α->β->Prop}{xs:List α}{ys:List β}{a:α}{b:β}(h:Paired F xs ys):∀ (p:List Nat),(∀ i∈p,i<xs.length)->Paired F (p.map fun i=>xs.getD i a) (p.map fun i=>ys.getD i b)
 | [],_=>.nil
 | i::p,hp=>by
  have hi:=hp i C6
  obtain⟨y,ey,r⟩:=Paired.get h (CZ hi)
  refine .cons ?_ (Paired.picks h p fun j hj=>hp j (C5 _ hj))
  show F (xs.getD i a) (ys.getD i b)
  rw[C0,C0,ey,CZ hi]
  exact r
theorem ir {n:Nat}(h:n<=1000):n<=FO:=E7 (cR h)
end L2
namespace Pr
open PySem L2 PyProof.Rows Ent
abbrev bC (e:En):List V:=[.int e.1,.str e.2.1,.int e.2.2]
def bM (H:Hp)(x:V)(e:En):Prop:=∃ a o,x=.ref a/\H a=some o/\Ob o (bC e)
def aF (H:Hp)(x:V)(e:En):Prop:=∃ a,x=.ref a/\H a=some (.tup (bC e))
theorem bM.same {H H':Hp}(s:ab H H'){x:V}{e:En}(h:bM H x e):bM H' x e:=by
 obtain⟨a,o,h1,h2,h3⟩:=h
 exact⟨a,o,h1,s _ _ h2,h3⟩
theorem aF.same {H H':Hp}(s:ab H H'){x:V}{e:En}(h:aF H x e):aF H' x e:=by
 obtain⟨a,h1,h2⟩:=h
 exact⟨a,h1,s _ _ h2⟩
theorem aF.g {H:Hp}{x:V}{e:En}(h:aF H x e):bM H x e:=by
 obtain⟨a,h1,h2⟩:=h
 exact⟨a,_,h1,h2,.inr rfl⟩
theorem aF.wr {H:Hp}{x:V}{e:En}{D:Addr}{ys:List V}{o:HO}(h:aF H x e)(hD:H D=some (.lst ys)):aF (upd H D o) x e:=by
 obtain⟨a,h1,h2⟩:=h
 exact⟨a,h1,by rw[upd_ne (cW h2 hD (by intro z;cases z))];exact h2⟩
theorem aF.dat {H:Hp}{x:V}{e:En}(h:aF H x e):aj H (eD e) x:=by
 obtain⟨a,h1,h2⟩:=h
 unfold eD aj
 refine⟨a,_,h1,h2,?_⟩
 unfold av
 refine⟨_,_,rfl,by unfold aj;rfl,?_⟩
 unfold av
 refine⟨_,_,rfl,by unfold aj;rfl,?_⟩
 unfold av
 refine⟨_,_,rfl,by unfold aj;rfl,?_⟩
 unfold av
 rfl
section
variable {P:FN}{w:World}{K:W.Frag}{mg:Str->Option Value}{base:Heap}{C:Addr}
theorem B0:aA ["entry"] ["entry"] (aw m9):=aE
theorem wQ (T:Txt K mg C):aK P w K mg base 1 "place_of" ["entry"] i7:=by
 refine aW T.f_place_of B0 (fun vs H Q E h=>?_) (fun f cdv A outer s H vs Q E hr h=>?_)
 ·obtain⟨a,m,k,r,rfl,_⟩:=h
  rfl
 ·obtain⟨a,m,k,r,rfl,ha,q⟩:=h
  refine⟨_,aq (aB (be (ao (ay (cb K) (pv 0) ac (fun _ _=>rfl)) (ay (cb K) (pv 0) ac (fun _ _=>rfl))))),?_⟩
  refine⟨_,rfl,a,_,_,_,rfl,rfl,.of ha,bz (j:=0) rfl,_,rfl,a,_,_,_,rfl,rfl,.of ha,bz (j:=1) rfl,ir (by show 2<=1000;decide),fun p hp=>q p hp⟩
inductive vD (vs:List V)(H:Hp)(Q:VK)(E:XK):Prop
 | mk (e:vs=[])(q:∀ p H',ab H H'->H p=none->aj H' cw (.ref p)->Q (.ref p) H'):vD vs H Q E
theorem wR:aA [] [] (aw nr):=aE
theorem zi {H:Hp}{p:Addr}(h:H p=some (.tup [.int 0,.int 0,.non,.non,.non,.non])):aj H cw (.ref p):=by
 unfold cw aj
 refine⟨p,_,rfl,h,?_⟩
 iterate 6
  unfold av
  refine⟨_,_,rfl,by unfold aj;rfl,?_⟩
 unfold av
 rfl
theorem empty (T:Txt K mg C):aK P w K mg base 1 "empty" [] vD:=by
 refine aW T.f_empty wR (fun vs H Q E h=>?_) (fun f cdv A outer s H vs Q E hr h=>?_)
 ·obtain⟨rfl,_⟩:=h
  rfl
 ·obtain⟨rfl,q⟩:=h
  refine⟨_,aq (aB (be (aR ac (aR ac (aR fL (aR fL (aR fL (aR fL cT)))))))),?_⟩
  exact⟨ir (by show 6<=1000;decide),fun p hp=>q p _ (ab.upd hp) hp (zi ae)⟩
inductive tM (vs:List V)(H:Hp)(Q:VK)(E:XK):Prop
 | mk (a:Addr)(o:HO)(xs:List V)(es:List En)(h0:vs=[.ref a])(h1:H a=some o)(h2:Ob o xs)(h3:Paired (bM H) xs es)(h4:es.length<64)
  (q:∀ D H' ys (p:List Nat),ab H H'->H D=none->H' D=some (.lst ys)->Paired (aF H') ys (bA es p)->p.Perm (C2 es.length)->p.Pairwise (Srt.R (Srt.ltOf (es.map pl)))->Q (.ref D) H'):tM vs H Q E
theorem rq:aA ["entries"] ["entries"] (aw mY):=aE
theorem uW (T:Txt K mg C):aK P w K mg base 4 "in_order" ["entries"] tM:=by
 refine aW T.f_in_order rq (fun vs H Q E h=>?_) (fun f cdv A outer s H vs Q E hr h=>?_)
 ·obtain⟨a,o,xs,es,rfl,_⟩:=h
  rfl
 ·obtain⟨a,o,xs,es,rfl,ha,ho,hp,h64,q⟩:=h
  have hlen:xs.length=es.length:=hp.length
  refine⟨_,aq (aB (vS K (wQ T) hr T.b_sorted (ah (cm rfl (bR rq) (fR (pv 0)) (fun _ _ _ _=>ca) (fun _ _ _ _=>cq fO T.b_tuple Il (ah (pv 0))))))),?_⟩
  refine⟨_,rfl,a,o,xs,rfl,ha,ho,fun J hJ D hD=>?_⟩
  refine f9 hJ (fun i ys H1=>H1 D=some (.lst ys)/\ys.length=i/\ab H H1/\Paired (aF H1) ys (es.take i)) ⟨ae,rfl,ab.upd hD,.nil⟩ (fun i ys H1 h=>⟨h.1,h.2.2.1 _ _ ha⟩) (fun ys H1 h=>?_) fun i x ys H1 hi hx h=>?_
  ·obtain⟨d1,d2,d3,d4⟩:=h
   rw[Df (by omega)] at d4
   refine⟨D,ys,es.map pl,rfl,.of d1,by omega,Paired.mapR (fun x e ⟨b,e1,e2⟩=>⟨b,_,e1,e2⟩) d4,fun D' H' p s' hD' hg p1 p2=>?_⟩
   rw[d2,hlen] at p1
   refine q D' H' _ p (d3.trans s') (d3.free hD') hg ?_ p1 p2
   exact Paired.picks (Paired.mono2 (fun _ _ z=>z.same s') d4) p fun i hi=>by
    have:=List.mem_range.mp (p1.mem_iff.mp hi)
    omega
  ·obtain⟨d1,d2,d3,d4⟩:=h
   obtain⟨e,he,b,ob,rfl,hb,hob⟩:=Paired.get hp hx
   refine cI ⟨_,rfl,b,ob,_,rfl,d3 _ _ hb,hob,fun l H2 s2 hl=>bw.mk hi (by omega) (by omega) (s2 _ _ d1) ⟨ae,by rw[C7,d2];rfl,(d3.trans s2).but_ne hD,?_⟩⟩
   rw[C9,he]
   refine Paired.snoc ?_ (Paired.mono2 (fun _ _ z=>(z.same s2).wr (s2 _ _ d1)) d4)
   exact aF.wr ⟨l,rfl,hl⟩ (s2 _ _ d1)
theorem nX {H:Hp}{p:Addr}{n:Nat}{s lo hi:Int}{f l:En}{x y:V}(h:H p=some (.tup [.int n,.int s,.int lo,.int hi,x,y]))(hx:aF H x f)(hy:aF H y l):aj H (d7 n s lo hi f l) (.ref p):=by
 unfold d7 aj
 refine⟨p,_,rfl,h,?_⟩
 iterate 4
  unfold av
  refine⟨_,_,rfl,by unfold aj;rfl,?_⟩
 unfold av
 refine⟨_,_,rfl,hx.dat,?_⟩
 unfold av
 refine⟨_,_,rfl,hy.dat,?_⟩
 unfold av
 rfl
inductive vy (vs:List V)(H:Hp)(Q:VK)(E:XK):Prop
 | mk (a:Addr)(o:HO)(xs:List V)(es:List En)(h0:vs=[.ref a])(h1:H a=some o)(h2:Ob o xs)(h3:Paired (bM H) xs es)(h4:es.length<64)
  (q:∀ p H' b,ab H H'->H p=none->bn es b->aj H' b (.ref p)->Q (.ref p) H'):vy vs H Q E
theorem mS:aA ["entries","rows","values"] ["entries"] (aw me):=aE
theorem wx (T:Txt K mg C):aK P w K mg base 5 "bar_of" ["entries"] vy:=by
 refine aW T.f_bar_of mS (fun vs H Q E h=>?_) (fun f cdv A outer s H vs Q E hr h=>?_)
 ·obtain⟨a,o,xs,es,rfl,_⟩:=h
  rfl
 ·obtain⟨a,o,xs,es,rfl,ha,ho,hp,h64,q⟩:=h
  have hlen:xs.length=es.length:=hp.length
  refine⟨_,am (aG (i:=1) mS.nd rfl (Or.inl rfl) (ai (uW T) hr (ah (pv 0))))
   (am (bJ (eY (sZ (pv 1) (fun _=>rfl))) (aq (aB (iG (empty T) hr))) bQ)
   (am (kg (i:=2) rfl rfl rfl (bR mS) (cc K (pv 1)) (fun _ _ _ _=>ca) (fun _ _ _ _=>ay (cb K) (pv 0) ac (fun _ _=>rfl)))
   (aq (aB (be (aR (aM (gY K) T.b_len Im (ah (pv 1))) (aR (aM (km K rfl) T.b_sum Io (ah (pv 2))) (aR (aM (n6 K rfl) T.b_min Iu (ah (pv 2))) (aR (aM (nw K rfl) T.b_max boot_max (ah (pv 2)))
    (aR (ay (bH K) (pv 1) ac (fun _ _=>rfl)) (aR (ay (bH K) (pv 1) (eL eM ac) (fun _ _=>rfl)) cT))))))))))),?_⟩
  refine⟨_,rfl,a,o,xs,es,rfl,ha,ho,hp,h64,fun D H1 ys p s1 hD hy hE p1 p2=>?_⟩
  have hpm:=fy p1
  have hyl:ys.length=es.length:=by rw[hE.length,hpm.length_eq]
  refine⟨_,rfl,_,.inl ⟨ys,.of hy,rfl⟩,?_⟩
  cases hes:ys with
  | nil =>
   refine bP ⟨rfl,fun p' H2 s2 hp' hd=>q p' H2 _ (s1.trans s2) (s1.free hp') (.non ?_ rfl) hd⟩
   rw[hes] at hyl
   exact Dz hyl.symm
  | cons y yr =>
   rw[<-hes]
   have hye:(!ys.isEmpty)=true:=by rw[hes];rfl
   rw[hye]
   refine bK ?_
   refine⟨_,rfl,D,rfl,⟨ys,.of hy⟩,fun V' hV=>?_⟩
   refine fF (xs:=ys) (fun i zs H2=>H2 V'=some (.lst zs)/\ab H1 H2/\zs=(aH ((bA es p).take i)).map V.int) ⟨ae,ab.upd hV,rfl⟩ (fun i zs H2 h=>⟨h.1,h.2.1.seq (.of hy)⟩) (fun zs H2 h=>?_) fun i x zs H2 hi hx h=>?_
   ·obtain⟨d1,d2,d3⟩:=h
    rw[Df (by rw[hE.length];exact EU _)] at d3
    subst d3
    have hD2:H2 D=some (.lst ys):=d2 _ _ hy
    have hE2:Paired (aF H2) ys (bA es p):=Paired.mono2 (fun _ _ z=>z.same d2) hE
    have hne:aH (bA es p)≠[]:=by
     intro z
     have z2:(aH (bA es p)).length=0:=by rw[z];rfl
     unfold aH at z2
     rw[CW,<-hE.length,hes] at z2
     cases z2
    cases hpk:bA es p with
    | nil =>
     rw[hpk] at hne
     exact absurd rfl hne
    | cons fe re =>
    rcases Ds (bA es p) with z|⟨rl,le,hpl⟩
    ·rw[hpk] at z;cases z
    rw[Dt] at hpl
    obtain⟨yf,ef,rf⟩:=Paired.getR hE2 (i:=0) (y:=fe) (by rw[hpk];rfl)
    obtain⟨yl,el,rl'⟩:=Paired.getR hE2 (i:=rl.length) (y:=le) (by rw[hpl];simp)
    have hlast:∃ yr',ys=yr'++[yl]:=by
     rcases Ds ys with z|⟨yr',yl',hyr⟩
     ·rw[hes] at z;cases z
     ·rw[Dt] at hyr
      refine⟨yr',?_⟩
      have l1:ys.length=rl.length+1:=by rw[hE2.length,hpl];simp
      have l2:yr'.length=rl.length:=by rw[hyr] at l1;simpa using l1
      rw[hyr,<-l2] at el
      rw[hyr]
      simp at el
      rw[el]
    obtain⟨yr',hyr⟩:=hlast
    have hbar:=fun lo hi (g1:lo∈aH (bA es p)) g2 (g3:hi∈aH (bA es p)) g4=>bn.perm hpm (.some lo hi fe le g1 g2 g3 g4 (by rw[hpk];exact C6) (fun e he=>(rY p1 p2 hpk).2 e (hpm.mem_iff.mp he)) (by rw[hpl];simp) (fun e he=>(rS p1 p2 hpl).2 e (hpm.mem_iff.mp he)) rfl)
    refine⟨_,rfl,D,ys,rfl,.inl (.of hD2),_,rfl,V',_,rfl,.inl (.of d1),_,rfl,V',_,rfl,.of d1,hne,fun lo g1 g2=>⟨_,rfl,V',_,rfl,.of d1,hne,fun hi g3 g4=>?_⟩⟩
    refine⟨_,rfl,D,ys,_,_,rfl,rfl,.of hD2,bz (j:=0) ef,_,rfl,_,rfl,D,ys,_,_,rfl,rfl,.of hD2,by rw[hyr];exact jd _ _,ir (by show 6<=1000;decide),fun pp hpp=>?_⟩
    refine q pp _ _ ((s1.trans d2).trans (ab.upd hpp)) ((s1.trans d2).free hpp) (hbar lo hi g1 g2 g3 g4) ?_
    have hn:ys.length=(bA es p).length:=hE2.length
    exact nX (by rw[ae,hn]) (rf.same (ab.upd hpp)) (rl'.same (ab.upd hpp))
   ·obtain⟨d1,d2,d3⟩:=h
    obtain⟨e,he,b,rfl,hb⟩:=Paired.get hE hx
    refine cI ⟨_,rfl,b,_,_,_,rfl,rfl,.of (d2 _ _ hb),bz (j:=2) rfl,bw.mk hi (by omega) ?_ d1 ⟨ae,d2.but_ne hV,?_⟩⟩
    ·rw[d3]
     unfold aH
     rw[CW,CW,Db]
     omega
    ·rw[d3,C9,he]
     unfold aH
     simp
end
end Pr
namespace Ent
open PySem
structure kj (es:List En)(lo hi:Int)(f l:En):Prop where
 h1:lo∈aH es
 h2:∀ v∈aH es,lo<=v
 h3:hi∈aH es
 h4:∀ v∈aH es,v<=hi
 h5:f∈es
 h6:∀ e∈es,ck e f=false
 h7:l∈es
 h8:∀ e∈es,ck l e=false
theorem kj.of {es:List En}{lo hi:Int}{f l:En}(h:kj es lo hi f l):bn es (d7 es.length (aH es).sum lo hi f l):=.some lo hi f l h.h1 h.h2 h.h3 h.h4 h.h5 h.h6 h.h7 h.h8 rfl
structure Bd where
 es:List En
 lo:Int
 hi:Int
 f:En
 l:En
def Bd.Ok (d:Bd):Prop:=kj d.es d.lo d.hi d.f d.l
def dL (ds:List Bd):List En:=(ds.map (·.es)).flatten
theorem ib {ds:List Bd}{e:En}:e∈dL ds↔∃ d∈ds,e∈d.es:=by
 unfold dL
 rw[List.mem_flatten]
 constructor
 ·rintro⟨l,hl,he⟩
  obtain⟨d,hd,rfl⟩:=List.mem_map.mp hl
  exact⟨d,hd,he⟩
 ·rintro⟨d,hd,he⟩
  exact⟨_,List.mem_map.mpr ⟨d,hd,rfl⟩,he⟩
theorem nE {es:List En}{v:Int}:v∈aH es↔∃ e∈es,e.2.2=v:=DP
theorem jY {ds:List Bd}{v:Int}:v∈aH (dL ds)↔∃ d∈ds,v∈aH d.es:=by
 rw[nE]
 constructor
 ·rintro⟨e,he,rfl⟩
  obtain⟨d,hd,h⟩:=ib.mp he
  exact⟨d,hd,nE.mpr ⟨e,h,rfl⟩⟩
 ·rintro⟨d,hd,h⟩
  obtain⟨e,he,rfl⟩:=nE.mp h
  exact⟨e,ib.mpr ⟨d,hd,he⟩,rfl⟩
theorem sy:∀ (ds:List Bd),(ds.map fun d=>(d.es.length:Int)).sum=((dL ds).length:Int)
 | []=>rfl
 | d::ds=>by
  have ih:=sy ds
  unfold dL at ih ⊢
  rw[C1,Dd,ih,C1,EA,C7]
  omega
theorem uZ:∀ (ds:List Bd),(ds.map fun d=>(aH d.es).sum).sum=(aH (dL ds)).sum
 | []=>rfl
 | d::ds=>by
  have ih:=uZ ds
  unfold dL aH at ih ⊢
  rw[C1,Dd,ih,C1,EA,C8,List.sum_append]
theorem yR {ds:List Bd}(ok:∀ d∈ds,d.Ok){lo hi:Int}{f l:En}(h1:lo∈ds.map (·.lo))(h2:∀ v∈ds.map (·.lo),lo<=v)(h3:hi∈ds.map (·.hi))(h4:∀ v∈ds.map (·.hi),v<=hi)
  (h5:f∈ds.map (·.f)++ds.map (·.l)) (h6:∀ e∈ds.map (·.f)++ds.map (·.l),ck e f=false) (h7:l∈ds.map (·.f)++ds.map (·.l)) (h8:∀ e∈ds.map (·.f)++ds.map (·.l),ck l e=false) :
  kj (dL ds) lo hi f l:=by
 have mem:∀ e∈ds.map (·.f)++ds.map (·.l),e∈dL ds:=fun e he=>by
  rcases List.mem_append.mp he with he|he
  ·obtain⟨d,hd,rfl⟩:=List.mem_map.mp he
   exact ib.mpr ⟨d,hd,(ok d hd).h5⟩
  ·obtain⟨d,hd,rfl⟩:=List.mem_map.mp he
   exact ib.mpr ⟨d,hd,(ok d hd).h7⟩
 refine⟨?_,fun v hv=>?_,?_,fun v hv=>?_,mem f h5,fun e he=>?_,mem l h7,fun e he=>?_⟩
 ·obtain⟨d,hd,rfl⟩:=List.mem_map.mp h1
  exact jY.mpr ⟨d,hd,(ok d hd).h1⟩
 ·obtain⟨d,hd,h⟩:=jY.mp hv
  have:=h2 d.lo (List.mem_map.mpr ⟨d,hd,rfl⟩)
  have:=(ok d hd).h2 v h
  omega
 ·obtain⟨d,hd,rfl⟩:=List.mem_map.mp h3
  exact jY.mpr ⟨d,hd,(ok d hd).h3⟩
 ·obtain⟨d,hd,h⟩:=jY.mp hv
  have:=h4 d.hi (List.mem_map.mpr ⟨d,hd,rfl⟩)
  have:=(ok d hd).h4 v h
  omega
 ·obtain⟨d,hd,h⟩:=ib.mp he
  exact Srt.plt_tr (h6 d.f (Dj _ (List.mem_map.mpr ⟨d,hd,rfl⟩))) ((ok d hd).h6 e h)
 ·obtain⟨d,hd,h⟩:=ib.mp he
  exact Srt.plt_tr ((ok d hd).h8 e h) (h8 d.l (C3 _ (List.mem_map.mpr ⟨d,hd,rfl⟩)))
end Ent
namespace Pr
open PySem L2 PyProof.Rows Ent
def c0 (H:Hp)(x:V)(d:Bd):Prop:=∃ a o xf xl,x=.ref a/\H a=some o/\Ob o [.int d.es.length,.int (aH d.es).sum,.int d.lo,.int d.hi,xf,xl]/\bM H xf d.f/\bM H xl d.l/\d.Ok
theorem c0.same {H H':Hp}(s:ab H H'){x:V}{d:Bd}(h:c0 H x d):c0 H' x d:=by
 obtain⟨a,o,xf,xl,h1,h2,h3,h4,h5,h6⟩:=h
 exact⟨a,o,xf,xl,h1,s _ _ h2,h3,h4.same s,h5.same s,h6⟩
inductive gT (H:Hp)(x:V)(es:List En):Prop
 | non (a:Addr) (o:HO) (e:x=.ref a) (h:H a=some o) (ob:Ob o [.int 0,.int 0,.non,.non,.non,.non]) (he:es=[]):gT H x es
 | some (d:Bd) (he:es=d.es) (h:c0 H x d):gT H x es
theorem gX {K:W.Frag}{j:Int}{σ:L2.St}{H:Hp}{L D:Addr}{Fin:Hp->Prop}{ys zs:List V}(hy:H L=some (.lst ys))(hn:ys.length<=1000)(hz:zs.length=ys.length)
  (hp:∀ (k:Nat) (y:V),ys[k]?=some y->∃ a o its v,y=.ref a/\H a=some o/\Ob o its/\bY its j=some v/\zs[k]?=some v) (hD:H D=none) (q:∀ H',ab H H'->H' D=some (.lst zs)->Fin H') :
  fT ji (iT uj (iw 0) (tC (.int j))) σ (eV K L) D Fin H:=by
 refine fF (xs:=ys) (fun k ws H1=>H1 D=some (.lst ws)/\ab H H1/\ws=zs.take k) ⟨ae,ab.upd hD,rfl⟩ (fun k ws H1 h=>⟨h.1,h.2.1.seq (.of hy)⟩) (fun ws H1 h=>?_) fun k x ws H1 hk hx h=>?_
 ·obtain⟨h1,h2,rfl⟩:=h
  rw[Df (by omega)] at h1
  exact q H1 h2 h1
 ·obtain⟨h1,h2,rfl⟩:=h
  obtain⟨a,o,its,v,rfl,ha,ho,hv,hzk⟩:=hp k x hx
  refine cI ⟨_,rfl,a,o,its,j,v,rfl,rfl,h2 _ _ ha,ho,hv,bw.mk hk hn (by rw[Db];omega) h1 ⟨ae,h2.but_ne hD,?_⟩⟩
  rw[C9,hzk]
  rfl
section
variable {P:FN}{w:World}{K:W.Frag}{mg:Str->Option Value}{base:Heap}{C:Addr}
inductive tX (vs:List V)(H:Hp)(Q:VK)(E:XK):Prop
 | mk (x y:V)(es es':List En)(h0:vs=[x,y])(h1:gT H x es)(h2:gT H y es')(q:∀ p H' b,ab H H'->H p=none->bn (es++es') b->aj H' b (.ref p)->Q (.ref p) H'):tX vs H Q E
theorem eR:aA ["one","other","bars","ends"] ["one","other"] (aw mx):=aE
theorem j0 {H:Hp}{ys:List V}{ds:List Bd}{g:Bd->Int}{j:Nat}(hp:Paired (c0 H) ys ds)(hg:∀ d xf xl,bY [V.int d.es.length,.int (aH d.es).sum,.int d.lo,.int d.hi,xf,xl] (j:Int)=some (.int (g d))) :
  ∀ (k:Nat) (y:V),ys[k]?=some y->∃ a o its v,y=.ref a/\H a=some o/\Ob o its/\bY its (j:Int)=some v/\((ds.map g).map V.int)[k]?=some v:=fun k y hy=>by
 obtain⟨d,hd,a,o,xf,xl,e,h2,h3,h4,h5,h6⟩:=Paired.get hp hy
 refine⟨a,o,_,_,e,h2,h3,hg d xf xl,?_⟩
 rw[Da,Da,hd]
 rfl
theorem ou {H:Hp}:∀ {ys:List V}{ds:List Bd},Paired (c0 H) ys ds->∃ zs ws,Paired (bM H) zs (ds.map (·.f))/\Paired (bM H) ws (ds.map (·.l)) /\
  (∀ (k:Nat) (y:V),ys[k]?=some y->∃ a o its v,y=.ref a/\H a=some o/\Ob o its/\bY its 4=some v/\zs[k]?=some v)/\∀ (k:Nat) (y:V),ys[k]?=some y->∃ a o its v,y=.ref a/\H a=some o/\Ob o its/\bY its 5=some v/\ws[k]?=some v
 | _,_,.nil=>⟨[],[],.nil,.nil,fun k y h=>by simp at h,fun k y h=>by simp at h⟩
 | _,_,.cons ⟨a,o,xf,xl,e,h2,h3,h4,h5,h6⟩ r=>by
  obtain⟨zs,ws,p1,p2,q1,q2⟩:=ou r
  refine⟨xf::zs,xl::ws,.cons h4 p1,.cons h5 p2,fun k y hy=>?_,fun k y hy=>?_⟩
  ·cases k with
   | zero =>
    have hy':=Option.some.inj hy
    exact⟨a,o,_,xf,by rw[<-hy'];exact e,h2,h3,bz (j:=4) rfl,rfl⟩
   | succ k=>exact q1 k y hy
  ·cases k with
   | zero =>
    have hy':=Option.some.inj hy
    exact⟨a,o,_,xl,by rw[<-hy'];exact e,h2,h3,bz (j:=5) rfl,rfl⟩
   | succ k=>exact q2 k y hy
set_option maxHeartbeats 4000000 in
theorem yH (T:Txt K mg C):aK P w K mg base 5 "joined" ["one","other"] tX:=by
 refine aW T.f_joined eR (fun vs H Q E h=>?_) (fun f cdv A outer s H vs Q E hr h=>?_)
 ·obtain⟨x,y,es,es',rfl,_⟩:=h
  rfl
 ·obtain⟨x,y,es,es',rfl,h1,h2,q⟩:=h
  refine⟨_,am (kg (i:=2) rfl rfl rfl (bR eR) (pC K (be (ao (pv 0) (pv 1)))) (fun _ _ _ _=>ju (bU gy (ay cV (pv 0) ac (fun _ _=>rfl)) ac (bD _))) (fun _ _ _ _=>pv 0))
   (am (bJ (eY (sZ (pv 2) (fun _=>rfl))) (aq (aB (iG (empty T) hr))) bQ)
   (am (aG (i:=3) eR.nd rfl (Or.inl rfl) (ai (uW T) hr (ah (au mo (cm rfl (bR eR) (cc K (pv 2)) (fun _ _ _ _=>ca) (fun _ _ _ _=>ay cV (pv 0) ac (fun _ _=>rfl))) (cm rfl (bR eR) (cc K (pv 2)) (fun _ _ _ _=>ca) (fun _ _ _ _=>ay cV (pv 0) ac (fun _ _=>rfl)))))))
   (aq (aB (be (aR (aM (km K rfl) T.b_sum Io (ah (cm rfl (bR eR) (cc K (pv 2)) (fun _ _ _ _=>ca) (fun _ _ _ _=>ay cV (pv 0) ac (fun _ _=>rfl)))))
    (aR (aM (km K rfl) T.b_sum Io (ah (cm rfl (bR eR) (cc K (pv 2)) (fun _ _ _ _=>ca) (fun _ _ _ _=>ay cV (pv 0) ac (fun _ _=>rfl)))))
    (aR (aM (n6 K rfl) T.b_min Iu (ah (cm rfl (bR eR) (cc K (pv 2)) (fun _ _ _ _=>ca) (fun _ _ _ _=>ay cV (pv 0) ac (fun _ _=>rfl)))))
    (aR (aM (nw K rfl) T.b_max boot_max (ah (cm rfl (bR eR) (cc K (pv 2)) (fun _ _ _ _=>ca) (fun _ _ _ _=>ay cV (pv 0) ac (fun _ _=>rfl)))))
    (aR (ay (bH K) (pv 3) ac (fun _ _=>rfl)) (aR (ay (bH K) (pv 3) (eL eM ac) (fun _ _=>rfl)) cT))))))))))),?_⟩
  refine⟨_,rfl,_,rfl,bE,fun t ht=>⟨t,rfl,⟨_,.of ae⟩,fun D hD=>?_⟩⟩
  have st:ab H (upd H t (.tup [x,y])):=ab.upd ht
  have hD0:H D=none:=st.free hD
  have pb:Paired (gT H) [x,y] [es,es']:=.cons h1 (.cons h2 .nil)
  refine wW (xs:=[x,y]) (fun i ys H1=>H1 D=some (.lst ys)/\ys.length<=i/\ab (upd H t (.tup [x,y])) H1/\∃ ds,Paired (c0 H) ys ds/\dL ds=([es,es'].take i).flatten) ⟨ae,EX _,ab.upd hD,[],.nil,rfl⟩ (fun i ys H1 h=>⟨h.1,h.2.2.1.sqT (.of ae)⟩) (fun ys H1 h=>?_) fun i b ys H1 hi hx h=>?_
  ·obtain⟨d1,d2,d3,ds,d4,d5⟩:=h
   have s1:ab H H1:=st.trans d3
   have d4:=Paired.mono2 (fun _ _ z=>c0.same s1 z) d4
   have d5':dL ds=es++es':=by rw[d5];simp
   have d2':ys.length<=2:=d2
   have dl:ys.length=ds.length:=d4.length
   have dok:∀ d∈ds,d.Ok:=fun d hd=>by
    obtain⟨k,hk,rfl⟩:=Dy hd
    obtain⟨_,_,_,_,_,_,_,_,_,_,_,h⟩:=Paired.getR d4 (CZ hk)
    exact h
   refine⟨_,rfl,_,.inl ⟨ys,.of d1,rfl⟩,?_⟩
   cases hys:ys with
   | nil =>
    refine bP ⟨rfl,fun p' H2 s2 hp' hd=>q p' H2 _ (s1.trans s2) (s1.free hp') (.non ?_ rfl) hd⟩
    rw[hys] at dl
    have:ds=[]:=Dz dl.symm
    rw[<-d5',this]
    rfl
   | cons y0 yr =>
    have hye:(!(y0::yr).isEmpty)=true:=rfl
    rw[hye]
    refine bK ?_
    have hne:ds≠[]:=fun z=>by rw[hys,z] at dl;cases dl
    obtain⟨zs,ws,p1,p2,q1,q2⟩:=ou d4
    have lz:zs.length=ys.length:=by rw[p1.length,CW];omega
    have lw:ws.length=ys.length:=by rw[p2.length,CW];omega
    refine⟨_,rfl,D,rfl,⟨ys,.of d1⟩,fun D1 hD1=>gX d1 (by omega) lz q1 hD1 fun H2 s2 g1=>?_⟩
    have d42:=Paired.mono2 (fun _ _ z=>c0.same s2 z) d4
    refine⟨_,rfl,D,rfl,⟨ys,.of (s2 _ _ d1)⟩,fun D2 hD2=>gX (s2 _ _ d1) (by omega) lw (fun k y hy=>by
     obtain⟨a,o,its,v,e1,e2,e3,e4,e5⟩:=q2 k y hy
     exact⟨a,o,its,v,e1,s2 _ _ e2,e3,e4,e5⟩) hD2 fun H3 s3 g2=>?_⟩
    refine⟨D1,D2,_,_,rfl,rfl,s3 _ _ g1,g2,ir (by omega),fun D3 hD3=>?_⟩
    have s13:ab H1 H3:=s2.trans s3
    have s14:ab H1 (upd H3 D3 (.lst (zs++ws))):=s13.trans (ab.upd hD3)
    refine⟨D3,_,zs++ws,ds.map (·.f)++ds.map (·.l),rfl,ae,.inl rfl,Paired.mono2 (fun _ _ z=>bM.same s14 z) (by
      have:∀ {xs xs':List V}{ys ys':List En},Paired (bM H1) xs ys->Paired (bM H1) xs' ys'->Paired (bM H1) (xs++xs') (ys++ys'):=fun {xs xs' ys ys'} a b=>by
       induction a with
       | nil=>exact b
       | cons r _ ih=>exact .cons r ih
      exact this p1 p2),by rw[C7,CW,CW];omega,fun E5 H5 es5 pp s5 hE5 g5 pe5 pm ps=>?_⟩
    have s15:ab H1 H5:=s14.trans s5
    have d45:=Paired.mono2 (fun _ _ z=>c0.same s15 z) d4
    refine⟨_,rfl,D,rfl,⟨ys,.of (s15 _ _ d1)⟩,fun D6 hD6=>gX (s15 _ _ d1) (by omega) (by rw[CW,CW];omega) (j0 (j:=0) (g:=fun d=>(d.es.length:Int)) d45 fun d xf xl=>bz (j:=0) rfl) hD6 fun H6 s6 g6=>⟨D6,_,rfl,.inl (.of g6),?_⟩⟩
    refine⟨_,rfl,D,rfl,⟨ys,.of ((s15.trans s6) _ _ d1)⟩,fun D7 hD7=>gX ((s15.trans s6) _ _ d1) (by omega) (by rw[CW,CW];omega) (j0 (j:=1) (g:=fun d=>(aH d.es).sum) (Paired.mono2 (fun _ _ z=>c0.same s6 z) d45) fun d xf xl=>bz (j:=1) rfl) hD7 fun H7 s7 g7=>⟨D7,_,rfl,.inl (.of g7),?_⟩⟩
    have s57:ab H5 H7:=s6.trans s7
    refine⟨_,rfl,D,rfl,⟨ys,.of ((s15.trans s57) _ _ d1)⟩,fun D8 hD8=>gX ((s15.trans s57) _ _ d1) (by omega) (by rw[CW,CW];omega) (j0 (j:=2) (g:=fun d=>d.lo) (Paired.mono2 (fun _ _ z=>c0.same s57 z) d45) fun d xf xl=>bz (j:=2) rfl) hD8 fun H8 s8 g8=>⟨D8,_,rfl,.of g8,by simpa using hne,fun lo l1 l2=>?_⟩⟩
    have s58:ab H5 H8:=s57.trans s8
    refine⟨_,rfl,D,rfl,⟨ys,.of ((s15.trans s58) _ _ d1)⟩,fun D9 hD9=>gX ((s15.trans s58) _ _ d1) (by omega) (by rw[CW,CW];omega) (j0 (j:=3) (g:=fun d=>d.hi) (Paired.mono2 (fun _ _ z=>c0.same s58 z) d45) fun d xf xl=>bz (j:=3) rfl) hD9 fun H9 s9 g9=>⟨D9,_,rfl,.of g9,by simpa using hne,fun hi' l3 l4=>?_⟩⟩
    have s59:ab H5 H9:=s58.trans s9
    have pm':=fy pm
    have pe9:Paired (aF H9) es5 (bA (ds.map (·.f)++ds.map (·.l)) pp):=Paired.mono2 (fun _ _ z=>aF.same s59 z) pe5
    cases hpk:bA (ds.map (·.f)++ds.map (·.l)) pp with
    | nil =>
     rw[hpk] at pm'
     have:=pm'.length_eq
     rw[C7,CW,CW] at this
     have:ds.length=0:=by simp at this;omega
     exact absurd (Dz this) hne
    | cons fe re =>
    rcases Ds (bA (ds.map (·.f)++ds.map (·.l)) pp) with z|⟨rl,le,hpl⟩
    ·rw[hpk] at z;cases z
    rw[Dt] at hpl
    obtain⟨yf,ef,rf⟩:=Paired.getR pe9 (i:=0) (y:=fe) (by rw[hpk];rfl)
    obtain⟨yl,el,rl'⟩:=Paired.getR pe9 (i:=rl.length) (y:=le) (by rw[hpl];simp)
    have hlast:∃ yr',es5=yr'++[yl]:=by
     rcases Ds es5 with z|⟨yr',yl',hyr⟩
     ·rw[z] at ef;cases ef
     ·rw[Dt] at hyr
      refine⟨yr',?_⟩
      have l1:es5.length=rl.length+1:=by rw[pe9.length,hpl];simp
      have l2:yr'.length=rl.length:=by rw[hyr] at l1;simpa using l1
      rw[hyr,<-l2] at el
      rw[hyr]
      simp at el
      rw[el]
    obtain⟨yr',hyr⟩:=hlast
    have b1:=rY pm ps hpk
    have b2:=rS pm ps hpl
    have hbar:=(yR dok l1 l2 l3 l4 b1.1 b1.2 b2.1 b2.2).of
    rw[<-uZ,d5'] at hbar
    refine⟨_,rfl,E5,es5,_,_,rfl,rfl,.of (s59 _ _ g5),bz (j:=0) ef,_,rfl,_,rfl,E5,es5,_,_,rfl,rfl,.of (s59 _ _ g5),by rw[hyr];exact jd _ _,ir (by show 6<=1000;decide),fun p10 hp10=>?_⟩
    refine q p10 _ _ ((s1.trans (s15.trans s59)).trans (ab.upd hp10)) ((s1.trans (s15.trans s59)).free hp10) hbar ?_
    refine nX ?_ (rf.same (ab.upd hp10)) (rl'.same (ab.upd hp10))
    rw[ae,sy,d5']
  ·obtain⟨d1,d2,d3,ds,d4,d5⟩:=h
   obtain⟨es0,he0,hb⟩:=Paired.get pb hx
   have s1:ab H H1:=st.trans d3
   have etk:([es,es'].take (i+1)).flatten=([es,es'].take i).flatten++es0:=by rw[C9,he0];simp
   cases hb with
   | non a o e h ob he =>
    subst e
    refine⟨_,rfl,a,o,_,_,_,rfl,rfl,s1 _ _ h,ob,bz (j:=0) rfl,_,_,rfl,rfl,_,rfl,bK (cN.mk hi ⟨d1,by omega,d3,ds,d4,?_⟩)⟩
    rw[etk,he,d5]
    simp
   | some d he h =>
    obtain⟨a,o,xf,xl,rfl,h2,h3,h4,h5,h6⟩:=h
    have hpos:0<d.es.length:=EB h6.h5
    have hdec:decide ((0:Int)<(d.es.length:Int))=true:=decide_eq_true (by omega)
    refine⟨_,rfl,a,o,_,_,_,rfl,rfl,s1 _ _ h2,h3,bz (j:=0) rfl,_,_,rfl,rfl,_,rfl,?_⟩
    rw[hdec]
    refine bP ⟨_,rfl,bw.mk hi (by show 2<=1000;decide) d2 d1 ⟨ae,by rw[C7];show _+1<=_;omega,d3.but_ne hD,ds++[d],Paired.snoc ⟨a,o,xf,xl,rfl,h2,h3,h4,h5,h6⟩ d4,?_⟩⟩
    unfold dL at d5 ⊢
    rw[C8,List.flatten_append,d5,etk,he]
    simp
end
end Pr
namespace L2
open PySem PySem.Spec PyProof.Rows
theorem Paired.append {α β:Type}{F:α->β->Prop}:∀ {xs xs':List α}{ys ys':List β},Paired F xs ys->Paired F xs' ys'->Paired F (xs++xs') (ys++ys')
 | _,_,_,_,.nil,s=>s
 | _,_,_,_,.cons r t,s=>.cons r (Paired.append t s)
mutual
def noL:PyData->Bool
 | .list _=>false
 | .tuple ds=>jT ds
 | .dict _=>false
 | _=>true
def jT:List PyData->Bool
 | []=>true
 | d::ds=>noL d && jT ds
end
mutual
theorem aj.tups {H H':Hp}(s:∀ b xs,H b=some (.tup xs)->H' b=some (.tup xs)):∀ (d:PyData) (v:V),noL d=true->aj H d v->aj H' d v
 | .none,v,_,h=>by unfold aj at h ⊢;exact h
 | .bool _,v,_,h=>by unfold aj at h ⊢;exact h
 | .int _,v,_,h=>by unfold aj at h ⊢;exact h
 | .str _,v,_,h=>by unfold aj at h ⊢;exact h
 | .list ds,v,n,h=>by unfold noL at n;cases n
 | .tuple ds,v,n,h=>by
  unfold noL at n
  unfold aj at h ⊢
  obtain⟨a,xs,e,h1,h2⟩:=h
  exact⟨a,xs,e,s _ _ h1,av.tups s ds xs n h2⟩
 | .dict _,v,n,h=>by unfold noL at n;cases n
theorem av.tups {H H':Hp}(s:∀ b xs,H b=some (.tup xs)->H' b=some (.tup xs)):∀ (ds:List PyData) (xs:List V),jT ds=true->av H ds xs->av H' ds xs
 | [],xs,_,h=>by unfold av at h ⊢;exact h
 | d::ds,xs,n,h=>by
  unfold jT at n
  rw[Bool.and_eq_true] at n
  unfold av at h ⊢
  obtain⟨x,r,e,h1,h2⟩:=h
  exact⟨x,r,e,aj.tups s d x n.1 h1,av.tups s ds r n.2 h2⟩
end
end L2
namespace Ent
open PySem
theorem qp {es:List En}{b:PyData}(h:bn es b):L2.noL b=true:=by
 cases h with
 | non _ e=>rw[e];rfl
 | some lo hi f l h1 h2 h3 h4 h5 h6 h7 h8 e=>rw[e];rfl
end Ent
namespace Pr
open PySem L2 PyProof.Rows Ent
end Pr
namespace Ent
open PySem
theorem Bm {es:List En}{b:PyData}(hk:∀ e∈es,bi e)(hn:es.length<=1000)(h:bn es b):Lf b/\b.bulk<=40/\b.depth<=2:=by
 cases h with
 | non e1 e2 =>
  subst e2
  refine⟨kN fun d hd=>?_,by decide,by decide⟩
  simp only[DF,DG,or_false] at hd
  rcases hd with rfl|rfl|rfl|rfl|rfl|rfl
  ·exact fW (by decide)
  ·exact fW (by decide)
  all_goals exact AA
 | some lo hi f l h1 h2 h3 h4 h5 h6 h7 h8 e =>
  subst e
  have hv:∀ v∈aH es,v.natAbs<10 ^ 30:=fun v hv=>by
   obtain⟨x,hx,rfl⟩:=List.mem_map.mp hv
   exact(hk x hx).v
  have hs:=q9 hv
  have hl:(aH es).length=es.length:=CW ..
  refine⟨kN fun d hd=>?_,?_,?_⟩
  ·simp only[DF,DG,or_false] at hd
   rcases hd with rfl|rfl|rfl|rfl|rfl|rfl
   ·exact fW (E9 (by rw[Int.natAbs_natCast];exact hn) (by decide +kernel))
   ·refine fW (E9 hs ?_)
    rw[hl]
    exact E9 (Nat.mul_le_mul_right _ hn) (by decide +kernel)
   ·exact fW (j7 (hv _ h1))
   ·exact fW (j7 (hv _ h3))
   ·exact tY (hk _ h5)
   ·exact tY (hk _ h7)
  ·have a:=sL (hk _ h5)
   have b:=sL (hk _ h7)
   unfold d7
   simp only[PyData.bulk,PyData.bulkAll]
   omega
  ·unfold d7
   simp only[PyData.depth,PyData.depthAll,xG]
   omega
end Ent
namespace Pr
open PySem L2 PyProof.Rows Ent
theorem u9 {H:Hp}{x:V}{e:En}(h:aj H (eD e) x):aF H x e:=by
 unfold eD aj at h
 obtain⟨a,xs,e1,h1,h2⟩:=h
 unfold av at h2
 obtain⟨x1,r1,rfl,d1,h2⟩:=h2
 unfold av at h2
 obtain⟨x2,r2,rfl,d2,h2⟩:=h2
 unfold av at h2
 obtain⟨x3,r3,rfl,d3,h2⟩:=h2
 unfold av at h2
 unfold aj at d1 d2 d3
 subst h2 d1 d2 d3
 exact⟨a,e1,h1⟩
def BT (H:Hp)(x:V)(es:List En):Prop:=∃ p b,x=.ref p/\aj H b (.ref p)/\bn es b
theorem BT.same {H H':Hp}(s:ab H H'){x:V}{es:List En}(h:BT H x es):BT H' x es:=by
 obtain⟨p,b,e,d,o⟩:=h
 exact⟨p,b,e,d.same s _ _,o⟩
theorem BT.tups {H H':Hp}(s:∀ b xs,H b=some (.tup xs)->H' b=some (.tup xs)){x:V}{es:List En}(h:BT H x es):BT H' x es:=by
 obtain⟨p,b,e,d,o⟩:=h
 exact⟨p,b,e,aj.tups s _ _ (qp o) d,o⟩
theorem BT.cases {H:Hp}{x:V}{es:List En}(h:BT H x es):(∃ p,x=.ref p/\es=[]/\H p=some (.tup [.int 0,.int 0,.non,.non,.non,.non])) \/
  ∃ (p:Addr) (d:Bd) (xf xl:V),x=.ref p/\es=d.es/\d.Ok/\H p=some (.tup [.int d.es.length,.int (aH d.es).sum,.int d.lo,.int d.hi,xf,xl])/\aF H xf d.f/\aF H xl d.l:=by
 obtain⟨p,b,rfl,d,o⟩:=h
 cases o with
 | non he e =>
  subst e
  left
  unfold cw aj at d
  obtain⟨a,xs,e1,h1,h2⟩:=d
  cases e1
  unfold av at h2
  obtain⟨x1,r1,rfl,d1,h2⟩:=h2
  unfold av at h2
  obtain⟨x2,r2,rfl,d2,h2⟩:=h2
  unfold av at h2
  obtain⟨x3,r3,rfl,d3,h2⟩:=h2
  unfold av at h2
  obtain⟨x4,r4,rfl,d4,h2⟩:=h2
  unfold av at h2
  obtain⟨x5,r5,rfl,d5,h2⟩:=h2
  unfold av at h2
  obtain⟨x6,r6,rfl,d6,h2⟩:=h2
  unfold av at h2
  unfold aj at d1 d2 d3 d4 d5 d6
  subst h2 d1 d2 d3 d4 d5 d6
  exact⟨p,rfl,he,h1⟩
 | some lo hi f l g1 g2 g3 g4 g5 g6 g7 g8 e =>
  subst e
  right
  unfold d7 aj at d
  obtain⟨a,xs,e1,h1,h2⟩:=d
  cases e1
  unfold av at h2
  obtain⟨x1,r1,rfl,d1,h2⟩:=h2
  unfold av at h2
  obtain⟨x2,r2,rfl,d2,h2⟩:=h2
  unfold av at h2
  obtain⟨x3,r3,rfl,d3,h2⟩:=h2
  unfold av at h2
  obtain⟨x4,r4,rfl,d4,h2⟩:=h2
  unfold av at h2
  obtain⟨x5,r5,rfl,d5,h2⟩:=h2
  unfold av at h2
  obtain⟨x6,r6,rfl,d6,h2⟩:=h2
  unfold av at h2
  have e5:=u9 d5
  have e6:=u9 d6
  unfold aj at d1 d2 d3 d4
  subst h2 d1 d2 d3 d4
  exact⟨p,⟨es,lo,hi,f,l⟩,x5,x6,rfl,rfl,⟨g1,g2,g3,g4,g5,g6,g7,g8⟩,h1,e5,e6⟩
theorem BT.g {H:Hp}{x:V}{es:List En}(h:BT H x es):gT H x es:=by
 rcases (BT.cases h) with⟨p,e,he,h⟩|⟨p,d,xf,xl,e,he,ok,h,hf,hl⟩
 ·exact .non p _ e h (.inr rfl) he
 ·exact .some d he ⟨p,_,xf,xl,e,h,.inr rfl,hf.g,hl.g,ok⟩
end Pr
namespace L2
open PySem PySem.Spec PyProof.Rows
section
variable {κ:Type}[DecidableEq κ]
def aP (kvs:List (κ×V))(k:κ):Option V:=(kvs.find? fun kv=>decide (kv.1=k)).map (·.2)
def bh (kvs:List (κ×V))(k:κ)(v:V):List (κ×V) :=
 if (kvs.any fun kv=>decide (kv.1=k))=true then kvs.map (fun kv=>if kv.1=k then (kv.1,v) else kv) else kvs++[(k,v)]
def eZ (kvs:List (κ×V))(k:κ):List (κ×V):=kvs.filter fun kv=>decide (kv.1≠k)
theorem dz {p:κ×V}{r:List (κ×V)}{k:κ}(e:p.1=k):aP (p::r) k=some p.2:=by simp[aP,DH,e]
theorem dI {p:κ×V}{r:List (κ×V)}{k:κ}(e:¬ p.1=k):aP (p::r) k=aP r k:=by simp[aP,DH,e]
theorem gP (k:κ):∀ kvs:List (κ×V),(kvs.any fun kv=>decide (kv.1=k))=(aP kvs k).isSome
 | []=>rfl
 | p::r=>by
  rw[Ej]
  by_cases e:p.1=k
  ·simp only[dz e,decide_eq_true e,Bool.true_or,Option.isSome_some]
  ·rw[dI e,decide_eq_false e,Bool.false_or];exact gP k r
theorem qz (k j:κ)(y:V):∀ kvs:List (κ×V),aP (kvs.map fun kv=>if kv.1=k then (kv.1,y) else kv) j=(aP kvs j).map fun x=>if j=k then y else x
 | []=>rfl
 | p::r=>by
  have ih:=qz k j y r
  rw[C1]
  by_cases h:p.1=k
  ·rw[if_pos h]
   by_cases e:p.1=j
   ·rw[dz (p:=(p.1,y)) e,dz e,FG,if_pos (e.symm.trans h)]
   ·rw[dI (p:=(p.1,y)) e,dI e,ih]
  ·rw[if_neg h]
   by_cases e:p.1=j
   ·rw[dz (p:=p) e,dz e,FG,if_neg (fun z=>h (e.trans z))]
   ·rw[dI (p:=p) e,dI e,ih]
theorem oR (k j:κ)(y:V):∀ kvs:List (κ×V),aP kvs k=none->aP (kvs++[(k,y)]) j=if j=k then some y else aP kvs j
 | [],_=>by
  by_cases e:k=j
  ·rw[if_pos e.symm];exact dz (p:=(k,y)) e
  ·rw[if_neg (fun z=>e z.symm)];exact dI (p:=(k,y)) e
 | p::r,hn=>by
  rw[List.cons_append]
  have hk:¬ p.1=k:=fun z=>by rw[dz z] at hn;cases hn
  rw[dI hk] at hn
  have ih:=oR k j y r hn
  by_cases e:p.1=j
  ·rw[dz e,dz e,if_neg (fun z=>hk (e.trans z))]
  ·rw[dI e,dI e,ih]
theorem je (kvs:List (κ×V))(k j:κ)(y:V):aP (bh kvs k y) j=if j=k then some y else aP kvs j:=by
 unfold bh
 by_cases a:(kvs.any fun kv=>decide (kv.1=k))=true
 ·rw[if_pos a,qz]
  rw[gP] at a
  by_cases e:j=k
  ·obtain⟨x,hx⟩:=Option.isSome_iff_exists.mp a
   rw[if_pos e,e,hx,FG,if_pos rfl]
  ·rw[if_neg e]
   cases aP kvs j with
   | none=>rfl
   | some x=>rw[FG,if_neg e]
 ·rw[if_neg a]
  refine oR k j y kvs ?_
  rw[gP] at a
  cases q:aP kvs k with
  | none=>rfl
  | some x=>rw[q] at a;exact(a rfl).elim
theorem oP (kvs:List (κ×V))(k:κ)(v:V):(bh kvs k v).length<=kvs.length+1:=by
 unfold bh
 split
 ·rw[CW];omega
 ·rw[C7,C4,DM];omega
theorem AY {kvs:List (κ×V)}{k:κ}(v:V)(h:aP kvs k=none):bh kvs k v=kvs++[(k,v)]:=by
 unfold bh
 rw[gP,h]
 exact if_neg (by decide)
theorem cn.isSome_eq {o:Option V}{u:Option Value}(r:cn o u):o.isSome=u.isSome:=by
 cases o with
 | none=>cases u with
  | none=>rfl
  | some _=>exact(show False from r).elim
 | some _=>cases u with
  | none=>exact(show False from r).elim
  | some _=>rfl
theorem cn.getD {o:Option V}{u:Option Value}{d:V}{d':Value}(r:cn o u)(rd:ar d d'):ar (o.getD d) (u.getD d'):=by
 cases o with
 | none=>cases u with
  | none=>exact rd
  | some _=>exact(show False from r).elim
 | some _=>cases u with
  | none=>exact(show False from r).elim
  | some _=>exact r
theorem KV.val {kvs:List (κ×V)}{vs:List (κ×Value)}(r:KV kvs vs)(k:κ):cn (aP kvs k) (Iv vs k):=by
 unfold KV at r
 induction r with
 | nil=>exact True.intro
 | @cons p q ps qs h t ih =>
  obtain⟨h1,h2⟩:=h
  by_cases e:p.1=k
  ·have e':q.1=k:=h1.symm.trans e
   have b:Iv (q::qs) k=some q.2:=by simp[Iv,DH,e']
   rw[dz e,b];exact h2
  ·have e':¬ q.1=k:=fun z=>e (h1.trans z)
   have b:Iv (q::qs) k=Iv qs k:=by simp[Iv,DH,e']
   rw[dI e,b];exact ih
theorem KV.any {kvs:List (κ×V)}{vs:List (κ×Value)}(r:KV kvs vs)(k:κ):(kvs.any fun kv=>decide (kv.1=k))=vs.any fun kv=>decide (kv.1=k):=by
 unfold KV at r
 induction r with
 | nil=>rfl
 | cons h t ih=>rw[Ej,Ej,ih,h.1]
theorem KV.repl {kvs:List (κ×V)}{vs:List (κ×Value)}(r:KV kvs vs)(k:κ){y:V}{u:Value}(ry:ar y u) :
  KV (kvs.map fun kv=>if kv.1=k then (kv.1,y) else kv) (vs.map fun kv=>if kv.1=k then (kv.1,u) else kv):=by
 unfold KV at r ⊢
 induction r with
 | nil=>exact .nil
 | @cons p q ps qs h t ih =>
  rw[C1,C1]
  refine .cons ?_ ih
  obtain⟨h1,h2⟩:=h
  by_cases e:p.1=k
  ·rw[if_pos e,if_pos (h1.symm.trans e)];exact⟨h1,ry⟩
  ·rw[if_neg e,if_neg (fun z=>e (h1.trans z))];exact⟨h1,h2⟩
theorem KV.put {kvs:List (κ×V)}{vs:List (κ×Value)}(r:KV kvs vs)(k:κ){y:V}{u:Value}(ry:ar y u):KV (bh kvs k y) (Iw vs k u):=by
 unfold bh Iw
 rw[r.any k]
 by_cases e:(vs.any fun kv=>decide (kv.1=k))=true
 ·rw[if_pos e,if_pos e];exact r.repl k ry
 ·rw[if_neg e,if_neg e];exact PySem.Paired.snoc r ⟨rfl,ry⟩
theorem KV.length {kvs:List (κ×V)}{vs:List (κ×Value)}(r:KV kvs vs):kvs.length=vs.length:=Paired.length r
theorem ox (kvs:List (κ×V))(k:κ):(eZ kvs k).length<=kvs.length:=Dl _ _
end
theorem gz {P:FN}{w:World}{k:af}{u:Value}(r:ar (kV k) u):(bc P w).is k u=true:=by
 cases k with
 | inl i=>obtain⟨t,e⟩:=(show ∃ t,u=Value.int i t from r);subst e;exact xY P w i t
 | inr x=>obtain⟨t,e⟩:=(show ∃ t,u=Value.str x t from r);subst e;exact Ak P w x t
theorem oV {P:FN}{w:World}:∀ {ks:List af}{us:List Value},ap (ks.map kV) us->ItemsAre (bc P w) ks us
 | [],_,r=>by rw[Et] at r;cases r;exact .nil
 | k::ks,_,r=>by
  rw[C1] at r
  cases r with
  | cons h t=>exact .cons (gz h) (oV t)
abbrev KT (H:Hp):List (List af×V)->List (List af×Addr×Value)->Prop:=Paired fun p q=>p.1=q.1/\H q.2.1=some (.tup (p.1.map kV))/\ar p.2 q.2.2
theorem KT.val {H:Hp}{kvs:List (List af×V)}{xs:List (List af×Addr×Value)}(r:KT H kvs xs)(k:List af):cn (aP kvs k) ((atKey xs k).map (·.2)):=by
 induction r with
 | nil=>exact True.intro
 | @cons p q ps qs h t ih =>
  obtain⟨h1,_,h2⟩:=h
  by_cases e:p.1=k
  ·have e':q.1=k:=h1.symm.trans e
   have b:atKey (q::qs) k=some q.2:=by simp[atKey,DH,e']
   rw[dz e,b];exact h2
  ·have e':¬ q.1=k:=fun z=>e (h1.trans z)
   have b:atKey (q::qs) k=atKey qs k:=by simp[atKey,DH,e']
   rw[dI e,b];exact ih
theorem KT.repl {H:Hp}{kvs:List (List af×V)}{xs:List (List af×Addr×Value)}(r:KT H kvs xs)(k:List af){y:V}{u:Value}(ry:ar y u) :
  KT H (kvs.map fun kv=>if kv.1=k then (kv.1,y) else kv) (xs.map (putAt k u)):=by
 induction r with
 | nil=>exact .nil
 | @cons p q ps qs h t ih =>
  rw[C1,C1]
  refine .cons ?_ ih
  obtain⟨h1,h2,h3⟩:=h
  unfold putAt
  by_cases e:p.1=k
  ·rw[if_pos e,if_pos (h1.symm.trans e)];exact⟨h1,h2,ry⟩
  ·rw[if_neg e,if_neg (fun z=>e (h1.trans z))];exact⟨h1,h2,h3⟩
theorem KT.put {H:Hp}{kvs:List (List af×V)}{xs:List (List af×Addr×Value)}(r:KT H kvs xs)(k:List af){b:Addr}{y:V}{u:Value}(hb:H b=some (.tup (k.map kV)))(ry:ar y u) :
  KT H (bh kvs k y) (storedH xs k b u):=by
 have e:(kvs.any fun kv=>decide (kv.1=k))=(atKey xs k).isSome:=by
  rw[gP,(r.val k).isSome_eq,FH]
 unfold bh storedH
 rw[e]
 by_cases q:(atKey xs k).isSome=true
 ·rw[if_pos q,if_pos q];exact r.repl k ry
 ·rw[if_neg q,if_neg q];exact PySem.Paired.snoc r ⟨rfl,hb,ry⟩
theorem KT.keeps {H H':Hp}{kvs:List (List af×V)}{xs:List (List af×Addr×Value)}(r:KT H kvs xs)(ht:∀ b ys,H b=some (.tup ys)->H' b=some (.tup ys)):KT H' kvs xs :=
 Paired.mapP r fun _ _ z=>⟨z.1,ht _ _ z.2.1,z.2.2⟩
section
variable {P:FN}{w:World}{H:Hp}{h:Heap}{a:Addr}
theorem pM {u:HO}(ok:bp P w H h)(e:Rd H a u):aS P w H h a u:=e.ok ok
theorem gu {kvs:List (af×V)}(ok:bp P w H h)(e:Rd H a (.dK kvs)):kvs.length<=FO/\(a == FP)=false/\∃ vs,KV kvs vs/\h.DictOf (bc P w) a vs :=
 show aS P w H h a (.dK kvs) from pM ok e
theorem tW {kvs:List (af×V)}(ok:bp P w H h)(e:H a=some (.dK kvs)):kvs.length<=FO/\(a == FP)=false/\∃ vs,KV kvs vs/\h.DictOf (bc P w) a vs:=gu ok (.inl e)
theorem eS {ks:List af}(ok:bp P w H h)(e:H a=some (.tup (ks.map kV))):(FQ (bc P w)).is h ks a:=by
 obtain⟨_,its,r,o,h1,h2,n,h3⟩:=(show aS P w H h a (.tup (ks.map kV)) from ok a _ e)
 exact⟨o,its.toArray,n,h1,h2,h3,by simpa using oV r⟩
theorem gj {kvs:List (List af×V)}(ok:bp P w H h)(e:Rd H a (.dT kvs)):kvs.length<=FO/\(a == FP)=false /\
  ∃ xs,KT H kvs xs/\h.DictOfH (FQ (bc P w)) a xs:=by
 obtain⟨z,y,xs,r,o,es,ep,h1,h2,h3,h4,h5⟩:=(show aS P w H h a (.dT kvs) from pM ok e)
 refine⟨z,y,xs,r,o,es,ep,h1,h2,h3,h4,fun x hx=>?_,h5⟩
 have all:∀ {l:List (List af×V)}{m:List (List af×Addr×Value)},KT H l m->∀ x∈m,(FQ (bc P w)).is h x.1 x.2.1:=by
  intro l m q
  induction q with
  | nil=>intro x hx;exact nomatch hx
  | @cons p q ps qs hq t ih =>
   intro x hx
   rcases List.mem_cons.mp hx with e|hx
   ·subst e
    exact eS ok (by rw[<-hq.1];exact hq.2.1)
   ·exact ih x hx
 exact all r x hx
theorem iB {kvs:List (List af×V)}(ok:bp P w H h)(e:H a=some (.dT kvs)):kvs.length<=FO/\(a == FP)=false /\
 ∃ xs,KT H kvs xs/\h.DictOfH (FQ (bc P w)) a xs:=gj ok (.inl e)
end
def b9 (H:Hp)(a:Addr)(y:V)(r:Option V):Prop :=
 (∃ kvs k,Rd H a (.dK kvs)/\y=kV k/\r=aP kvs k)\/∃ kvs k b,Rd H a (.dT kvs)/\y=.ref b/\H b=some (.tup (k.map kV))/\r=aP kvs k
def fq (H:Hp)(a:Addr)(y v:V)(H':Hp):Prop :=
 (∃ kvs k,H a=some (.dK kvs)/\y=kV k/\kvs.length<FO/\H'=upd H a (.dK (bh kvs k v))) \/
 ∃ kvs k b,H a=some (.dT kvs)/\y=.ref b/\H b=some (.tup (k.map kV))/\kvs.length<FO/\H'=upd H a (.dT (bh kvs k v))
theorem b9.k {H:Hp}{a:Addr}{kvs:List (af×V)}{k:af}(e:H a=some (.dK kvs)):b9 H a (kV k) (aP kvs k):=.inl ⟨kvs,k,.inl e,rfl,rfl⟩
theorem b9.t {H:Hp}{a b:Addr}{kvs:List (List af×V)}{k:List af}(e:H a=some (.dT kvs))(eb:H b=some (.tup (k.map kV))):b9 H a (.ref b) (aP kvs k):=.inr ⟨kvs,k,b,.inl e,rfl,eb,rfl⟩
theorem fq.k {H:Hp}{a:Addr}{kvs:List (af×V)}{k:af}{v:V}(e:H a=some (.dK kvs))(hl:kvs.length<FO):fq H a (kV k) v (upd H a (.dK (bh kvs k v))):=.inl ⟨kvs,k,e,rfl,hl,rfl⟩
theorem fq.t {H:Hp}{a b:Addr}{kvs:List (List af×V)}{k:List af}{v:V}(e:H a=some (.dT kvs))(eb:H b=some (.tup (k.map kV)))(hl:kvs.length<FO) :
 fq H a (.ref b) v (upd H a (.dT (bh kvs k v))):=.inr ⟨kvs,k,b,e,rfl,eb,hl,rfl⟩
section
variable {X:Cx}{pins:List (Addr×Obj)}{σ:St}{H:Hp}{s:Shared}{a:Addr}{y v:V}{u r:Value}{o:Option V}{A:Around}{E:Value->Shared->Prop}
theorem aa.big (I:aa X pins σ H s):FP<s.heap.objs.size:=by
 have h:FR<s.heap.objs.size:=(I.mod.glob.keeps I.bk).lt
 exact E4 (by decide) h
theorem xJ {Q:Value->Shared->Prop}(hu:A.units+1<cLine)(I:aa X pins σ H s)(g:b9 H a y (some v))(ry:ar y u)(h:∀ w' s',aa X pins σ H s'->ar v w'->Q w' s') :
  wpAny (model X.prog X.w) A (Gk (.ref a) u) Q E s:=by
 rcases g with⟨kvs,k,e,ey,l⟩|⟨kvs,k,b,e,ey,eb,l⟩
 ·subst ey
  obtain⟨z,hd,vs,rel,dd⟩:=gu I.hok e
  obtain⟨w',hw,rw'⟩:=cn.some_of (v:=v) (o:=Iv vs k) (by rw[l];exact rel.val k)
  exact wpAny_getItem_of (gz ry) dd.mapOf hw (h w' _ (I.tok _) rw')
 ·subst ey
  cases (show u=Value.ref b from ry)
  obtain⟨z,hd,xs,rel,dd⟩:=gj I.hok e
  obtain⟨w',hw,rw'⟩:=cn.some_of (v:=v) (o:=(atKey xs k).map (·.2)) (by rw[l];exact rel.val k)
  obtain⟨p,hp,hp2⟩:=Option.map_eq_some_iff.mp hw
  refine wpAny_getItem_heap (Ix hu) (eS I.hok eb) dd hp ?_
  rw[hp2]
  exact h w' _ (I.tok _) rw'
theorem AF {Q:Value->Shared->Prop}(hu:A.units+1<cLine)(I:aa X pins σ H s)(g:b9 H a y o)(ry:ar y u)(h:∀ s',aa X pins σ H s'->Q (.bool o.isSome) s') :
  wpAny (model X.prog X.w) A (FX .In u (.ref a)) Q E s:=by
 rcases g with⟨kvs,k,e,ey,l⟩|⟨kvs,k,b,e,ey,eb,l⟩
 ·subst ey
  obtain⟨z,hd,vs,rel,dd⟩:=gu I.hok e
  refine wpAny_in_of (gz ry) hd dd.mapOf ?_
  rw[<-(rel.val k).isSome_eq,<-l]
  exact h _ (I.tok _)
 ·subst ey
  cases (show u=Value.ref b from ry)
  obtain⟨z,hd,xs,rel,dd⟩:=gj I.hok e
  refine wpAny_in_heap (Ix hu) (eS I.hok eb) hd dd ?_
  have q:=(rel.val k).isSome_eq
  rw[FH] at q
  rw[<-q,<-l]
  exact h _ (I.tok _)
theorem Bz {Q:Value->Shared->Prop}(hu:A.units+1<cLine)(I:aa X pins σ H s)(g:b9 H a y o)(ry:ar y u)(h:∀ s',aa X pins σ H s'->Q (.bool (!o.isSome)) s') :
  wpAny (model X.prog X.w) A (FX .NotIn u (.ref a)) Q E s:=by
 rcases g with⟨kvs,k,e,ey,l⟩|⟨kvs,k,b,e,ey,eb,l⟩
 ·subst ey
  obtain⟨z,hd,vs,rel,dd⟩:=gu I.hok e
  refine wpAny_notIn_of (gz ry) hd dd.mapOf ?_
  rw[<-(rel.val k).isSome_eq,<-l]
  exact h _ (I.tok _)
 ·subst ey
  cases (show u=Value.ref b from ry)
  obtain⟨z,hd,xs,rel,dd⟩:=gj I.hok e
  refine wpAny_notIn_heap (Ix hu) (eS I.hok eb) hd dd ?_
  have q:=(rel.val k).isSome_eq
  rw[FH] at q
  rw[<-q,<-l]
  exact h _ (I.tok _)
theorem kh {h':Heap}{t':Nat}{ob:HO}(I:aa X pins σ H s)(mu:iF (H a))(hs:Heap.SameBut a s.heap h')(he:∃ q,h'.get? a=some q)(new:aS X.prog X.w (upd H a ob) h' a ob) :
  aa X pins σ (upd H a ob) { s with heap:=h',toks:=t' } :=
 I.write (x:=a) (e:=a) mu (.inl rfl) (fun b q hb z=>(hs.2 b hb).trans z) he new
theorem vo {P:FN}{w:World}{H':Hp}{h':Heap}{kvs:List (af×V)}{vs:List (af×Value)}(z:kvs.length<=FO)(hd:(a == FP)=false)(rel:KV kvs vs)(dd:h'.DictOf (bc P w) a vs) :
 aS P w H' h' a (.dK kvs):=⟨z,hd,vs,rel,dd⟩
theorem xx {H':Hp}{Q:Unit->Shared->Prop}(hu:A.units+1<cLine)(I:aa X pins σ H s)(g:fq H a y v H')(ry:ar y u)(rv:ar v r)(h:∀ s',aa X pins σ H' s'->Q () s') :
  wpAny (model X.prog X.w) A (setItem (.ref a) u r) Q E s:=by
 rcases g with⟨kvs,k,e,ey,l,eH⟩|⟨kvs,k,b,e,ey,eb,l,eH⟩
 ·subst ey eH
  obtain⟨z,hd,vs,rel,dd⟩:=tW I.hok e
  have hz:vs.length<=FO:=by rw[<-rel.length];exact z
  have hl:(bh kvs k v).length<=FO:=by have:=oP kvs k v;omega
  refine wpAny_setItem_pairs (hsz:=hz) (gz ry) dd fun h' dd' hs=>h _ ?_
  have he:∃ q,h'.get? a=some q:=let ⟨q,_,_,hq,_⟩:=dd';⟨q,hq⟩
  exact kh I (by rw[e];exact True.intro) hs he (vo hl hd (rel.put k rv) dd')
 ·subst ey eH
  cases (show u=Value.ref b from ry)
  obtain⟨z,hd,xs,rel,dd⟩:=iB I.hok e
  have hz:xs.length<=FO:=by rw[<-Paired.length rel];exact z
  have hl:(bh kvs k v).length<=FO:=by have:=oP kvs k v;omega
  refine wpAny_setItem_heap (hsz:=hz) (Ix hu) (eS I.hok eb) dd fun h' dd' hs=>h _ ?_
  obtain⟨q,es,ep,hq,h2,h3,h4,_,h5⟩:=dd'
  refine kh I (by rw[e];exact True.intro) hs ⟨q,hq⟩ ⟨hl,hd,_,(rel.put k eb rv).keeps fun c ys ec=>?_,q,es,ep,hq,h2,h3,h4,h5⟩
  rw[upd_ne (cW ec e (fun z=>nomatch z))]
  exact ec
end
section
variable {X:Cx}{pins:List (Addr×Obj)}{σ:St}{H:Hp}{s:Shared}{a:Addr}{kvs:List (af×V)}{k:af}{u:Value}{A:Around}{E:Value->Shared->Prop}
end
def qg (i:Expr):Prop:=∀ ov iv,GS i false ov iv=operate [ov,iv] (Gk ov iv)
theorem yu {prog:FN}{w:World}{A:Around}{E:Value->Shared->Prop}{s:Shared}{env:Env}{value slice:Expr}{pos:Pos}{T id:String}{Q:Value->Shared->Prop}
  (hl:GO (.type T) "__getitem__"=pure (some (.builtin id))) (hs:qg slice)
  (h:wpAny (model prog w) A (eval value env) (fun o s₁=>wpAny (model prog w) A (eval slice env) (fun i s₂=>s₂.TypeIs o T/\wpAny (model prog w) A (Gk o i) Q E s₂) E s₁) E s) :
  wpAny (model prog w) A (eval (.Subscript value slice pos) env) Q E s:=by
 refine Subscript_ (FW h (fun o s₁ h₁=>FW h₁ (fun i s₂ h₂=>?_) fun _ _ x=>x) fun _ _ x=>x)
 obtain⟨hT,h₂⟩:=h₂
 unfold GP
 refine Ge ?_
 rw[getitemInPython_of_ne hT.not_modules]
 refine Ge (G9 hT hl ?_)
 have fin:wpAny (model prog w) A (GS slice false o i) (fun r s₃=>wpAny (model prog w) A (letTemporaryGo value o r >>= fun _=>pure r) Q E s₃) E s₂:=by
  rw[hs o i]
  exact wpAny_operating (FW h₂ (fun r s₃ h₃=>Ge (wpAny_letTemporaryGo (Gh h₃))) fun _ _ x=>x)
 first
  | exact Gh (Ge fin)
  | exact Ge (Gh (Ge fin))
  | exact Ge fin
theorem zk {X:Cx}{pins:List (Addr×Obj)}{σ:St}{H:Hp}{s:Shared}{a:Addr}{y:V}{o:Option V}(I:aa X pins σ H s)(g:b9 H a y o):s.TypeIs (.ref a) "dict":=by
 rcases g with⟨kvs,k,e,_,_⟩|⟨kvs,k,b,e,_,_,_⟩
 ·obtain⟨_,_,vs,_,dd⟩:=gu I.hok e
  exact dd.typeIs
 ·obtain⟨_,_,xs,_,dd⟩:=gj I.hok e
  exact dd.typeIs
def yY (td ty:TE):TE:=fun σ H Q=>td σ H fun x H1=>ty σ H1 fun y H2=>∃ a v,x=.ref a/\b9 H2 a y (some v)/\Q v H2
def xZ (ty td:TE):TE:=fun σ H Q=>ty σ H fun y H1=>td σ H1 fun x H2=>∃ a o,x=.ref a/\b9 H2 a y o/\Q (.bl o.isSome) H2
def zH (ty td:TE):TE:=fun σ H Q=>ty σ H fun y H1=>td σ H1 fun x H2=>∃ a o,x=.ref a/\b9 H2 a y o/\Q (.bl (!o.isSome)) H2
def ww (td ty tv:TE):TS:=fun D σ H=>tv σ H fun v H1=>td σ H1 fun x H2=>ty σ H2 fun y H3=>∃ a H4,x=.ref a/\fq H3 a y v H4/\D.nx σ H4
section
variable {X:Cx}{o i e value:Expr}{pos pos' tpos:Pos}{td ty tv:TE}
theorem Bt (hu:X.A.units+1<cLine)(ho:PE X o td)(hi:PE X i ty)(hs:qg i):PE X (.Subscript o i pos) (yY td ty):=by
 refine⟨?_⟩
 intro pins s σ H Q I h
 refine yu PySem.F.slot_dict_getitem.lookup hs (ag (ho pins s σ H _ I h) fun u s1 ⟨x,H1,I1,rx,q1⟩=>ag (hi pins s1 σ H1 _ I1 q1) fun iv s2 ⟨y,H2,I2,ry,a,v,ex,g,q2⟩=>?_)
 subst ex
 obtain rfl:u=Value.ref a:=rx
 exact⟨zk I2 g,xJ hu I2 g ry fun w' s3 I3 rw'=>⟨v,H2,I3,rw',q2⟩⟩
theorem sY (hu:X.A.units+1<cLine)(hi:PE X i ty)(ho:PE X o td):PC X .In i o (xZ ty td):=by
 intro pins s σ H Q I h
 refine ag (hi pins s σ H _ I h) fun iv s1 ⟨y,H1,I1,ry,q1⟩=>ag (ho pins s1 σ H1 _ I1 q1) fun u s2 ⟨x,H2,I2,rx,a,ov,ex,g,q2⟩=>?_
 subst ex
 obtain rfl:u=Value.ref a:=rx
 exact AF hu I2 g ry fun s3 I3=>⟨.bl ov.isSome,H2,I3,rfl,q2⟩
theorem AV (hu:X.A.units+1<cLine)(hi:PE X i ty)(ho:PE X o td):PC X .NotIn i o (zH ty td):=by
 intro pins s σ H Q I h
 refine ag (hi pins s σ H _ I h) fun iv s1 ⟨y,H1,I1,ry,q1⟩=>ag (ho pins s1 σ H1 _ I1 q1) fun u s2 ⟨x,H2,I2,rx,a,ov,ex,g,q2⟩=>?_
 subst ex
 obtain rfl:u=Value.ref a:=rx
 exact Bz hu I2 g ry fun s3 I3=>⟨.bl (!ov.isSome),H2,I3,rfl,q2⟩
theorem mU (hu:X.A.units+1<cLine)(ho:PE X o td)(hi:PE X i ty)(hv:PE X value tv)(hs:F9 value (some (.Subscript o i pos')) pos.line X.env=pure false) :
  PS X (.Assign [.Subscript o i pos'] value pos) (ww td ty tv):=by
 refine⟨?_⟩
 intro pins s σ H D I h
 refine wpAny_Assign_Subscript (ag (hv pins s σ H _ I h) fun r s1 ⟨v,H1,I1,rv,q1⟩=>ag (ho pins s1 σ H1 _ I1 q1) fun u s2 ⟨x,H2,I2,rx,q2⟩=>ag (hi pins s2 σ H2 _ I2 q2) fun iv s3 ⟨y,H3,I3,ry,a,H4,ex,g,q3⟩=>?_) hs
 subst ex
 obtain rfl:u=Value.ref a:=rx
 exact xx hu I3 g ry rv fun s4 I4=>⟨σ,H4,I4,q3⟩
end
theorem BL {P:FN}{w:World}{H:Hp}(h:Heap)(hb:FP<h.objs.size):aS P w H (h.push { cls:=.type "dict",data:=.dict #[] }) h.objs.size (.dK []) :=
 ⟨EX _,beq_eq_false_iff_ne.mpr (Ne.symm (EV hb)),[],.nil,Heap.DictOf.new h⟩
theorem zg {P:FN}{w:World}{H:Hp}(h:Heap)(hb:FP<h.objs.size):aS P w H (h.push { cls:=.type "dict",data:=.dict #[] }) h.objs.size (.dT []) :=
 ⟨EX _,beq_eq_false_iff_ne.mpr (Ne.symm (EV hb)),[],.nil,_,#[],0,EM _ rfl,⟨rfl,rfl,rfl⟩,rfl,rfl,Du⟩
def yg:TE:=fun _ H Q=>∀ p,H p=none->Q (.ref p) (upd H p (.dK []))
def CK:TE:=fun _ H Q=>∀ p,H p=none->Q (.ref p) (upd H p (.dT []))
section
variable {X:Cx}{pos:Pos}
theorem ly:PE X (.Dict [] [] pos) yg:=.mk fun pins s σ H Q I h =>
 wpAny_Dict_empty ⟨.ref s.heap.objs.size,_,I.laid (a:=s.heap.objs.size) (o:=.dK []) (t':=s.toks) (fun _ _ q=>EL _ q) (EU _) (BL s.heap I.big),rfl,h _ (I.hok.fresh (EU _))⟩
theorem pW:PE X (.Dict [] [] pos) CK:=.mk fun pins s σ H Q I h =>
 wpAny_Dict_empty ⟨.ref s.heap.objs.size,_,I.laid (a:=s.heap.objs.size) (o:=.dT []) (t':=s.toks) (fun _ _ q=>EL _ q) (EU _) (zg s.heap I.big),rfl,h _ (I.hok.fresh (EU _))⟩
end
structure M1 (X:Cx)(o:Expr)(m:Str)(apos:Pos)(e:Expr)(cpos:Pos):Prop where
 base:Gx o m X.env (eval o X.env)=eval o X.env
 few:((FU cpos (FV [e] X.env)).all (fun x=>!x.1) && (GE cpos (GF [] X.env)).all (fun x=>x.1.isSome)
  && decide (([e]:List Expr).length+([]:List GG).length+(if ([]:List GG).isEmpty then 0 else 1)<30))=true
 line:(apos.endLine == cpos.line)=true
 trees:FU cpos (FV [e] X.env)=[(false,eval e X.env)]
structure M2 (X:Cx)(o:Expr)(m:Str)(apos:Pos)(e f:Expr)(cpos:Pos):Prop where
 base:Gx o m X.env (eval o X.env)=eval o X.env
 few:((FU cpos (FV [e,f] X.env)).all (fun x=>!x.1) && (GE cpos (GF [] X.env)).all (fun x=>x.1.isSome)
  && decide (([e,f]:List Expr).length+([]:List GG).length+(if ([]:List GG).isEmpty then 0 else 1)<30))=true
 line:(apos.endLine == cpos.line)=true
 trees:FU cpos (FV [e,f] X.env)=[(false,eval e X.env),(false,eval f X.env)]
def lJ (H:Hp)(a:Addr):Prop:=(∃ kvs,Rd H a (.dK kvs))\/∃ kvs,Rd H a (.dT kvs)
theorem pj {X:Cx}{pins:List (Addr×Obj)}{σ:St}{H:Hp}{s:Shared}{a:Addr}(I:aa X pins σ H s)(d:lJ H a) :
  s.TypeIs (.ref a) "dict"/\(∀ b,Value.ref a=.ref b->∃ ob,s.heap.get? b=some ob/\ob.dict=none)/\(a == FP)=false:=by
 rcases d with⟨kvs,e⟩|⟨kvs,e⟩
 ·obtain⟨_,hd,vs,_,dd⟩:=gu I.hok e
  refine⟨dd.typeIs,fun b q=>?_,hd⟩
  cases q
  obtain⟨ob,_,_,h1,h2,_⟩:=dd
  exact⟨ob,h1,h2.2.1⟩
 ·obtain⟨_,hd,xs,_,dd⟩:=gj I.hok e
  refine⟨dd.typeIs,fun b q=>?_,hd⟩
  cases q
  obtain⟨ob,_,_,h1,h2,_⟩:=dd
  exact⟨ob,h1,h2.2.1⟩
section
variable {X:Cx}{pins:List (Addr×Obj)}{σ:St}{H:Hp}{s:Shared}{a:Addr}{y d:V}{u r:Value}{o:Option V}{A:Around}{E:Value->Shared->Prop}
theorem B4 {Q:Value->Shared->Prop}(hu:A.units+1<cLine)(I:aa X pins σ H s)(g:b9 H a y o)(ry:ar y u)(rd:ar d r)(h:∀ w' s',aa X pins σ H s'->ar (o.getD d) w'->Q w' s') :
  wpAny (model X.prog X.w) A (call (.builtin "dict.get") [.ref a,u,r]) Q E s:=by
 rcases g with⟨kvs,k,e,ey,l⟩|⟨kvs,k,b,e,ey,eb,l⟩
 ·subst ey
  obtain⟨z,hd,vs,rel,dd⟩:=gu I.hok e
  refine Iy PySem.F.slot_dict_get dd.typeIs PySem.F.entry_dict_get (PySem.F.args_dict_get_3 _ _ _) (meets_dict_get_default (bc X.prog X.w) a (gz ry) hd r) ⟨_,dd.mapOf,h _ _ (I.tok _) ?_⟩
  rw[l]
  exact(rel.val k).getD rd
 ·subst ey
  cases (show u=Value.ref b from ry)
  obtain⟨z,hd,xs,rel,dd⟩:=gj I.hok e
  refine Iy PySem.F.slot_dict_get dd.typeIs PySem.F.entry_dict_get (PySem.F.args_dict_get_3 _ _ _) (meetsH_dict_get_default (FQ (bc X.prog X.w)) a b hd r) ⟨Ix hu,k,xs,eS I.hok eb,dd,h _ _ (I.tok _) ?_⟩
  rw[l]
  exact(rel.val k).getD rd
end
def wS (td ty tx:TE):TE:=fun σ H Q=>td σ H fun x H1=>∃ a,x=.ref a/\lJ H1 a/\ty σ H1 fun y H2=>tx σ H2 fun z H3=>∃ o,b9 H3 a y o/\Q (o.getD z) H3
section
variable {X:Cx}{o e f:Expr}{apos cpos:Pos}{td ty tx:TE}
theorem lW (hu:X.A.units+1<cLine)(ho:PE X o td)(he:PE X e ty)(hf:PE X f tx)(m:M2 X o "get" apos e f cpos):PE X (.Call (.Attribute o "get" apos) [e,f] [] cpos) (wS td ty tx):=by
 refine⟨?_⟩
 intro pins s σ H Q I h
 refine wpAny_Call_method m.base m.few m.line PySem.F.plainAttrs_dict PySem.F.slot_dict_get PySem.F.type_dict_get (ag (ho pins s σ H _ I h) fun u s1 ⟨x,H1,I1,rx,a,ex,d,q1⟩=>?_)
 subst ex
 obtain rfl:u=Value.ref a:=rx
 obtain⟨t1,t2,_⟩:=pj I1 d
 refine⟨t1,t2,?_⟩
 rw[m.trees]
 refine Calls.callWith_builtin rfl (Calls.evalArgs_plain (Calls.spliced_cons (ag (he pins s1 σ H1 _ I1 q1) fun iv s2 ⟨y,H2,I2,ry,q2⟩ =>
  Calls.spliced_cons (ag (hf pins s2 σ H2 _ I2 q2) fun fv s3 ⟨z,H3,I3,rz,ov,g,q3⟩=>Calls.spliced_nil ?_))))
 exact B4 hu I3 g ry rz fun w' s4 I4 rw'=>⟨_,H3,I4,rw',q3⟩
end
section
variable {X:Cx}{pins:List (Addr×Obj)}{σ:St}{H:Hp}{s:Shared}{a:Addr}{kvs:List (af×V)}{A:Around}{E:Value->Shared->Prop}
end
section
variable {X:Cx}{pins:List (Addr×Obj)}{σ:St}{H:Hp}{s:Shared}{a:Addr}{y:V}{u:Value}{A:Around}{E:Value->Shared->Prop}
end
end L2
namespace Ss
open PySem
def fA (xs:Array Nat):Prop:=xs.toList.Pairwise (·<·)
theorem fA.lt {xs:Array Nat}(R:fA xs){i k:Nat}(h:i<k)(hk:k<xs.size):xs.getD i 0<xs.getD k 0:=by
 have hl:k<xs.toList.length:=by rw[Fj];exact hk
 have:=List.pairwise_iff_getElem.mp R i k (by omega) hl h
 simpa [Fk,hk,E4 h hk] using this
theorem nV {xs:Array Nat}(R:fA xs)(j:Nat):∀ (f lo hi:Nat),hi-lo<=f->lo<=hi->hi<=xs.size->(∀ i,i<lo->xs.getD i 0<j)->(∀ i,hi<=i->i<xs.size->j<=xs.getD i 0) ->
  SetTable.below.go xs j f lo hi<=xs.size/\(∀ i,i<SetTable.below.go xs j f lo hi->xs.getD i 0<j)/\(∀ i,SetTable.below.go xs j f lo hi<=i->i<xs.size->j<=xs.getD i 0)
 | 0,lo,hi,h1,h2,h3,h4,h5=>by
  have e:lo=hi:=by omega
  subst e
  exact⟨h3,h4,h5⟩
 | f+1,lo,hi,h1,h2,h3,h4,h5=>by
  unfold SetTable.below.go
  split
  ·rename_i hlt
   dsimp only
   have hm:(lo+hi) / 2<xs.size:=by omega
   have e:xs.getD ((lo+hi) / 2) j=xs.getD ((lo+hi) / 2) 0:=by simp[Fk,hm]
   rw[e]
   by_cases hl:xs.getD ((lo+hi) / 2) 0<j
   ·rw[if_pos hl]
    refine nV R j f ((lo+hi) / 2+1) hi (by omega) (by omega) h3 (fun i hi'=>?_) h5
    rcases EZ i ((lo+hi) / 2) with z|z
    ·exact E4 (R.lt z hm) hl
    ·rw[show i=(lo+hi) / 2 by omega];exact hl
   ·rw[if_neg hl]
    refine nV R j f lo ((lo+hi) / 2) (by omega) (by omega) (by omega) h4 (fun i h6 h7=>?_)
    rcases EZ ((lo+hi) / 2) i with z|z
    ·have:=R.lt z h7;omega
    ·rw[show i=(lo+hi) / 2 by omega];omega
  ·have e:lo=hi:=by omega
   subst e
   exact⟨h3,h4,h5⟩
theorem sH {xs:Array Nat}(R:fA xs)(j:Nat):SetTable.below xs j<=xs.size/\(∀ i,i<SetTable.below xs j->xs.getD i 0<j)/\(∀ i,SetTable.below xs j<=i->i<xs.size->j<=xs.getD i 0) :=
 nV R j xs.size 0 xs.size (by omega) (by omega) (EU _) (fun i h=>by omega) (fun i h1 h2=>by omega)
theorem vj {xs:Array Nat}{i:Nat}(h:i<xs.size):xs[i]?=some (xs.getD i 0):=by simp[Fk,h]
theorem vX {xs:Array Nat}(R:fA xs){j:Nat}(hn:xs[SetTable.below xs j]?≠some j):fA (SetTable.insertAt xs (SetTable.below xs j) j):=by
 obtain⟨b1,b2,b3⟩:=sH R j
 generalize SetTable.below xs j=p at *
 unfold fA
 rw[SetTable.toList_insertAt]
 have gl:∀ i (h:i<xs.toList.length),xs.toList[i]=xs.getD i 0:=fun i h=>by
  have h':i<xs.size:=by rw[Fj] at h;exact h
  simp[Fk,h']
 have hd:∀ b∈xs.toList.drop p,j<b:=fun b hb=>by
  obtain⟨i,hi,rfl⟩:=Dy hb
  rw[Ee,Fj] at hi
  rw[List.getElem_drop,gl]
  have h1:=b3 (p+i) (by omega) (by omega)
  rcases EZ j (xs.getD (p+i) 0) with z|z
  ·exact z
  ·exfalso
   have e:xs.getD (p+i) 0=j:=by omega
   rcases Fc i with z0|z0
   ·subst z0
    exact hn (by rw[vj (by omega)];exact congrArg some e)
   ·have:=R.lt (i:=p) (k:=p+i) (by omega) (by omega)
    have:=b3 p (EU _) (by omega)
    omega
 rw[List.pairwise_append]
 refine⟨R.sublist (Ed _ _),List.pairwise_cons.mpr ⟨hd,R.sublist (List.drop_sublist _ _)⟩,fun a ha b hb=>?_⟩
 obtain⟨i,hi,rfl⟩:=Dy ha
 rw[Db,Fj] at hi
 rw[List.getElem_take,gl]
 have h1:=b2 i (by omega)
 rcases List.mem_cons.mp hb with e|e
 ·rw[e];exact h1
 ·exact E4 h1 (hd b e)
structure G (t:SetTable):Prop where
 r:fA t.place
 d:t.dummies=#[]
theorem G.slot {t:SetTable}(g:G t)(j:Nat):t.slot j≠.dummy:=by
 unfold SetTable.slot
 dsimp only
 rw[g.d]
 have e:SetTable.has #[] j=false:=rfl
 rw[e]
 split
 ·intro z;cases z
 ·simp
theorem BB {t:SetTable}{j:Nat}(h:t.slot j=.empty):t.place[SetTable.below t.place j]?≠some j:=by
 unfold SetTable.slot at h
 dsimp only at h
 intro z
 rw[z] at h
 simp at h
theorem oJ {t:SetTable}(g:G t)(ha:Nat->Int)(h:Int):∀ (f:Nat) (p:SetTable.Probe) (j:Nat) (d:Option Nat),SetTable.probe.go t ha h f p=some (.empty j d)->t.slot j=.empty/\d=p.dummy
 | 0,p,j,d,e=>by simp[SetTable.probe.go] at e
 | f+1,p,j,d,e=>by
  unfold SetTable.probe.go at e
  cases hs:t.slot p.j with
  | empty =>
   rw[hs] at e
   simp at e
   obtain⟨rfl,rfl⟩:=e
   exact⟨hs,rfl⟩
  | dummy=>exact absurd hs (g.slot _)
  | live i =>
   rw[hs] at e
   dsimp only at e
   split at e
   ·cases e
   ·have ih:=oJ g ha h f _ j d e
    refine⟨ih.1,ih.2.trans ?_⟩
    unfold SetTable.advance
    split <;> rfl
theorem Bh {t:SetTable}(g:G t){h:Int}{sl:Nat}{wd:Bool}(e:t.freeSlot h=some (sl,wd)):t.slot sl=.empty:=by
 unfold SetTable.freeSlot at e
 split at e
 ·rename_i j dummy hp
  have:=oJ g _ h _ _ j dummy hp
  have hd:dummy=none:=this.2
  subst hd
  simp at e
  rw[<-e.1]
  exact this.1
 ·cases e
theorem kr (t:SetTable)(n:Nat):G (t.standIn n):=⟨by
 show (Array.range n).toList.Pairwise (·<·)
 rw[Array.toList_range]
 exact List.pairwise_lt_range,rfl⟩
theorem zw {t:SetTable}(g:G t){j:Nat}(h:t.slot j=.empty):G (t.put j).1:=⟨vX g.r (BB h),by
 show (if SetTable.has t.dummies j then SetTable.eraseAt t.dummies (SetTable.below t.dummies j) else t.dummies)=#[]
 rw[g.d]
 have e:SetTable.has #[] j=false:=rfl
 rw[e]
 rfl⟩
theorem yt {t:SetTable}(g:G t)(es:Array (Int×Value))(h:Int)(x:Value):G (layNew t es h x).2.1/\(layNew t es h x).2.1.led=t.led:=by
 unfold layNew
 split
 ·rename_i sl wd e
  have g':=zw g (Bh g e)
  dsimp only
  unfold SetTable.orStandIn
  split
  ·exact⟨g',rfl⟩
  ·exact⟨kr _ _,rfl⟩
 ·exact⟨kr _ _,rfl⟩
theorem kZ (f:Nat->Option Nat):∀ l:List Nat,((l.filterMap fun j=>(f j).map fun k=>(j,k)).map (·.1)).Sublist l
 | []=>List.Sublist.slnil
 | a::l=>by
  rw[DQ]
  cases e:f a with
  | none=>exact(kZ f l).cons _
  | some k=>exact(kZ f l).cons_cons _
theorem wE {t:SetTable}(es:Array (Int×Value))(n:Nat):G (relayAll t es n).2.1/\(relayAll t es n).2.1.led=t.led:=by
 unfold relayAll
 split
 ·rename_i t' order e
  dsimp only
  split
  ·unfold SetTable.relaid SetTable.laid at e
   cases ho:SetTable.layClean (SetTable.sizeAbove n-1) (es.map (·.1)) with
   | none=>rw[ho] at e;cases e
   | some owner =>
    rw[ho] at e
    simp only[Option.bind_eq_bind,Option.bind_some,Option.pure_def,Option.some.injEq,Prod.mk.injEq] at e
    obtain⟨rfl,_⟩:=e
    refine⟨⟨?_,rfl⟩,rfl⟩
    show (Di _).toList.Pairwise (·<·)
    exact List.pairwise_lt_range.sublist (kZ (fun j=>owner.getD j none) _)
  ·exact⟨kr _ _,rfl⟩
 ·exact⟨kr _ _,rfl⟩
end Ss
namespace Ss
open PySem
abbrev fj (w:World):Bool:=w.params.followText "set-order"
def SetG (w:World)(h:Heap)(a:Addr)(es:Array (Int×Value)):Prop :=
 ∃ ep t,h.get? a=some { cls:=.type "set",dict:=none,data:=.set es ep t }/\t.fits es.size=true/\G t/\(fj w=true\/t.led=true)
theorem SetG.at {w:World}{h h':Heap}{a:Addr}{es:Array (Int×Value)}(x:SetG w h a es)(k:∀ o,h.get? a=some o->h'.get? a=some o):SetG w h' a es:=by
 obtain⟨ep,t,ho,r⟩:=x
 exact⟨ep,t,k _ ho,r⟩
theorem SetG.lt {w:World}{h:Heap}{a:Addr}{es:Array (Int×Value)}(x:SetG w h a es):a<h.objs.size:=by
 obtain⟨ep,t,ho,r⟩:=x
 exact EK ho
section
variable {prog:FN}{w:World}{K:Type}[DecidableEq K]{knd:KeyKind prog w K}{A:Around}{E:Value->Shared->Prop}{s:Shared}{a:Addr}{es:Array (Int×Value)}
theorem SetG.type (x:SetG w s.heap a es):s.TypeIs (.ref a) "set":=by
 obtain⟨ep,t,ho,r⟩:=x
 exact⟨_,ho,rfl⟩
theorem pE {b:Bool}{Q:Unit->Shared->Prop}(h:Q () s):wpAny (model prog w) A (match b with|true=>rule "set.scan.the-table-gave-way" | false=>pure ()) Q E s:=by
 cases b
 ·exact Gh h
 ·exact Gj h
def jm (knd:KeyKind prog w K)(k:K)(key:Value)(es es':Array (Int×Value)):Prop :=
 ((∃ e∈es.toList,knd.is k e.2=true)/\es'=es)\/((∀ e∈es.toList,knd.is k e.2=false)/\es'.toList.Perm (es.toList++[(knd.hash k,key)]))
theorem rE {ep:Nat}{t:SetTable}{es':Array (Int×Value)}{t':SetTable}{Q:Unit->Shared->Prop}(ho:s.heap.get? a=some { cls:=.type "set",dict:=none,data:=.set es ep t })(hz:es'.size<=FO)
  (h:∀ h',Heap.SameBut a s.heap h'->h'.get? a=some { cls:=.type "set",dict:=none,data:=.set es' (ep+1) t' }->Q () { s with heap:=h' }):wpAny (model prog w) A (storeSet a es' t') Q E s:=by
 refine wpAny_storeSet_of ho rfl (h _ (Heap.SameBut.update _ _ _) ?_) hz
 have:=EN (Obj.putSet es' t') ho (by rw[putSet_of es' t' rfl];rfl)
 rwa [putSet_of es' t' rfl] at this
theorem BX {k:K} {x:Value} {Q:Bool→Shared→Prop} (hk:knd.is k x=true) (hx:x.scannable=true) (hS:SetG w s.heap a es) (hel:ElemsOf knd es.toList) (hb:es.size + 1 < scanBound)
    (h:∀ b h' es',Heap.SameBut a s.heap h'→SetG w h' a es'→jm knd k x es es'→Q b { s with heap:=h' }):wpAny (model prog w) A (setAddHashed a x (knd.hash k)) Q E s:=by
  obtain ⟨ep,t,ho,hf,g,hl⟩:=hS
  unfold setAddHashed setAddHashedIn
  refine wpAny_holding (wpAny_bind (wpAny_setState_of ho rfl hf ?_))
  dsimp only
  rw [byScan_of hx (by omega) hel,if_pos rfl]
  unfold setAddByScan
  refine wpAny_bind (wpAny_bind (wpAny_rule (wpAny_bind (wpAny_setScan_of hk ho rfl hf hel ?_))))
  cases hr:List.findIdx? (fun e=>knd.is k e.2) es.toList with
  | some j =>
    obtain ⟨hj,hpj,_⟩:=List.findIdx?_eq_some_iff_getElem.mp hr
    exact wpAny_pure (wpAny_pure (h false s.heap es (Heap.SameBut.refl _ _) ⟨ep,t,ho,hf,g,hl⟩ (.inl ⟨⟨_,List.getElem_mem hj,hpj⟩,rfl⟩)))
  | none =>
    have hno:∀ e ∈ es.toList,knd.is k e.2=false:=List.findIdx?_eq_none_iff.mp hr
    dsimp only
    have p1:=layNew_perm t es (knd.hash k) x
    have f1:=layNew_fits t es (knd.hash k) x
    have g1:=yt g es (knd.hash k) x
    generalize layNew t es (knd.hash k) x=L at p1 f1 g1 ⊢
    obtain ⟨es1,t1,wd,gv⟩:=L
    dsimp only at p1 f1 g1 ⊢
    rw [Array.toList_push] at p1
    have z1:es1.size=es.size + 1:=by have:=p1.length_eq; simpa using this
    refine wpAny_bind (pE ?_)
    have tail:∀ t2:SetTable,t2.fits es1.size=true→G t2→t2.led=t.led→wpAny (model prog w) A (do
        storeSet a es1 t2
        if (!wd && t2.tooFull)=true then do
            (match (relayAll t2 es1 (SetTable.grown es1.size)).2.2 with | true=>rule "set.scan.the-table-gave-way" | false=>pure ())
            storeSet a (relayAll t2 es1 (SetTable.grown es1.size)).1 (relayAll t2 es1 (SetTable.grown es1.size)).2.1
            pure (some true)
          else pure (some true)) (fun r s'=>r=some true∧∃ h' es',s'={ s with heap:=h' }∧Heap.SameBut a s.heap h'∧SetG w h' a es'∧jm knd k x es es') E s:=by
      intro t2 f2 g2 l2
      refine wpAny_bind (rE ho (fits_of_scanBound (by omega)) fun h1 b1 o1=>?_)
      split
      · have p2:=relayAll_perm t2 es1 (SetTable.grown es1.size)
        have f3:=relayAll_fits t2 es1 (SetTable.grown es1.size)
        have g3:=wE (t:=t2) es1 (SetTable.grown es1.size)
        generalize relayAll t2 es1 (SetTable.grown es1.size)=M at p2 f3 g3 ⊢
        obtain ⟨es2,t3,gv2⟩:=M
        dsimp only at p2 f3 g3 ⊢
        have z2:es2.size=es1.size:=by have:=p2.length_eq; simpa using this
        refine wpAny_bind (pE (wpAny_bind (rE (s:={ s with heap:=h1 }) o1 (fits_of_scanBound (by omega)) fun h2 b2 o2=>?_)))
        exact wpAny_pure ⟨rfl,h2,es2,rfl,b1.trans b2,⟨_,t3,o2,f3,g3.1,by rw [g3.2,l2]; exact hl⟩,.inr ⟨hno,p2.trans p1⟩⟩
      · exact wpAny_pure ⟨rfl,h1,es1,rfl,b1,⟨_,t2,o1,f2,g2,by rw [l2]; exact hl⟩,.inr ⟨hno,p1⟩⟩
    have fin:∀ (r:Option Bool) (s':Shared),(r=some true∧∃ h' es',s'={ s with heap:=h' }∧Heap.SameBut a s.heap h'∧SetG w h' a es'∧jm knd k x es es') →
        wpAny (model prog w) A (match r with | some added=>pure added | none=>setAddHashedIn a x (knd.hash k) 99999) Q E s':=by
      rintro r s' ⟨rfl,h',es',rfl,b,S,ad⟩
      exact wpAny_pure (h true h' es' b S ad)
    split
    · refine wpAny_bind ?_
      rw [hashByValue_scannable 8 hx]
      refine wpAny_pure (wpAny_mono (tail _ ?_ ?_ ?_) (fun r s' z=>fin r s' z) fun _ _ e=>e)
      · split
        · exact f1
        · exact SetTable.fits_plain_off f1
      · split
        · exact g1.1
        · exact ⟨g1.1.r,g1.1.d⟩
      · split <;> exact g1.2
    · refine wpAny_bind (wpAny_pure ?_)
      rw [if_pos rfl]
      exact wpAny_mono (tail _ f1 g1.1 g1.2) (fun r s' z=>fin r s' z) fun _ _ e=>e
theorem add {k:K}{x:Value}{Q:Value->Shared->Prop}(hk:knd.is k x=true)(hx:x.scannable=true)(hS:SetG w s.heap a es)(hel:ElemsOf knd es.toList)(hb:es.size+1<scanBound)
  (h:∀ h' es',Heap.SameBut a s.heap h'->SetG w h' a es'->jm knd k x es es'->Q .none { s with heap:=h',toks:=s.toks+1 }):wpAny (model prog w) A (call (.builtin "set.add") [.ref a,x]) Q E s:=by
 refine GM F.slot_set_add hS.type F.entry_set_add ?_ (F.args_set_add_2 _ _)
 unfold Builtin.«set.add» Builtin.Frozenset.oneOther
 simp only[List.isEmpty_nil,bind_assoc]
 unfold Builtin.Frozenset.addrOf setAdd
 refine Ge (Gh (Ge (Gh (Ge (Gf (Ge (knd.pyHash hk ?_)))))))
 exact BX (s:={ s with toks:=s.toks+1 }) hk hx hS hel hb fun b h' es' sb S' ad=>Gh ⟨_,rfl,h h' es' sb S' ad⟩
theorem new {Q:Value->Shared->Prop}(h:∀ o:Obj,SetG w (s.heap.push o) s.heap.objs.size #[]->Q (.ref s.heap.objs.size) { s with heap:=s.heap.push o }):wpAny (model prog w) A (newSet (.type "set")) Q E s:=by
 unfold newSet Iz
 refine Ge (Ge (IH (Gh ?_)))
 dsimp only
 simp only[newObj]
 refine Ge (wpAny_alloc (Gh (h _ ⟨0,_,EM _ rfl,rfl,⟨List.Pairwise.nil,rfl⟩,?_⟩)))
 show fj w=true\/(!(fj w))=true
 cases fj w
 ·exact .inr rfl
 ·exact .inl rfl
end
end Ss
namespace Ss
open PySem
theorem qO:∃ (dr:Array (Int×Value)->SetTable->Bool) (ml:Array (Int×Value)->SetTable->Sem Unit),(∀ es t,ml es t=(do if !t.led && !es.isEmpty then II "set:maker-not-led"))/\(∀ a,setDrawn a=(do
 let (es,_,t) <-setState a
 let b <-Iz
 return !b && dr es t))/\(∀ a sl gv e0,IJ a sl gv e0=(do
 let (es,ep,t) <-setState a
 if <-Iz then
  if ep != e0 then II "set_iterator.__next__:elements-changed"
  return ((<-setWalk a)[gv]?).map fun e=>(e.2,sl)
 if dr es t then II "set_iterator.__next__:the-table-is-plain-no-more"
 ml es t
 let i:=SetTable.below t.place sl
 return match es[i]?,t.place[i]? with
  | some (_,x),some j=>some (x,j+1)
  | _,_=>none)):=⟨_,_,fun _ _=>rfl,fun _=>rfl,fun _ _ _ _=>rfl⟩
theorem kO {α:Type}:∀ {l:List α}{i:Nat} (h:i<l.length),(l[i]::l.eraseIdx i).Perm l
 | a::l,0,h=>List.Perm.refl _
 | a::l,i+1,h=>by
  have ih:=kO (l:=l) (i:=i) (by simpa using h)
  simp only[List.getElem_cons_succ,List.eraseIdx_cons_succ]
  exact(List.Perm.swap _ _ _).trans (ih.cons _)
theorem rT {α:Type}(nx:Nat->Nat):∀ (f k:Nat) (l:List α) (out:Array α),f=l.length->(pickOrder.go nx f k l out).toList.Perm (out.toList++l)
 | 0,k,l,out,h=>by
  have e:l=[]:=Dz h.symm
  subst e
  simp[pickOrder.go]
 | f+1,k,l,out,h=>by
  have hl:nx k % l.length<l.length:=Nat.mod_lt _ (by omega)
  unfold pickOrder.go
  rw[CZ hl]
  dsimp only
  have ih:=rT nx f (k+1) (l.eraseIdx (nx k % l.length)) (out.push l[nx k % l.length]) (by rw[EC];rw[if_pos hl];omega)
  refine ih.trans ?_
  rw[Array.toList_push,DT]
  exact(kO hl).append_left _
theorem fy {α:Type}(nx:Nat->Nat)(xs:Array α):(pickOrder nx xs).toList.Perm xs.toList:=by
 have:=rT nx xs.size 0 xs.toList #[] (by simp)
 unfold pickOrder
 simpa using this
section
variable {prog:FN}{w:World}{A:Around}{E:Value->Shared->Prop}{s:Shared}
theorem zG {src:Source}{n:Nat}{Q:Nat->Shared->Prop}(hn:n≠0)(h:∀ k d,k<n->Q k { s with drawn:=d }):wpAny (model prog w) A (choose src n) Q E s:=fun Γ p hΓ=>by
 show Sem.wp _ _ (.choose src n .pure) _ _ _ _
 rw[Sem.wp_choose]
 exact⟨hn,h _ _ (Nat.mod_lt _ (Nat.pos_of_ne_zero hn))⟩
theorem ug {α:Type}:∀ (n:Nat) (xs:List α) (s:Shared) (Q:List α->Shared->Prop),n=xs.length->(∀ ys d,ys.Perm xs->Q ys { s with drawn:=d })->wpAny (model prog w) A (drawOrder n xs) Q E s
 | 0,xs,s,Q,hn,h=>by
  have e:xs=[]:=Dz hn.symm
  subst e
  exact Gh (h [] s.drawn (List.Perm.refl _))
 | n+1,[],s,Q,hn,h=>by cases hn
 | n+1,x::xs,s,Q,hn,h=>by
  unfold drawOrder
  refine Ge (zG (by simp) fun i d hi=>?_)
  rw[CZ hi]
  dsimp only
  refine Ge (ug n _ _ _ (by rw[EC,if_pos hi];simp at hn ⊢;omega) fun ys d' hp=>Gh (h _ d' ?_))
  exact(hp.cons _).trans (kO hi)
end
end Ss
namespace Ss
open PySem PyProof.Rows
namespace SF
theorem owner:Manifest.owners.lookup (String.ofList ['r','o','t','a','r','e','t','i','_','t','e','s'].reverse)=some Manifest.sig_set_iterator:=by kernel_rfl
theorem next:Slot "set_iterator" "__next__" "set_iterator.__next__" :=
 .of (owner:="set_iterator") (n:="__next__") (by rw[GY,GZ];kernel_rfl) (by decide +kernel) (by decide +kernel) (by decide +kernel)
  (by first|exact .inl (by decide +kernel)|exact .inr (by decide +kernel)) (by rw[G0];kernel_rfl)
theorem entry_next:G2 table "set_iterator.__next__"=some Builtin.«set_iterator.__next__»:=G3 (by kernel_rfl)
theorem args_next (a:Value):G4 "set_iterator.__next__" ⟨[a],[]⟩:=by
 unfold G4;rw[G5 (id:="set_iterator.__next__") (n:=['_','_','t','x','e','n','_','_']) (o:=['r','o','t','a','r','e','t','i','_','t','e','s']) (by kernel_rfl) owner];kernel_rfl
theorem iter:Slot "set_iterator" "__iter__" "set_iterator.__iter__" :=
 .of (owner:="set_iterator") (n:="__iter__") (by rw[GY,GZ];kernel_rfl) (by decide +kernel) (by decide +kernel) (by decide +kernel)
  (by first|exact .inl (by decide +kernel)|exact .inr (by decide +kernel)) (by rw[G0];kernel_rfl)
theorem args_iter (a:Value):G4 "set_iterator.__iter__" ⟨[a],[]⟩:=by
 unfold G4;rw[G5 (id:="set_iterator.__iter__") (n:=['_','_','r','e','t','i','_','_']) (o:=['r','o','t','a','r','e','t','i','_','t','e','s']) (by kernel_rfl) owner];kernel_rfl
theorem entry_iter:G2 table "set_iterator.__iter__"=some Builtin.«dict_keyiterator.__iter__» :=
 G6 (id':="dict_keyiterator.__iter__") (by kernel_rfl) (by first|rfl|decide +kernel|(unfold String.splitOn;simp +decide[String.splitOnAux])) (by decide +kernel) (by kernel_rfl)
theorem entry_set:G2 table "set.__iter__"=some Builtin.«frozenset.__iter__» :=
 G6 (id':="frozenset.__iter__") (by kernel_rfl) rfl (by decide +kernel) (by kernel_rfl)
end SF
end Ss
namespace Ss
open PySem PyProof.Rows
abbrev Rc (fst:Value)(i:Nat)(a:Addr)(n ep:Nat):Obj:={ cls:=.type "set_iterator",dict:=none,data:=.fields #[fst,G7 i,.ref a,G7 n,G7 ep] }
abbrev So (es:Array (Int×Value))(ep:Nat)(t:SetTable):Obj:={ cls:=.type "set",dict:=none,data:=.set es ep t }
section
variable {prog:FN}{w:World}{A:Around}{E:Value->Shared->Prop}{s:Shared}{it a:Addr}{es:Array (Int×Value)}{ep:Nat}{t:SetTable}
theorem pK {fst:Value}{i n:Nat}{Q:Value->Shared->Prop}(hit:s.heap.get? it=some (Rc fst i a n ep))(h:Q (.ref it) s):wpAny (model prog w) A (Gn (.ref it)) Q E s:=by
 have hT:s.TypeIs (.ref it) "set_iterator":=⟨_,hit,rfl⟩
 refine Hj hT SF.iter (GM SF.iter hT SF.entry_iter ?_ (SF.args_iter _))
 show wpAny _ _ (ret (.ref it)) _ _ s
 exact Gh ⟨_,rfl,"set_iterator",_,hT,SF.next.lookup,h⟩
theorem vR {sl i nx:Nat}{x:Value}{Q:Option Value->Shared->Prop}(hit:s.heap.get? it=some (Rc (G7 sl) i a es.size ep))(hs:s.heap.get? a=some (So es ep t))(hf:t.fits es.size=true)
  (hsn:∀ (A':Around) (E':Value->Shared->Prop) (Q':Option (Value×Nat)->Shared->Prop),Q' (some (x,nx)) s->wpAny (model prog w) A' (IJ a sl i ep) Q' E' s)
  (hQ:∀ h',h'.get? it=some (Rc (G7 nx) (i+1) a es.size ep)->Heap.SameBut it s.heap h'->Q (some x) { s with heap:=h' }):wpAny (model prog w) A (Ha (.ref it)) Q E s:=by
 have hT:s.TypeIs (.ref it) "set_iterator":=⟨_,hit,rfl⟩
 unfold Ha
 refine Ge (Hb (GL (name:=Str.ofString "__next__") hT SF.next (GM SF.next hT SF.entry_next ?_ (SF.args_next _))))
 unfold Builtin.«set_iterator.__next__»
 refine Ge (G8 (a:=(Value.ref it,[])) rfl ?_)
 refine Ge (IK hit rfl ?_)
 dsimp only [G7]
 refine Ge (IL hs rfl hf ?_)
 rw[if_neg (by simp)]
 refine Ge ?_
 simp only[Fs]
 refine hsn _ _ _ ?_
 dsimp only
 refine Ge (IM hit (by simp) fun h1 o1 b1=>?_)
 refine Ge (IM (s:={ s with heap:=h1 }) o1 (by simp) fun h2 o2 b2=>?_)
 exact Gh ⟨x,rfl,Gh (hQ h2 (by simpa [Rc,G7] using o2) (b1.trans b2))⟩
theorem B8 {sl i:Nat}{Q:Option Value->Shared->Prop}(hh:A.handled=none)(hit:s.heap.get? it=some (Rc (G7 sl) i a es.size ep))(hs:s.heap.get? a=some (So es ep t))(hf:t.fits es.size=true)
  (hsn:∀ (A':Around) (E':Value->Shared->Prop) (Q':Option (Value×Nat)->Shared->Prop),Q' none s->wpAny (model prog w) A' (IJ a sl i ep) Q' E' s)
  (hQ:∀ h',Heap.ExtBut it s.heap h'->Q none { s with heap:=h' }):wpAny (model prog w) A (Ha (.ref it)) Q E s:=by
 have hT:s.TypeIs (.ref it) "set_iterator":=⟨_,hit,rfl⟩
 unfold Ha
 refine Ge (Hb (GL (name:=Str.ofString "__next__") hT SF.next (GM SF.next hT SF.entry_next ?_ (SF.args_next _))))
 unfold Builtin.«set_iterator.__next__»
 refine Ge (G8 (a:=(Value.ref it,[])) rfl ?_)
 refine Ge (IK hit rfl ?_)
 dsimp only [G7]
 refine Ge (IL hs rfl hf ?_)
 rw[if_neg (by simp)]
 refine Ge ?_
 simp only[Fs]
 refine hsn _ _ _ ?_
 dsimp only
 refine Ge (IM hit (by simp) fun h1 o1 b1=>?_)
 refine Ge ?_
 simp only[Hd,newTuple]
 refine Ge (Gi ?_ (by size_fits))
 refine Ge (m:=He _ _) (G8 (a:=Value.none) (by first|rfl|(simp only[He];rfl)) ?_)
 refine Gi ?_ (by size_fits)
 simp only[raiseNew]
 refine Ge (Hf ?_)
 first|rw[show A.in1.handled=none from hh]|rw[hh]
 refine Ge (Gh (Hg ?_))
 refine Ge (Hh (T:="StopIteration") (b:=true) ⟨_,EM _ rfl,rfl⟩ Hi ?_)
 refine Gh (hQ _ ?_)
 exact Heap.ExtBut.push (Heap.ExtBut.push (fun b o hb e=>(b1.2 b hb).trans e) _) _
end
end Ss
namespace Ss
open PySem PyProof.Rows
noncomputable def dr:Array (Int×Value)->SetTable->Bool:=qO.choose
theorem nK:∃ (ml:Array (Int×Value)->SetTable->Sem Unit),(∀ es t,ml es t=(do if !t.led && !es.isEmpty then II "set:maker-not-led"))/\(∀ a,setDrawn a=(do
 let (es,_,t) <-setState a
 let b <-Iz
 return !b && dr es t))/\(∀ a sl gv e0,IJ a sl gv e0=(do
 let (es,ep,t) <-setState a
 if <-Iz then
  if ep != e0 then II "set_iterator.__next__:elements-changed"
  return ((<-setWalk a)[gv]?).map fun e=>(e.2,sl)
 if dr es t then II "set_iterator.__next__:the-table-is-plain-no-more"
 ml es t
 let i:=SetTable.below t.place sl
 return match es[i]?,t.place[i]? with
  | some (_,x),some j=>some (x,j+1)
  | _,_=>none)):=qO.choose_spec
def dX (t:SetTable)(i:Nat):Nat:=if i=0 then 0 else t.place.getD (i-1) 0+1
theorem wv {t:SetTable}(R:fA t.place){i:Nat}(hi:i<=t.place.size):SetTable.below t.place (dX t i)=i:=by
 obtain⟨b1,b2,b3⟩:=sH R (dX t i)
 generalize SetTable.below t.place (dX t i)=p at *
 unfold dX at b2 b3
 by_cases h0:i=0
 ·subst h0
  rcases Fc p with z|z
  ·exact z
  ·have:=b2 0 z;simp at this
 ·simp only[h0,if_false] at b2 b3
  rcases Fh p i with z|z|z
  ·have h1:=b3 p (EU _) (by omega)
   rcases EZ p (i-1) with y|y
   ·have:=R.lt y (by omega);omega
   ·rw[show p=i-1 by omega] at h1;omega
  ·exact z
  ·have h1:=b2 i z
   have:=R.lt (i:=i-1) (k:=i) (by omega) (by omega)
   omega
section
variable {prog:FN}{w:World}{A:Around}{E:Value->Shared->Prop}{s:Shared}{it a:Addr}{es:Array (Int×Value)}{ep:Nat}{t:SetTable}
theorem ku {Q:Bool->Shared->Prop}(h:Q (fj w) s):wpAny (model prog w) A Iz Q E s:=Ge (IH (Gh h))
theorem xb {i:Nat}{gv:Nat}(hb:fj w=false)(hd:dr es t=false)(hs:s.heap.get? a=some (So es ep t))(hf:t.fits es.size=true)(g:G t)(hl:t.led=true)(hi:i<=es.size){Q:Option (Value×Nat)->Shared->Prop}
  (h:Q ((es[i]?).map fun e=>(e.2,dX t (i+1))) s):wpAny (model prog w) A (IJ a (dX t i) gv ep) Q E s:=by
 have hz:t.place.size=es.size:=by simp[SetTable.fits] at hf;exact hf.1
 obtain⟨ml,h1,h2,h3⟩:=nK
 rw[h3]
 refine Ge (IN hs rfl hf (Ge (ku ?_)))
 rw[hb,hd,h1,hl]
 simp only[Bool.false_eq_true,if_false,Bool.not_true,Bool.false_and]
 refine Ge (Gh ?_)
 rw[wv g.r (by omega)]
 refine Gh ?_
 have e:(match es[i]?,t.place[i]? with|some (_,x),some j=>some (x,j+1)|_,_=>none)=(es[i]?).map fun e=>(e.2,dX t (i+1)):=by
  rcases EZ i es.size with z|z
  ·rw[getElem?_pos es i z,vj (by omega)]
   simp[dX]
  ·rw[Fp z]
   rfl
 rw[e]
 exact h
theorem Cn {i:Nat}(hb:fj w=true)(hs:s.heap.get? a=some (So es ep t))(hf:t.fits es.size=true){Q:Option (Value×Nat)->Shared->Prop}
  (h:Q (((pickOrder (w.params.setOrder a ep) es)[i]?).map fun e=>(e.2,0)) s):wpAny (model prog w) A (IJ a 0 i ep) Q E s:=by
 obtain⟨ml,h1,h2,h3⟩:=nK
 rw[h3]
 refine Ge (IN hs rfl hf (Ge (ku ?_)))
 rw[hb]
 simp only[bne_self_eq_false,Bool.false_eq_true,if_false,if_true]
 unfold setWalk
 refine Ge (Ge (IN hs rfl hf (Ge (ku ?_))))
 rw[hb]
 simp only[if_true]
 exact Ge (IH (Gh (Gh h)))
theorem An {us:List Value} {fst:Nat→Nat} (hne:a≠it) (hl:us.length=es.size) (hf:t.fits es.size=true)
    (hn:∀ (i:Nat) (s:Shared) (A':Around) (E':Value→Shared→Prop) (Q':Option (Value × Nat)→Shared→Prop),i≤es.size→s.heap.get? a=some (So es ep t)→Q' ((us[i]?).map fun x=>(x,fst (i + 1))) s→wpAny (model prog w) A' (setNext a (fst i) i ep) Q' E' s) (hh:A.handled=none) :
    Walks prog w A it [it,a] [it] us.length (fun i v=>us[i]?=some v) (fun i h=>h.get? it=some (Rc (rawInt (fst i)) i a es.size ep)∧h.get? a=some (So es ep t)) where
  sub:=fun b hb=>by simp at hb; simp [hb]
  frame:=fun i h h' st k=>⟨k it (by simp) _ st.1,k a (by simp) _ st.2⟩
  item:=fun i s Q E hi st hQ=>by
    refine vR (x:=us[i]) (nx:=fst (i + 1)) st.1 st.2 hf (fun A' E' Q' q=>hn i s A' E' Q' (by omega) st.2 (by rw [List.getElem?_eq_getElem hi]; exact q)) fun h' o b=>?_
    exact hQ _ h' s.toks (List.getElem?_eq_getElem hi) ⟨o,(b.2 a hne).trans st.2⟩ fun c o' hc e=>(b.2 c (by simpa using hc)).trans e
  done:=fun s Q E st hQ=>by
    refine B8 hh st.1 st.2 hf (fun A' E' Q' q=>hn _ s A' E' Q' (by omega) st.2 (by rw [List.getElem?_eq_none (Nat.le_refl _)]; exact q)) fun h' b=>?_
    exact hQ h' s.toks fun c o' hc e=>b c o' (by simpa using hc) e
  self:=fun i s Q E st h=>pK st.1 h
theorem BJ {tp:Addr}{pl:List Nat}{i p:Nat}{x:Int×Value}{Q:Option Value->Shared->Prop}(hit:s.heap.get? it=some (Rc (.ref tp) i a es.size ep))(hs:s.heap.get? a=some (So es ep t))(hf:t.fits es.size=true)
  (ht:s.heap.get? tp=some (Hz "tuple" (pl.map fun i:Nat=>G7 i).toArray 0)) (hp:pl[i]?=some p) (hx:es[p]?=some x)
  (hQ:∀ h',h'.get? it=some (Rc (.ref tp) (i+1) a es.size ep)->Heap.SameBut it s.heap h'->Q (some x.2) { s with heap:=h' }):wpAny (model prog w) A (Ha (.ref it)) Q E s:=by
 have hT:s.TypeIs (.ref it) "set_iterator":=⟨_,hit,rfl⟩
 unfold Ha
 refine Ge (Hb (GL (name:=Str.ofString "__next__") hT SF.next (GM SF.next hT SF.entry_next ?_ (SF.args_next _))))
 unfold Builtin.«set_iterator.__next__»
 refine Ge (G8 (a:=(Value.ref it,[])) rfl (Ge (IK hit rfl ?_)))
 dsimp only [G7]
 refine Ge (IL hs rfl hf ?_)
 rw[if_neg (by simp)]
 refine Ge (IP ht rfl ?_)
 simp only[Fs]
 have e:(pl.map fun i:Nat=>G7 i).toArray[i]?=some (.int (p:Int) 0):=by rw[DX,Da,hp];rfl
 rw[e]
 dsimp only
 unfold setNextDrawn
 refine Ge (Ge (IN hs rfl hf ?_))
 simp only[Fs,bne_self_eq_false,Bool.false_eq_true,if_false]
 rw[hx]
 refine Gh (Ge (IM hit (by simp) fun h1 o1 b1=>?_))
 exact Gh ⟨x.2,rfl,Gh (hQ h1 (by simpa [Rc,G7] using o1) b1)⟩
theorem Ab {tp:Addr}{pl:List Nat}{i:Nat}{Q:Option Value->Shared->Prop}(hh:A.handled=none)(hit:s.heap.get? it=some (Rc (.ref tp) i a es.size ep))(hs:s.heap.get? a=some (So es ep t))(hf:t.fits es.size=true)
  (ht:s.heap.get? tp=some (Hz "tuple" (pl.map fun i:Nat=>G7 i).toArray 0)) (hp:pl.length<=i) (hQ:∀ h',Heap.ExtBut it s.heap h'->Q none { s with heap:=h' }):wpAny (model prog w) A (Ha (.ref it)) Q E s:=by
 have hT:s.TypeIs (.ref it) "set_iterator":=⟨_,hit,rfl⟩
 unfold Ha
 refine Ge (Hb (GL (name:=Str.ofString "__next__") hT SF.next (GM SF.next hT SF.entry_next ?_ (SF.args_next _))))
 unfold Builtin.«set_iterator.__next__»
 refine Ge (G8 (a:=(Value.ref it,[])) rfl (Ge (IK hit rfl ?_)))
 dsimp only [G7]
 refine Ge (IL hs rfl hf ?_)
 rw[if_neg (by simp)]
 refine Ge (IP ht rfl ?_)
 simp only[Fs]
 have e:(pl.map fun i:Nat=>G7 i).toArray[i]?=none:=by rw[DX,Da,DY hp];rfl
 rw[e]
 dsimp only
 refine Ge (IM hit (by simp) fun h1 o1 b1=>?_)
 refine Ge (IM (s:={ s with heap:=h1 }) o1 (by simp) fun h2 o2 b2=>?_)
 refine Ge ?_
 simp only[Hd,newTuple]
 refine Ge (Gi ?_ (by size_fits))
 refine Ge (m:=He _ _) (G8 (a:=Value.none) (by first|rfl|(simp only[He];rfl)) ?_)
 refine Gi ?_ (by size_fits)
 simp only[raiseNew]
 refine Ge (Hf ?_)
 first|rw[show A.in1.handled=none from hh]|rw[hh]
 refine Ge (Gh (Hg ?_))
 refine Ge (Hh (T:="StopIteration") (b:=true) ⟨_,EM _ rfl,rfl⟩ Hi ?_)
 refine Gh (hQ _ ?_)
 exact Heap.ExtBut.push (Heap.ExtBut.push (fun b o hb e=>((b1.trans b2).2 b hb).trans e) _) _
theorem Bs {tp:Addr}{pl:List Nat}(hne:a≠it)(hnt:tp≠it)(hp:pl.Perm (C2 es.size))(hf:t.fits es.size=true)(hh:A.handled=none) :
  Walks prog w A it [it,a,tp] [it] pl.length (fun i v=>(pl.map fun p=>(es.getD p (0,.none)).2)[i]?=some v) (fun i h=>h.get? it=some (Rc (.ref tp) i a es.size ep)/\h.get? a=some (So es ep t)/\h.get? tp=some (Hz "tuple" (pl.map fun i:Nat=>G7 i).toArray 0)) where
 sub:=fun b hb=>by simp at hb;simp[hb]
 frame:=fun i h h' st k=>⟨k it (by simp) _ st.1,k a (by simp) _ st.2.1,k tp (by simp) _ st.2.2⟩
 item:=fun i s Q E hi st hQ=>by
  have hm:pl[i]<es.size:=List.mem_range.mp (hp.mem_iff.mp (Dr hi))
  refine BJ (x:=es[pl[i]]) st.1 st.2.1 hf st.2.2 (CZ hi) (getElem?_pos es _ hm) fun h' o b=>?_
  refine hQ _ h' s.toks ?_ ⟨o,(b.2 a hne).trans st.2.1,(b.2 tp hnt).trans st.2.2⟩ fun c o' hc e=>(b.2 c (by simpa using hc)).trans e
  rw[Da,CZ hi]
  simp[Fk,hm]
 done:=fun s Q E st hQ=>Ab hh st.1 st.2.1 hf st.2.2 (EU _) fun h' b=>hQ h' s.toks fun c o' hc e=>b c o' (by simpa using hc) e
 self:=fun i s Q E st h=>pK st.1 h
end
end Ss
namespace Ss
open PySem PyProof.Rows
section
variable {prog:FN}{w:World}{A:Around}{E:Value->Shared->Prop}{s:Shared}{a:Addr}{es:Array (Int×Value)}
theorem yI {Q:Value->Shared->Prop}(hS:SetG w s.heap a es)(hz:es.size<=4096)
  (h:∀ (it:Addr) (h1:Heap) d (us:List Value) (fp:List Addr) (St:Nat->Heap->Prop),s.heap.objs.size<=it->(∀ b o,s.heap.get? b=some o->h1.get? b=some o)->us.Perm (es.toList.map (·.2))->(∀ b∈fp,b=a\/s.heap.objs.size<=b) ->
   (∀ A':Around,A'.handled=none->Walks prog w A' it fp [it] us.length (fun i v=>us[i]?=some v) St)->St 0 h1->Q (.ref it) { s with heap:=h1,drawn:=d }):wpAny (model prog w) A (Gn (.ref a)) Q E s:=by
 have hT:=hS.type
 have hlt:=hS.lt
 obtain⟨ep,t,ho,hf,g,hl⟩:=hS
 obtain⟨ml,h1,h2,h3⟩:=nK
 refine Hj hT F.slot_set_iter (GM F.slot_set_iter hT SF.entry_set ?_ (F.args_set_iter_1 _))
 unfold Builtin.«frozenset.__iter__» Builtin.Frozenset.slot0
 refine Ge (Ge (G8 (a:=(Value.ref a,[])) rfl ?_))
 unfold Builtin.Frozenset.addrOf Builtin.Frozenset.sizeOf
 refine Gh (Ge (Ge (IL ho rfl hf (Gh ?_))))
 rw[h2]
 refine Ge (Ge (IN ho rfl hf (Ge (ku (Gh ?_)))))
 have last:∀ (us:List Value) (fst:Nat->Nat),fst 0=0->us.Perm (es.toList.map (·.2)) ->
   (∀ (i:Nat) (s:Shared) (A':Around) (E':Value->Shared->Prop) (Q':Option (Value×Nat)->Shared->Prop),i<=es.size->s.heap.get? a=some (So es ep t)->Q' ((us[i]?).map fun x=>(x,fst (i+1))) s->wpAny (model prog w) A' (IJ a (fst i) i ep) Q' E' s) ->
   Q (.ref s.heap.objs.size) { s with heap:=s.heap.push (Rc (G7 0) 0 a es.size ep) }:=fun us fst h0 hp hn=>by
  have hul:us.length=es.size:=by have:=hp.length_eq;simpa using this
  refine h s.heap.objs.size _ s.drawn us [s.heap.objs.size,a] _ (EU _) (fun b o e=>EL _ e) hp (fun b hb=>?_) (fun A' hh'=>An (t:=t) (ep:=ep) (fst:=fst) (EV hlt) hul hf hn hh') ⟨?_,EL _ ho⟩
  ·simp at hb
   rcases hb with e|e
   ·exact .inr (by rw[e];exact EU _)
   ·exact .inl e
  ·rw[h0];exact EM _ rfl
 by_cases hb:fj w=true
 ·rw[hb]
  simp only[Bool.not_true,Bool.false_and,Bool.false_eq_true,if_false]
  refine Ge (Gh (Ge (IQ ho rfl hf (Ge ?_))))
  unfold newFields
  refine Gi (Gh ⟨_,rfl,"set_iterator",_,⟨_,EM _ rfl,rfl⟩,SF.next.lookup,?_⟩)
  refine last ((pickOrder (w.params.setOrder a ep) es).toList.map (·.2)) (fun _=>0) rfl ((fy _ _).map _) fun i s' A' E' Q' hi hs q=>Cn hb hs hf ?_
  have e:(((pickOrder (w.params.setOrder a ep) es).toList.map (·.2))[i]?).map (fun x=>(x,0))=((pickOrder (w.params.setOrder a ep) es)[i]?).map fun e=>(e.2,0):=by
   rw[Da,Fl]
   cases (pickOrder (w.params.setOrder a ep) es)[i]? <;> rfl
  rw[<-e]
  exact q
 ·have hb':fj w=false:=by simpa using hb
  have hled:t.led=true:=hl.resolve_left hb
  rw[hb']
  by_cases hd:dr es t=true
  ·rw[hd]
   simp only[Bool.not_false,Bool.true_and,if_true]
   refine Ge (ug es.size (C2 es.size) s _ (by simp) fun pl d hp=>?_)
   have hpl:pl.length=es.size:=by have:=hp.length_eq;simpa using this
   refine Ge (Ii ?_ (by rw[CW,hpl,Gs];omega))
   have ho2:(s.heap.push (Hz "tuple" (pl.map fun i:Nat=>G7 i).toArray 0)).get? a=some (So es ep t):=EL _ ho
   refine Ge (IQ (s:={ s with heap:=s.heap.push (Hz "tuple" (pl.map fun i:Nat=>G7 i).toArray 0),drawn:=d }) ho2 rfl hf (Ge ?_))
   unfold newFields
   refine Gi (Gh ⟨_,rfl,"set_iterator",_,⟨_,EM _ rfl,rfl⟩,SF.next.lookup,?_⟩)
   have z1:(s.heap.push (Hz "tuple" (pl.map fun i:Nat=>G7 i).toArray 0)).objs.size=s.heap.objs.size+1:=Ie _ _
   have up:(pl.map fun p=>(es.getD p (0,.none)).2).Perm (es.toList.map (·.2)):=by
    have e:es.toList.map (·.2)=(C2 es.size).map fun p=>(es.getD p (0,.none)).2:=by
     refine DC (by simp) fun i h1 h2=>?_
     have hi:i<es.size:=by simpa using h1
     simp[Fk,hi]
    rw[e]
    exact hp.map _
   refine h _ _ d (pl.map fun p=>(es.getD p (0,.none)).2) [s.heap.objs.size+1,a,s.heap.objs.size] (fun i h=>h.get? (s.heap.objs.size+1)=some (Rc (.ref s.heap.objs.size) i a es.size ep)/\h.get? a=some (So es ep t)/\h.get? s.heap.objs.size=some (Hz "tuple" (pl.map fun i:Nat=>G7 i).toArray 0)) (by rw[z1];exact E2 _) (fun b o e=>EL _ (EL _ e)) up (fun b hb=>?_) (fun A' hh'=>?_) ?_
   ·simp at hb
    rcases hb with e|e|e
    ·exact .inr (by rw[e];exact E2 _)
    ·exact .inl e
    ·exact .inr (by rw[e];exact EU _)
   ·have W:=Bs (prog:=prog) (w:=w) (it:=s.heap.objs.size+1) (t:=t) (ep:=ep) (tp:=s.heap.objs.size) (EV (E6 hlt)) (EV (E8 _)) hp hf hh'
    rw[CW,z1]
    exact W
   ·refine⟨?_,EL _ ho2,EL _ (EM _ rfl)⟩
    rw[<-z1]
    exact EM _ rfl
  ·have hd':dr es t=false:=by simpa using hd
   rw[hd']
   simp only[Bool.and_false,Bool.false_eq_true,if_false]
   refine Ge (Gh (Ge (IQ ho rfl hf (Ge ?_))))
   unfold newFields
   refine Gi (Gh ⟨_,rfl,"set_iterator",_,⟨_,EM _ rfl,rfl⟩,SF.next.lookup,?_⟩)
   refine last (es.toList.map (·.2)) (dX t) rfl (List.Perm.refl _) fun i s' A' E' Q' hi hs q=>xb hb' hd' hs hf g hled hi ?_
   have e:((es.toList.map (·.2))[i]?).map (fun x=>(x,dX t (i+1)))=(es[i]?).map fun e=>(e.2,dX t (i+1)):=by
    rw[Da,Fl]
    cases es[i]? <;> rfl
   rw[<-e]
   exact q
theorem BC {Q:Bool->Shared->Prop}(hT:s.TypeIs (.ref a) "set")(h:Q false s):wpAny (model prog w) A (Builtin.List.listLengthHint (.ref a)) Q E s:=by
 unfold Builtin.List.listLengthHint
 refine Ge (G9 hT PySem.F.slot_set_len.lookup ?_)
 generalize hid:("set.__len__" : String)=id0
 wp_delta
 rw[show splitId id0=some ("set","__len__") from by subst hid;decide +kernel]
 subst hid
 refine Ge (Hh (T:="set") (b:=true) hT (by rw[G0];kernel_rfl) ?_)
 refine IR (fun hab=>absurd hab (by decide)) (fun _=>?_)
 refine IR (fun _=>?_) (fun hab=>absurd (by decide +kernel) hab)
 exact Ge (GN hT (Gh h))
theorem collect_set {R:List Value->Shared->Prop}(hh:A.handled=none)(hS:SetG w s.heap a es)(hz:es.size<=4096)
  (h:∀ (h':Heap) tk d (vs:List Value),(∀ b o,s.heap.get? b=some o->h'.get? b=some o)->vs.Perm (es.toList.map (·.2))->R vs { s with heap:=h',toks:=tk,drawn:=d }):wpAny (model prog w) A (collect (.ref a)) R E s:=by
 have hlt:=hS.lt
 unfold collect
 refine Ge (wpAny_runValue (IS entry_proto_collect' ?_))
 rw[Around.under_plainId PySem.F.plain_proto_collect _]
 show wpAny _ A.in1 (newList [] >>= fun l=>again (.builtin "list.__iadd__" ⟨[l,.ref a],[]⟩)) _ _ s
 refine Ge (Gi (Gh ⟨IT PySem.F.plain_list_iadd _,IS entry_list_iadd' ?_⟩))
 rw[Around.under_plainId PySem.F.plain_list_iadd _]
 show wpAny _ A.in1 (Builtin.List.listExtendWith (.ref s.heap.objs.size) (.ref a) (.ref s.heap.objs.size)) _ _ _
 have oL:(s.heap.push { cls:=.type "list",data:=.seq ([]:List Value).toArray }).get? s.heap.objs.size=some { cls:=.type "list",data:=.seq #[] }:=EM _ rfl
 have hS1:SetG w (s.heap.push { cls:=.type "list",data:=.seq ([]:List Value).toArray }) a es:=hS.at fun o e=>EL _ e
 have z1:(s.heap.push { cls:=.type "list",data:=.seq ([]:List Value).toArray }).objs.size=s.heap.objs.size+1:=Ie _ _
 generalize hg:s.heap.push { cls:=.type "list",data:=.seq ([]:List Value).toArray }=G1 at *
 have keep1:∀ b o,s.heap.get? b=some o->G1.get? b=some o:=fun b o e=>by rw[<-hg];exact EL _ e
 unfold Builtin.List.listExtendWith
 have hT1:=SetG.type (s:={ s with heap:=G1 }) hS1
 refine Ge (GN (T:="set") hT1 ?_)
 have e1:Builtin.List.listSameRef (.ref s.heap.objs.size) (.ref a)=false:=by simp[Builtin.List.listSameRef];exact E1 hlt
 have e2:(Value.type "set" == Value.type "list")=false:=by decide
 have e3:(Value.type "set" == Value.type "tuple")=false:=by decide
 simp only[e1,e2,e3,Bool.or_false,Bool.false_eq_true,if_false]
 refine Ge (yI (s:={ s with heap:=G1 }) hS1 hz fun it h1 d us fp St hit hk hp hfp hW hst=>?_)
 have hS2:SetG w h1 a es:=hS1.at fun o e=>hk a o e
 have oL1:=hk _ _ oL
 have hul:us.length<=4096:=by have:=hp.length_eq;simp at this;omega
 have hSf:s.heap.objs.size∉fp:=fun hm=>by
  rcases hfp _ hm with z|z
  ·exact absurd z (E1 hlt)
  ·have:G1.objs.size<=s.heap.objs.size:=z
   omega
 have loop:∀ (h2:Heap) (c tk:Nat),St 0 h2->(∀ b o,b≠s.heap.objs.size->G1.get? b=some o->h2.get? b=some o)->h2.get? s.heap.objs.size=some { cls:=.type "list",data:=.seq #[] c } ->
   Gw (model prog w) A (.builtin "list.extend.loop" ⟨[.ref s.heap.objs.size,.ref it,.ref s.heap.objs.size],[]⟩) (fun r s'=>∃ (h':Heap) (tk:Nat) (acc:Array Value) (c':Nat),r=.ok (.ret (.ref s.heap.objs.size))/\s'={ s with heap:=h',toks:=tk,drawn:=d } /\
    (∀ b o,s.heap.get? b=some o->h'.get? b=some o)/\h'.get? s.heap.objs.size=some { cls:=.type "list",dict:=none,data:=.seq acc c',slots:=#[] }/\acc.toList.Perm (es.toList.map (·.2))) { s with heap:=h2,toks:=tk,drawn:=d }:=by
  intro h2 c tk st2 k2 o2
  refine codeAny_extend_loopS (hW A.in1 hh).toS (by rw[Gs];omega) s.heap.objs.size hSf (.ref s.heap.objs.size) us.length 0 _ #[] c rfl (EX _) st2 o2 (ItemsOf.nil _) fun s' acc c' hm oS hacc=>?_
  have eq:s'={ s with heap:=s'.heap,toks:=s'.toks,drawn:=d }:=Moved.eq_with hm
  refine⟨s'.heap,s'.toks,acc,c',rfl,eq,fun b o e=>hm.heap b o (fun hmem=>?_) (k2 b o (EV (EK e)) (keep1 b o e)),oS,?_⟩
  ·have hb:=EK e
   rcases List.mem_cons.mp hmem with z|z
   ·exact absurd z (EV hb)
   ·have z':b=it:=by simpa using z
    have h2:s.heap.objs.size<=it:=EY (by show s.heap.objs.size<=G1.objs.size;rw[z1];exact E2 _) hit
    exact absurd hb (by rw[z'];exact Nat.not_lt.mpr h2)
  ·have ea:acc.toList=us:=by
    refine Ek fun j=>?_
    rcases EZ j acc.size with y|y
    ·have q:=hacc.2 j acc[j] (getElem?_pos acc j y)
     rw[q,Fl,getElem?_pos acc j y]
    ·rw[DY (by simpa using y),DY (by have:=hacc.1;omega)]
   rw[ea]
   exact hp
 have fin:∀ (r:Gv) (s':Shared),(∃ (h':Heap) (tk:Nat) (acc:Array Value) (c':Nat),r=.ok (.ret (.ref s.heap.objs.size))/\s'={ s with heap:=h',toks:=tk,drawn:=d } /\
    (∀ b o,s.heap.get? b=some o->h'.get? b=some o)/\h'.get? s.heap.objs.size=some { cls:=.type "list",dict:=none,data:=.seq acc c',slots:=#[] }/\acc.toList.Perm (es.toList.map (·.2)))->∃ v,r=.ok (.ret v)/\wpAny (model prog w) A (match v with
   | .ref b=>(do let o <-load b;match o.data with|.seq xs _=>pure xs.toList|_=>II "internal:collect")
   | _=>II "internal:collect") R E s':=by
  rintro r s' ⟨h',tk,acc,c',rfl,rfl,k,o,p⟩
  exact⟨_,rfl,Ge (wpAny_load o (Gh (h h' tk d acc.toList k p)))⟩
 refine Ge (Gf (BC (s:={ s with heap:=h1,drawn:=d }) (SetG.type (s:={ s with heap:=h1,drawn:=d }) hS2) ?_))
 refine IR (fun _=>?_) (fun _=>Gh ⟨IT PySem.F.plain_extend_loop _,GB (loop h1 _ _ hst (fun b o _ e=>hk b o e) oL1) fun r s' z=>?_⟩)
 ·refine Ge (Gj (Ge ?_))
  show wpAny _ _ (updateSeq s.heap.objs.size (·.push .none) >>= fun _=>updateSeq s.heap.objs.size (·.pop)) _ _ _
  refine Ge (IU oL1 rfl ?_)
  have oL2:=EN (Obj.mapSeq (·.push Value.none)) oL1 rfl
  refine IU (hz:=by seq_fits) oL2 rfl ?_
  have oL3:=EN (Obj.mapSeq (·.pop)) oL2 rfl
  have oth:∀ b o,b≠s.heap.objs.size->h1.get? b=some o->((h1.update s.heap.objs.size (Obj.mapSeq (·.push Value.none))).update s.heap.objs.size (Obj.mapSeq (·.pop))).get? b=some o:=fun b o hb e =>
   (EQ _ _ (Ne.symm hb)).trans ((EQ _ _ (Ne.symm hb)).trans e)
  refine Gh ⟨IT PySem.F.plain_extend_loop _,GB (loop _ _ _ ((hW A.in1 hh).frame 0 _ _ hst fun b hb o e=>oth b o (fun z=>hSf (z▸hb)) e) (fun b o hb e=>oth b o hb (hk b o e)) oL3) fun r s' z=>?_⟩
  obtain⟨v,rfl,q⟩:=fin r s' z
  exact q
 ·obtain⟨v,rfl,q⟩:=fin r s' z
  exact q
end
end Ss
namespace L2
open PySem PySem.Spec PyProof.Rows
def sw (P:FN)(w:World)(a:Addr)(ks:List af)(h:Heap):Prop :=
 ∃ es:Array (Int×Value),Ss.SetG w h a es/\ks.Nodup/\∃ el:List (Int×Value),el.Perm es.toList/\Paired (fun (k:af) (e:Int×Value)=>(bc P w).is k e.2=true/\e.1=(bc P w).hash k) ks el
abbrev bZ (P:FN)(w:World)(a:Addr)(ks:List af):HO:=.ext (sw P w a ks)
def fS (ks:List af)(k:af):List af:=if ks.any (fun j=>decide (j=k))=true then ks else ks++[k]
theorem pI {ks:List af}{k:af}(h:k∈ks):fS ks k=ks:=if_pos (List.any_eq_true.mpr ⟨k,h,decide_eq_true rfl⟩)
theorem uQ {ks:List af}{k:af}(h:k∉ks):fS ks k=ks++[k]:=if_neg fun z=>by
 obtain⟨j,hj,e⟩:=List.any_eq_true.mp z
 exact h (of_decide_eq_true e▸hj)
theorem sr {P:FN}{w:World}{H:Hp}{h:Heap}{a:Addr}{ks:List af}(x:sw P w a ks h):aS P w H h a (bZ P w a ks):=by
 refine⟨x,?_,fun h1 h2 p k=>?_⟩
 ·obtain⟨es,⟨ep,t,ho,_⟩,_⟩:=x
  exact⟨_,ho⟩
 ·obtain⟨es,g,r⟩:=p
  exact⟨es,g.at k,r⟩
theorem qC {P:FN}{w:World}{k:af}{v:Value}(h:(bc P w).is k v=true):v.scannable=true:=by
 rcases cY h with⟨i,t,rfl,rfl⟩|⟨x,t,rfl,rfl⟩ <;> rfl
theorem Paired.mem_right {α β:Type}{F:α->β->Prop}:∀ {xs:List α}{ys:List β},Paired F xs ys->∀ y∈ys,∃ x∈xs,F x y
 | _,_,.nil,y,h=>by cases h
 | _,_,.cons r t,y,h=>by
  rcases List.mem_cons.mp h with e|h
  ·subst e;exact⟨_,C6,r⟩
  ·obtain⟨x,hx,z⟩:=Paired.mem_right t y h
   exact⟨x,C5 _ hx,z⟩
theorem Paired.mem_left {α β:Type}{F:α->β->Prop}:∀ {xs:List α}{ys:List β},Paired F xs ys->∀ x∈xs,∃ y∈ys,F x y
 | _,_,.nil,y,h=>by cases h
 | _,_,.cons r t,y,h=>by
  rcases List.mem_cons.mp h with e|h
  ·subst e;exact⟨_,C6,r⟩
  ·obtain⟨x,hx,z⟩:=Paired.mem_left t y h
   exact⟨x,C5 _ hx,z⟩
theorem Paired.app {α β:Type}{F:α->β->Prop}:∀ {xs xs':List α}{ys ys':List β},Paired F xs ys->Paired F xs' ys'->Paired F (xs++xs') (ys++ys')
 | _,_,_,_,.nil,s=>s
 | _,_,_,_,.cons r t,s=>.cons r (Paired.app t s)
theorem BG {P:FN}{w:World}{ks:List af}{es:Array (Int×Value)}{el:List (Int×Value)}(p:el.Perm es.toList)(q:Paired (fun (k:af) (e:Int×Value)=>(bc P w).is k e.2=true/\e.1=(bc P w).hash k) ks el):ElemsOf (bc P w) es.toList:=fun e he=>by
 obtain⟨k,_,h⟩:=Paired.mem_right q e (p.mem_iff.mpr he)
 exact⟨⟨k,h.1,h.2⟩,qC h.1⟩
section
variable {X:Cx}{pins:List (Addr×Obj)}{σ:St}{H:Hp}{s:Shared}
theorem wY {D:Addr}{ks:List af}{k:af}{u:Value}{Q:Shared->Prop}{E:Value->Shared->Prop}(I:aa X pins σ H s)(hD:H D=some (bZ X.prog X.w D ks))(r:ar (kV k) u)(hz:ks.length<1000)
  (h:∀ s',aa X pins σ (upd H D (bZ X.prog X.w D (fS ks k))) s'->Q s'):wpAny (model X.prog X.w) X.A (call (.builtin "set.add") [.ref D,u]) (fun _ s'=>Q s') E s:=by
 have hx:=I.hok D _ hD
 obtain⟨⟨es,g,nd,el,p,q⟩,_,_⟩:=hx
 have hl:ks.length=es.size:=by have:=Paired.length q;have:=p.length_eq;simp at this;omega
 have hk:(bc X.prog X.w).is k u=true:=by
  cases k with
  | inl i=>obtain⟨t,rfl⟩:=r;exact oy i t
  | inr x=>obtain⟨t,rfl⟩:=r;exact tR x t
 refine Ss.add hk (qC hk) g (BG p q) (by have:scanBound=4096:=rfl;omega) fun h' es' sb g' ad=>?_
 refine h _ (I.write (x:=D) (e:=D) (by rw[hD];trivial) (.inl rfl) (fun b o hb e=>(sb.2 b hb).trans e) (by obtain⟨ep,t,ho,_⟩:=g';exact⟨_,ho⟩) (sr ⟨es',g',?_⟩))
 rcases ad with⟨⟨e,he,hek⟩,rfl⟩|⟨hno,hp⟩
 ·have hm:k∈ks:=by
   obtain⟨k',hk',z⟩:=Paired.mem_right q e (p.mem_iff.mpr he)
   rw[(bc X.prog X.w).inj _ _ _ hek z.1]
   exact hk'
  rw[pI hm]
  exact⟨nd,el,p,q⟩
 ·have hm:k∉ks:=fun hm=>by
   obtain⟨e,he,z⟩:=Paired.mem_left q k hm
   have:=hno e (p.mem_iff.mp he)
   rw[z.1] at this
   cases this
  rw[uQ hm]
  refine⟨List.nodup_append.mpr ⟨nd,DN _ _,fun a ha b hb=>?_⟩,el++[((bc X.prog X.w).hash k,u)],(p.append_right _).trans hp.symm,Paired.app q (.cons ⟨hk,rfl⟩ .nil)⟩
  rw[List.mem_singleton.mp hb]
  exact fun z=>hm (z▸ha)
end
theorem Au {env:Env}(elt gens scope pos):eval (.SetComp elt gens scope pos) env=comprehension (.SetComp elt gens scope pos) scope env (firstIterPos gens pos) (newSet (.type "set")) (firstAsync gens) (firstIter gens env):=rfl
theorem Cv {prog:FN}{w:World}{A:Around}{R:Gv->Shared->Prop}{s:Shared}{elt target iter ifs rest scope pos it acc env}(h0:Gw (model prog w) A (.compLoop (.SetComp elt (⟨target,iter,ifs,0⟩::rest) scope pos) 0 it acc env) R s)
  (h:wpAny (model prog w) A (Gn it) (fun it' s'=>Gw (model prog w) A (.compLoop (.SetComp elt (⟨target,iter,ifs,0⟩::rest) scope pos) 0 it' acc env) R s') (notedBy (model prog w) A env fun x s'=>R (.error x) s') s):Gw (model prog w) A (.compStart (.SetComp elt (⟨target,iter,ifs,0⟩::rest) scope pos) 0 it acc env) R s:=by
 refine codeAny_of_tree ?_
 show wpAny _ _ ((IV (.SetComp elt (⟨target,iter,ifs,0⟩::rest) scope pos) 0 it acc env).onRaise (fun x=>do Hq x env;F5 theWindowsPlace)) _ _ s
 refine wpAny_notedAt (m:=IV (.SetComp elt (⟨target,iter,ifs,0⟩::rest) scope pos) 0 it acc env) ?_
 unfold IV
 show wpAny _ A (ask >>= _) _ _ s
 have fin:wpAny (model prog w) A (do F5 iter.pos;again (.compLoop (.SetComp elt (⟨target,iter,ifs,0⟩::rest) scope pos) 0 (<-Gn it) acc env)) (fun r s'=>match r with|.done f=>R (.ok f) s'|.again c'=>c'.quiet=true/\Gw (model prog w) A c' R s') (notedBy (model prog w) A env fun x s'=>R (.error x) s') s :=
  Ge (Gg (Ge (FW h (fun _ _ z=>Gh ⟨rfl,z⟩) fun _ _ z=>z)))
 refine Ge (IH (wpAny_ite ?_))
 split
 ·first|exact Gh ⟨rfl,h0⟩|exact Ge (Gh (Gh ⟨rfl,h0⟩))
 ·first|exact Ge (Gj fin)|(refine Ge (Gj ?_);exact fin)
section
variable {X:Cx}{pins:List (Addr×Obj)}{σ:St}{H:Hp}{s:Shared}{xs Ns:List Str}{sc:Scope}{C:Addr}{fp:List Addr}
theorem aa.startSN {ho:HO}{D:Addr}{h1:Heap}{m:Str->Option Value}{tk:Nat}{w:St}(I:aa X pins σ H s)(S:dH X xs Ns sc)(hf:∀ b∈fp,aZ X pins H b)(hlt:∀ b∈fp,b<s.heap.objs.size)(hw:w=xs.map fun _=>none)
  (hD:D=s.heap.objs.size) (hC:s.heap.objs.size<=C) (hDC:C≠D) (hk:∀ b o,s.heap.get? b=some o->h1.get? b=some o) (hn:h1.Ns C m) (hl:aS X.prog X.w (upd H D ho) h1 D ho) :
  aa (aI X xs Ns sc C fp s H) [] (w++σ) (upd H D ho) { s with heap:=h1,toks:=tk }:=by
 have hwl:w.length=xs.length:=by rw[hw,CW]
 have hDle:s.heap.objs.size<=D:=by rw[hD];exact EU _
 have cells:∀ y c,(cj sc X.env.cells).lookup y=some c->c<s.heap.objs.size:=fun y c e=>by
  obtain⟨v,q⟩:=I.cell y c (bW sc X.env.cells e)
  exact q.lt
 refine⟨I.okLN S hC hf hlt,rfl,I.bare,Un.laid hk hDle (I.hok.fresh hDle),⟨m,hn,fun i y v e1 e2 e3=>?_⟩,fun y c e=>?_,?_,fun y c e=>?_,fun p hp=>absurd (show p∈([]:List (Addr×Obj)) from hp) (by simp),I.hok.laid hk hDle hl,?_⟩
 ·have e1:(xs++Ns)[i]?=some y:=e1
  have e2:(w++σ)[i]?=some (some v):=e2
  rcases EZ i xs.length with hi|hi
  ·rw[Ec (by omega),hw,Da,CZ hi] at e2
   cases e2
  ·have e1':Ns[i-xs.length]?=some y:=by rw[DK hi] at e1;exact e1
   have e2':σ[i-xs.length]?=some (some v):=by rw[DK (by omega),hwl] at e2;exact e2
   have e3':gG (Hl sc X.env) y:=e3
   have ny:sc.names.lookup y≠some .local:=S.apart y (De e1')
   have fr:sc.names.lookup y=some .free/\((Hl sc X.env).names.lookup y=some .cell\/(Hl sc X.env).names.lookup y=some .free):=by
    rcases e3' with h|h|h
    ·obtain⟨k',e,q⟩:=cK h
     rcases q with q|⟨_,q⟩
     ·subst q;exact absurd e ny
     ·cases q
    ·obtain⟨k',e,q⟩:=cK h
     rcases q with q|⟨q,_⟩
     ·subst q;exact absurd rfl (S.nocell _ (PySem.mem_of_lookup e))
     ·exact⟨by rw[e,q],.inl h⟩
    ·obtain⟨k',e,q⟩:=cK h
     rcases q with q|⟨_,q⟩
     ·exact⟨by rw[e,<-q],.inr h⟩
     ·cases q
   have ok:=S.free (y,.free) (PySem.mem_of_lookup fr.1) rfl
   obtain⟨m0,hn0,hl0⟩:=I.loc
   obtain⟨u,r,l⟩:=hl0 _ y v (S.sub _ y e1' fr.1) e2' (.inr ok)
   refine⟨u,r,.inr ⟨fr.2,?_⟩⟩
   rcases l with⟨k,_⟩|⟨_,c,ec,z⟩
   ·rcases ok with q|q <;> (rw[show X.env.kindOf y=some .local from k] at q;cases q)
   ·obtain⟨c',ec'⟩:=iA sc X.env.cells (S.cells I.ok) (PySem.mem_of_lookup fr.1)
    have:=bW sc X.env.cells ec'
    rw[ec] at this
    cases this
    obtain⟨o,ho,hd⟩:=z
    exact⟨c,ec',o,hk _ _ ho,hd⟩
 ·obtain⟨v,o,ho,hd⟩:=I.cell y c (bW sc X.env.cells e)
  exact⟨v,o,hk _ _ ho,hd⟩
 ·show upd H D ho C=none
  rw[upd_ne hDC]
  exact I.hok.fresh hC
 ·show upd H D ho c=none
  rw[upd_ne (EV (EW (cells y c e) hDle))]
  exact I.freeC y c (bW sc X.env.cells e)
 ·show (w++σ).length=(xs++Ns).length
  rw[C7,C7,I.len,hwl,S.len]
end
section
variable {X:Cx}{xs Ns:List Str}{sc:Scope}{elt iter tg:Expr}{ifs:List Expr}{pos:Pos}{wi:TI}{g:TG}{tc:TT}{te:TE}
end
end L2
namespace Sg
open PySem PyProof.Rows
section
variable {prog:FN}{w:World}{A:Around}{E:Value->Shared->Prop}{s:Shared}{a₀:Array Keyed}
end
end Sg
namespace Sg
open PySem PyProof.Rows
end Sg
namespace Sg
open PySem PyProof.Rows
section
variable {prog:FN}{w:World}{A:Around}{E:Value->Shared->Prop}{s:Shared}{a₀:Array Keyed}
end
end Sg
namespace Sg
open PySem PyProof.Rows
section
variable {prog:FN}{w:World}{A:Around}{E:Value->Shared->Prop}{s:Shared}{a₀:Array Keyed}
end
end Sg
namespace Sg
open PySem PyProof.Rows
section
variable {prog:FN}{w:World}{A:Around}{E:Value->Shared->Prop}{s:Shared}{a₀:Array Keyed}
end
end Sg
namespace Sg
open PySem PyProof.Rows
section
variable {prog:FN}{w:World}{A:Around}{E:Value->Shared->Prop}{s:Shared}
end
end Sg
namespace L2
open PySem PySem.Spec PyProof.Rows
theorem mE:∀ {ns:List Int}{us:List Value},GW us ns->ap (ns.map V.int) us
 | _,_,.nil=>.nil
 | _,_,.cons n t h=>.cons ⟨t,rfl⟩ (mE h)
theorem aa.drawn {X:Cx}{pins:List (Addr×Obj)}{σ:St}{H:Hp}{s:Shared}(d:Drawn)(I:aa X pins σ H s):aa X pins σ H { s with drawn:=d }:=⟨I.ok,I.os,I.bare,I.base,I.loc,I.cell,I.free,I.freeC,I.pin,I.hok,I.len⟩
inductive mi (ns:List Int)(H:Hp)(Q:VK):Prop
 | mk (q:∀ (D:Addr) (ys:List Int),ys.Perm ns->ys.Pairwise (·<=·)->H D=none->Q (.ref D) (upd H D (.lst (ys.map V.int)))):mi ns H Q
inductive sv (P:FN)(w:World)(xs:List V)(H:Hp)(Q:VK):Prop
 | mk (p:Addr)(ns:List Int)(e:xs=[.ref p])(h:H p=some (bZ P w p (ns.map Sum.inl)))(hl:ns.length<64)(q:mi ns H Q):sv P w xs H Q
section
variable {X:Cx}
theorem oj {P:FN}{w:World}:∀ {ns:List Int}{el:List (Int×Value)},Paired (fun (k:af) (e:Int×Value)=>(bc P w).is k e.2=true/\e.1=(bc P w).hash k) (ns.map Sum.inl) el->GW (el.map (·.2)) ns
 | [],_,.nil=>.nil
 | n::ns,_,.cons r t=>by
  obtain⟨r,_⟩:=r
  rcases cY (show fb (Sum.inl n) _=true from r) with⟨i,tk,e1,e2⟩|⟨x,tk,e1,e2⟩
  ·cases e1
   rw[C1,e2]
   exact .cons n tk (oj t)
  ·cases e1
theorem xO {us vs:List Value}(p:us.Perm vs):∀ {ns:List Int},GW vs ns->∃ ms,GW us ms/\ms.Perm ns:=by
 intro ns h
 have a:∀ v∈us,∃ n t,v=.int n t:=fun v hv=>h.all v (p.mem_iff.mp hv)
 refine⟨us.map numOf,intsAre_map us a,?_⟩
 rw[<-h.nums]
 exact p.map _
theorem At (P:FN)(w:World)(hc:X.calm=true)(e1:X.prog=P:=by rfl)(e2:X.w=w:=by rfl):bm X (.builtin "sorted") (sv P w):=by
 subst e1 e2
 intro pins s σ H xs us Q I r h
 obtain⟨p,ns,rfl,hq,hl,⟨q⟩⟩:=h
 obtain⟨u,rfl,rx⟩:=bX r
 cases rx
 obtain⟨⟨es,g,nd,el,pe,qe⟩,_,_⟩:=I.hok p _ hq
 have hh:X.A.in1.handled=none:=I.ok.hd hc
 have he:es.size=ns.length:=by have:=Paired.length qe;have:=pe.length_eq;simp at *;omega
 refine Calls.call_function_entry HV HW Ia (IW _) ?_
 unfold Builtin.«sorted»
 refine Ge (m:=Ib "sorted" 1 1 _) (Gh (Ge (Ss.collect_set hh g (by omega) fun h' tk d vs keep hv=>?_)))
 obtain⟨ms,hI,hm⟩:=xO (hv.trans (pe.map (·.2)).symm) (oj qe)
 have hlen:vs.length=ns.length:=by rw[hI.length,hm.length_eq]
 refine Ge (Ic ?_ (by rw[hlen,Gs];omega))
 have oL:(h'.push (Hz "list" vs.toArray 0)).get? h'.objs.size=some (Hz "list" vs.toArray 0):=EM _ rfl
 refine Ge (Gf (GM Ig (s:={ s with heap:=h'.push (Hz "list" vs.toArray 0),toks:=tk,drawn:=d }) ⟨_,oL,rfl⟩ Ih (list_sort_tree oL hI (by omega) fun out ns' h1 h2 h3=>⟨_,rfl,Gh ⟨_,rfl,?_⟩⟩) (IX _)))
 have I1:aa X pins σ H { s with heap:=h',toks:=tk,drawn:=d }:=(I.kept (t':=tk) keep).drawn d
 obtain⟨e,hat⟩:=IY (vs:=vs) (out:=out) oL
 refine⟨.ref h'.objs.size,_,I1.laid (s:={ s with heap:=h',toks:=tk,drawn:=d }) (t':=tk) (o:=.lst (ns'.map V.int)) (fun b u e=>?_) (EU _) ⟨by rw[CW,(h2.trans hm).length_eq,Gs];omega,out.toList,e,mE h1,hat⟩,rfl,q _ ns' (h2.trans hm) h3 (I1.hok.fresh (EU _))⟩
 have hb:h'.get? b=some u:=e
 have hlt:=EK hb
 rw[IZ (EV hlt) (by rw[Ie];exact E6 hlt)]
 exact EL _ hb
end
end L2
namespace Dx
open PySem PySem.Spec PySem.W PySem.Calls PyProof.Rows
def DE (h:Heap)(d:Addr)(es:Array DictEntry)(ep:Nat):Prop:=∃ o,h.get? d=some o/\o.ExactDict/\o.data=.dict es ep
theorem DE.keep {h h':Heap}{d:Addr}{es:Array DictEntry}{ep:Nat}(x:DE h d es ep)(k:∀ o,h.get? d=some o->h'.get? d=some o):DE h' d es ep:=by
 obtain⟨o,e,r⟩:=x
 exact⟨o,k o e,r⟩
theorem DE.lt {h:Heap}{d:Addr}{es:Array DictEntry}{ep:Nat}(x:DE h d es ep):d<h.objs.size:=by
 obtain⟨o,e,_⟩:=x
 exact EK e
theorem DE.ty {s:Shared}{d:Addr}{es:Array DictEntry}{ep:Nat}(x:DE s.heap d es ep):s.TypeIs (.ref d) "dict":=by
 obtain⟨o,e,r,_⟩:=x
 exact⟨o,e,r.1⟩
section
variable {prog:FN}{w:World}{A:Around}{E:Value->Shared->Prop}{s:Shared}{d it:Addr}{es:Array DictEntry}{ep i:Nat}
theorem iter {Q:Value->Shared->Prop}(hd:(d == FP)=false)(hm:DE s.heap d es ep)
  (q:Q (.ref s.heap.objs.size) { s with heap:=s.heap.push { cls:=.type "dict_keyiterator",data:=.fields #[.ref d,.int 0 0,.int es.size 0,.int ep 0] } }):wpAny (model prog w) A (Gn (.ref d)) Q E s:=by
 have hT:=hm.ty
 obtain⟨o,ho,hc,hdat⟩:=hm
 refine Hj hT PySem.F.slot_dict_iter (GM PySem.F.slot_dict_iter hT PySem.F.entry_dict_iter ?_ (PySem.F.args_dict_iter_1 _))
 unfold Builtin.«dict.__iter__» Builtin.Dict.dictSlotNone
 refine Ge (Ge (Ja hT ?_))
 show wpAny _ _ (pure (Value.ref d)) _ _ s
 refine Gh ?_
 show wpAny _ _ (Builtin.Dict.showsAll d >>= _) _ _ s
 unfold Builtin.Dict.showsAll
 rw[if_neg (by rw[hd];simp)]
 refine Ge (Gh (Ge (Jb ho hdat (Ge (Jc ho hdat (Ge (Gi (Gh ⟨_,rfl,"dict_keyiterator",_,⟨_,EM _ rfl,rfl⟩,PySem.F.slot_dict_keyiterator_next.lookup,?_⟩))))))))
 simpa [G7] using q
theorem next {e:DictEntry}{Q:Option Value->Shared->Prop}(hit:s.heap.IsKeyIter it d i es.size ep)(hm:DE s.heap d es ep)(hx:es[i]?=some e)
  (q:∀ h',h'.IsKeyIter it d (i+1) es.size ep->Heap.SameBut it s.heap h'->Q (some e.key) { s with heap:=h' }):wpAny (model prog w) A (Ha (.ref it)) Q E s:=by
 have hT:=hit.typeIs
 obtain⟨o,ho,hc,hd⟩:=hit
 obtain⟨od,hod,hcd,hdd⟩:=hm
 have hown:Builtin.Dict_items.ownsTuple "dict_keyiterator"=false:=by decide
 obtain⟨hlt,he⟩:=Array.getElem?_eq_some_iff.mp hx
 unfold Ha
 refine Ge (Hb (GL (name:=Str.ofString "__next__") hT PySem.F.slot_dict_keyiterator_next (GM PySem.F.slot_dict_keyiterator_next hT PySem.F.entry_dict_keyiterator_next ?_ (PySem.F.args_dict_keyiterator_next_1 _))))
 refine Ge (Gh (Ge (Ge ?_)))
 first|refine Ge (Jd hT (Gh (Ge (IK ho hd ?_))))|refine Ge (Je hT (Gh (Ge (IK ho hd ?_))))
 simp only[hown,Bool.false_eq_true,if_false]
 show wpAny _ _ (if (Value.ref d == Value.none)=true then _ else _) _ _ s
 rw[if_neg (show ¬ ((Value.ref d == Value.none)=true) by simp)]
 refine Ge (Gh (Ge (Jb hod hdd ?_)))
 rw[if_neg (by simp)]
 refine Ge (Gh (Ge (Jc hod hdd ?_)))
 rw[if_neg (by simp)]
 refine Gh ?_
 simp only[show ¬ ((i:Int)<0) by omega,if_false,Fs,hx]
 refine Ge ?_
 first|refine Ge (Jd hT (Gh (Ge (Jf hT ?_))))|refine Ge (Je hT (Gh (Ge (Jf hT ?_))))
 show wpAny _ _ (setField (.ref it) 1 (G7 ((i:Int)+1)) >>= _) _ _ s
 refine Ge (Hc ho hd (by simp) ?_)
 have hit':(s.heap.update it (Obj.mapFields fun z=>z.setIfInBounds 1 (G7 ((i:Int)+1)))).IsKeyIter it d (i+1) es.size ep :=
  ⟨_,EN _ ho (Obj.isFreed_of_fields (Obj.data_mapFields hd _)),(Obj.cls_mapFields ..).trans hc,by rw[Obj.data_mapFields hd];simp[G7]⟩
 refine Ge (Gf (Ge (Jf (s:={ s with heap:=s.heap.update it (Obj.mapFields fun z=>z.setIfInBounds 1 (G7 ((i:Int)+1))) }) hit'.typeIs ?_)))
 show wpAny _ _ (pure e.key) _ _ _
 exact Gh (Gh ⟨_,rfl,Gh (q _ hit' (Heap.SameBut.update ..))⟩)
theorem stop {Q:Option Value->Shared->Prop}(hh:A.handled=none)(hge:es.size<=i)(hit:s.heap.IsKeyIter it d i es.size ep)(hm:DE s.heap d es ep)
  (q:∀ h',Heap.ExtBut it s.heap h'->Q none { s with heap:=h' }):wpAny (model prog w) A (Ha (.ref it)) Q E s:=by
 have hT:=hit.typeIs
 obtain⟨o,ho,hc,hd⟩:=hit
 obtain⟨od,hod,hcd,hdd⟩:=hm
 have hown:Builtin.Dict_items.ownsTuple "dict_keyiterator"=false:=by decide
 unfold Ha
 refine Ge (Hb (GL (name:=Str.ofString "__next__") hT PySem.F.slot_dict_keyiterator_next (GM PySem.F.slot_dict_keyiterator_next hT PySem.F.entry_dict_keyiterator_next ?_ (PySem.F.args_dict_keyiterator_next_1 _))))
 refine Ge (Gh (Ge (Ge ?_)))
 first|refine Ge (Jd hT (Gh (Ge (IK ho hd ?_))))|refine Ge (Je hT (Gh (Ge (IK ho hd ?_))))
 simp only[hown,Bool.false_eq_true,if_false]
 show wpAny _ _ (if (Value.ref d == Value.none)=true then _ else _) _ _ s
 rw[if_neg (show ¬ ((Value.ref d == Value.none)=true) by simp)]
 refine Ge (Gh (Ge (Jb hod hdd ?_)))
 rw[if_neg (by simp)]
 refine Ge (Gh (Ge (Jc hod hdd ?_)))
 rw[if_neg (by simp)]
 refine Gh ?_
 simp only[show ¬ ((i:Int)<0) by omega,if_false,Fs,Fp hge]
 refine Ge ?_
 first|refine Ge (Jd hT (Gh ?_))|refine Ge (Je hT (Gh ?_))
 show wpAny _ _ (setField (.ref it) 0 .none >>= _) _ _ s
 refine Ge (Hc ho hd (by simp) ?_)
 show wpAny _ _ (Hd (.type "StopIteration") [] >>= _) _ _ _
 simp only[Hd,newTuple]
 refine Ge (Ge (Gi (Ge (m:=He _ _) (G8 (a:=Value.none) (by first|rfl|(simp only[He];rfl)) (Gi ?_ (by size_fits)))) (by size_fits)))
 simp only[raiseNew]
 refine Ge (Hf ?_)
 rw[show A.in1.handled=none from hh]
 refine Ge (Gh (Hg ?thr))
 case thr=>exact Ge (Hh (T:="StopIteration") (b:=true) ⟨_,EM _ rfl,rfl⟩ Hi (Gh (q _ (((Heap.SameBut.update ..).extBut.push _).push _))))
theorem A1 (hh:A.handled=none)(I:Addr)(hne:d≠I):Walks prog w A I [I,d] [I] es.size (fun i v=>∃ e,es[i]?=some e/\v=e.key) (fun i h=>h.IsKeyIter I d i es.size ep/\DE h d es ep) where
 sub:=fun b hb=>by simp at hb;simp[hb]
 frame:=fun _ _ _ st hk=>⟨st.1.at fun o e=>hk I (by simp) o e,st.2.keep fun o e=>hk d (by simp) o e⟩
 item:=fun i s Q E hi st hQ=>by
  obtain⟨e,hx⟩:∃ e,es[i]?=some e:=⟨es[i],Fo hi⟩
  refine next st.1 st.2 hx fun h' hit' hs'=>hQ e.key h' s.toks ⟨e,hx,rfl⟩ ⟨hit',st.2.keep fun o z=>?_⟩ fun b o hb z=>hs'.extBut b o (fun h=>hb (by simp[h])) z
  exact hs'.extBut d o hne z
 done:=fun s Q E st hQ=>stop hh (EU _) st.1 st.2 fun h' he'=>hQ h' s.toks fun b o hb e=>he' b o (fun h=>hb (by simp[h])) e
 self:=fun _ _ _ _ st hQ=>wpAny_pyIter_keyiter st.1 hQ
theorem src (lo:(d == FP)=false):KdlSrc prog w "dict" d d es.size (fun i v=>∃ e,es[i]?=some e/\v=e.key) (fun h=>DE h d es ep) where
 type:=fun _ hm=>hm.ty
 there:=fun _ hm=>⟨hm.lt,hm.lt⟩
 keep:=fun _ _ hm hk=>hm.keep fun o e=>hk d (.inl rfl) o e
 notList:=by decide
 notTuple:=by decide
 hint:=fun _ _ _ _ hm hq=>kdl_hint_dict hm.ty hq
 iter:=fun _ s hh hm=>⟨_,_,(fun _ _ hq=>iter lo hm hq),A1 hh _ (EV hm.lt),⟨⟨_,EM _ rfl,rfl,rfl⟩,hm.keep fun o e=>EL _ e⟩⟩
end
end Dx
namespace L2
open PySem PySem.Spec PySem.W PyProof.Rows
theorem uc {P:FN}{w:World}:∀ {es:List DictEntry}{kvs:List (af×Value)}{ns:List Int},Pairs (bc P w) es kvs->kvs.map (·.1)=ns.map Sum.inl->GW (es.map (·.key)) ns
 | _,_,[],.nil,_=>.nil
 | _,_,n::ns,.nil,h=>by cases h
 | _,_,[],.cons _ _ _,h=>by cases h
 | _,_,n::ns,.cons (kv:=kv) r _ t,h=>by
  rw[C1,C1] at h
  have h1:=(List.cons.inj h).1
  have h2:=(List.cons.inj h).2
  rcases cY (show fb kv.1 _=true from r) with⟨i,tk,e1,e2⟩|⟨x,tk,e1,e2⟩
  ·rw[h1] at e1
   cases e1
   rw[C1,e2]
   exact .cons n tk (uc t h2)
  ·rw[h1] at e1
   cases e1
theorem vC {κ:Type}:∀ {a:List (κ×V)}{b:List (κ×Value)},KV a b->b.map (·.1)=a.map (·.1)
 | _,_,.nil=>rfl
 | _,_,.cons (a:=x) (b:=y) h t=>by rw[C1,C1,vC t,h.1]
inductive oo (xs:List V)(H:Hp)(Q:VK):Prop
 | mk (p:Addr)(kvs:List (af×V))(ns:List Int)(e:xs=[.ref p])(h:H p=some (.dK kvs))(hk:kvs.map (·.1)=ns.map Sum.inl)(hl:ns.length<64)(q:mi ns H Q):oo xs H Q
theorem xn {X:Cx}(hc:X.calm=true):bm X (.builtin "sorted") oo:=by
 intro pins s σ H xs us Q I r h
 obtain⟨p,kvs,ns,rfl,hq,hk,hl,⟨q⟩⟩:=h
 obtain⟨u,rfl,rx⟩:=bX r
 cases rx
 obtain⟨z,hd,vs0,kv,o,es,ep,h1,h2,h3,h4,h5,h6⟩:=(show aS X.prog X.w H s.heap p (.dK kvs) from I.hok p _ hq)
 have hh:X.A.in1.handled=none:=I.ok.hd hc
 have hkk:vs0.map (·.1)=ns.map Sum.inl:=by
  rw[<-hk]
  exact vC kv
 have hes:=uc h5 hkk
 have hsz:es.size=ns.length:=by
  have:=hes.length
  rw[CW,Fj] at this
  exact this
 refine Calls.call_function_entry HV HW Ia (IW _) ?_
 unfold Builtin.«sorted»
 refine Ge (m:=Ib "sorted" 1 1 _) (Gh (Ge (kdu_collect (Dx.src (es:=es) (ep:=ep) hd) hh ⟨o,h1,h2,h3⟩ (by rw[hsz,Gs];omega) fun h' tk acc keep hacc=>?_)))
 have eacc:acc.toList=es.toList.map (·.key):=by
  refine Ek fun j=>?_
  rw[Da,Fl,Fl]
  by_cases hj:j<acc.size
  ·obtain⟨e,he,hv⟩:=hacc.2 j acc[j] (Fo hj)
   rw[Fo hj,he,hv]
   rfl
  ·have e1:=hacc.1
   rw[Fp (by omega),Fp (by omega)]
   rfl
 rw[eacc]
 generalize es.toList.map (·.key)=vs at hes
 have hlen:vs.length=ns.length:=hes.length
 refine Ge (Ic ?_ (by rw[hlen,Gs];omega))
 have oL:(h'.push (Hz "list" vs.toArray 0)).get? h'.objs.size=some (Hz "list" vs.toArray 0):=EM _ rfl
 refine Ge (Gf (GM Ig (s:={ s with heap:=h'.push (Hz "list" vs.toArray 0),toks:=tk }) ⟨_,oL,rfl⟩ Ih (list_sort_tree oL hes (by omega) fun out ns' h1 h2 h3=>⟨_,rfl,Gh ⟨_,rfl,?_⟩⟩) (IX _)))
 have I1:aa X pins σ H { s with heap:=h',toks:=tk }:=I.kept (t':=tk) keep
 obtain⟨e,hat⟩:=IY (vs:=vs) (out:=out) oL
 refine⟨.ref h'.objs.size,_,I1.laid (s:={ s with heap:=h',toks:=tk }) (t':=tk) (o:=.lst (ns'.map V.int)) (fun b u e=>?_) (EU _) ⟨by rw[CW,h2.length_eq,Gs];omega,out.toList,e,mE h1,hat⟩,rfl,q _ ns' h2 h3 (I1.hok.fresh (EU _))⟩
 have hb:h'.get? b=some u:=e
 have hlt:=EK hb
 rw[IZ (EV hlt) (by rw[Ie];exact E6 hlt)]
 exact EL _ hb
end L2
namespace L2
open PySem PySem.Spec PyProof.Rows
section
variable {X:Cx}{a b c d:Expr}{ta tb tc td:TE}{pos:Pos}
inductive tP (vs:List V)(H:Hp)(Q:VK):Prop
 | mk (a:Addr)(o:HO)(xs:List V)(e:vs=[.ref a])(h:H a=some o)(ob:Ob o xs)(q:∀ p,H p=none->Q (.ref p) (upd H p (.lst xs))):tP vs H Q
theorem lZ:bm X (.type "list") tP:=by
 intro pins s σ H xs us Q I r h
 obtain⟨a,o,ys,rfl,ha,ob,q⟩:=h
 exact vt pins s σ H _ us Q I r ⟨a,ys,rfl,ob.sq ha,q⟩
end
end L2
namespace L2
open PySem PySem.Spec PyProof.Rows
section
variable {X:Cx}
theorem ss:∀ bs:List Addr,ap (bs.map V.ref) (bs.map Value.ref)
 | []=>.nil
 | b::bs=>.cons rfl (ss bs)
end
end L2
namespace Pr
open PySem L2 PyProof.Rows Ent
abbrev dW:=Int×List En
def cp (n:Int)(prs:List dW):List En:=(prs.filter fun p=>decide (p.1=n)).flatMap (·.2)
def cy (H:Hp)(y:V)(p:dW):Prop:=∃ a v,y=.ref a/\H a=some (.tup [.int p.1,v])/\BT H v p.2
theorem cy.same {H H':Hp}(s:ab H H'){y:V}{p:dW}(h:cy H y p):cy H' y p:=by
 obtain⟨a,v,e,h1,h2⟩:=h
 exact⟨a,v,e,s _ _ h1,h2.same s⟩
theorem cy.tups {H H':Hp}(s:∀ b xs,H b=some (.tup xs)->H' b=some (.tup xs)){y:V}{p:dW}(h:cy H y p):cy H' y p:=by
 obtain⟨a,v,e,h1,h2⟩:=h
 exact⟨a,v,e,s _ _ h1,h2.tups s⟩
theorem ui (n:Int)(prs:List dW)(p:dW):cp n (prs++[p])=if p.1=n then cp n prs++p.2 else cp n prs:=by
 unfold cp
 rw[DW,List.flatMap_append]
 by_cases h:p.1=n
 ·rw[if_pos h];simp[h]
 ·rw[if_neg h];simp[h]
theorem Aa {n:Int}{prs:List dW}(h:n∉prs.map (·.1)):cp n prs=[]:=by
 unfold cp
 rw[show prs.filter (fun p=>decide (p.1=n))=[] from ?_]
 ·rfl
 ·rw[ED]
  intro p hp z
  exact h (List.mem_map.mpr ⟨p,hp,of_decide_eq_true z⟩)
theorem tH {κ:Type}[DecidableEq κ](kvs:List (κ×V))(k:κ)(v:V):(bh kvs k v).map (·.1)=if k∈kvs.map (·.1) then kvs.map (·.1) else kvs.map (·.1)++[k]:=by
 unfold bh
 by_cases h:(kvs.any fun kv=>decide (kv.1=k))=true
 ·rw[if_pos h]
  obtain⟨x,hx,e⟩:=List.any_eq_true.mp h
  rw[if_pos (List.mem_map.mpr ⟨x,hx,of_decide_eq_true e⟩),El]
  refine List.map_congr_left fun y _=>?_
  show (if y.1=k then (y.1,v) else y).1=y.1
  split <;> rfl
 ·rw[if_neg h,if_neg,C8]
  ·rfl
  ·intro z
   obtain⟨x,hx,e⟩:=List.mem_map.mp z
   exact h (List.any_eq_true.mpr ⟨x,hx,decide_eq_true e⟩)
theorem gM {α:Type}[DecidableEq α]:∀ {l zs:List α},l.Nodup->(∀ x∈l,x∈zs)->l.length<=zs.length
 | [],_,_,_=>EX _
 | x::t,zs,nd,h=>by
  have nd':=List.nodup_cons.mp nd
  have hx:=h x C6
  have:=gM (zs:=zs.erase x) nd'.2 fun y hy=>by
   have ne:y≠x:=fun z=>nd'.1 (z▸hy)
   exact(List.mem_erase_of_ne ne).mpr (h y (C5 _ hy))
  rw[List.length_erase_of_mem hx] at this
  have:0<zs.length:=EB hx
  rw[C4]
  omega
structure GD (H:Hp)(kvs:List (af×V))(ns:List Int)(prs:List dW):Prop where
 k:kvs.map (·.1)=ns.map Sum.inl
 nd:ns.Nodup
 m:∀ n,n∈ns↔n∈prs.map (·.1)
 v:∀ n∈ns,∃ v,aP kvs (.inl n)=some v/\BT H v (cp n prs)
 z:∀ n,n∉ns->aP kvs (.inl n)=none
theorem GD.tups {H H':Hp}(s:∀ b xs,H b=some (.tup xs)->H' b=some (.tup xs)){kvs:List (af×V)}{ns:List Int}{prs:List dW}(g:GD H kvs ns prs):GD H' kvs ns prs :=
 ⟨g.k,g.nd,g.m,fun n hn=>by obtain⟨v,e,h⟩:=g.v n hn;exact⟨v,e,h.tups s⟩,g.z⟩
theorem GD.put {H:Hp}{kvs:List (af×V)}{ns:List Int}{prs:List dW}(g:GD H kvs ns prs){n:Int}{es:List En}{v:V}(h:BT H v (cp n prs++es)):∃ ns',GD H (bh kvs (.inl n) v) ns' (prs++[(n,es)]):=by
 have mk:(Sum.inl n:af)∈kvs.map (·.1)↔n∈ns:=by
  rw[g.k,DP]
  exact⟨fun⟨x,hx,e⟩=>by cases e;exact hx,fun h=>⟨n,h,rfl⟩⟩
 have mm:∀ x,x∈(prs++[(n,es)]).map (·.1)↔x∈ns\/x=n:=fun x=>by
  rw[C8,Dv,<-g.m]
  simp
 have vv:∀ x v',x≠n->aP kvs (.inl x)=some v'->aP (bh kvs (.inl n) v) (.inl x)=some v':=fun x v' hx e=>by
  rw[je,if_neg (fun z=>hx (Sum.inl.inj z))];exact e
 have vn:aP (bh kvs (.inl n) v) (.inl n)=some v:=by rw[je,if_pos rfl]
 have gn:∀ x,x≠n->cp x (prs++[(n,es)])=cp x prs:=fun x hx=>by rw[ui,if_neg (fun z=>hx z.symm)]
 have ge:cp n (prs++[(n,es)])=cp n prs++es:=by rw[ui,if_pos rfl]
 by_cases hn:n∈ns
 ·refine⟨ns,?_,g.nd,fun x=>?_,fun x hx=>?_,fun x hx=>?_⟩
  ·rw[tH,if_pos (mk.mpr hn),g.k]
  ·rw[mm]
   exact⟨.inl,fun h=>h.elim id fun e=>e▸hn⟩
  ·by_cases e:x=n
   ·rw[e];exact⟨v,vn,by rw[ge];exact h⟩
   ·obtain⟨v',e1,h1⟩:=g.v x hx
    exact⟨v',vv x v' e e1,by rw[gn x e];exact h1⟩
  ·have e:x≠n:=fun z=>hx (z▸hn)
   rw[je,if_neg (fun z=>e (Sum.inl.inj z))]
   exact g.z x hx
 ·refine⟨ns++[n],?_,?_,fun x=>?_,fun x hx=>?_,fun x hx=>?_⟩
  ·rw[tH,if_neg (fun z=>hn (mk.mp z)),g.k,C8];rfl
  ·rw[Em]
   refine⟨g.nd,by simp,fun a ha b hb z=>?_⟩
   rw[List.mem_singleton.mp hb] at z
   exact hn (z▸ha)
  ·rw[mm,Dv,DZ]
  ·by_cases e:x=n
   ·rw[e];exact⟨v,vn,by rw[ge];exact h⟩
   ·have hx':x∈ns:=(List.mem_append.mp hx).elim id fun z=>absurd (List.mem_singleton.mp z) e
    obtain⟨v',e1,h1⟩:=g.v x hx'
    exact⟨v',vv x v' e e1,by rw[gn x e];exact h1⟩
  ·have e:x≠n:=fun z=>hx (C3 _ (List.mem_singleton.mpr z))
   rw[je,if_neg (fun z=>e (Sum.inl.inj z))]
   exact g.z x fun z=>hx (Dj _ z)
section
variable {P:FN}{w:World}{K:W.Frag}{mg:Str->Option Value}{base:Heap}{C:Addr}
inductive oq (vs:List V)(H:Hp)(Q:VK)(E:XK):Prop
 | mk (a:Addr)(xs:List V)(prs:List dW)(e:vs=[.ref a])(ha:H a=some (.lst xs))(hp:Paired (cy H) xs prs)(hl:prs.length<64)
  (q:∀ D ys (ms:List Int) H',ab H H'->H D=none->H' D=some (.lst ys)->Paired (cy H') ys (ms.map fun n=>(n,cp n prs))->ms.Nodup->ms.Pairwise (·<=·)->(∀ n,n∈ms↔n∈prs.map (·.1))->Q (.ref D) H'):oq vs H Q E
theorem ie:aA ["pairs","found","number","bar"] ["pairs"] (aw lX):=aE
theorem dJ {k:Nat}{A:Around}(hr:aQ k A):A.units+1<cLine:=by have:=hr.units;omega
set_option maxHeartbeats 4000000 in
theorem zd (T:Txt K mg C):aK P w K mg base 6 "gathered" ["pairs"] oq:=by
 refine aW T.f_gathered ie (fun vs H Q E h=>?_) (fun f cdv A outer s H vs Q E hr h=>?_)
 ·obtain⟨a,xs,prs,rfl,_⟩:=h
  rfl
 ·obtain⟨a,xs,prs,rfl,ha,hp,hl,q⟩:=h
  refine⟨_,(am (aG (i:=1) ie.nd rfl (Or.inr rfl) ly)
   (am (cP PassesOwn.never rfl (cc K (pv 0)) (gw K rfl (bI (ba (i:=2) ie.nd rfl (Or.inl rfl)) (bI (ba (i:=3) ie.nd rfl (Or.inl rfl)) dQ)))
    (aq (mU (dJ hr) (pv 1) (pv 2) (ai (yH T) hr (ao (lW (dJ hr) (pv 1) (pv 2) (iG (empty T) hr) ⟨rfl,rfl,rfl,rfl⟩) (pv 3))) rfl)))
   (aq (aB (wa (xs:=["number"]) (Ns:=["pairs","found","number'","bar"]) rfl (i5 _ ie) (cc K (aM (xn rfl) T.b_sorted Ir (ah (pv 1)))) (AJ (i5 _ ie)) (fun _ _ _ _=>ca) (fun _ _ _ _=>(be (ao (pv 0) (Bt (dJ hr) (pv 2) (pv 0) (fun _ _=>rfl)))))))))),?_⟩
  have xl:=Paired.length hp
  intro F hF
  have s1:ab H (upd H F (.dK [])):=ab.upd hF
  have hF1:(upd H F (.dK [])) F=some (.dK []):=ae
  generalize (upd H F (.dK []))=H1 at s1 hF1
  refine⟨_,rfl,a,rfl,⟨_,.of (s1 _ _ ha)⟩,iJ (K:=K) (a:=a) (xs:=xs) (fun i σ H2=>∃ v2 v3 kvs ns,σ=[some (.ref a),some (.ref F),v2,v3]/\ab H H2/\H2 F=some (.dK kvs)/\GD H2 kvs ns (prs.take i)) ⟨_,_,[],[],rfl,s1,hF1,⟨rfl,Du,fun n=>by simp,(fun n h=>nomatch h),fun n _=>rfl⟩⟩ (fun i σ H2 _ ⟨_,_,_,_,_,s2,_⟩=>.of (s2 _ _ ha)) ?turn ?fin⟩
  case turn =>
   rintro i x σ H2 hx ⟨v2,v3,kvs,ns,rfl,s2,hF2,g⟩
   obtain⟨pr,hpr,t,bv,rfl,ht,hbv⟩:=Paired.get hp hx
   have kl:kvs.length<FO:=by
    have e1:kvs.length=ns.length:=by have:=congrArg Dw g.k;rw[CW,CW] at this;exact this
    have e2:=gM g.nd fun n hn=>(g.m n).mp hn
    rw[CW,Db] at e2
    rw[Gs]
    omega
   refine⟨t,_,rfl,.of (s2 _ _ ht),rfl,_,_,rfl,_,_,rfl,rfl,?_⟩
   refine⟨_,rfl,F,rfl,.inl ⟨kvs,.inl hF2⟩,_,rfl,rfl,fun e0 H3 s3 he0 hd3=>?_⟩
   have hF3:=s3 _ _ hF2
   refine⟨_,b9.k (k:=.inl pr.1) hF3,_,rfl,?_⟩
   have tk:prs.take (i+1)=prs.take i++[(pr.1,pr.2)]:=by rw[C9,hpr];rfl
   have bx:BT H3 ((aP kvs (.inl pr.1)).getD (.ref e0)) (cp pr.1 (prs.take i)):=by
    by_cases hn:pr.1∈ns
    ·obtain⟨v,e,h⟩:=g.v _ hn
     rw[e]
     exact h.same s3
    ·rw[g.z _ hn,Aa (fun z=>hn ((g.m _).mpr z))]
     exact⟨e0,cw,rfl,hd3,.non rfl rfl⟩
   have s23:=s2.trans s3
   refine⟨_,_,_,_,rfl,bx.g,(hbv.same s23).g,fun p4 H4 b4 s4 hp4 ho4 hd4=>?_⟩
   have hF4:=s4 _ _ hF3
   refine⟨_,rfl,_,rfl,F,_,rfl,fq.k (k:=.inl pr.1) hF4 kl,?_⟩
   have tp:∀ b xs,H4 b=some (.tup xs)->(upd H4 F (.dK (bh kvs (.inl pr.1) (.ref p4)))) b=some (.tup xs):=fun b xs h=>by
    rw[upd_ne (fun z=>by rw[z,hF4] at h;cases h)];exact h
   obtain⟨ns',g'⟩:=((g.tups fun b xs h=>s4 _ _ (s3 _ _ h))).put (n:=pr.1) (es:=pr.2) (v:=.ref p4) ⟨p4,b4,rfl,hd4,ho4⟩
   refine⟨_,_,_,ns',rfl,fun b o h=>?_,ae,?_⟩
   ·rw[upd_ne (aJ h hF)]
    exact s4 _ _ (s23 _ _ h)
   ·rw[tk]
    exact g'.tups tp
  case fin =>
   rintro σ H2 ⟨v2,v3,kvs,ns,rfl,s2,hF2,g⟩
   rw[xl,Dg] at g
   have nl:ns.length<64:=by
    have:=gM g.nd fun n hn=>(g.m n).mp hn
    rw[CW] at this
    omega
   refine⟨_,rfl,F,kvs,ns,rfl,hF2,g.k,nl,⟨fun D ms pm srt hD=>?_⟩⟩
   have s3:ab H2 (upd H2 D (.lst (ms.map V.int))):=ab.upd hD
   have hD3:(upd H2 D (.lst (ms.map V.int))) D=some (.lst (ms.map V.int)):=ae
   generalize (upd H2 D (.lst (ms.map V.int)))=H3 at s3 hD3
   have hF3:=s3 _ _ hF2
   have g3:GD H3 kvs ns prs:=g.tups fun b xs h=>s3 _ _ h
   refine⟨D,rfl,⟨_,.of hD3⟩,fun G hG=>?_⟩
   refine CI (xs:=ms.map V.int) (fun i ys H4=>H4 G=some (.lst ys)/\ab H3 H4/\Paired (cy H4) ys ((ms.take i).map fun n=>(n,cp n prs))) ⟨ae,ab.upd hG,.nil⟩ (fun i ys H4 h=>⟨h.1,.of (h.2.1 _ _ hD3)⟩) (fun ys H4 h=>?_) (fun i x ys H4 u hu2 hi hx h=>?_)
   ·obtain⟨d1,d2,d3⟩:=h
    rw[CW,Dg] at d3
    exact q G ys ms H4 (s2.trans (s3.trans d2)) (s2.free (s3.free hG)) d1 d3 (pm.nodup_iff.mpr g.nd) srt fun n=>(pm.mem_iff).trans (g.m n)
   ·obtain⟨d1,d2,d3⟩:=h
    obtain⟨u1,rfl⟩:=jZ hu2
    obtain⟨n,hn,rfl⟩:=ia hx
    rw[CW] at hi
    have hnn:n∈ns:=pm.mem_iff.mp (De hn)
    obtain⟨v,ev,bv⟩:=g3.v n hnn
    have ml:ms.length<64:=by rw[pm.length_eq];exact nl
    have yl:=Paired.length d3
    rw[CW,Db] at yl
    refine⟨⟨[_],rfl,rfl⟩,cI ⟨_,rfl,_,rfl,_,rfl,F,v,rfl,by have:=b9.k (k:=.inl n) (d2 _ _ hF3);rw[ev] at this;exact this,bE,fun t ht=>?_⟩⟩
    have s5:ab H4 (upd H4 t (.tup [.int n,v])):=ab.upd ht
    have ht5:(upd H4 t (.tup [.int n,v])) t=some (.tup [.int n,v]):=ae
    generalize (upd H4 t (.tup [.int n,v]))=H5 at s5 ht5
    have hG5:=s5 _ _ d1
    have tp:∀ b xs,H5 b=some (.tup xs)->(upd H5 G (.lst (ys++[.ref t]))) b=some (.tup xs):=fun b xs h=>by
     rw[upd_ne (fun z=>by rw[z,hG5] at h;cases h)];exact h
    refine bw.mk (by rw[CW];exact hi) (by rw[CW];omega) (by omega) hG5 ⟨ae,fun b o h=>?_,?_⟩
    ·rw[upd_ne (aJ h hG)]
     exact s5 _ _ (d2 _ _ h)
    ·rw[C9,hn,C8]
     refine Paired.snoc ?_ (Paired.mapP d3 fun _ _ z=>(z.same s5).tups tp)
     exact cy.tups tp ⟨t,v,rfl,ht5,(bv.same d2).same s5⟩
def own (st:List Lad.Step)(r:Nat)(n:Int)(es:List En):List En:=es.filter fun e=>decide (Lad.ur st r e.1=n)
theorem pz (st:List Lad.Step)(r:Nat)(n:Int):∀ es:List En,cp n (es.map fun e=>(Lad.ur st r e.1,[e]))=own st r n es
 | []=>rfl
 | e::t=>by
  have ih:=pz st r n t
  unfold cp own at ih ⊢
  rw[C1,DI,DI]
  by_cases h:Lad.ur st r e.1=n
  ·rw[if_pos (decide_eq_true h),if_pos (decide_eq_true h),List.flatMap_cons,ih]
   rfl
  ·rw[if_neg (by simp[h]),if_neg (by simp[h]),ih]
theorem yB {e:En}(h:bi e) : -aN<e.1/\e.1<aN:=by
 have h1:=h.m
 have h30:((10:Nat) ^ 30)=1000000000000000000000000000000:=by decide +kernel
 have hW:aN=1000000000000000000000000000000:=rfl
 rw[h30] at h1
 omega
inductive uJ (C:Addr)(vs:List V)(H:Hp)(Q:VK)(E:XK):Prop
 | mk (x a:Addr)(o:HO)(xs:List V)(es:List En)(r:Nat)(b:Int)(ps:List Int)(rows:List Lad.Step)(e:vs=[.ref x,.int (r:Int),.ref a])(hL:bu C H x b ps rows)(ok:cf b ps rows)(hr:r<=rows.length)(ha:H a=some o)(ho:Ob o xs)(hx:Paired (bM H) xs es)(hl:es.length<64)(ek:∀ e∈es,bi e)
  (q:∀ D ys (ms:List Int) H',ab H H'->H D=none->H' D=some (.lst ys)->Paired (cy H') ys (ms.map fun n=>(n,own (aX b ps rows) r n es))->ms.Nodup->ms.Pairwise (·<=·)->(∀ n,n∈ms↔∃ e∈es,Lad.ur (aX b ps rows) r e.1=n)->Q (.ref D) H'):uJ C vs H Q E
theorem uB:aA ["ladder","roll","entries"] ["ladder","roll","entries"] (aw nz):=aE
set_option maxHeartbeats 4000000 in
theorem uL (T:Txt K mg C):aK P w K mg base 7 "bars_of" ["ladder","roll","entries"] (uJ C):=by
 refine aW T.f_bars_of uB (fun vs H Q E h=>?_) (fun f cdv A outer s H vs Q E hr h=>?_)
 ·obtain⟨x,a,o,xs,es,r,b,ps,rows,rfl,_⟩:=h
  rfl
 ·obtain⟨x,a,o,xs,es,r,b,ps,rows,rfl,hL,ok,hrl,ha,ho,hx,hl,ek,q⟩:=h
  refine⟨_,(am (b8 (ai (jv T) hr (aO (pv 1) ac (au bV (gH (pv 0) T.cl (io T) hr) ac))))
   (aq (aB (ai (zd T) hr (ah (cm rfl (bR uB) (fR (pv 2)) (fun _ _ _ _=>ca) (fun _ _ _ _=>(be (ao (df (pv 1) T.cl (qu T) hr (ao (pv 2) (ay cV (pv 0) ac (fun _ _=>rfl)))) (ai (wx T) hr (ah (bO (ah (pv 0)))))))))))))),?_⟩
  obtain⟨dx,fa,fo,fc,hi⟩:=ig hL
  have xl:=Paired.length hx
  refine⟨_,rfl,_,rfl,x,dx,_,rfl,hi,dO _ _ _ (by decide) (by decide) (by decide),x,b,ps,rows,rfl,hL,_,_,rfl,rfl,(r:Int),0,_,rfl,by omega,by omega,?_⟩
  refine⟨_,rfl,a,o,xs,rfl,ha,ho,fun J hJ D hD=>?_⟩
  refine f9 hJ (fun i ys H1=>H1 D=some (.lst ys)/\ab H H1/\Paired (cy H1) ys ((es.take i).map fun e=>(Lad.ur (aX b ps rows) r e.1,[e]))) ⟨ae,ab.upd hD,.nil⟩ (fun i ys H1 h=>⟨h.1,h.2.1 _ _ ha⟩) (fun ys H1 h=>?_) fun i v ys H1 hi' hv h=>?_
  ·obtain⟨d1,d2,d3⟩:=h
   rw[Df (by omega)] at d3
   refine⟨D,ys,_,rfl,d1,d3,by rw[CW];exact hl,fun G zs ms H2 s2 hG hG2 hz nd srt mem=>?_⟩
   refine q G zs ms H2 (d2.trans s2) (d2.free hG) hG2 ?_ nd srt fun n=>?_
   ·have e:(fun n=>(n,cp n (es.map fun e=>(Lad.ur (aX b ps rows) r e.1,[e]))))=fun n=>(n,own (aX b ps rows) r n es):=funext fun n=>by rw[pz]
    rw[e] at hz
    exact hz
   ·rw[mem,El,DP]
    exact Iff.rfl
  ·obtain⟨d1,d2,d3⟩:=h
   obtain⟨e,he,b',ob,rfl,hb,hob⟩:=Paired.get hx hv
   have ew:=yB (ek e (De he))
   have yl:=Paired.length d3
   rw[CW,Db] at yl
   refine cI ⟨_,rfl,x,dx,_,rfl,d2 _ _ hi,dO _ _ _ (by decide) (by decide) (by decide),_,rfl,_,rfl,b',ob,_,_,_,rfl,rfl,d2 _ _ hb,hob,rfl,x,(r:Int),e.1,b,ps,rows,rfl,hL.same d2,ok,by omega,by omega,ew.1,ew.2,fun H2 s2=>?_⟩
   rw[qo]
   refine⟨_,rfl,zq (by show 1<=1000;decide),fun l hl2=>?_⟩
   have s3:ab H2 (upd H2 l (.lst [.ref b'])):=ab.upd hl2
   have hl3:(upd H2 l (.lst [.ref b'])) l=some (.lst [.ref b']):=ae
   generalize (upd H2 l (.lst [.ref b']))=H3 at s3 hl3
   have s13:=s2.trans s3
   refine⟨l,_,[.ref b'],[e],rfl,hl3,.inl rfl,.cons ⟨b',ob,rfl,s13 _ _ (d2 _ _ hb),hob⟩ .nil,by show 1<64;decide,fun p4 H4 b4 s4 hp4 ho4 hd4=>⟨bE,fun t ht=>?_⟩⟩
   have s5:ab H4 (upd H4 t (.tup [.int (Lad.ur (aX b ps rows) r e.1),.ref p4])):=ab.upd ht
   have ht5:(upd H4 t (.tup [.int (Lad.ur (aX b ps rows) r e.1),.ref p4])) t=some (.tup [.int (Lad.ur (aX b ps rows) r e.1),.ref p4]):=ae
   generalize (upd H4 t (.tup [.int (Lad.ur (aX b ps rows) r e.1),.ref p4]))=H5 at s5 ht5
   have s15:=s13.trans (s4.trans s5)
   have hD5:=s15 _ _ d1
   have tp:∀ b xs,H5 b=some (.tup xs)->(upd H5 D (.lst (ys++[.ref t]))) b=some (.tup xs):=fun b xs h=>by
    rw[upd_ne (fun z=>by rw[z,hD5] at h;cases h)];exact h
   refine bw.mk hi' (by omega) (by omega) hD5 ⟨ae,(d2.trans s15).but_ne hD,?_⟩
   rw[C9,he,C8]
   refine Paired.snoc ?_ (Paired.mapP d3 fun _ _ z=>(z.same s15).tups tp)
   exact cy.tups tp ⟨t,.ref p4,rfl,ht5,⟨p4,b4,rfl,aj.same s5 _ _ hd4,ho4⟩⟩
end
end Pr
namespace L2
open PySem PySem.Spec PyProof.Rows
section
variable {prog:FN}{w:World}{A:Around}{R:Gv->Shared->Prop}{s:Shared}{elt t0 i0 t1 i1:Expr}{ifs:List Expr}{scope:Scope}{pos:Pos}{it acc:Value}{env:Env}
end
section
variable {X:Cx}{xs1 xs2 Ns:List Str}{sc:Scope}{elt iter tg i1 tg1:Expr}{ifs:List Expr}{pos:Pos}{wi wi2:TI}{g g2:TG}{tc:TT}{te:TE}
theorem sI {xs Ns:List Str}{x:Str}{i:Nat}{p1:Pos}(S:dH X xs Ns sc)(hx:x∈xs)(hi:(xs++Ns)[i]?=some x):∀ C fp s0 H0,PG (aI X xs Ns sc C fp s0 H0) (.Name x p1) (fh i):=fun C fp s0 H0=>by
 have lx:(Hl sc X.env).names.lookup x=some .local:=Hu (S.loc x hx)
 exact ba (X:=aI X xs Ns sc C fp s0 H0) (i:=i) S.all hi (.inl lx) (.inr lx)
end
end L2
namespace L2
open PySem PySem.Spec PyProof.Rows
inductive fH:HO->Prop
 | k (kvs:List (af×V)):fH (.dK kvs)
 | t (kvs:List (List af×V)):fH (.dT kvs)
section
variable {X:Cx}{pins:List (Addr×Obj)}{σ:St}{H:Hp}{s:Shared}{a:Addr}{u:HO}{o:Obj}
theorem pR {P:FN}{w:World}{h:Heap}(hu:fH u)(v:HO)(hv:∀ xs,H a≠some (.tup xs))(x:aS P w H h a u):aS P w (upd H a v) h a u:=by
 cases hu with
 | k kvs=>exact x
 | t kvs =>
  obtain⟨z,y,xs,r,rest⟩:=x
  exact⟨z,y,xs,Paired.mapP r fun p q z=>⟨z.1,by rw[upd_ne (fun e=>hv _ (by rw[<-e];exact z.2.1))];exact z.2.1,z.2.2⟩,rest⟩
theorem aa.swapDc (I:aa X pins σ H s){c v:HO}(e:H a=some c)(hc:∀ xs,c≠.tup xs)(hc2:∀ y,c≠.own y)(hc3:∀ ps,c≠.tbl ps)(h0:∀ o' u',X.H₀ a=some (.frz o' u')->c=.frz o' u'->v=.frz o' u')(new:aS X.prog X.w (upd H a v) s.heap a v):aa X pins σ (upd H a v) s:=by
 have na:∀ {b},H b=none->b≠a:=fun {b} q z=>by rw[z,e] at q;cases q
 refine⟨I.ok,I.os,I.bare,⟨I.base.keep,I.base.slot,fun b o q n hx=>?_,I.base.there,fun b xs q=>?_,fun b o' u' q=>?_,fun b ps q=>?_⟩,I.loc,I.cell,?_,fun y d q=>?_,fun p hp=>?_,fun b ob q=>?_,I.len⟩
 ·have z:=I.base.free b o q n hx
  rw[upd_ne (na z)];exact z
 ·have z:=I.base.tups b xs q
  rw[upd_ne (fun w=>by rw[w,e] at z;cases z;exact hc _ rfl)];exact z
 ·have z:=I.base.frzs b o' u' q
  by_cases hb:b=a
  ·subst hb
   rw[e] at z
   rw[ae,h0 o' u' q (Option.some.inj z)]
  ·rw[upd_ne hb];exact z
 ·obtain⟨m,z⟩:=I.base.tbls b ps q
  exact⟨m,by rw[upd_ne (fun w=>by rw[w,e] at z;cases z;exact hc3 _ rfl)];exact z⟩
 ·rw[upd_ne (na I.free)];exact I.free
 ·rw[upd_ne (na (I.freeC y d q))];exact I.freeC y d q
 ·obtain⟨e1,e2,e3⟩:=I.pin p hp
  exact⟨e1,by rw[upd_ne (na e2)];exact e2,e3⟩
 ·by_cases hb:b=a
  ·subst hb
   rw[ae] at q
   cases q
   exact new
  ·rw[upd_ne hb] at q
   refine(I.hok b ob q).stay (fun _ _ _ z=>z) (fun d z=>?_) fun d xs z=>?_
   ·rw[upd_ne (fun w=>by rw[w,e] at z;cases z;exact hc2 _ rfl)];exact z
   ·rw[upd_ne (fun w=>by rw[w,e] at z;cases z;exact hc _ rfl)];exact z
theorem aa.freeze (I:aa X pins σ H s)(hu:fH u)(e:H a=some u)(ho:s.heap.get? a=some o):aa X pins σ (upd H a (.frz o u)) s:=by
 have hx:=I.hok a u e
 have ht:∀ xs,u≠.tup xs:=fun xs z=>by rw[z] at hu;cases hu
 refine I.swapDc e ht (fun y z=>by rw[z] at hu;cases hu) (fun y z=>by rw[z] at hu;cases hu) (fun o' u' _ z=>by rw[z] at hu;cases hu) ⟨ho,pR hu _ (fun xs q=>?_) hx⟩
 rw[e] at q
 exact ht xs (Option.some.inj q)
theorem aa.thaw (I:aa X pins σ H s)(hu:fH u)(e:H a=some (.frz o u))(h0:∀ o' u',X.H₀ a≠some (.frz o' u')):aa X pins σ (upd H a u) s:=by
 obtain⟨_,hx⟩:=(show aS X.prog X.w H s.heap a (.frz o u) from I.hok a _ e)
 refine I.swapDc e (fun xs z=>nomatch z) (fun y z=>nomatch z) (fun ps z=>nomatch z) (fun o' u' q _=>absurd q (h0 o' u')) (pR hu _ (fun xs q=>?_) hx)
 rw[e] at q
 cases q
end
end L2
namespace L2
open PySem PySem.Spec PyProof.Rows
theorem mJ {P:FN}{w:World}:∀ {es:List DictEntry}{kvs:List (af×Value)},Pairs (bc P w) es kvs->es.length=kvs.length/\∀ {i:Nat}{p:af×Value},kvs[i]?=some p->∃ e,es[i]?=some e/\(bc P w).is p.1 e.key=true
 | _,_,.nil=>⟨rfl,fun h=>by simp at h⟩
 | _,_,.cons (kv:=kv) r _ t=>by
  obtain⟨h1,h2⟩:=mJ t
  refine⟨by rw[C4,C4,h1],fun {i p} h=>?_⟩
  cases i with
  | zero=>cases h;exact⟨_,rfl,r⟩
  | succ i=>exact h2 (show _=some p from h)
theorem Cj {k:af}{u:Value}(h:fb k u=true):ar (kV k) u:=by
 rcases cY h with⟨i,t,rfl,rfl⟩|⟨x,t,rfl,rfl⟩
 ·exact⟨t,rfl⟩
 ·exact⟨t,rfl⟩
theorem Bb {a:List (af×V)}{b:List (af×Value)}(h:KV a b){i:Nat}{p:af×V}(hp:a[i]?=some p):∃ q,b[i]?=some q/\q.1=p.1:=by
 obtain⟨q,e,r⟩:=Paired.get h hp
 exact⟨q,e,r.1.symm⟩
def lh (a:Addr)(o:Obj)(kvs:List (af×V)):It where
 go:=fun i H=>H a=some (.frz o (.dK kvs))/\i<kvs.length
 yld:=fun i H x H'=>H'=H/\∃ p:af×V,x=kV p.1/\kvs[i]?=some p
 stop:=fun i H=>H a=some (.frz o (.dK kvs))/\kvs.length<=i
theorem Ad {P:Program} {w:World} {K:PySem.W.Frag} {tg:Expr} {a it:Addr} {o:Obj} {es:Array DictEntry} {ep:Nat} {kvs:List (af × V)} (hne:it≠a) (hx:o.ExactDict) (hd:o.data=.dict es ep):fB P w K tg (lh a o kvs) [it] it (fun i h=>h.IsKeyIter it a i es.size ep) where
  mem:=by simp
  obj:=fun i h st b hb=>by
    have e:b=it:=by simpa using hb
    subst e
    obtain ⟨o,e,c,d⟩:=st
    exact ⟨o,e,fun v z=>by rw [d] at z; cases z⟩
  keep:=fun i h h' st k=>st.at fun o e=>k it (by simp) o e
  item:=by
    intro X hP hw hK hc i pins s σ H E I hf st hg
    subst hP hw hK
    obtain ⟨hq,hlt⟩:=hg
    obtain ⟨ho,z,hsm,vs0,kv,o2,es2,ep2,h1,h2,h3,h4,h5,h6⟩:=(show aS X.prog X.w H s.heap a (.frz o (.dK kvs)) from I.hok a _ hq)
    rw [ho] at h1
    cases h1
    rw [hd] at h3
    cases h3
    obtain ⟨f0,f1,f2,f3,f4,f5⟩:=hf it (by simp)
    obtain ⟨p,hp⟩:∃ p,kvs[i]?=some p:=⟨kvs[i],List.getElem?_eq_getElem hlt⟩
    obtain ⟨q,hq2,eq⟩:=Bb kv hp
    obtain ⟨e,he,hk⟩:=(mJ h5).2 hq2
    rw [Array.getElem?_toList] at he
    rw [eq] at hk
    refine Dx.next st ⟨o,ho,hx,hd⟩ he fun h' st' sb=>?_
    have I1:aa X pins σ H { s with heap:=h' }:=I.turned (t':=s.toks) (fun b o hb e=>(sb.2 b hb).trans e) f0 f1 f3 f4 f5
    obtain ⟨oi,ei,ci,di⟩:=id st'
    exact ⟨_,rfl,jb (s:={ s with heap:=h' }) ei ci di (by decide) ⟨kV p.1,H,I1,Cj hk,⟨rfl,p,rfl,hp⟩,st',fun b hb=>(hf b hb).1⟩⟩
  done:=by
    intro X hP hw hK hc i pins s σ H E I hf st hg
    subst hP hw hK
    obtain ⟨hq,hle⟩:=hg
    obtain ⟨ho,z,hsm,vs0,kv,o2,es2,ep2,h1,h2,h3,h4,h5,h6⟩:=(show aS X.prog X.w H s.heap a (.frz o (.dK kvs)) from I.hok a _ hq)
    rw [ho] at h1
    cases h1
    rw [hd] at h3
    cases h3
    obtain ⟨f0,f1,f2,f3,f4,f5⟩:=hf it (by simp)
    have hlen:kvs.length=vs0.length:=Paired.length kv
    have hes:=(mJ h5).1
    rw [Array.length_toList] at hes
    exact Dx.stop (I.ok.hd hc) (by omega) st ⟨o,ho,hx,hd⟩ fun h' eb=>⟨rfl,I.turned (t':=s.toks) (fun b o hb e=>eb b o hb e) f0 f1 f3 f4 f5⟩
  self:=fun _ _ _ _ _ st h=>wpAny_pyIter_keyiter st h
inductive lE (te:TE)(σ:St)(H:Hp)(R:It->Hp->Prop):Prop
 | mk (h:te σ H fun x H1=>∃ a kvs,x=.ref a/\H1 a=some (.dK kvs)/\∀ o,R (lh a o kvs) (upd H1 a (.frz o (.dK kvs)))):lE te σ H R
theorem Cs {X:Cx}{tg e:Expr}{te:TE}(he:PE X e te):PI X tg e (lE te):=by
 intro pins s σ H R I h
 obtain⟨h⟩:=h
 refine ag (he pins s σ H _ I h) fun v s1 ⟨x,H1,I1,r1,a,kvs,e,hq,q⟩=>?_
 subst e
 cases r1
 obtain⟨z,hsm,vs0,kv,o,es,ep,h1,h2,h3,h4,h5,h6⟩:=(show aS X.prog X.w H1 s1.heap a (.dK kvs) from I1.hok a _ hq)
 refine Dx.iter hsm ⟨o,h1,h2,h3⟩ ?_
 have I2:aa X pins σ H1 { s1 with heap:=s1.heap.push { cls:=.type "dict_keyiterator",data:=.fields #[.ref a,.int 0 0,.int es.size 0,.int ep 0] } }:=I1.kept (t':=s1.toks) fun b o e=>EL _ e
 have hlt:=EK h1
 refine⟨s1.heap.objs.size,[s1.heap.objs.size],_,_,_,rfl,I2.freeze (.k kvs) hq (EL _ h1),Ad (E1 hlt) h2 h3,⟨_,EM _ rfl,rfl,rfl⟩,fun b hb=>?_,q o⟩
 have e:b=s1.heap.objs.size:=by simpa using hb
 subst e
 exact I1.fpOk (EU _) (by rw[upd_ne (E1 hlt)];exact I1.hok.fresh (EU _))
end L2
namespace L2
open PySem PySem.Spec PyProof.Rows
section
variable {prog:FN}{w:World}{A:Around}{R:Gv->Shared->Prop}{s:Shared}{elt t0 i0 t1 i1:Expr}{ifs:List Expr}{scope:Scope}{pos:Pos}{it acc:Value}{env:Env}
theorem zJ (elt t0 i0 t1 i1:Expr)(ifs:List Expr)(scope:Scope)(pos:Pos)(it acc:Value)(env:Env) :
  Ho (.SetComp elt [⟨t0,i0,[],0⟩,⟨t1,i1,ifs,0⟩] scope pos) 0 it acc env=(do
   F5 i0.pos
   match <-Ha it with
   | none=>pure (.done .next)
   | some v =>
    Hm t0 it v
    Ga t0 env v
    let x <-eval i1 env
    F5 i1.pos
    let x <-Gq i1 env x
    let _ <-runOwn (.compStart (.SetComp elt [⟨t0,i0,[],0⟩,⟨t1,i1,ifs,0⟩] scope pos) 1 (<-F6 [x] (Gn x)) acc env) env
    again (.compLoop (.SetComp elt [⟨t0,i0,[],0⟩,⟨t1,i1,ifs,0⟩] scope pos) 0 it acc env)):=by
 unfold Ho
 simp only[List.getElem?_cons_zero,List.getElem?_cons_succ,bind_assoc,pure_bind,Fe,List.forIn_nil]
 rfl
theorem AT (elt t0 i0 t1 i1:Expr)(ifs:List Expr)(scope:Scope)(pos:Pos)(it acc:Value)(env:Env) :
 Ho (.SetComp elt [⟨t0,i0,[],0⟩,⟨t1,i1,ifs,0⟩] scope pos) 1 it acc env=(do
  F5 i1.pos
  match <-Ha it with
  | none=>pure (.done .next)
  | some v =>
   Hm t1 it v
   Ga t1 env v
   let mut ok:=true
   for c in ifs do
    if ok then ok <-isTrue c env (eval c env)
   if ok then
    (do let y <-eval elt env;F5 elt.pos;let _ <-call (.builtin "set.add") [acc,y])
   again (.compLoop (.SetComp elt [⟨t0,i0,[],0⟩,⟨t1,i1,ifs,0⟩] scope pos) 1 it acc env)):=by rfl
theorem Ch {E:Value->Shared->Prop}
  (h0:Gw (model prog w) A (.compLoop (.SetComp elt [⟨t0,i0,[],0⟩,⟨t1,i1,ifs,0⟩] scope pos) 1 it acc env) R s)
  (h:wpAny (model prog w) A (Gn it) (fun it' s'=>Gw (model prog w) A (.compLoop (.SetComp elt [⟨t0,i0,[],0⟩,⟨t1,i1,ifs,0⟩] scope pos) 1 it' acc env) R s')
   (notedBy (model prog w) A env fun x s'=>R (.error x) s') s) :
  Gw (model prog w) A (.compStart (.SetComp elt [⟨t0,i0,[],0⟩,⟨t1,i1,ifs,0⟩] scope pos) 1 it acc env) R s:=by
 refine codeAny_of_tree ?_
 show wpAny _ _ ((IV (.SetComp elt [⟨t0,i0,[],0⟩,⟨t1,i1,ifs,0⟩] scope pos) 1 it acc env).onRaise (fun x=>do Hq x env;F5 theWindowsPlace)) _ _ s
 refine wpAny_notedAt ?_
 unfold IV
 show wpAny _ _ (ask >>= _) _ _ s
 refine Ge (IH (wpAny_ite ?_))
 split
 ·first
   | exact Ge (Gh (Gh (And.intro rfl h0)))
   | exact Gh (And.intro rfl h0)
 ·first
   | exact Ge (Gj (Ge (Gg (Ge (FW h (fun it' s' h'=>Gh (And.intro rfl h')) fun _ _ x=>x)))))
   | (refine Ge (Gj ?_);show wpAny _ _ (F5 i1.pos >>= _) _ _ s;exact Ge (Gg (Ge (FW h (fun it' s' h'=>Gh (And.intro rfl h')) fun _ _ x=>x))))
theorem CV (I:Nat->Shared->Prop)
  (turn:∀ n s,I n s->wpAny (model prog w) A (Ha it) (fun r s1=>match r with
   | none=>R (.ok .next) s1
   | some v=>wpAny (model prog w) A (Hm t0 it v) (fun _ s1=>wpAny (model prog w) A (Ga t0 env v) (fun _ s2 =>
    wpAny (model prog w) A (eval i1 env) (fun x s3=>wpAny (model prog w) A (Gn x) (fun it2 s4 =>
     Gw (model prog w) A (.compStart (.SetComp elt [⟨t0,i0,[],0⟩,⟨t1,i1,ifs,0⟩] scope pos) 1 it2 acc env) (fun r s5=>match r with|.ok _=>∃ m,m<n/\I m s5|.error _=>False) s4) (fun _ _=>False) s3) (fun _ _=>False) s2) (fun _ _=>False) s1) (fun _ _=>False) s1) (fun _ _=>False) s)
  (n:Nat) (h:I n s) (hs:∀ v,Gq i1 env v=pure v) :
  Gw (model prog w) A (.compLoop (.SetComp elt [⟨t0,i0,[],0⟩,⟨t1,i1,ifs,0⟩] scope pos) 0 it acc env) R s:=by
 refine Hn rfl I (fun n s hI=>?_) n h
 show wpAny _ A ((Ho (.SetComp elt [⟨t0,i0,[],0⟩,⟨t1,i1,ifs,0⟩] scope pos) 0 it acc env).onRaise (fun x=>do Hq x env;Hr x)) _ _ s
 refine wpAny_noted ?_
 rw[zJ]
 refine Ge (Gg (Ge (FW (turn n s hI) (fun r s1 h1=>?_) fun _ _ h'=>h'.elim)))
 cases r with
 | none=>exact Gh h1
 | some v =>
  refine Ge (FW h1 (fun _ s1 h1=>?_) fun _ _ h'=>h'.elim)
  refine Ge (FW h1 (fun _ s2 h2=>Ge (FW h2 (fun x s3 h3=>?_) fun _ _ h'=>h'.elim)) fun _ _ h'=>h'.elim)
  refine Ge (Gg ?_)
  rw[hs]
  refine Ge (Gh (Ge (Gf (FW h3 (fun it2 s4 h4=>?_) fun _ _ h'=>h'.elim))))
  refine Ge (wpAny_runOwn ?_)
  rw[Around.mark_none]
  refine GB h4 fun r s5 h5=>?_
  cases r with
  | ok f=>exact Gh ⟨rfl,h5⟩
  | error e=>exact h5.elim
theorem yq (I:Nat->Shared->Prop)
  (turn:∀ n s,I n s->wpAny (model prog w) A (Ha it) (fun r s1=>match r with
   | none=>R (.ok .next) s1
   | some v=>wpAny (model prog w) A (Hm t1 it v) (fun _ s1=>wpAny (model prog w) A (Ga t1 env v) (fun _ s2 =>
    wpAny (model prog w) A (forIn ifs true fun c r=>if r=true then do let ok <-isTrue c env (eval c env);pure (ForInStep.yield ok) else pure (ForInStep.yield r)) (fun ok s3 =>
     if ok=true then wpAny (model prog w) A (eval elt env) (fun x s4 =>
      wpAny (model prog w) A (call (.builtin "set.add") [acc,x]) (fun _ s5=>∃ m,m<n/\I m s5) (fun _ _=>False) s4) (fun _ _=>False) s3
     else ∃ m,m<n/\I m s3) (fun _ _=>False) s2) (fun _ _=>False) s1) (fun _ _=>False) s1) (fun _ _=>False) s)
  (n:Nat) (h:I n s) :
  Gw (model prog w) A (.compLoop (.SetComp elt [⟨t0,i0,[],0⟩,⟨t1,i1,ifs,0⟩] scope pos) 1 it acc env) R s:=by
 refine Hn rfl I (fun n s hI=>?_) n h
 show wpAny _ A ((Ho (.SetComp elt [⟨t0,i0,[],0⟩,⟨t1,i1,ifs,0⟩] scope pos) 1 it acc env).onRaise (fun x=>do Hq x env;Hr x)) _ _ s
 refine wpAny_noted ?_
 rw[AT]
 refine Ge (Gg (Ge (FW (turn n s hI) (fun r s1 h1=>?_) fun _ _ h'=>h'.elim)))
 cases r with
 | none=>exact Gh h1
 | some v =>
  refine Ge (FW h1 (fun _ s1 h1=>?_) fun _ _ h'=>h'.elim)
  refine Ge (FW h1 (fun _ s2 h2=>Ge (FW h2 (fun ok s3 h3=>?_) fun _ _ h'=>h'.elim)) fun _ _ h'=>h'.elim)
  cases ok with
  | false=>exact Gh ⟨rfl,h3⟩
  | true =>
   exact Ge (Ge (FW h3 (fun x s4 h4=>Ge (Gg (Ge (FW h4 (fun _ s5 h5=>Gh (Gh ⟨rfl,h5⟩)) fun _ _ h'=>h'.elim)))) fun _ _ h'=>h'.elim))
end
def jC (P:Program) (w:World) (n:Nat) (g:TG) (tc:TT) (te:TE) (σ:St) (J:It) (D:Addr) (ks:List af) (H:Hp) (Fin:List af→Hp→Prop):Prop :=
  ∃ W:Nat→Nat→List af→Hp→Prop,(∃ m,W 0 m ks H)∧∀ i m ks H,W i m ks H→H D=some (bZ P w D ks) ∧
    ((J.stop i H∧Fin ks H)∨(J.go i H∧∀ x H' (u:St),u.length=n→J.yld i H x H'→g x (u++σ) H' fun σ2 H2=>(∃ u2:St,u2.length=n∧σ2=u2++σ)∧tc σ2 H2 fun b H3=>if b=true then te σ2 H3 fun y H4=>H4 D=some (bZ P w D ks)∧ks.length < 1000∧∃ k,y=kV k∧∃ m',m' < m∧W (i + 1) m' (fS ks k) (upd H4 D (bZ P w D (fS ks k)))
      else ∃ m',m' < m∧W (i + 1) m' ks H3))
def nW (P:Program) (w:World) (n1 n2:Nat) (g:TG) (wi2:TI) (g2:TG) (tc:TT) (te:TE) (σ:St) (J:It) (D:Addr) (Fin:Hp→Prop) (H0:Hp):Prop :=
  ∃ W:Nat→Nat→List af→Hp→Prop,(∃ m,W 0 m [] (upd H0 D (bZ P w D [])))∧∀ i m ys H,W i m ys H→H D=some (bZ P w D ys) ∧
    ((J.stop i H∧Fin H)∨(J.go i H∧∀ x H' (v u:St),v.length=n2→u.length=n1→J.yld i H x H'→g x (v++(u++σ)) H' fun σ2 H2=>∃ u2:St,u2.length=n1∧σ2=v++(u2++σ)∧wi2 σ2 H2 fun J2 H3 =>
      jC P w n2 g2 tc te (u2++σ) J2 D ys H3 fun zs H4=>∃ a o uu,H4 a=some (.frz o uu)∧fH uu∧(∀ o' u',H0 a≠some (.frz o' u'))∧∃ m',m' < m∧W (i + 1) m' zs (upd H4 a uu)))
def CO (P:FN)(w:World)(n1 n2:Nat)(wi:TI)(g:TG)(wi2:TI)(g2:TG)(tc:TT)(te:TE):TE:=fun σ H Q=>wi σ H fun J H1=>∀ D,H1 D=none->nW P w n1 n2 g wi2 g2 tc te σ J D (fun H2=>Q (.ref D) H2) H1
section
variable {X:Cx}{xs1 xs2 Ns:List Str}{sc:Scope}{elt iter tg i1 tg1:Expr}{ifs:List Expr}{pos:Pos}{wi wi2:TI}{g g2:TG}{tc:TT}{te:TE}
theorem zY {pins:List (Addr×Obj)}{σ:St}{H:Hp}{s:Shared}{it:Addr}{fp:List Addr}{tn:Nat->Heap->Prop}{J:It}{Fin:Addr->Hp->Prop}{RR:Value->Addr->Gv->Shared->Prop}{E:Value->Shared->Prop}
  (hc:X.calm=true) (S:dH X (xs2++xs1) Ns sc) (I:aa X pins σ H s) (T:fB X.prog X.w X.K tg J fp it tn) (st:tn 0 s.heap) (hf:∀ b∈fp,aZ X pins H b) (hg:∀ C s0 H0,PG (aI X (xs2++xs1) Ns sc C fp s0 H0) tg g)
  (hi2:∀ C s0 H0,PI (aI X (xs2++xs1) Ns sc C fp s0 H0) tg1 i1 wi2) (hg2:∀ C s0 H0,PG (aI X (xs2++xs1) Ns sc C fp s0 H0) tg1 g2)
  (ht:∀ C s0 H0,fw (aI X (xs2++xs1) Ns sc C fp s0 H0) ifs tc) (he:∀ C s0 H0,PE (aI X (xs2++xs1) Ns sc C fp s0 H0) elt te) (q:∀ D,H D=none->nW X.prog X.w xs1.length xs2.length g wi2 g2 tc te σ J D (Fin D) H)
  (hR:∀ D C H2 s2 m,s.heap.objs.size<=C->aa X pins σ H2 s2->H2 C=none->s2.heap.Ns C m->Fin D H2->RR (.ref D) C (.ok .next) s2)
  (hs2:∀ C v,Gq i1 (Hk sc (cj sc X.env.cells) C X.env) v=pure v) :
  wpAny (model X.prog X.w) X.A (newSet (.type "set")) (fun acc s3=>wpAny (model X.prog X.w) X.A (Hs sc X.env.globals (cj sc X.env.cells) [] X.env.qual none .none (some X.env)) (fun cenv s4 =>
   Gw (model X.prog X.w) X.A (.compStart (.SetComp elt [⟨tg,iter,[],0⟩,⟨tg1,i1,ifs,0⟩] sc pos) 0 (.ref it) acc { cenv with scope:=Hl sc X.env }) (RR acc cenv.locals) s4) E s3) E s:=by
 have hlt:∀ b∈fp,b<s.heap.objs.size:=fun b hb=>by
  obtain⟨o,e,_⟩:=T.obj 0 _ st b hb
  exact EK e
 refine Ss.new fun oS hS=>Ht S.nocell (by intro y hy;simp at hy) (fun h1 hns1 hsb1=>?_) S.kind
 dsimp only at hns1 hsb1 ⊢
 generalize hH2:s.heap.push oS=G at hns1 hsb1 hS ⊢
 have hC:G.objs.size=s.heap.objs.size+1:=by rw[<-hH2,EO]
 have hCle:s.heap.objs.size<=G.objs.size:=by rw[hC];exact E2 _
 have hDC:G.objs.size≠s.heap.objs.size:=by rw[hC];exact Fb _
 have old:∀ b o,s.heap.get? b=some o->h1.get? b=some o:=fun b o e=>hsb1.extBut b o (EV (EW (EK e) hCle)) (EL _ (hH2▸EL _ e))
 have hacc:aS X.prog X.w (upd H s.heap.objs.size (bZ X.prog X.w s.heap.objs.size [])) h1 s.heap.objs.size (bZ X.prog X.w s.heap.objs.size []):=sr ⟨#[],hS.at fun o e=>hsb1.extBut _ _ (Ne.symm hDC) (EL _ e),Du,[],List.Perm.refl _,.nil⟩
 have hDn:H s.heap.objs.size=none:=I.hok.fresh (EU _)
 obtain⟨W,⟨m0,w0⟩,turn⟩:=q s.heap.objs.size hDn
 have st1:tn 0 h1:=T.keep _ _ _ st fun b _ o e=>old b o e
 have I1:=fun tk=>I.startSN (tk:=tk) (w:=(xs2++xs1).map fun _=>none) S hf hlt rfl rfl hCle hDC old hns1 hacc
 have fr1:∀ b∈fp,upd H s.heap.objs.size (bZ X.prog X.w s.heap.objs.size []) b=none:=fun b hb=>by rw[upd_ne (EV (hlt b hb))];exact(hf b hb).1
 have loop:∀ s3:Shared,s3={ s with heap:=h1,toks:=s.toks+([]:List (Str×Value)).length } ->
   Gw (model X.prog X.w) X.A (.compLoop (.SetComp elt [⟨tg,iter,[],0⟩,⟨tg1,i1,ifs,0⟩] sc pos) 0 (.ref it) (.ref s.heap.objs.size) (Hk sc (cj sc X.env.cells) G.objs.size X.env))
    (RR (.ref s.heap.objs.size) G.objs.size) s3:=by
  rintro s3 rfl
  have fpk:∀ {H':Hp},(∀ b∈fp,H' b=none)->∀ b∈fp,aZ (aI X (xs2++xs1) Ns sc G.objs.size fp s H) [] H' b:=fun hn b hb =>
   ⟨hn b hb,EV (EW (hlt b hb) hCle),(I.okLN (C:=G.objs.size) S hCle hf hlt).exfs b hb,.inl hb,fun y c e=>(hf b hb).2.2.2.2.1 y c (bW sc X.env.cells e),fun p hp=>absurd (show p∈([]:List (Addr×Obj)) from hp) (by simp)⟩
  refine CV (fun n s'=>∃ i v u ys H',v.length=xs2.length/\u.length=xs1.length/\aa (aI X (xs2++xs1) Ns sc G.objs.size fp s H) [] (v++(u++σ)) H' s'/\tn i s'.heap/\(∀ b∈fp,H' b=none)/\W i n ys H') ?_ m0 ⟨0,xs2.map fun _=>none,xs1.map fun _=>none,[],_,CW _,CW _,by rw[<-DT,<-C8];exact I1 _,st1,fr1,w0⟩ (hs2 _)
  rintro n s3 ⟨i,v0,u0,ys,H3,hv0,hu0,I3,st3,fr3,w3⟩
  obtain⟨hD3,turn3⟩:=turn i n ys H3 w3
  rcases turn3 with⟨stop,fin⟩|⟨go,step⟩
  ·refine ag (T.done (aI X (xs2++xs1) Ns sc G.objs.size fp s H) rfl rfl rfl hc i [] s3 _ H3 _ I3 (fpk fr3) st3 stop) fun r s4 ⟨hr,I4⟩=>?_
   subst hr
   obtain⟨m4,hn4,_⟩:=I4.loc
   exact hR _ _ H3 s4 m4 hCle (I.endLN I4 hf) I4.free hn4 fin
  ·refine ag (T.item (aI X (xs2++xs1) Ns sc G.objs.size fp s H) rfl rfl rfl hc i [] s3 _ H3 _ I3 (fpk fr3) st3 go) fun r s4 ⟨uu,hr,h4⟩=>?_
   subst hr
   refine ag h4 fun _ s5 ⟨y,H5,I5,r5,y5,st5,fr5⟩=>?_
   have I5':=I5.pinned (fpk fr5) (T.obj _ _ st5)
   refine ag (hg G.objs.size s H _ s5 _ H5 y uu _ I5' r5 (step y H5 v0 u0 hv0 hu0 y5)) fun _ s6 ⟨σ6,H6,I6,⟨u6,hu6,e6,q6⟩⟩=>?_
   subst e6
   refine ag (hi2 G.objs.size s H _ s6 _ H6 _ I6 q6) fun v7 s7 h7=>ag h7 fun itv s8 h8=>?_
   obtain⟨it2,fp2,tn2,J2,H8,e8,I8,T2,st8,f8,q8⟩:=h8
   subst e8
   obtain⟨W2,⟨m20,w20⟩,turn2⟩:=q8
   have again:∀ {H8:Hp}{s8:Shared}{zs:List af}{w6:St},w6.length=xs2.length->aa (aI X (xs2++xs1) Ns sc G.objs.size fp s H) ([]++dG fp s5.heap) (w6++(u6++σ)) H8 s8->(∃ m',m'<n/\W (i+1) m' zs H8)->∃ m,m<n/\∃ i v u ys H',v.length=xs2.length/\u.length=xs1.length/\aa (aI X (xs2++xs1) Ns sc G.objs.size fp s H) [] (v++(u++σ)) H' s8/\tn i s8.heap/\(∀ b∈fp,H' b=none)/\W i m ys H':=fun {H8 s8 zs w6} hw6 I8 ⟨m',hm,w8⟩=>by
    refine⟨m',hm,i+1,w6,u6,zs,H8,hw6,hu6,I8.unpinned,T.keep _ _ _ st5 fun b hb o e=>(I8.pin (b,o) (C3 _ (C3 _ (ej hb e)))).1,fun b hb=>?_,w8⟩
    obtain⟨o,e,d⟩:=T.obj _ _ st5 b hb
    exact(I8.pin (b,o) (C3 _ (C3 _ (ej hb e)))).2.1
   have loop2:∀ s9:Shared,s9=s8->Gw (model X.prog X.w) X.A (.compLoop (.SetComp elt [⟨tg,iter,[],0⟩,⟨tg1,i1,ifs,0⟩] sc pos) 1 (.ref it2) (.ref s.heap.objs.size) (Hk sc (cj sc X.env.cells) G.objs.size X.env))
     (fun r s5=>match r with|.ok _=>∃ m,m<n/\∃ i v u ys H',v.length=xs2.length/\u.length=xs1.length/\aa (aI X (xs2++xs1) Ns sc G.objs.size fp s H) [] (v++(u++σ)) H' s5/\tn i s5.heap/\(∀ b∈fp,H' b=none)/\W i m ys H'|.error _=>False) s9:=by
    rintro s9 rfl
    have fpk2:∀ {H':Hp},(∀ b∈fp2,H' b=none)->∀ b∈fp2,aZ (aI X (xs2++xs1) Ns sc G.objs.size fp s H) ([]++dG fp s5.heap) H' b:=fun hn b hb=>⟨hn b hb,(f8 b hb).2⟩
    refine yq (fun m s'=>∃ j v zs H',v.length=xs2.length/\aa (aI X (xs2++xs1) Ns sc G.objs.size fp s H) ([]++dG fp s5.heap) (v++(u6++σ)) H' s'/\tn2 j s'.heap/\(∀ b∈fp2,H' b=none)/\W2 j m zs H') ?_ m20 ⟨0,v0,ys,H8,hv0,I8,st8,fun b hb=>(f8 b hb).1,w20⟩
    rintro mm sA ⟨j,vA,zs,HA,hvA,IA,stA,frA,wA⟩
    obtain⟨hDA,turnA⟩:=turn2 j mm zs HA wA
    rcases turnA with⟨stop2,fin2⟩|⟨go2,step2⟩
    ·refine ag (T2.done (aI X (xs2++xs1) Ns sc G.objs.size fp s H) rfl rfl rfl hc j _ sA _ HA _ IA (fpk2 frA) stA stop2) fun r sB ⟨hr,IB⟩=>?_
     subst hr
     obtain⟨aT,oT,uT,eT,dT,h0T,wT⟩:=fin2
     exact again hvA (IB.thaw dT eT h0T) wT
    ·refine ag (T2.item (aI X (xs2++xs1) Ns sc G.objs.size fp s H) rfl rfl rfl hc j _ sA _ HA _ IA (fpk2 frA) stA go2) fun r sB ⟨u2,hr,hB⟩=>?_
     subst hr
     refine ag hB fun _ sC ⟨yC,HC,IC,rC,yC',stC,frC⟩=>?_
     have IC':=IC.pinned (fpk2 frC) (T2.obj _ _ stC)
     refine ag (hg2 G.objs.size s H _ sC _ HC yC u2 _ IC' rC (step2 yC HC vA hvA yC')) fun _ sD ⟨σD,HD,ID,⟨wD,hwD,eD⟩,qD⟩=>?_
     subst eD
     refine ag (ht G.objs.size s H _ sD _ HD _ ID qD) fun ok sE ⟨HE,IE,qE⟩=>?_
     have again2:∀ {H8:Hp}{s8:Shared}{zs:List af},aa (aI X (xs2++xs1) Ns sc G.objs.size fp s H) (([]++dG fp s5.heap)++dG fp2 sC.heap) (wD++(u6++σ)) H8 s8->(∃ m',m'<mm/\W2 (j+1) m' zs H8)->∃ m,m<mm/\∃ j v zs H',v.length=xs2.length/\aa (aI X (xs2++xs1) Ns sc G.objs.size fp s H) ([]++dG fp s5.heap) (v++(u6++σ)) H' s8/\tn2 j s8.heap/\(∀ b∈fp2,H' b=none)/\W2 j m zs H':=fun {H8 s8 zs} I8 ⟨m',hm,w8⟩=>by
      refine⟨m',hm,j+1,wD,zs,H8,hwD,I8.unpinned,T2.keep _ _ _ stC fun b hb o e=>(I8.pin (b,o) (C3 _ (C3 _ (ej hb e)))).1,fun b hb=>?_,w8⟩
      obtain⟨o,e,d⟩:=T2.obj _ _ stC b hb
      exact(I8.pin (b,o) (C3 _ (C3 _ (ej hb e)))).2.1
     cases ok with
     | false =>
      rw[if_neg Bool.false_ne_true] at qE ⊢
      exact again2 IE qE
     | true =>
      rw[if_pos rfl] at qE ⊢
      refine ag (he G.objs.size s H _ sE _ HE _ IE qE) fun z sF ⟨zv,HF,IF,rF,hDF,hzF,kF,eF,wF⟩=>?_
      subst eF
      exact wY (X:=aI X (xs2++xs1) Ns sc G.objs.size fp s H) IF hDF rF hzF fun sG IG=>again2 IG wF
   exact Ch (E:=fun _ _=>False) (loop2 _ rfl) (T2.self X.A 0 _ _ _ st8 (loop2 _ rfl))
 exact Cv (loop _ rfl) (T.self X.A 0 _ _ _ st1 (loop _ rfl))
theorem Aw (hc:X.calm=true)(S:dH X (xs2++xs1) Ns sc)(hi:PI X tg iter wi)(hg:∀ C fp s0 H0,PG (aI X (xs2++xs1) Ns sc C fp s0 H0) tg g)(hi2:∀ C fp s0 H0,PI (aI X (xs2++xs1) Ns sc C fp s0 H0) tg1 i1 wi2)(hg2:∀ C fp s0 H0,PG (aI X (xs2++xs1) Ns sc C fp s0 H0) tg1 g2)
  (ht:∀ C fp s0 H0,fw (aI X (xs2++xs1) Ns sc C fp s0 H0) ifs tc) (he:∀ C fp s0 H0,PE (aI X (xs2++xs1) Ns sc C fp s0 H0) elt te)
  (hs:∀ v,Gq iter X.env v=pure v:=by intro _;rfl) (hs2:∀ C v,Gq i1 (Hk sc (cj sc X.env.cells) C X.env) v=pure v:=by intro _ _;rfl):PE X (.SetComp elt [⟨tg,iter,[],0⟩,⟨tg1,i1,ifs,0⟩] sc pos) (CO X.prog X.w xs1.length xs2.length wi g wi2 g2 tc te):=by
 refine⟨?_⟩
 intro pins s σ H Q I h
 rw[Au]
 refine Hw (use:=none) rfl hs (ki (S.cells I.ok)) S.kind S.names (ag (hi pins s σ H _ I h) fun v s1 h1=>ag h1 fun itv s2 h2=>?_)
 obtain⟨it,fp,tn,J,H2,e,I2,T,st2,f2,q2⟩:=h2
 subst e
 refine zY (RR:=fun acc C=>compPost (model X.prog X.w) X.A X.xe none (EP X pins σ Q) acc C) (Fin:=fun D H3=>Q (.ref D) H3) hc S I2 T st2 f2 (fun C s0 H0=>hg C fp s0 H0) (fun C s0 H0=>hi2 C fp s0 H0) (fun C s0 H0=>hg2 C fp s0 H0) (fun C s0 H0=>ht C fp s0 H0) (fun C s0 H0=>he C fp s0 H0) q2 ?_ hs2
 intro D C H3 s3 m hC I3 hn hN q3
 refine⟨m,hN,fun h' hs'=>⟨.ref D,H3,I3.butC hs' (EY I2.sz hC) hn (E1 (EW I2.lt hC)) (fun y c e=>?_) (fun p hp=>?_),rfl,q3⟩⟩
 ·obtain⟨v,z⟩:=I2.cell y c e
  exact EV (EW z.lt hC)
 ·exact EV (EW (EK (I2.pin p hp).1) hC)
end
end L2
namespace L2
open PySem PySem.Spec PyProof.Rows
section
variable {X:Cx}{xs Ns:List Str}{sc:Scope}{tg iter elt:Expr}{ifs:List Expr}{pos:Pos}{wi:TI}{g:TG}{tc:TT}{te:TE}
end
end L2
namespace L2
open PySem PySem.Spec PyProof.Rows
section
variable {X:Cx}{pins:List (Addr×Obj)}{σ:St}{H:Hp}{s:Shared}
end
section
variable {X:Cx}{xs Ns:List Str}{sc:Scope}{elt vx iter tg:Expr}{ifs:List Expr}{pos:Pos}{wi:TI}{g:TG}{tc:TT}{te tv:TE}
end
end L2
namespace Srt
open PySem
end Srt
namespace L2
open PySem PySem.Spec PySem.W PyProof.Rows
open Classical in
noncomputable def gK (base h:Heap) (L:Addr):List (Addr×Obj):=(C2 h.objs.size).filterMap fun b=>if b=L\/base.get? b≠none then none else (h.get? b).map fun o=>(b,o)
theorem nO (base h:Heap)(L:Addr):News base L h (gK base h L):=by
 intro p hp
 unfold gK at hp
 obtain⟨b,_,e⟩:=List.mem_filterMap.mp hp
 split at e
 ·cases e
 ·rename_i hn
  obtain⟨o,ho,rfl⟩:=Option.map_eq_some_iff.mp e
  exact⟨ho,fun z=>hn (.inl z),Classical.byContradiction fun z=>hn (.inr z)⟩
theorem yv {base h:Heap}{L b:Addr}{o:Obj}(e:h.get? b=some o)(hL:b≠L)(hb:base.get? b=none):(b,o)∈gK base h L:=by
 unfold gK
 refine List.mem_filterMap.mpr ⟨b,List.mem_range.mpr (EK e),?_⟩
 rw[if_neg (by rintro (z|z);exact hL z;exact z hb),e]
 rfl
section
variable {X:Cx}{pins:List (Addr×Obj)}{σ:St}{H:Hp}{s:Shared}
theorem aa.ofFr {h':Heap}{t':Nat}{m:Str->Option Value}{more:List (Addr×Obj)}(I:aa X pins σ H s)(hm:s.heap.Ns X.env.locals m)(F:Fr X.base X.env.locals h' m)(N:News X.base X.env.locals h' (more++gK X.base s.heap X.env.locals)) :
  (∀ b o,b≠X.env.locals->s.heap.get? b=some o->h'.get? b=some o)/\aa X pins σ H { s with heap:=h',toks:=t' }:=by
 have keep:∀ b o,b≠X.env.locals->s.heap.get? b=some o->h'.get? b=some o:=fun b o hb e=>by
  cases q:X.base.get? b with
  | some o' =>
   have e1:=I.bk b o' q
   rw[e] at e1
   cases e1
   exact F.keep b o q
  | none=>exact(N (b,o) (C3 _ (yv e hb q))).1
 have hL:∃ o,s.heap.get? X.env.locals=some o:=let ⟨o,_,_,e,_⟩:=hm;⟨o,e⟩
 refine⟨keep,I.step (g':=s.gens) (d':=s.drawn) (ch:=[]) (fun b hb=>by simp at hb) (fun b o hb _ _ e _=>keep b o hb e) (fun b o hb _ _ e _=>⟨o.slots,keep b o hb e⟩) (fun _ _ _ _ n=>n) (fun b o _ e=>?_) (fun _ _ e=>e) (fun _ _ _ e=>e) (fun b ps e=>⟨#[],by rw[e];simp⟩) (fun m' hm'=>?_) (fun b u e=>?_) I.bare⟩
 ·by_cases hb:b=X.env.locals
  ·obtain⟨o',_,_,e',_⟩:=F.ns
   exact⟨o',by rw[hb];exact e'⟩
  ·exact⟨o,keep b o hb e⟩
 ·have em:m'=m:=by
   funext y
   obtain⟨o,es,ep,ho,hd,hk,hf⟩:=hm
   obtain⟨o',es',ep',ho',hd',hk',hf'⟩:=hm'
   rw[ho] at ho';cases ho'
   rw[hd] at hd';cases hd'
   rw[<-hf y,<-hf' y]
  rw[em];exact F.ns
 ·refine(I.hok b u e).stay (fun c v hc q=>keep c v ?_ q) (fun _ q=>q) fun _ _ q=>q
  rintro rfl
  rcases hc with rfl|hc
  ·rw[I.free] at e;cases e
  ·rw[I.free] at hc;cases hc
theorem aa.trackG {a:Addr}{o:HO}{ob:Obj}(I:aa X pins σ H s)(he:s.heap.get? a=some ob)(nL:X.env.locals≠a)(nd:∀ v,ob.data≠.cell v)(hn:H a=none)(x0:X.s₀.heap.get? a=none)(xp:∀ p∈X.pn++pins,p.1≠a)(new:aS X.prog X.w (upd H a o) s.heap a o):aa X pins σ (upd H a o) s:=by
 have na:∀ {b u},H b=some u->b≠a:=fun {b u} e z=>by rw[z,hn] at e;cases e
 refine⟨I.ok,I.os,I.bare,⟨I.base.keep,I.base.slot,fun b o e n hx=>?_,I.base.there,fun b xs e=>?_,fun b o u e=>?_,fun b ps e=>?_⟩,I.loc,I.cell,?_,fun y c e=>?_,fun p hp=>?_,fun b ob' e=>?_,I.len⟩
 ·rw[upd_ne (fun z=>by rw[z,x0] at e;cases e)];exact I.base.free b o e n hx
 ·have e1:=I.base.tups b xs e
  rw[upd_ne (na e1)];exact e1
 ·have e1:=I.base.frzs b o u e
  rw[upd_ne (na e1)];exact e1
 ·obtain⟨m,e1⟩:=I.base.tbls b ps e
  exact⟨m,by rw[upd_ne (na e1)];exact e1⟩
 ·rw[upd_ne nL];exact I.free
 ·have nc:c≠a:=fun z=>by
   obtain⟨v,o,ho,hdd⟩:=I.cell y c e
   rw[z,he] at ho;cases ho;exact nd _ hdd
  rw[upd_ne nc];exact I.freeC y c e
 ·obtain⟨e1,e2,e3⟩:=I.pin p hp
  exact⟨e1,by rw[upd_ne (xp p hp)];exact e2,e3⟩
 ·by_cases hb:b=a
  ·subst hb
   rw[ae] at e
   cases e
   exact new
  ·rw[upd_ne hb] at e
   refine(I.hok b ob' e).stay (fun c u _ q=>q) (fun c q=>?_) fun c xs q=>?_
   ·rw[upd_ne (na q)];exact q
   ·rw[upd_ne (na q)];exact q
end
end L2
namespace L2
open PySem PySem.Spec PySem.W PyProof.Rows
section
variable {X:Cx}
end
end L2
namespace L2
open PySem PySem.Spec PyProof.Rows
section
variable {prog:FN}{w:World}{A:Around}{E:Value->Shared->Prop}{s:Shared}
theorem zc {a:Addr}{vs:List Value}{n:Nat}{P:PySem.Fin->Shared->Prop}(ho:s.heap.get? a=some (Hz "list" vs.toArray n))(h2:vs.length<2)(h:P (.done (.ret .none)) { s with heap:=sortedHeap s.heap a vs vs.toArray }):wpAny (model prog w) A (Builtin.«list.sort» ⟨[.ref a],[]⟩) P E s:=by
 rw[list_sort_plain]
 have ha:=EK ho
 have hz:vs.length<=FO:=by rw[Gs];omega
 refine Ge (HU ho rfl (Ge (HH ho rfl ?_ (by rw[CY];exact hz) (EX _))))
 obtain⟨e1,ho1⟩:∃ e1,(s.heap.update a (Obj.mapSeq fun _=>(#[]:Array Value))).get? a=some (Hz "list" #[] e1):=⟨_,HS ho fun _=>#[]⟩
 refine Ge (HR ho1 rfl (Ge (Ii (Ge (Ic (Gf ?_) (EX _))) hz)))
 have ho6:(((s.heap.update a (Obj.mapSeq fun _=>(#[]:Array Value))).push (Hz "tuple" vs.toArray 0)).push (Hz "list" #[] 0)).get? a=some (Hz "list" #[] e1):=EL _ (EL _ ho1)
 show wpAny (model prog w) A _ P E { s with heap:=((s.heap.update a (Obj.mapSeq fun _=>(#[]:Array Value))).push (Hz "tuple" vs.toArray 0)).push (Hz "list" #[] 0) }
 dsimp only
 have hs2:vs.toArray.size<2:=by rw[CY];exact h2
 rw[if_pos hs2,if_pos hs2]
 refine Ge (Gh ?_)
 rw[StateT.run_pure]
 refine Ge (Gh ?_)
 dsimp only
 have eo:(arrOf (SortSt.mk' general' (vs.toArray.zip vs.toArray) #[] 7 none)).map (·.2)=vs.toArray:=by
  show (vs.toArray.zip vs.toArray).map (·.2)=vs.toArray
  refine Array.ext (by simp) fun i h1 h2=>by simp
 refine Ge (HR ho6 rfl (Ge (HH ho6 rfl ?_ (EX _) (by rw[eo,CY];omega))))
 rw[eo]
 simp only[bne_self_eq_false,Bool.false_eq_true,if_false]
 exact Gh h
end
section
variable {X:Cx}
end
end L2
namespace L2
open PySem PySem.Spec PySem.W PyProof.Rows
section
variable {X:Cx}{pins:List (Addr×Obj)}{σ:St}{H:Hp}{s:Shared}
theorem uq {xs:List V}{vs:List Value}(rv:ap xs vs):∀ l:List Nat,(∀ i∈l,i<xs.length)->ap (l.map fun i=>xs.getD i .non) (l.map fun i=>vs.getD i Value.none)
 | [],_=>.nil
 | i::r,hl=>by
  have hi:=hl i C6
  obtain⟨u,hu,ru⟩:=rv.get (CZ hi)
  rw[C1,C1]
  refine .cons ?_ (uq rv r fun j hj=>hl j (C5 _ hj))
  rw[C0,C0,hu,CZ hi]
  exact ru
theorem ux {p:Addr}{Q:VK}{PV:List Value->Prop}(hex:X.ex=[])(I:aa X pins σ H s)
  (hcol:∀ Q':List Value->Shared->Prop,(∀ vs (h':Heap) tk d,(∀ b o,s.heap.get? b=some o->h'.get? b=some o)->PV vs->Q' vs { s with heap:=h',toks:=tk,drawn:=d })->wpAny (model X.prog X.w) X.A.in1 (collect (.ref p)) Q' X.xe s)
  (hgo:∀ vs,PV vs->∃ (xs:List V) (lt:Nat->Nat->Bool),ap xs vs/\xs.length<64/\(∀ s',aa X pins σ H s'->2<=xs.length->∃ κ,rR X xs.length vs s' κ lt) /\
   ∀ D (is:List Nat),is.Perm (C2 xs.length)->is.Pairwise (Srt.R lt)->H D=none->Q (.ref D) (upd H D (.lst (is.map fun i=>xs.getD i .non)))) :
  wpAny (model X.prog X.w) X.A (call (.builtin "sorted") [.ref p]) (EP X pins σ Q) X.xe s:=by
 refine Calls.call_function_entry HV HW Ia (IW _) ?_
 unfold Builtin.«sorted»
 refine Ge (m:=Ib "sorted" 1 1 _) (Gh (Ge (hcol _ fun vs h' tk d keep pv=>?_)))
 obtain⟨xs,lt,rv,h64,hask,q⟩:=hgo vs pv
 have hlen:xs.length=vs.length:=rv.length
 have hz:vs.length<=FO:=by rw[Gs];omega
 refine Ge (Ic ?_ hz)
 have oL:(h'.push (Hz "list" vs.toArray 0)).get? h'.objs.size=some (Hz "list" vs.toArray 0):=EM _ rfl
 have I1:aa X pins σ H { s with heap:=h',toks:=tk,drawn:=d }:=(I.kept (t':=tk) keep).drawn d
 by_cases h2:vs.length<2
 ·refine Ge (Gf (GM Ig (s:={ s with heap:=h'.push (Hz "list" vs.toArray 0),toks:=tk,drawn:=d }) ⟨_,oL,rfl⟩ Ih (zc oL h2 ⟨_,rfl,Gh ⟨_,rfl,?_⟩⟩) (IX _)))
  obtain⟨e,he⟩:=IY (out:=vs.toArray) oL
  have hq:Q (.ref h'.objs.size) (upd H h'.objs.size (.lst xs)):=by
   have:=q h'.objs.size (C2 xs.length) (List.Perm.refl _) (by
    match xs,hlen with
    | [],_=>exact List.Pairwise.nil
    | [_],_=>exact DN _ _
    | _::_::_,e=>simp only[C4] at e;omega) (I1.hok.fresh (EU _))
   have e2:((C2 xs.length).map fun i=>xs.getD i .non)=xs:=by
    apply DC (by simp)
    intro i h1 h2
    rw[EE,EF,C0,CZ h2]
    rfl
   rw[e2] at this
   exact this
  refine⟨.ref h'.objs.size,_,I1.laid (t':=tk) (o:=.lst xs) (fun b u e=>?_) (EU _) ⟨by rw[Gs];omega,vs,e,rv,he⟩,rfl,hq⟩
  have hb:=EK e
  rw[IZ (EV hb) (by rw[Ie];exact E6 hb)]
  exact EL _ e
 obtain⟨m,hm,_⟩:=id I1.loc
 have gk:∀ b o,h'.get? b=some o->(h'.push (Hz "list" vs.toArray 0)).get? b=some o:=fun b o e=>EL _ e
 have F:Fr X.base X.env.locals (h'.push (Hz "list" vs.toArray 0)) m:=⟨hm.keeps gk,fun b o e=>gk b o (I1.bk b o e),EY I.ok.bsz I.ok.above⟩
 have N:News X.base X.env.locals (h'.push (Hz "list" vs.toArray 0)) (gK X.base h' X.env.locals):=(nO X.base h' X.env.locals).grown gk
 have hLl:X.env.locals<h'.objs.size:=I1.lt
 refine Ge (Gf (GM Ig (s:={ s with heap:=h'.push (Hz "list" vs.toArray 0),toks:=tk,drawn:=d }) ⟨_,oL,rfl⟩ Ih ?body (IX _)))
 case body =>
  refine kat_list_sort (s:={ s with heap:=h'.push (Hz "list" vs.toArray 0),toks:=tk,drawn:=d }) F N oL (E1 hLl) (ER (EY I.ok.bsz (EY I.ok.above (E7 hLl)))) (fun p hp=>EV (EK ((nO X.base h' X.env.locals) p hp).1)) (by omega) (by omega) fun e1 h3 F3 N3=>?_
  obtain⟨_,I3⟩:=I1.ofFr (t':=tk) (more:=[(h'.objs.size,Hz "list" #[] e1)]) hm F3 N3
  obtain⟨κ,ak⟩:=hask _ I3 (by omega)
  refine ak.kind (by omega) _ ?_
  refine Srt.good_wp (n:=vs.length) (lt:=lt) (fun i j C hi hj hC=>ak.ask i j C (by omega) (by omega) hC) _ (Srt.good_mono (fun pp hp2=>?_) _ (Srt.sort_ok ak.ord (by omega)))
  obtain⟨o1,o2⟩:=Srt.out_ok hp2.1 hp2.2
  refine KasFin.intro F3 N3 (.head fun q hq=>EV (EK ((nO X.base h' X.env.locals) q hq).1)) fun h4 c F4 N4=>⟨_,rfl,Gh ⟨_,rfl,?_⟩⟩
  obtain⟨kp,I4⟩:=I1.ofFr (t':=tk) (more:=[(h'.objs.size,listOf (Di (pp.toList.map fun i=>vs.getD i Value.none)) c)]) hm F4 N4
  obtain⟨d1,d2,d3⟩:=N4 _ C6
  have hD:H h'.objs.size=none:=I1.hok.fresh (EU _)
  have x0:X.s₀.heap.get? h'.objs.size=none:=by
   cases e:X.s₀.heap.get? h'.objs.size with
   | none=>rfl
   | some o =>
    obtain⟨o',e2⟩:=I1.base.there _ o e (by rw[hex];simp)
    exact absurd (EK e2) (E3 _)
  have xp:∀ p∈X.pn++pins,p.1≠h'.objs.size:=fun p hp z=>absurd (EK (I1.pin p hp).1) (by rw[z];exact E3 _)
  have vls:=uq rv pp.toList fun i hi=>by rw[hlen];exact List.mem_range.mp (o1.mem_iff.mp hi)
  refine⟨.ref h'.objs.size,_,I4.trackG (o:=.lst (pp.toList.map fun i=>xs.getD i .non)) d1 (Ne.symm d2) (fun v z=>nomatch z) hD x0 xp ⟨?_,_,c,vls,d1⟩,rfl,q _ _ (by rw[hlen];exact o1) o2 hD⟩
  rw[CW,o1.length_eq,D4,Gs];omega
end
section
variable {X:Cx}
theorem Be {pins:List (Addr×Obj)}{σ:St}{H:Hp}{s:Shared}{A:Around}{E:Value->Shared->Prop}{p:Addr}{o:HO}{xs:List V}(I:aa X pins σ H s)(h:H p=some o)(ob:Ob o xs)(Q':List Value->Shared->Prop)
  (q:∀ vs (h':Heap) tk d,(∀ b o,s.heap.get? b=some o->h'.get? b=some o)->ap xs vs->Q' vs { s with heap:=h',toks:=tk,drawn:=d }):wpAny (model X.prog X.w) A (collect (.ref p)) Q' E s:=by
 rcases ob with rfl|rfl
 ·obtain⟨hz,its,n,rv,e⟩:=I.hok p _ h
  refine wpAny_collect_seq p (T:="list") (.inl rfl) e rfl rfl (fun h' k=>?_) (by rw[CY,<-rv.length];exact hz)
  exact q _ h' s.toks s.drawn k rv
 ·obtain⟨hz,its,rv,ob,e,hc,n,hd⟩:=I.hok p _ h
  refine wpAny_collect_seq p (T:="tuple") (.inr rfl) e hc hd (fun h' k=>?_) (by rw[CY,<-rv.length];exact hz)
  exact q _ h' s.toks s.drawn k rv
end
end L2
namespace Srt
open PySem
abbrev T3:=Int×Str×Int
def tlt (a b:T3):Bool:=if a.1=b.1 then (if a.2.1=b.2.1 then decide (a.2.2<b.2.2) else decide (a.2.1.cps.toList<b.2.1.cps.toList)) else decide (a.1<b.1)
theorem tlt_plt {a b:T3}(h:(a.1,a.2.1)≠(b.1,b.2.1)):tlt a b=plt (a.1,a.2.1) (b.1,b.2.1):=by
 unfold tlt plt
 by_cases e:a.1=b.1
 ·rw[if_pos e,if_pos e,if_neg fun z=>h (by rw[e,z])]
 ·rw[if_neg e,if_neg e]
theorem jc {a b:T3}(h:(a.1,a.2.1)=(b.1,b.2.1)):tlt a b=decide (a.2.2<b.2.2):=by
 unfold tlt
 rw[if_pos (by injection h),if_pos (by injection h)]
def ltE (es:List T3)(i j:Nat):Bool:=tlt (es.getD i (0,⟨#[]⟩,0)) (es.getD j (0,⟨#[]⟩,0))
theorem yO {a b:T3}(h:tlt a b=true):tlt b a=false:=by
 by_cases e:(a.1,a.2.1)=(b.1,b.2.1)
 ·rw[jc e] at h
  rw[jc e.symm]
  have:=of_decide_eq_true h
  exact decide_eq_false (by omega)
 ·rw[tlt_plt e] at h
  rw[tlt_plt (Ne.symm e)]
  exact l9 h
theorem xH {a b c:T3}(h:tlt b a=false)(h':tlt c b=false):tlt c a=false:=by
 by_cases e:(b.1,b.2.1)=(a.1,a.2.1)
 ·by_cases e':(c.1,c.2.1)=(b.1,b.2.1)
  ·rw[jc e] at h
   rw[jc e'] at h'
   rw[jc (e'.trans e)]
   have:=of_decide_eq_false h
   have:=of_decide_eq_false h'
   exact decide_eq_false (by omega)
  ·rw[tlt_plt e'] at h'
   rw[tlt_plt (by rw[<-e];exact e'),<-e]
   exact h'
 ·by_cases e':(c.1,c.2.1)=(b.1,b.2.1)
  ·rw[tlt_plt e] at h
   rw[tlt_plt (by rw[e'];exact e),e']
   exact h
  ·rw[tlt_plt e] at h
   rw[tlt_plt e'] at h'
   have t:=plt_tr h h'
   by_cases e2:(c.1,c.2.1)=(a.1,a.2.1)
   ·rw[<-e2] at h
    exact absurd (plt_one h' h) e'
   ·rw[tlt_plt e2]
    exact t
theorem ltE_ord (es:List T3):Ord (ltE es):=⟨yO,xH⟩
end Srt
namespace L2
open PySem PySem.Spec PySem.W PyProof.Rows
section
variable {X:Cx}{pins:List (Addr×Obj)}{σ:St}{H:Hp}{s:Shared}
abbrev tE (H:Hp):List V->List Srt.T3->Prop:=Paired fun x e=>∃ a,x=.ref a/\H a=some (.tup [.int e.1,.str e.2.1,.int e.2.2])
theorem mG (I:aa X pins σ H s){t:Addr}{m v:Int}{k:Str}(h:H t=some (.tup [.int m,.str k,.int v])):∃ o n tm tk tv,s.heap.get? t=some o/\o.cls=.type "tuple"/\o.data=.seq #[.int m tm,.str k tk,.int v tv] n:=by
 obtain⟨_,its,rv,o,ho,hc,n,hd⟩:=I.hok t _ h
 cases rv with
 | cons r1 rv =>
  obtain⟨u,v,rfl,⟨tk,rfl⟩,⟨tv,rfl⟩⟩:=fg rv
  obtain⟨tm,rfl⟩:=r1
  exact⟨o,n,tm,tk,tv,ho,hc,hd⟩
theorem Bv (I:aa X pins σ H s){A:Around}{t t':Addr}{e e':Srt.T3}(h:H t=some (.tup [.int e.1,.str e.2.1,.int e.2.2]))(h':H t'=some (.tup [.int e'.1,.str e'.2.1,.int e'.2.2])){C:Bool->Shared->Prop}{E:Value->Shared->Prop}(q:C (Srt.tlt e e') s) :
  wpAny (model X.prog X.w) A (keyLt' (Ip true) (.ref t) (.ref t')) C E s:=by
 obtain⟨o,n,tm,tk,tv,ho,hc,hd⟩:=mG I h
 obtain⟨o',n',tm',tk',tv',ho',hc',hd'⟩:=mG I h'
 unfold Srt.tlt at q
 refine W.kat_lt ho hd ho' hd' ?_
 refine W.kat_cons (Iq (W.kat_go (fun e1=>W.kat_yes ?_) fun e1=>W.kat_no ?_))
 ·have e1':e.1=e'.1:=by simpa using e1
  rw[if_pos e1'] at q
  refine W.kat_cons (wpAny_eqBool_str (W.kat_go (fun e2=>W.kat_yes ?_) fun e2=>W.kat_no ?_))
  ·have e2':e.2.1=e'.2.1:=by simpa using e2
   rw[if_pos e2'] at q
   refine W.kat_cons (Iq (W.kat_go (fun e3=>W.kat_yes (W.kat_nil ?_)) fun e3=>W.kat_no ?_))
   ·have e3':e.2.2=e'.2.2:=by simpa using e3
    rw[decide_eq_false (by omega)] at q
    exact q
   ·exact W.kat_one _ _ (lt_int q)
  ·have e2':¬ e.2.1=e'.2.1:=by simpa using e2
   rw[if_neg e2'] at q
   exact W.kat_one _ _ (lt_str q)
 ·have e1':¬ e.1=e'.1:=by simpa using e1
  rw[if_neg e1'] at q
  exact oneLt_int q
theorem vE (I:aa X pins σ H s):∀ {xs:List V}{ks:List Value}{es:List Srt.T3},ap xs ks->tE H xs es->∃ fs,W.KatTups s.heap ks fs/\fs.length=ks.length/\∀ v∈fs,∃ m tm,v=Value.int m tm
 | _,_,_,.nil,.nil=>⟨[],.nil,rfl,fun v h=>nomatch h⟩
 | _,_,_,.cons rx rv,.cons ⟨t,e,h⟩ r=>by
  obtain⟨fs,h1,h2,h3⟩:=vE I rv r
  obtain⟨o,n,tm,tk,tv,ho,hc,hd⟩:=mG I h
  subst e
  cases rx
  refine⟨_::fs,.cons ho hc hd rfl h1,by rw[C4,C4,h2],fun v hv=>?_⟩
  rcases List.mem_cons.mp hv with rfl|hv
  ·exact⟨_,_,rfl⟩
  ·exact h3 v hv
inductive vh (vs:List V)(H:Hp)(Q:VK):Prop
 | mk (p:Addr)(o:HO)(xs:List V)(es:List Srt.T3)(e:vs=[.ref p])(h:H p=some o)(ob:Ob o xs)(t:tE H xs es)(h64:es.length<64)
  (q:∀ D (is:List Nat),is.Perm (C2 es.length)->is.Pairwise (Srt.R (Srt.ltE es))->H D=none->Q (.ref D) (upd H D (.lst (is.map fun i=>xs.getD i .non)))):vh vs H Q
theorem wJ (hex:X.ex=[]:=by rfl):bm X (.builtin "sorted") vh:=by
 intro pins s σ H xs us Q I r h
 obtain⟨p,o,ys,es,rfl,hp,ob,tr,h64,q⟩:=h
 obtain⟨u,rfl,rx⟩:=bX r
 cases rx
 have hl:ys.length=es.length:=Paired.length tr
 refine ux (PV:=ap ys) hex I (fun Q' hq=>Be I hp ob Q' hq) fun vs rv=>⟨ys,Srt.ltE es,rv,by omega,fun s' I' h2=>⟨Ip true,Srt.ltE_ord es,fun _ Q' hQ=>?_,fun i j C hi hj hC=>?_⟩,fun D is p1 p2 hD=>q D is (by rw[<-hl];exact p1) p2 hD⟩
 ·obtain⟨fs,t1,t2,t3⟩:=vE I' rv tr
  have:=rv.length
  refine W.kat_kind (T:=.type "int") t1 (by omega) (fun v hv=>?_) (by decide +kernel) ?_
  ·obtain⟨m,tm,rfl⟩:=t3 v hv
   exact W.Looks.of_pure rfl
  ·exact hQ
 ·have hi':es[i]?=some es[i]:=CZ (by omega)
  have hj':es[j]?=some es[j]:=CZ (by omega)
  obtain⟨u,eu,t,rfl,ht⟩:=Paired.getR tr hi'
  obtain⟨u',eu',t',rfl,ht'⟩:=Paired.getR tr hj'
  obtain⟨w1,hw1,r1⟩:=rv.get eu
  obtain⟨w2,hw2,r2⟩:=rv.get eu'
  cases r1
  cases r2
  unfold W.kas_ask
  rw[C0,C0,hw1,hw2]
  refine Bv I' ht ht' ?_
  unfold Srt.ltE at hC
  rw[C0,C0,hi',hj'] at hC
  exact hC
end
end L2
namespace Ss
open PySem PySem.Spec
section
variable {prog:FN}{w:World}{K:Type}[DecidableEq K]{knd:KeyKind prog w K}{A:Around}{R:Gv->Shared->Prop}{E:Value->Shared->Prop}{I:Addr}{fp wr:List Addr}{n:Nat}{P:Nat->Value->Prop}{St:Nat->Heap->Prop}
end
section
variable {prog:FN}{w:World}{A:Around}{E:Value->Shared->Prop}{s:Shared}
end
section
variable {prog:FN}{w:World}{K:Type}[DecidableEq K]{knd:KeyKind prog w K}{A:Around}{E:Value->Shared->Prop}{s:Shared}
end
end Ss
namespace L2
open PySem PySem.Spec PyProof.Rows
section
variable {X:Cx}
end
end L2
namespace L2
open PySem PySem.Spec PyProof.Rows
section
variable {X:Cx}
end
end L2
namespace L2
open PySem PySem.Spec PyProof.Rows
abbrev iI (n i:Nat)(Pv:Nat->Prop):Prop:=∃ m',m'<n-i/\m'=n-(i+1)/\i+1<=n/\Pv (i+1)
theorem sN {n i:Nat}{Pv:Nat->Prop}(hi:i<n)(h:Pv (i+1)):iI n i Pv:=⟨n-(i+1),by omega,rfl,hi,h⟩
theorem Ai {P:FN}{w:World}{K:W.Frag}{a:Addr}{xs:List V}{n1 n2:Nat}{g:TG}{wi2:TI}{g2:TG}{tc:TT}{te:TE}{σ:St}{D:Addr}{Fin:Hp->Prop}{H0:Hp}(Pv:Nat->List af->Hp->Prop)(h0:Pv 0 [] (upd H0 D (bZ P w D [])))
  (hD:∀ i ks H,Pv i ks H->H D=some (bZ P w D ks)/\aV K H a xs) (hend:∀ ks H,Pv xs.length ks H->Fin H)
  (hgo:∀ i x ks H (v u:St),v.length=n2->u.length=n1->i<xs.length->xs[i]?=some x->Pv i ks H->g x (v++(u++σ)) H fun σ2 H2=>∃ u2:St,u2.length=n1/\σ2=v++(u2++σ)/\wi2 σ2 H2 fun J2 H3 =>
   jC P w n2 g2 tc te (u2++σ) J2 D ks H3 fun zs H4=>∃ b o uu,H4 b=some (.frz o uu)/\fH uu/\(∀ o' u',H0 b≠some (.frz o' u'))/\iI xs.length i fun j=>Pv j zs (upd H4 b uu)):nW P w n1 n2 g wi2 g2 tc te σ (fX K a) D Fin H0:=by
 refine⟨fun i m ks H=>m=xs.length-i/\i<=xs.length/\Pv i ks H,⟨xs.length,rfl,EX _,h0⟩,?_⟩
 rintro i m ks H ⟨rfl,hi,p⟩
 refine⟨(hD i ks H p).1,?_⟩
 by_cases hlt:i<xs.length
 ·refine .inr ⟨⟨xs,xs[i],(hD _ _ _ p).2,CZ hlt⟩,fun x H' v u hv hu y=>?_⟩
  obtain⟨e,y⟩:=y
  subst e
  exact hgo i x ks _ v u hv hu hlt (y xs (hD _ _ _ p).2) p
 ·obtain rfl:i=xs.length:=by omega
  exact .inl ⟨⟨xs,(hD _ _ _ p).2,EU _⟩,hend ks H p⟩
theorem wy {P:FN}{w:World}{a:Addr}{o:Obj}{kvs:List (af×V)}{n:Nat}{g:TG}{tc:TT}{te:TE}{σ:St}{D:Addr}{ks0:List af}{H0:Hp}{Fin:List af->Hp->Prop}(Pv:Nat->List af->Hp->Prop)(h0:Pv 0 ks0 H0)
  (hD:∀ i ks H,Pv i ks H->H D=some (bZ P w D ks)/\H a=some (.frz o (.dK kvs))) (hend:∀ ks H,Pv kvs.length ks H->Fin ks H)
  (hgo:∀ i p ks H (u:St),u.length=n->i<kvs.length->kvs[i]?=some p->Pv i ks H->g (kV p.1) (u++σ) H fun σ2 H2=>(∃ u2:St,u2.length=n/\σ2=u2++σ)/\tc σ2 H2 fun b H3=>if b=true then te σ2 H3 fun y H4=>H4 D=some (bZ P w D ks)/\ks.length<1000/\∃ k,y=kV k/\iI kvs.length i fun j=>Pv j (fS ks k) (upd H4 D (bZ P w D (fS ks k)))
   else iI kvs.length i fun j=>Pv j ks H3):jC P w n g tc te σ (lh a o kvs) D ks0 H0 Fin:=by
 refine⟨fun i m ks H=>m=kvs.length-i/\i<=kvs.length/\Pv i ks H,⟨kvs.length,rfl,EX _,h0⟩,?_⟩
 rintro i m ks H ⟨rfl,hi,p⟩
 refine⟨(hD i ks H p).1,?_⟩
 by_cases hlt:i<kvs.length
 ·refine .inr ⟨⟨(hD _ _ _ p).2,hlt⟩,fun x H' u hu y=>?_⟩
  obtain⟨e,q,ex,hq⟩:=y
  subst e ex
  exact hgo i q ks _ u hu hlt hq p
 ·obtain rfl:i=kvs.length:=by omega
  exact .inl ⟨⟨(hD _ _ _ p).2,EU _⟩,hend ks H p⟩
end L2
namespace Pr
open PySem L2 PyProof.Rows Ent
def fY (ns:List Int)(n:Int):List Int:=if n∈ns then ns else ns++[n]
theorem tK {n:Int}{ns:List Int}:(Sum.inl n:af)∈ns.map Sum.inl↔n∈ns:=by
 rw[DP]
 exact⟨fun⟨x,hx,e⟩=>by cases e;exact hx,fun h=>⟨n,h,rfl⟩⟩
theorem xQ (ns:List Int)(n:Int):fS (ns.map Sum.inl) (.inl n)=(fY ns n).map Sum.inl:=by
 unfold fY
 by_cases h:n∈ns
 ·rw[if_pos h,pI (tK.mpr h)]
 ·rw[if_neg h,uQ (fun z=>h (tK.mp z)),C8];rfl
theorem Cr {ns:List Int}{n x:Int}:x∈fY ns n↔x∈ns\/x=n:=by
 unfold fY
 by_cases h:n∈ns
 ·rw[if_pos h];exact⟨.inl,fun z=>z.elim id fun e=>e▸h⟩
 ·rw[if_neg h,Dv,DZ]
theorem Bu {ns:List Int}{n:Int}(h:ns.Nodup):(fY ns n).Nodup:=by
 unfold fY
 by_cases z:n∈ns
 ·rw[if_pos z];exact h
 ·rw[if_neg z,Em]
  exact⟨h,by simp,fun a ha b hb e=>z (by rw[List.mem_singleton.mp hb] at e;exact e▸ha)⟩
def dw (d:PyData):Prop:=∃ es:List En,(∀ e∈es,bi e)/\es.length<=1000/\bn es d
theorem uU:dw cw:=⟨[],(fun _ h=>nomatch h),by decide,.non rfl rfl⟩
theorem dw.noL {d:PyData}(h:dw d):L2.noL d=true:=by
 obtain⟨es,_,_,o⟩:=h
 exact qp o
theorem dw.lf {d:PyData}(h:dw d):Lf d/\d.bulk<=40/\d.depth<=2:=by
 obtain⟨es,k,l,o⟩:=h
 exact Bm k l o
structure DD (H:Hp)(kvs:List (af×V))(ns:List Int)(f:Int->PyData):Prop where
 k:kvs.map (·.1)=ns.map Sum.inl
 nd:ns.Nodup
 v:∀ n∈ns,∃ p,aP kvs (.inl n)=some (.ref p)/\aj H (f n) (.ref p)
 z:∀ n,n∉ns->aP kvs (.inl n)=none/\f n=cw
 b:∀ n,dw (f n)
theorem DD.tups {H H':Hp}(s:∀ b xs,H b=some (.tup xs)->H' b=some (.tup xs)){kvs:List (af×V)}{ns:List Int}{f:Int->PyData}(g:DD H kvs ns f):DD H' kvs ns f :=
 ⟨g.k,g.nd,fun n hn=>by obtain⟨p,e,h⟩:=g.v n hn;exact⟨p,e,aj.tups s _ _ (g.b n).noL h⟩,g.z,g.b⟩
theorem DD.len {H:Hp}{kvs:List (af×V)}{ns:List Int}{f:Int->PyData}(g:DD H kvs ns f):kvs.length=ns.length:=by
 have:=congrArg Dw g.k
 rw[CW,CW] at this
 exact this
def gU (f g:Int->PyData)(n:Int):PyData:=.tuple [.int n,f n,g n]
def yA (ms:List Int)(f g:Int->PyData):List PyData:=(ms.filter fun n=>!PyData.eqv (f n) (g n)).map (gU f g)
def ed (f g:Int->PyData)(H:Hp)(x:V)(n:Int):Prop:=∃ t p q,x=.ref t/\H t=some (.tup [.int n,.ref p,.ref q])/\aj H (f n) (.ref p)/\aj H (g n) (.ref q)
theorem ed.tups {f g:Int->PyData}{H H':Hp}(s:∀ b xs,H b=some (.tup xs)->H' b=some (.tup xs)){x:V}{n:Int}(bf:dw (f n))(bg:dw (g n))(h:ed f g H x n):ed f g H' x n:=by
 obtain⟨t,p,q,e,h1,h2,h3⟩:=h
 exact⟨t,p,q,e,s _ _ h1,aj.tups s _ _ bf.noL h2,aj.tups s _ _ bg.noL h3⟩
theorem ed.dat {f g:Int->PyData}{H:Hp}{x:V}{n:Int}(h:ed f g H x n):aj H (gU f g n) x:=by
 obtain⟨t,p,q,rfl,h1,h2,h3⟩:=h
 unfold gU aj
 refine⟨t,_,rfl,h1,?_⟩
 unfold av
 refine⟨_,_,rfl,by unfold aj;rfl,?_⟩
 unfold av
 refine⟨_,_,rfl,h2,?_⟩
 unfold av
 refine⟨_,_,rfl,h3,?_⟩
 unfold av
 rfl
theorem uh {f g:Int->PyData}{H:Hp}:∀ {ys:List V}{ns:List Int},Paired (ed f g H) ys ns->av H (ns.map (gU f g)) ys
 | _,_,.nil=>by unfold av;rfl
 | _,_,.cons r t=>by
  rw[C1]
  unfold av
  exact⟨_,_,rfl,r.dat,uh t⟩
section
variable {P:FN}{w:World}{K:W.Frag}{mg:Str->Option Value}{base:Heap}{C:Addr}
inductive uA (vs:List V)(H:Hp)(Q:VK)(E:XK):Prop
 | mk (a b:Addr)(ka kb:List (af×V))(na nb zs:List Int)(f g:Int->PyData)(e:vs=[.ref a,.ref b])(ha:H a=some (.dK ka))(hb:H b=some (.dK kb))(A:DD H ka na f)(B:DD H kb nb g)(hz:zs.length<64)(za:∀ n∈na,n∈zs)(zb:∀ n∈nb,n∈zs)
  (q:∀ D ys (ms:List Int) H',ab H H'->H D=none->H' D=some (.lst ys)->ms.Nodup->ms.Pairwise (·<=·)->(∀ n,n∈ms↔n∈na\/n∈nb)->av H' (yA ms f g) ys->ys.length<=ms.length->Q (.ref D) H'):uA vs H Q E
theorem gE:aA ["one","other","numbers","rows"] ["one","other"] (aw nh):=aE
set_option maxHeartbeats 8000000 in
theorem wL (T:Txt K mg C):aK P w K mg base 2 "unlike_bars" ["one","other"] uA:=by
 refine aW T.f_unlike_bars gE (fun vs H Q E h=>?_) (fun f cdv A outer s H vs Q E hr h=>?_)
 ·obtain⟨a,b,ka,kb,na,nb,zs,f,g,rfl,_⟩:=h
  rfl
 ·obtain⟨a,b,ka,kb,na,nb,zs,f,g,rfl,ha,hb,DA,DB,hz,za,zb,q⟩:=h
  refine⟨_,(am (aG (i:=2) gE.nd rfl (Or.inl rfl) (aM (At P w rfl) T.b_sorted Ir (ah (Aw (xs1:=["bars"]) (xs2:=["number"]) (Ns:=["one","other","numbers","rows"]) rfl (i5 _ gE) (pC K (be (ao (pv 0) (pv 1)))) (fun C fp s0 H0=>sI (i:=1) (i5 _ gE) (by decide) rfl C fp s0 H0) (fun _ _ _ _=>Cs (pv 1)) (fun C fp s0 H0=>sI (i:=0) (i5 _ gE) (by decide) rfl C fp s0 H0) (fun _ _ _ _=>ca) (fun _ _ _ _=>(pv 0))))))
   (am (kg (i:=3) rfl rfl rfl (bR gE) (cc K (pv 2)) (fun _ _ _ _=>ca) (fun _ _ _ _=>(be (aO (pv 0) (lW (dJ hr) (pv 1) (pv 0) (iG (empty T) hr) ⟨rfl,rfl,rfl,rfl⟩) (lW (dJ hr) (pv 2) (pv 0) (iG (empty T) hr) ⟨rfl,rfl,rfl,rfl⟩)))))
   (aq (aB (cm rfl (bR gE) (cc K (pv 3)) (fun _ _ _ _=>(ju (bU (ke hr) (ay (cb K) (pv 0) ac (fun _ _=>rfl)) (ay (cb K) (pv 0) ac (fun _ _=>rfl)) (bD _)))) (fun _ _ _ _=>(pv 0))))))),?_⟩
  have la:=DA.len
  have lb:=DB.len
  have len64:∀ {ns:List Int},ns.Nodup->(∀ n∈ns,n∈na\/n∈nb)->ns.length<64:=fun {ns} nd h=>by
   have:=gM nd fun n hn=>(h n hn).elim (za n) (zb n)
   omega
  refine⟨_,rfl,_,rfl,bE,fun t ht=>?_⟩
  have s1:ab H (upd H t (.tup [.ref a,.ref b])):=ab.upd ht
  have ht1:(upd H t (.tup [.ref a,.ref b])) t=some (.tup [.ref a,.ref b]):=ae
  generalize (upd H t (.tup [.ref a,.ref b]))=H1 at s1 ht1
  refine⟨t,rfl,⟨_,.of ht1⟩,fun D hD=>?_⟩
  have D0:H D=none:=s1.free hD
  refine Ai (K:=K) (a:=t) (xs:=[.ref a,.ref b]) (fun i ks H2=>∃ ns:List Int,ks=ns.map Sum.inl/\ns.Nodup/\(∀ n,n∈ns↔(0<i/\n∈na)\/(1<i/\n∈nb))/\H2 D=some (bZ P w D ks)/\ab H1 H2)
   ⟨[],rfl,Du,fun n=>by simp,ae,ab.upd hD⟩ (fun i ks H2 ⟨ns,_,_,_,h1,h2⟩=>⟨h1,.of (h2 _ _ ht1)⟩) ?fin ?turn
  case turn =>
   rintro i x ks H2 v u hv hu hi hx ⟨ns,rfl,nd,mem,hD2,s2⟩
   have core:∀ (c:Addr) (kc:List (af×V)) (nc:List Int),H1 c=some (.dK kc)->kc.map (·.1)=nc.map Sum.inl->(∀ n∈nc,n∈na\/n∈nb)->(∀ n,((0<i/\n∈na)\/(1<i/\n∈nb))\/n∈nc↔(0<i+1/\n∈na)\/(1<i+1/\n∈nb))->x=.ref c ->
     fh 1 x (v++(u++[some (.ref a),some (.ref b),none,none])) H2 fun σ2 H2=>∃ u2:L2.St,u2.length=1/\σ2=v++(u2++[some (.ref a),some (.ref b),none,none])/\lE (iw 1) σ2 H2 fun J2 H3 =>
      jC P w 1 (fh 0) ji (iw 0) (u2++[some (.ref a),some (.ref b),none,none]) J2 D (ns.map Sum.inl) H3 fun zs H4=>∃ b o uu,H4 b=some (.frz o uu)/\fH uu/\(∀ o' u',H1 b≠some (.frz o' u'))/\iI 2 i fun j=>(∃ ns:List Int,zs=ns.map Sum.inl/\ns.Nodup/\(∀ n,n∈ns↔(0<j/\n∈na)\/(1<j/\n∈nb))/\(upd H4 b uu) D=some (bZ P w D zs)/\ab H1 (upd H4 b uu)):=by
    intro c kc nc hc hk hin hmem ex
    subst ex
    obtain⟨u1,rfl⟩:=jZ hu
    obtain⟨v1,rfl⟩:=jZ hv
    refine⟨[some (.ref c)],rfl,rfl,⟨⟨_,rfl,c,kc,rfl,s2 _ _ hc,fun o=>?_⟩⟩⟩
    have ncD:c≠D:=aJ hc hD
    have kl:kc.length=nc.length:=by have:=congrArg Dw hk;rw[CW,CW] at this;exact this
    have frz1:∀ b' o',H1 b'=some o'->b'≠c->(upd H2 c (.frz o (.dK kc))) b'=some o':=fun b' o' h1 h2=>by rw[upd_ne h2];exact s2 _ _ h1
    refine wy (a:=c) (o:=o) (kvs:=kc) (fun j ks H3=>∃ ms:List Int,ks=ms.map Sum.inl/\ms.Nodup/\(∀ n,n∈ms↔n∈ns\/n∈nc.take j)/\H3 D=some (bZ P w D ks)/\H3 c=some (.frz o (.dK kc))/\∀ b' o',H1 b'=some o'->b'≠c->H3 b'=some o')
     ⟨ns,rfl,nd,fun n=>by simp,by rw[upd_ne (Ne.symm ncD)];exact hD2,ae,frz1⟩ (fun j ks H3 ⟨_,_,_,_,h1,h2,_⟩=>⟨h1,h2⟩) ?_ ?_
    ·rintro ks H3 ⟨ms,rfl,nd3,mem3,hD3,hc3,s3⟩
     refine⟨c,o,.dK kc,hc3,.k _,(fun o' u' z=>by rw[hc] at z;cases z),sN hi ⟨ms,rfl,nd3,fun n=>?_,?_,fun b' o' h1=>?_⟩⟩
     ·rw[mem3,Df (by omega),mem];exact hmem n
     ·rw[upd_ne (Ne.symm ncD)];exact hD3
     ·by_cases z:b'=c
      ·subst z;rw[ae];rw[hc] at h1;exact h1
      ·rw[upd_ne z];exact s3 _ _ h1 z
    ·rintro j p ks H3 w1 hw1 hj hp ⟨ms,rfl,nd3,mem3,hD3,hc3,s3⟩
     obtain⟨w2,rfl⟩:=jZ hw1
     have hp2:(kc.map (·.1))[j]?=some p.1:=by rw[Da,hp];rfl
     rw[hk,Da] at hp2
     obtain⟨n,hn,en⟩:∃ n,nc[j]?=some n/\p.1=.inl n:=by
      cases hn:nc[j]? with
      | none=>rw[hn] at hp2;cases hp2
      | some n=>rw[hn] at hp2;exact⟨n,rfl,(Option.some.inj hp2).symm⟩
     rw[en]
     have mm:∀ y,y∈fY ms n↔y∈ns\/y∈nc.take (j+1):=fun y=>by
      rw[Cr,mem3,C9,hn,Dv]
      simp[or_assoc]
     have l3:ms.length<64:=len64 nd3 fun y hy=>by
      rcases (mem3 y).mp hy with z|z
      ·rcases (mem y).mp z with⟨_,z⟩|⟨_,z⟩
       ·exact .inl z
       ·exact .inr z
      ·exact hin y (DO z)
     refine⟨⟨[_],rfl,rfl⟩,cI ⟨_,rfl,hD3,by rw[CW];omega,.inl n,rfl,sN hj ⟨fY ms n,xQ ms n,Bu nd3,mm,ae,?_,fun b' o' h1 h2=>?_⟩⟩⟩
     ·rw[upd_ne ncD];exact hc3
     ·rw[upd_ne (aJ h1 hD)];exact s3 _ _ h1 h2
   have hi2:i<2:=hi
   rcases (show i=0\/i=1 by omega) with e|e
   ·subst e
    exact core a ka na (s1 _ _ ha) DA.k (fun n hn=>.inl hn) (fun n=>⟨fun h=>h.elim (fun z=>z.elim (fun y=>absurd y.1 (by decide)) fun y=>absurd y.1 (by decide)) fun z=>.inl ⟨by decide,z⟩,fun h=>h.elim (fun z=>.inr z.2) fun z=>absurd z.1 (by decide)⟩) (Option.some.inj hx).symm
   ·subst e
    exact core b kb nb (s1 _ _ hb) DB.k (fun n hn=>.inr hn) (fun n=>⟨fun h=>h.elim (fun z=>z.elim (fun y=>.inl ⟨by decide,y.2⟩) fun y=>absurd y.1 (by decide)) fun z=>.inr ⟨by decide,z⟩,fun h=>h.elim (fun z=>.inl (.inl ⟨by decide,z.2⟩)) fun z=>.inr z.2⟩) (Option.some.inj hx).symm
  case fin =>
   rintro ks H2 ⟨ns,rfl,nd,mem,hD2,s2⟩
   have mem2:∀ n,n∈ns↔n∈na\/n∈nb:=fun n=>(mem n).trans ⟨fun h=>h.imp (·.2) (·.2),fun h=>h.imp (fun z=>⟨by show 0<2;decide,z⟩) fun z=>⟨by show 1<2;decide,z⟩⟩
   have l64:=len64 nd fun n hn=>(mem2 n).mp hn
   refine⟨D,ns,rfl,hD2,l64,⟨fun G ms pm srt hG=>?_⟩⟩
   have s3:ab H2 (upd H2 G (.lst (ms.map V.int))):=ab.upd hG
   have hG3:(upd H2 G (.lst (ms.map V.int))) G=some (.lst (ms.map V.int)):=ae
   generalize (upd H2 G (.lst (ms.map V.int)))=H3 at s3 hG3
   have s03:ab H H3:=s1.trans (s2.trans s3)
   have ml:ms.length<64:=by rw[pm.length_eq];exact l64
   have mem3:∀ n,n∈ms↔n∈na\/n∈nb:=fun n=>(pm.mem_iff).trans (mem2 n)
   have A3:=DA.tups fun b xs h=>s03 _ _ h
   have B3:=DB.tups fun b xs h=>s03 _ _ h
   refine⟨_,rfl,G,rfl,⟨_,.of hG3⟩,fun R hR=>?_⟩
   refine fF (xs:=ms.map V.int) (fun i ys H4=>H4 R=some (.lst ys)/\ab H3 H4/\Paired (ed f g H4) ys (ms.take i)) ⟨ae,ab.upd hR,.nil⟩ (fun i ys H4 h=>⟨h.1,.of (h.2.1 _ _ hG3)⟩) (fun ys H4 h=>?_) fun i x ys H4 hi hx h=>?go
   case go =>
    obtain⟨d1,d2,d3⟩:=h
    obtain⟨n,hn,rfl⟩:=ia hx
    rw[CW] at hi
    have yl:=Paired.length d3
    rw[Db] at yl
    have s04:=s03.trans d2
    have got:∀ {kc:List (af×V)}{nc:List Int}{h:Int->PyData}{H5:Hp}{e0:Addr},DD H5 kc nc h->aj H5 cw (.ref e0)->∃ p,(aP kc (.inl n)).getD (.ref e0)=.ref p/\aj H5 (h n) (.ref p):=fun {kc nc h H5 e0} D5 h0=>by
     by_cases z:n∈nc
     ·obtain⟨p,e,hp⟩:=D5.v n z
      rw[e]
      exact⟨p,rfl,hp⟩
     ·obtain⟨e,e2⟩:=D5.z n z
      rw[e,e2]
      exact⟨e0,rfl,h0⟩
    refine cI ⟨_,rfl,_,rfl,a,rfl,.inl ⟨ka,.inl (s04 _ _ ha)⟩,_,rfl,rfl,fun e0 H5 s5 he0 hd5=>?_⟩
    have s05:=s04.trans s5
    refine⟨_,b9.k (k:=.inl n) (s05 _ _ ha),?_⟩
    obtain⟨p,ep,hp⟩:=got (DA.tups fun b xs h=>s05 _ _ h) hd5
    rw[ep]
    refine⟨_,rfl,b,rfl,.inl ⟨kb,.inl (s05 _ _ hb)⟩,_,rfl,rfl,fun e1 H6 s6 he1 hd6=>?_⟩
    have s06:=s05.trans s6
    refine⟨_,b9.k (k:=.inl n) (s06 _ _ hb),?_⟩
    obtain⟨p2,ep2,hp2⟩:=got (DB.tups fun b xs h=>s06 _ _ h) hd6
    rw[ep2]
    refine⟨dZ,fun t7 ht7=>?_⟩
    have s7:ab H6 (upd H6 t7 (.tup [.int n,.ref p,.ref p2])):=ab.upd ht7
    have h7:(upd H6 t7 (.tup [.int n,.ref p,.ref p2])) t7=some (.tup [.int n,.ref p,.ref p2]):=ae
    generalize (upd H6 t7 (.tup [.int n,.ref p,.ref p2]))=H7 at s7 h7
    have s47:=s5.trans (s6.trans s7)
    have hR7:=s47 _ _ d1
    have tp:∀ b xs,H7 b=some (.tup xs)->(upd H7 R (.lst (ys++[.ref t7]))) b=some (.tup xs):=fun b xs h=>by
     rw[upd_ne (fun z=>by rw[z,hR7] at h;cases h)];exact h
    refine bw.mk (by rw[CW];exact hi) (by rw[CW];omega) (by omega) hR7 ⟨ae,fun b o h=>?_,?_⟩
    ·rw[upd_ne (aJ h hR)]
     exact s47 _ _ (d2 _ _ h)
    ·rw[C9,hn]
     refine Paired.snoc ?_ (Paired.mapP d3 fun _ m z=>z.tups (fun b xs h=>tp _ _ (s47 _ _ h)) (DA.b m) (DB.b m))
     exact ed.tups tp (DA.b n) (DB.b n) ⟨t7,p,p2,rfl,h7,aj.same (s6.trans s7) _ _ hp,aj.same s7 _ _ hp2⟩
   obtain⟨d1,d2,d3⟩:=h
   rw[CW,Dg] at d3
   have rl:=Paired.length d3
   refine⟨_,rfl,R,rfl,⟨_,.of d1⟩,fun Z hZ=>?_⟩
   refine fF (xs:=ys) (fun i zs H5=>H5 Z=some (.lst zs)/\ab H4 H5/\Paired (ed f g H5) zs ((ms.take i).filter fun n=>!PyData.eqv (f n) (g n))/\zs.length<=i) ⟨ae,ab.upd hZ,.nil,EU _⟩ (fun i zs H5 h=>⟨h.1,.of (h.2.1 _ _ d1)⟩) (fun zs H5 h=>?_) fun i x zs H5 hi hx h=>?go2
   case go2 =>
    obtain⟨c1,c2,c3,c4⟩:=h
    obtain⟨n,hn,t8,p8,q8,rfl,h8,dp,dq⟩:=Paired.get d3 hx
    obtain⟨lf,_,pf⟩:=(DA.b n).lf
    obtain⟨lg,_,_⟩:=(DB.b n).lf
    have tk:(ms.take (i+1)).filter (fun n=>!PyData.eqv (f n) (g n))=(ms.take i).filter (fun n=>!PyData.eqv (f n) (g n))++(if (!PyData.eqv (f n) (g n))=true then [n] else []):=by
     rw[C9,hn,DW]
     congr 1
     by_cases z:(!PyData.eqv (f n) (g n))=true
     ·simp[z]
     ·simp[z]
    refine⟨_,rfl,t8,_,_,_,rfl,rfl,.of (c2 _ _ h8),rfl,_,rfl,t8,_,_,_,rfl,rfl,.of (c2 _ _ h8),rfl,f n,g n,aj.same c2 _ _ dp,aj.same c2 _ _ dq,lf.cl,lg.cl,by omega,_,rfl,?_⟩
    rw[if_pos (rfl:true=true)]
    cases hc:(!PyData.eqv (f n) (g n)) with
    | true =>
     refine bP ⟨_,rfl,bw.mk hi (by omega) (by omega) c1 ⟨ae,c2.but_ne hZ,?_,by rw[C7];show zs.length+1<=i+1;omega⟩⟩
     have tp:∀ b xs,H5 b=some (.tup xs)->(upd H5 Z (.lst (zs++[.ref t8]))) b=some (.tup xs):=fun b xs h=>by
      rw[upd_ne (fun z=>by rw[z,c1] at h;cases h)];exact h
     rw[tk,if_pos hc]
     exact Paired.snoc (ed.tups tp (DA.b n) (DB.b n) ⟨t8,p8,q8,rfl,c2 _ _ h8,aj.same c2 _ _ dp,aj.same c2 _ _ dq⟩) (Paired.mapP c3 fun _ m z=>z.tups tp (DA.b m) (DB.b m))
    | false =>
     refine bK (cN.mk hi ⟨c1,c2,?_,by omega⟩)
     rw[tk,if_neg (by rw[hc];exact Bool.false_ne_true),DJ]
     exact c3
   obtain⟨c1,c2,c3,c4⟩:=h
   rw[Df (by omega)] at c3
   exact q Z zs ms H5 (s03.trans (d2.trans c2)) (s03.free (d2.free hZ)) c1 (pm.nodup_iff.mpr nd) srt mem3 (uh c3) (by omega)
end
end Pr
namespace L2
open PySem PySem.Spec PyProof.Rows
end L2
namespace Pr
open PySem L2 PyProof.Rows Ent
noncomputable def bd (es:List En):PyData:=by
 classical
 exact if h:∃ d,bn es d then h.choose else cw
theorem ja {es:List En}{d:PyData}(k:Ent.Keyed es)(h:bn es d):d=bd es:=by
 have hx:∃ d,bn es d:=⟨d,h⟩
 unfold bd
 rw[dif_pos hx]
 exact bn.one (List.Perm.refl _) k h hx.choose_spec
theorem iU:bd []=cw:=(ja (by unfold Ent.Keyed;exact Du) (.non rfl rfl)).symm
theorem BT.dat {H:Hp}{v:V}{es:List En}(k:Ent.Keyed es)(h:BT H v es):∃ p,v=.ref p/\aj H (bd es) (.ref p)/\bn es (bd es):=by
 obtain⟨p,b,e,d,o⟩:=h
 rw[<-ja k o]
 exact⟨p,e,d,o⟩
structure DV (H:Hp)(kvs:List (af×V))(ns:List Int)(f:Int->PyData):Prop where
 k:kvs.map (·.1)=ns.map Sum.inl
 nd:ns.Nodup
 v:∀ n∈ns,∃ p,aP kvs (.inl n)=some (.ref p)/\aj H (f n) (.ref p)/\dw (f n)
 z:∀ n,n∉ns->aP kvs (.inl n)=none
theorem DV.nil {H:Hp}{f:Int->PyData}:DV H [] [] f:=⟨rfl,Du,(fun _ h=>nomatch h),fun _ _=>rfl⟩
theorem DV.put {H:Hp}{kvs:List (af×V)}{ns:List Int}{f:Int->PyData}(g:DV H kvs ns f){n:Int}{p:Addr}(hn:n∉ns)(d:aj H (f n) (.ref p))(b:dw (f n)):DV H (bh kvs (.inl n) (.ref p)) (ns++[n]) f:=by
 have hz:=g.z n hn
 have e:=AY (kvs:=kvs) (.ref p) hz
 have vs:∀ j,aP (bh kvs (.inl n) (.ref p)) (.inl j)=if j=n then some (.ref p) else aP kvs (.inl j):=fun j=>by
  rw[je]
  by_cases z:j=n
  ·rw[if_pos z,if_pos (by rw[z])]
  ·rw[if_neg z,if_neg (fun y=>z (Sum.inl.inj y))]
 refine⟨?_,?_,fun j hj=>?_,fun j hj=>?_⟩
 ·rw[e,C8,g.k,C8];rfl
 ·rw[Em]
  exact⟨g.nd,by simp,fun a ha b hb e=>hn (by rw[List.mem_singleton.mp hb] at e;exact e▸ha)⟩
 ·rw[vs]
  by_cases z:j=n
  ·rw[if_pos z,z];exact⟨p,rfl,d,b⟩
  ·rw[if_neg z]
   exact g.v j ((List.mem_append.mp hj).elim id fun y=>absurd (List.mem_singleton.mp y) z)
 ·rw[vs,if_neg (fun z=>hj (C3 _ (List.mem_singleton.mpr z)))]
  exact g.z j fun z=>hj (Dj _ z)
theorem DV.dd {H:Hp}{kvs:List (af×V)}{ns:List Int}{f g:Int->PyData}(h:DV H kvs ns f)(h1:∀ n∈ns,g n=f n)(h2:∀ n,n∉ns->g n=cw):DD H kvs ns g:=by
 refine⟨h.k,h.nd,fun n hn=>?_,fun n hn=>⟨h.z n hn,h2 n hn⟩,fun n=>?_⟩
 ·obtain⟨p,e,d,_⟩:=h.v n hn
  rw[h1 n hn]
  exact⟨p,e,d⟩
 ·by_cases z:n∈ns
  ·obtain⟨p,_,_,b⟩:=h.v n z
   rw[h1 n z]
   exact b
  ·rw[h2 n z];exact uU
theorem kX {st:List Lad.Step}{r:Nat}{n:Int}{es:List En}(k:Ent.Keyed es):Ent.Keyed (own st r n es):=by
 unfold Ent.Keyed at k ⊢
 exact List.Sublist.nodup (List.Sublist.map _ Eo) k
theorem mZ {st:List Lad.Step}{r:Nat}{n:Int}{es:List En}(h:¬ ∃ e∈es,Lad.ur st r e.1=n):own st r n es=[]:=by
 unfold own
 rw[ED]
 exact fun e he z=>h ⟨e,he,of_decide_eq_true z⟩
theorem qW {st:List Lad.Step}{r:Nat}{n:Int}{es:List En}{d:PyData}(ek:∀ e∈es,bi e)(hl:es.length<=1000)(h:bn (own st r n es) d):dw d :=
 ⟨_,fun e he=>ek e (List.mem_filter.mp he).1,EY (Dl _ _) hl,h⟩
end Pr
namespace Do
open PySem PySem.Spec
theorem AC {prog:FN}{w:World}{A:Around}{E:Value->Shared->Prop}{s:Shared}{a:Addr}{o:Obj}{xs:Array Value}{k:Nat}{name:Str}{Q:Option Value->Shared->Prop}
  (hx:s.heap.get? a=some o) (hc:o.cls=.type "list") (hdat:o.data=.seq xs k) (hd:o.dict=none) (hmiss:GO (.type "list") name=pure none) (hname:(["__module__","__name__","__qualname__","__doc__","__annotations__"]:List Str).contains name=false) (hA:A.handled=none)
  (h:∀ h' tk e,Heap.NewExcOf s.heap h' e "AttributeError"->Q none { s with heap:=h',toks:=tk }) (hsz:name.length+100<=FO:=by size_fits) :
  wpAny (model prog w) A (getAttr? (.ref a) name) Q E s:=by
 obtain⟨c,dct,dat,sl⟩:=o
 simp only at hc hdat hd
 subst hc hdat hd
 obtain⟨hp,g,d,tk,os⟩:=s
 have hT:∀ tk',(⟨hp,g,d,tk',os⟩:Shared).TypeIs (.ref a) "list":=fun _=>⟨_,hx,rfl⟩
 have f1:=sub_AttributeError
 have f3:=F.slot_list_getattribute.lookup
 have f4:=F.slot_list_getattribute.bind (.ref a)
 have f5:=am_list_getattr_none
 unfold getAttr? getAttrBy? getAttrBy
 repeat (any_goals (first|assumption|exact hT _|((with_reducible show wpAny _ _ (call (Value.builtin "list.__getattribute__") _ _) _ _ _);refine GV F.slot_list_getattribute (hT _) am_entry_list_getattribute (F.args_list_getattribute_2 _ _) (meets_getattribute_miss_list a xs k sl name _ hmiss hname hsz) ⟨hx,hA,fun h' tk' e hx'=>?_⟩)|wp_step))
 obtain⟨t',u',he⟩:=hx'.there
 show wpAny _ _ (getattributeRaised _ _ _ _ _ _ _) _ _ _
 unfold getattributeRaised
 repeat (any_goals (first|assumption|wp_step))
 exact h _ _ _ hx'.of
theorem CC:GO (.type "list") "keys"=pure none:=am_miss_of_fast (by decide +kernel)
theorem pS:G2 table "dict.update.loop"=some Builtin.«dict.update.loop»:=G3 (by kernel_rfl)
theorem jU:plainId "dict.update.loop"=true:=by decide +kernel
section
variable {prog:FN}{w:World}{K:Type}[DecidableEq K]{knd:KeyKind prog w K}{A:Around}{R:Gv->Shared->Prop}{E:Value->Shared->Prop}{I:Addr}{fp wr:List Addr}{n:Nat}{P:Nat->Value->Prop}{St:Nat->Heap->Prop}
def all (ks:List (K×Value)):List (K×Value):=ks.foldl (fun m kv=>Iw m kv.1 kv.2) []
theorem xt (ks:List (K×Value))(kv:K×Value):all (ks++[kv])=Iw (all ks) kv.1 kv.2:=by unfold all;rw[Eh];rfl
theorem yx (kvs:List (K×Value))(k:K)(v:Value):(Iw kvs k v).length<=kvs.length+1:=by
 unfold Iw
 split <;> simp
theorem rA:∀ (ks acc:List (K×Value)),(ks.foldl (fun m kv=>Iw m kv.1 kv.2) acc).length<=acc.length+ks.length
 | [],acc=>EU _
 | kv::t,acc=>by
  have h1:=rA t (Iw acc kv.1 kv.2)
  have h2:=yx acc kv.1 kv.2
  rw[Dh,C4]
  omega
theorem loop (W:Walks prog w A.in1 I fp wr n P St){d:Addr}(hdf:d∉fp){h0:Heap}{ks:List (K×Value)}(hn:ks.length=n)(hz:n<=1000)
  (hval:∀ i v,P i v->∃ t o key m kv,v=.ref t/\h0.get? t=some o/\o.cls=.type "tuple"/\o.data=.seq #[key,kv.2] m/\ks[i]?=some kv/\knd.is kv.1 key=true/\t∉d::wr) :
  ∀ (r i:Nat) (s:Shared) (u:Tok),n-i=r->i<=n->St i s.heap->s.heap.DictOf knd d (all (ks.take i))->(∀ b o,b∉d::wr->h0.get? b=some o->s.heap.get? b=some o) ->
   (∀ h' tk,(∀ b o,b∉d::wr->h0.get? b=some o->h'.get? b=some o)->h'.DictOf knd d (all ks)->R (.ok (.ret .none)) { s with heap:=h',toks:=tk }) ->
   Gw (model prog w) A (.builtin "dict.update.loop" ⟨[.ref d,.ref I,.int (i:Int) u,.none],[]⟩) R s:=by
 have hdw:d∉wr:=fun z=>hdf (W.sub _ z)
 intro r
 induction r with
 | zero =>
  intro i s u hr hi st hD hk hR
  obtain rfl:i=n:=by omega
  refine IS pS ?_
  rw[Around.under_plainId jU _]
  show wpAny _ A.in1 (Ha (.ref I) >>= _) _ _ _
  refine Ge (W.done s _ _ st fun h' tk keep=>?_)
  show wpAny _ A.in1 (Builtin.Dict.addKeywords d [] >>= _) _ _ _
  refine Ge (Gh (Gh ?_))
  rw[Df (by omega)] at hD
  refine hR h' tk (fun b o hb e=>keep b o (fun z=>hb (C5 _ z)) (hk b o hb e)) ?_
  obtain⟨o,es,ep,ho,rest⟩:=hD
  exact⟨o,es,ep,keep d o hdw ho,rest⟩
 | succ r ih =>
  intro i s u hr hi st hD hk hR
  have hlt:i<n:=by omega
  refine IS pS ?_
  rw[Around.under_plainId jU _]
  show wpAny _ A.in1 (Ha (.ref I) >>= _) _ _ _
  refine Ge (W.item i s _ _ hlt st fun v h' tk hP st' keep=>?_)
  obtain⟨t,o,key,m,kv,rfl,ht0,hc,hd,hkv,his,htn⟩:=hval i v hP
  have ht':h'.get? t=some o:=keep t o (fun z=>htn (C5 _ z)) (hk t o htn ht0)
  obtain⟨oc,od,odat,osl⟩:=o
  simp only at hc hd
  subst hc hd
  have hT:Shared.TypeIs { s with heap:=h',toks:=tk } (.ref t) "tuple":=⟨_,ht',rfl⟩
  have hD':h'.DictOf knd d (all (ks.take i)):=by
   obtain⟨o,es,ep,ho,rest⟩:=hD
   exact⟨o,es,ep,keep d o hdw ho,rest⟩
  have al:(all (ks.take i)).length<=FO:=by
   have:=rA (ks.take i) []
   rw[Db] at this
   show (all (ks.take i)).length<=_
   unfold all
   rw[Gs]
   simp only[DM] at this
   omega
  refine Ge (Gf (Ge (wpAny_tryCatch ?_)))
  unfold Builtin.Dict.pairItems
  refine Ge (GN hT ?_)
  rw[if_pos (by decide)]
  refine Ge (IP ht' rfl (Gh ?_))
  show wpAny _ _ (F6 [key,kv.2] (dictSet d key kv.2)) _ _ _
  refine Gf (wpAny_dictSet_pairs (s:={ s with heap:=h',toks:=tk }) his hD' (fun h2 hd2 sb=>?_) al)
  refine Gh ⟨IT jU _,?_⟩
  have tk1:all (ks.take (i+1))=Iw (all (ks.take i)) kv.1 kv.2:=by
   rw[C9,hkv]
   exact xt _ _
  refine ih (i+1) { s with heap:=h2,toks:=tk+1 } _ (by omega) hlt (W.frame _ _ _ st' fun c hc o e=>?_) (by rw[tk1];exact hd2) (fun b o hb e=>?_) fun h3 tk3 k3 d3=>hR h3 tk3 k3 d3
  ·exact(sb.2 c (fun z:c=d=>hdf (by rw[<-z];exact hc))).trans e
  ·exact(sb.2 b (fun z:b=d=>hb (by rw[z];exact C6))).trans (keep b o (fun z=>hb (C5 _ z)) (hk b o hb e))
theorem call_dict {s:Shared}{l:Addr}{o:Obj}{items:Array Value}{c:Nat}{ks:List (K×Value)}{Q:Value->Shared->Prop}(hh:A.handled=none)(hl:s.heap.get? l=some o)(hc:o.cls=.type "list")(hdat:o.data=.seq items c)(hdi:o.dict=none)(hn:ks.length=items.size)(hz:items.size<=1000)
  (hval:∀ (i:Nat) v,items[i]?=some v->∃ t o key m kv,v=.ref t/\s.heap.get? t=some o/\o.cls=.type "tuple"/\o.data=.seq #[key,kv.2] m/\ks[i]?=some kv/\knd.is kv.1 key=true)
  (h:∀ (h':Heap) (tk:Nat),(∀ b o,s.heap.get? b=some o->h'.get? b=some o)->h'.DictOf knd s.heap.objs.size (all ks)->Q (.ref s.heap.objs.size) { s with heap:=h',toks:=tk }) :
  wpAny (model prog w) A (call (.type "dict") [.ref l]) Q E s:=by
 refine callType_codes (Q₁:=fun obj s₁=>obj=.ref s.heap.objs.size/\s₁={ s with heap:=s.heap.push { cls:=.type "dict",data:=.dict #[] } }) F.kt_called_dict (F.kt_typeCall_dict_1 _) F.entry_dict_init (kt_code_dict_new _ ⟨rfl,rfl⟩) ?_
 rintro obj s₁ ⟨rfl,rfl⟩
 have hnew:(s.heap.push { cls:=.type "dict",data:=.dict #[] }).DictOf knd s.heap.objs.size []:=Heap.DictOf.new s.heap
 have keep1:∀ b o,s.heap.get? b=some o->(s.heap.push { cls:=.type "dict",data:=.dict #[] }).get? b=some o:=fun b o e=>EL _ e
 have lt1:l<s.heap.objs.size:=EK hl
 refine⟨hnew.typeIs,F.args_dict_init_2 _ _,?_⟩
 generalize (s.heap.push { cls:=.type "dict",data:=.dict #[] })=h1 at hnew keep1
 have hl1:=keep1 _ _ hl
 have hT:Shared.TypeIs { s with heap:=h1 } (.ref l) "list":=⟨_,hl1,hc⟩
 unfold Builtin.«dict.__init__»
 refine Ge ?_
 unfold Builtin.Dict.selfAndRest
 refine Ge (Ja hnew.typeIs ?_)
 show wpAny _ _ (pure (s.heap.objs.size,[Value.ref l])) _ _ _
 refine Gh ?_
 show wpAny _ _ (Builtin.Dict.updateFrom "dict.__init__" s.heap.objs.size (.ref l) [] .none) _ _ _
 unfold Builtin.Dict.updateFrom
 refine Ge (GN hT ?_)
 rw[if_pos (by decide)]
 refine Ge (AC (s:={ s with heap:=h1 }) hl1 hc hdat hdi CC (by decide) (by simp[hh]) (fun h2 tk e ex=>?_))
 have hl2:h2.get? l=some o:=ex.keeps _ _ hl1
 have hd2:h2.DictOf knd s.heap.objs.size []:=by
  obtain⟨o',es,ep,ho',rest⟩:=hnew
  exact⟨o',es,ep,ex.keeps _ _ ho',rest⟩
 have keep2:∀ b o,s.heap.get? b=some o->h2.get? b=some o:=fun b o e=>ex.keeps _ _ (keep1 _ _ e)
 have dlt:s.heap.objs.size<h2.objs.size:=by
  obtain⟨o',es,ep,ho',rest⟩:=hd2
  exact EK ho'
 clear ex hl1 hT hnew keep1
 rw[if_pos (show (none:Option Value).isNone=true from rfl)]
 have hlb:h2.IsList l items:=⟨o,hl2,hc,c,hdat⟩
 generalize hPI:Gn=PI
 wp_walk
 subst hPI
 refine Go hlb ?_
 have hh3:A.in1.in1.handled=none:=by simp[hh]
 have nI:l≠h2.objs.size:=EV (E4 lt1 dlt)
 have nS:s.heap.objs.size∉[h2.objs.size,l]:=by
  simp only[DF,DG,or_false,not_or]
  exact⟨EV dlt,E1 lt1⟩
 refine Gh ⟨IT jU _,?_⟩
 refine loop (h0:=h2.push { cls:=.type "list_iterator",data:=.fields #[.ref l,.int 0 0] }) (Walks.list hh3 _ l nI items) nS hn hz (fun i v hv=>?_) items.size 0 _ _ (by omega) (EX _) ⟨⟨_,EM _ rfl,rfl,rfl⟩,hlb.at fun _=>EL _⟩ (by
   obtain⟨o',es,ep,ho',rest⟩:=hd2
   exact⟨o',es,ep,EL _ ho',rest⟩) (fun b o _ e=>e) fun h' tk' keep hD=>?_
 ·obtain⟨t,ot,key,m,kv,rfl,g1,g2,g3,g4,g5⟩:=hval i v hv
  refine⟨t,ot,key,m,kv,rfl,EL _ (keep2 _ _ g1),g2,g3,g4,g5,?_⟩
  have tl:=EK g1
  simp only[DF,DG,or_false,not_or]
  exact⟨EV tl,EV (E4 tl dlt)⟩
 ·refine⟨rfl,h h' tk' (fun b o e=>keep b o ?_ (EL _ (keep2 _ _ e))) hD⟩
  have tl:=EK e
  simp only[DF,DG,or_false,not_or]
  exact⟨EV tl,EV (E4 tl dlt)⟩
end
end Do
namespace L2
open PySem PySem.Spec PyProof.Rows
def dj (ts:List (af×V)):List (af×V):=ts.foldl (fun m kv=>bh m kv.1 kv.2) []
theorem uX:∀ {ts:List (af×V)}{ks:List (af×Value)},KV ts ks->∀ {a:List (af×V)}{b:List (af×Value)},KV a b->KV (ts.foldl (fun m kv=>bh m kv.1 kv.2) a) (ks.foldl (fun m kv=>Iw m kv.1 kv.2) b)
 | _,_,.nil,_,_,h=>h
 | _,_,.cons (a:=x) (b:=y) r t,a,b,h=>by
  rw[Dh,Dh]
  refine uX t ?_
  have:=h.put x.1 r.2
  rw[r.1] at this ⊢
  exact this
theorem Ca (kvs:List (af×V))(k:af)(v:V):(bh kvs k v).length<=kvs.length+1:=by
 unfold bh
 split <;> simp
theorem qq:∀ (ts a:List (af×V)),(ts.foldl (fun m kv=>bh m kv.1 kv.2) a).length<=a.length+ts.length
 | [],a=>EU _
 | kv::t,a=>by
  have h1:=qq t (bh a kv.1 kv.2)
  have h2:=Ca a kv.1 kv.2
  rw[Dh,C4]
  omega
abbrev jq (H:Hp):List V->List (af×V)->Prop:=Paired fun x kv=>∃ t,x=.ref t/\H t=some (.tup [kV kv.1,kv.2])
inductive oF (vs:List V)(H:Hp)(Q:VK):Prop
 | mk (p:Addr)(ys:List V)(ts:List (af×V))(e:vs=[.ref p])(h:H p=some (.lst ys))(hp:jq H ys ts)(hl:ts.length<=1000)(q:∀ D,H D=none->Q (.ref D) (upd H D (.dK (dj ts)))):oF vs H Q
theorem o7 {X:Cx}{pins:List (Addr×Obj)}{σ:St}{H:Hp}{s:Shared}(I:aa X pins σ H s):∀ {ys:List V}{ts:List (af×V)}{its:List Value},jq H ys ts->ap ys its ->
  ∃ ks:List (af×Value),KV ts ks/\∀ (i:Nat) v,its[i]?=some v->∃ t o key m kv,v=.ref t/\s.heap.get? t=some o/\o.cls=.type "tuple"/\o.data=.seq #[key,kv.2] m/\ks[i]?=some kv/\(bc X.prog X.w).is kv.1 key=true
 | _,_,_,.nil,.nil=>⟨[],.nil,fun i v h=>by simp at h⟩
 | _,_,_,.cons (b:=kv) ⟨t,e,ht⟩ r,.cons (b:=v) rv rvs=>by
  obtain⟨ks,h1,h2⟩:=o7 I r rvs
  subst e
  obtain rfl:v=Value.ref t:=rv
  obtain⟨_,its2,rv2,ob,e2,hcl,n,hd⟩:=I.hok t _ ht
  obtain⟨key,val,rfl,rk,rval⟩:=fg rv2
  refine⟨(kv.1,val)::ks,.cons ⟨rfl,rval⟩ h1,fun i v hv=>?_⟩
  cases i with
  | zero =>
   have ev:Value.ref t=v:=Option.some.inj hv
   exact⟨t,ob,key,n,(kv.1,val),ev.symm,e2,hcl,hd,rfl,gz rk⟩
  | succ i=>exact h2 i v hv
theorem rh {X:Cx}(hc:X.calm=true):bm X (.type "dict") oF:=by
 intro pins s σ H xs us Q I r h
 obtain⟨p,ys,ts,rfl,hp,hpr,hl,q⟩:=h
 obtain⟨u,rfl,rx⟩:=bX r
 cases rx
 have hh:X.A.handled=none:=I.ok.hd hc
 obtain⟨_,its,n,rv,e⟩:=I.hok p _ hp
 obtain⟨ks,kv,hval⟩:=o7 I hpr rv
 have l1:ts.length=ks.length:=Paired.length kv
 have l2:ys.length=its.length:=Paired.length rv
 have l3:ys.length=ts.length:=Paired.length hpr
 refine Do.call_dict (knd:=bc X.prog X.w) (ks:=ks) hh e rfl rfl rfl (by rw[CY];omega) (by rw[CY];omega) (fun i v hv=>hval i v (by rw[DX] at hv;exact hv)) fun h' tk keep hD=>?_
 have z:=qq ts []
 refine⟨.ref s.heap.objs.size,_,I.laid (a:=s.heap.objs.size) (o:=.dK (dj ts)) (t':=tk) keep (EU _) (vo (by show (dj ts).length<=FO;unfold dj;rw[Gs];simp only[DM] at z;omega) (beq_eq_false_iff_ne.mpr (Ne.symm (EV I.big))) (uX kv .nil) hD),rfl,q _ (I.hok.fresh (EU _))⟩
end L2
namespace Pr
open PySem L2 PyProof.Rows Ent
theorem xg:1<=FO:=by decide
theorem iC:4<=FO:=by decide
theorem xT {X:Cx}(K:W.Frag)(e:X.K=K:=by rfl):bj X (Gr .Add) (pQ K):=by rw[<-e];exact y8
theorem rX {st:List Lad.Step}{r:Nat}{es:List En}(ky:Ent.Keyed es)(ek:∀ e∈es,bi e)(el:es.length<=1000){H:Hp}:∀ {ms:List Int}{ys:List V}{ns:List Int}{a:List (af×V)},Paired (cy H) ys (ms.map fun n=>(n,own st r n es))->DV H a ns (fun n=>bd (own st r n es))->(ns++ms).Nodup->∃ ts:List (af×V),jq H ys ts/\ts.length=ms.length/\DV H (ts.foldl (fun m kv=>bh m kv.1 kv.2) a) (ns++ms) (fun n=>bd (own st r n es))
 | [],ys,ns,a,h,d,nd=>by
  cases h
  exact⟨[],.nil,rfl,by rw[DJ];exact d⟩
 | m::ms,ys,ns,a,h,d,nd=>by
  rw[C1] at h
  cases h with
  | cons h t =>
   obtain⟨p,v,rfl,hp,hb⟩:=h
   obtain⟨p2,rfl,dv,ov⟩:=BT.dat (kX ky) hb
   have hn:m∉ns:=fun z=>(List.nodup_append.mp nd).2.2 m z m (by simp) rfl
   have d2:=d.put (n:=m) (p:=p2) hn dv (qW ek el ov)
   have e2:ns++m::ms=(ns++[m])++ms:=by rw[DT];rfl
   rw[e2] at nd ⊢
   obtain⟨ts,t1,t2,t3⟩:=rX ky ek el t d2 nd
   exact⟨(.inl m,.ref p2)::ts,.cons ⟨p,rfl,hp⟩ t1,by rw[C4,C4,t2],t3⟩
noncomputable def dy (st:List Lad.Step) (r:Nat) (es:List En) (n:Int):PyData:=bd (own st r n es)
theorem ve {st:List Lad.Step}{r:Nat}{es:List En}(ky:Ent.Keyed es)(ek:∀ e∈es,bi e)(el:es.length<=1000){H:Hp}{ms:List Int}{ys:List V}(h:Paired (cy H) ys (ms.map fun n=>(n,own st r n es)))(nd:ms.Nodup)(mem:∀ n,n∈ms↔∃ e∈es,Lad.ur st r e.1=n) :
  ∃ ts:List (af×V),jq H ys ts/\ts.length=ms.length/\DD H (dj ts) ms (dy st r es):=by
 obtain⟨ts,h1,h2,h3⟩:=rX ky ek el h DV.nil (by rw[EG];exact nd)
 rw[EG] at h3
 refine⟨ts,h1,h2,h3.dd (fun n _=>rfl) fun n hn=>?_⟩
 unfold dy
 rw[mZ (fun z=>hn ((mem n).mpr z)),iU]
def gQ (H:Hp)(x:V)(p:Int×Int):Prop:=∃ t u v,x=.ref t/\H t=some (.tup [.int p.1,.int p.2,u,v])
theorem gQ.tups {H H':Hp}(s:∀ b xs,H b=some (.tup xs)->H' b=some (.tup xs)){x:V}{p:Int×Int}(h:gQ H x p):gQ H' x p:=by
 obtain⟨t,u,v,e,h⟩:=h
 exact⟨t,u,v,e,s _ _ h⟩
def plt (p q:Int×Int):Prop:=p.1<q.1\/(p.1=q.1/\p.2<q.2)
def ff (st:List Lad.Step)(es es':List En)(r:Nat)(n:Int):Prop:=PyData.eqv (dy st r es n) (dy st r es' n)=false
theorem BE {st:List Lad.Step}{es es':List En}{r:Nat}{n:Int}(h:ff st es es' r n):(∃ e∈es,Lad.ur st r e.1=n)\/∃ e∈es',Lad.ur st r e.1=n:=by
 by_cases h1:∃ e∈es,Lad.ur st r e.1=n
 ·exact .inl h1
 ·by_cases h2:∃ e∈es',Lad.ur st r e.1=n
  ·exact .inr h2
  ·unfold ff dy at h
   rw[mZ h1,mZ h2,iU] at h
   cases h
theorem sS {f g:Int->PyData}{H:Hp}:∀ {ns:List Int}{ys:List V},av H (ns.map (gU f g)) ys->Paired (fun x n=>∃ t u v,x=V.ref t/\H t=some (.tup [.int n,u,v])) ys ns
 | [],ys,h=>by
  unfold av at h
  rw[h]
  exact .nil
 | n::ns,ys,h=>by
  rw[C1] at h
  unfold av at h
  obtain⟨x,t,rfl,h1,h2⟩:=h
  refine .cons ?_ (sS h2)
  unfold gU aj at h1
  obtain⟨a,xs,rfl,ha,hd⟩:=h1
  unfold av at hd
  obtain⟨y1,r1,rfl,e1,hd⟩:=hd
  unfold av at hd
  obtain⟨y2,r2,rfl,e2,hd⟩:=hd
  unfold av at hd
  obtain⟨y3,r3,rfl,e3,hd⟩:=hd
  unfold av at hd
  subst hd
  unfold aj at e1
  subst e1
  exact⟨a,y2,y3,rfl,ha⟩
section
variable {P:FN}{w:World}{K:W.Frag}{mg:Str->Option Value}{base:Heap}{C:Addr}
inductive sx (C:Addr)(vs:List V)(H:Hp)(Q:VK)(E:XK):Prop
 | mk (x a c:Addr)(o o':HO)(xs xs':List V)(es es':List En)(b:Int)(ps:List Int)(rows:List Lad.Step)(e:vs=[.ref x,.ref a,.ref c])(hL:bu C H x b ps rows)(ok:cf b ps rows)(ha:H a=some o)(ho:Ob o xs)(hx:Paired (bM H) xs es)(hc:H c=some o')(ho':Ob o' xs')(hx':Paired (bM H) xs' es')(hl:es.length+es'.length<64)(ek:∀ e∈es,bi e)(ek':∀ e∈es',bi e)(ky:Ent.Keyed es)(ky':Ent.Keyed es')
  (q:∀ D ys (L:List (Int×Int)) H',ab H H'->H D=none->H' D=some (.lst ys)->Paired (gQ H') ys L->L.Pairwise plt->(∀ p,p∈L↔∃ r:Nat,p.1=(r:Int)/\r<=rows.length/\ff (aX b ps rows) es es' r p.2)->Q (.ref D) H'):sx C vs H Q E
theorem iQ:aA ["ladder","one","other","rows","roll","unlike"] ["ladder","one","other"] (aw og):=aE
set_option maxHeartbeats 8000000 in
theorem Bx (T:Txt K mg C):aK P w K mg base 8 "changes" ["ladder","one","other"] (sx C):=by
 refine aW T.f_changes iQ (fun vs H Q E h=>?_) (fun f cdv A outer s H vs Q E hr h=>?_)
 ·obtain⟨x,a,c,o,o',xs,xs',es,es',b,ps,rows,rfl,_⟩:=h
  rfl
 ·obtain⟨x,a,c,o,o',xs,xs',es,es',b,ps,rows,rfl,hL,ok,ha,ho,hx,hc,ho',hx',hl,ek,ek',ky,ky',q⟩:=h
  refine⟨_,(am (aG (i:=3) iQ.nd rfl (Or.inl rfl) (bO cT))
   (am (cP PassesOwn.never rfl (gL rfl T.b_range (ah (gH (pv 0) T.cl (io T) hr))) (ba (i:=4) iQ.nd rfl (Or.inr rfl))
    (am (aG (i:=5) iQ.nd rfl (Or.inl rfl) (ai (wL T) hr (ao (cq (rh rfl) T.b_dict boot_dict (ah (ai (uL T) hr (aO (pv 0) (pv 4) (pv 1))))) (cq (rh rfl) T.b_dict boot_dict (ah (ai (uL T) hr (aO (pv 0) (pv 4) (pv 2))))))))
    (aq (b8 (fI K PySem.F.plainAttrs_list PySem.F.slot_list_extend PySem.F.type_list_extend As (pv 3) (ah (cm rfl (bR iQ) (cc K (pv 5)) (fun _ _ _ _=>ca) (fun _ _ _ _=>(au (xT K) (be (ah (pv 5))) (pv 0))))))))))
   (aq (aB (pv 3))))),?_⟩
  obtain⟨dx,fa,fo,fc,hi⟩:=ig hL
  refine⟨EX _,fun R hR=>?_⟩
  have sR:ab H (upd H R (.lst [])):=ab.upd hR
  have uR:(upd H R (.lst [])) R=some (.lst []):=ae
  generalize (upd H R (.lst []))=H0 at sR uR
  refine⟨_,rfl,x,dx,_,rfl,sR _ _ hi,dO _ _ _ (by decide) (by decide) (by decide),x,b,ps,rows,rfl,hL.same sR,?_⟩
  have rl:=(ik ok.r).1
  refine⟨_,rfl,by omega,by omega,?_⟩
  refine gJ (fun k σ HX=>∃ v4 v5 ys L,σ=[some (.ref x),some (.ref a),some (.ref c),some (.ref R),v4,v5]/\ab H HX/\HX R=some (.lst ys)/\Paired (gQ HX) ys L/\L.Pairwise plt/\L.length<=63*k/\∀ p,p∈L↔∃ r:Nat,p.1=(r:Int)/\r<k/\ff (aX b ps rows) es es' r p.2) ⟨none,none,[],[],rfl,sR,uR,.nil,.nil,EU _,fun p=>⟨fun h=>(nomatch h),fun⟨r,_,h,_⟩=>absurd h (Nat.not_lt_zero _)⟩⟩ ?turn ?fin
  case fin =>
   rintro σ HX ⟨v4,v5,ys,L,rfl,sX,hRX,hP,pw,ll,mem⟩
   refine⟨_,rfl,q R ys L HX sX hR hRX hP pw fun p=>(mem p).trans ?_⟩
   have e:((rows.length+1:Nat):Int).toNat=rows.length+1:=Fs _
   rw[e]
   exact⟨fun⟨r,h1,h2,h3⟩=>⟨r,h1,by omega,h3⟩,fun⟨r,h1,h2,h3⟩=>⟨r,h1,by omega,h3⟩⟩
  case turn =>
   rintro i σ HX hi' ⟨v4,v5,ys,L,rfl,sX,hRX,hP,pw,ll,mem⟩
   have hir:i<=rows.length:=by omega
   refine⟨_,rfl,_,rfl,_,rfl,x,a,o,xs,es,i,b,ps,rows,by rw[Fv];rfl,hL.same sX,ok,hir,sX _ _ ha,ho,Paired.mono (fun _ _ z=>z.same sX) hx,by omega,ek,fun B bs ms H1 s1 hB0 hB hPB nd srt memB=>?_⟩
   obtain⟨ts,t1,t2,DA⟩:=ve ky ek (by omega) hPB nd memB
   have few:∀ {ms:List Int}{es:List En},ms.Nodup->(∀ n,n∈ms↔∃ e∈es,Lad.ur (aX b ps rows) i e.1=n)->ms.length<=es.length:=fun {ms es} nd mem=>by
    have:ms.length<=(es.map fun e=>Lad.ur (aX b ps rows) i e.1).length:=gM nd fun n hn=>by
     obtain⟨e',he,ee⟩:=(mem n).mp hn
     exact List.mem_map.mpr ⟨e',he,ee⟩
    rw[CW] at this
    exact this
   have f1:=few nd memB
   refine⟨B,bs,ts,rfl,hB,t1,by omega,fun DA' hDA=>?_⟩
   have s2:ab H1 (upd H1 DA' (.dK (dj ts))):=ab.upd hDA
   have u2:(upd H1 DA' (.dK (dj ts))) DA'=some (.dK (dj ts)):=ae
   generalize (upd H1 DA' (.dK (dj ts)))=H2 at s2 u2
   have sX2:=s1.trans s2
   have s02:=sX.trans sX2
   refine⟨_,rfl,_,rfl,_,rfl,x,c,o',xs',es',i,b,ps,rows,by rw[Fv];rfl,hL.same s02,ok,hir,s02 _ _ hc,ho',Paired.mono (fun _ _ z=>z.same s02) hx',by omega,ek',fun B' bs' ms' H3 s3 hB0' hB' hPB' nd' srt' memB'=>?_⟩
   obtain⟨ts',t1',t2',DB⟩:=ve ky' ek' (by omega) hPB' nd' memB'
   have f2:=few nd' memB'
   refine⟨B',bs',ts',rfl,hB',t1',by omega,fun DB' hDB=>?_⟩
   have s4:ab H3 (upd H3 DB' (.dK (dj ts'))):=ab.upd hDB
   have u4:(upd H3 DB' (.dK (dj ts'))) DB'=some (.dK (dj ts')):=ae
   generalize (upd H3 DB' (.dK (dj ts')))=H4 at s4 u4
   have s24:=s3.trans s4
   have s14:=s2.trans s24
   have sX4:=s1.trans s14
   refine⟨DA',DB',_,_,ms,ms',ms++ms',_,_,rfl,s24 _ _ u2,u4,DA.tups fun b xs h=>s14 _ _ h,DB.tups fun b xs h=>s4 _ _ h,by rw[C7];omega,fun n hn=>Dj _ hn,fun n hn=>C3 _ hn,fun U zs us H5 s5 hU0 hU nd5 srt5 mem5 dat5 len5=>?_⟩
   have ul:us.length<=63:=by
    have:=gM nd5 (zs:=ms++ms') fun n hn=>List.mem_append.mpr ((mem5 n).mp hn)
    rw[C7] at this
    omega
   have zp:=sS dat5
   have zl:=Paired.length zp
   have sX5:=sX4.trans s5
   refine⟨_,rfl,.inl ⟨rfl,_,.of (s5 _ _ (sX4 _ _ hRX))⟩,_,rfl,U,rfl,⟨_,.of hU⟩,fun Z hZ=>?_⟩
   refine fF (xs:=zs) (fun j qs H6=>H6 Z=some (.lst qs)/\ab H5 H6/\Paired (gQ H6) qs ((((us.filter fun n=>!PyData.eqv (dy (aX b ps rows) i es n) (dy (aX b ps rows) i es' n)).take j).map fun n=>((i:Int),n)))) ⟨ae,ab.upd hZ,.nil⟩ (fun j qs H6 h=>⟨h.1,.of (h.2.1 _ _ hU)⟩) (fun qs H6 h=>?_) fun j y qs H6 hj hy h=>?go
   case go =>
    obtain⟨d1,d2,d3⟩:=h
    obtain⟨n,hn,t,u,v,rfl,ht⟩:=Paired.get zp hy
    have dl:=Paired.length d3
    rw[CW,Db] at dl
    refine cI ⟨_,rfl,xg,fun t7 ht7=>?_⟩
    have s7:ab H6 (upd H6 t7 (.tup [.int (0+(i:Int))])):=ab.upd ht7
    have h7:(upd H6 t7 (.tup [.int (0+(i:Int))])) t7=some (.tup [.int (0+(i:Int))]):=ae
    generalize (upd H6 t7 (.tup [.int (0+(i:Int))]))=H7 at s7 h7
    refine⟨_,rfl,t7,t,_,_,rfl,rfl,.of h7,.of (s7 _ _ (d2 _ _ ht)),by simp,iC,fun z=>(nomatch z),fun _ t8 ht8=>?_⟩
    rw[Fv]
    have s8:ab H7 (upd H7 t8 (.tup ([.int (i:Int)]++[.int n,u,v]))):=ab.upd ht8
    have h8:(upd H7 t8 (.tup ([.int (i:Int)]++[.int n,u,v]))) t8=some (.tup [.int (i:Int),.int n,u,v]):=ae
    generalize (upd H7 t8 (.tup ([.int (i:Int)]++[.int n,u,v])))=H8 at s8 h8
    have s68:=s7.trans s8
    have hZ8:=s68 _ _ d1
    have tp:∀ b xs,H8 b=some (.tup xs)->(upd H8 Z (.lst (qs++[.ref t8]))) b=some (.tup xs):=fun b xs h=>by
     rw[upd_ne (fun z=>by rw[z,hZ8] at h;cases h)];exact h
    refine bw.mk hj (by omega) (by omega) hZ8 ⟨ae,fun b' o' h=>?_,?_⟩
    ·rw[upd_ne (aJ h hZ)]
     exact s68 _ _ (d2 _ _ h)
    ·rw[C9,hn,C8]
     exact Paired.snoc ⟨t8,u,v,rfl,tp _ _ h8⟩ (Paired.mapP d3 fun _ m z=>z.tups (fun b xs h=>tp _ _ (s68 _ _ h)))
   obtain⟨d1,d2,d3⟩:=h
   rw[Df (by omega)] at d3
   have s06:=(sX.trans sX5).trans d2
   have hR6:=d2 _ _ (sX5 _ _ hRX)
   have yl:=Paired.length hP
   have ql:=Paired.length d3
   rw[CW] at ql
   have fl:=Dl (fun n=>!PyData.eqv (dy (aX b ps rows) i es n) (dy (aX b ps rows) i es' n)) us
   refine⟨R,Z,ys,qs,rfl,rfl,hR6,d1,by rw[Gs];omega,?_⟩
   have tp:∀ b' xs',H6 b'=some (.tup xs')->(upd H6 R (.lst (ys++qs))) b'=some (.tup xs'):=fun b' xs' h=>by
    rw[upd_ne (fun z=>by rw[z,hR6] at h;cases h)];exact h
   refine⟨_,_,_,_,rfl,fun b' o' h=>?_,ae,Paired.append (Paired.mapP hP fun _ _ z=>z.tups fun b' xs' h=>tp _ _ (d2 _ _ (sX5 _ _ h))) (Paired.mapP d3 fun _ _ z=>z.tups tp),?_,?_,fun p=>?_⟩
   ·rw[upd_ne (aJ h hR)];exact s06 _ _ h
   ·refine List.pairwise_append.mpr ⟨pw,?_,fun p hp q' hq=>?_⟩
    ·refine List.pairwise_map.mpr ((List.Pairwise.filter _ ?_))
     refine(List.Pairwise.and srt5 nd5).imp fun {m n} h=>.inr ⟨rfl,?_⟩
     have h1:=h.1
     have h2:m≠n:=h.2
     omega
    ·obtain⟨r,h1,h2,_⟩:=(mem p).mp hp
     obtain⟨n,_,rfl⟩:=List.mem_map.mp hq
     exact .inl (by rw[h1];show (r:Int)<(i:Int);omega)
   ·rw[C7,CW];omega
   ·rw[Dv,mem,DP]
    constructor
    ·rintro (⟨r,h1,h2,h3⟩|⟨n,hn,rfl⟩)
     ·exact⟨r,h1,by omega,h3⟩
     ·obtain⟨_,h2⟩:=List.mem_filter.mp hn
      refine⟨i,rfl,by omega,?_⟩
      unfold ff
      cases z:PyData.eqv (dy (aX b ps rows) i es n) (dy (aX b ps rows) i es' n) with
      | false=>rfl
      | true=>rw[z] at h2;cases h2
    ·rintro⟨r,h1,h2,h3⟩
     by_cases z:r<i
     ·exact .inl ⟨r,h1,z,h3⟩
     ·obtain rfl:r=i:=by omega
      refine .inr ⟨p.2,List.mem_filter.mpr ⟨(mem5 _).mpr ?_,?_⟩,by rw[<-h1]⟩
      ·exact(BE h3).imp (memB _).mpr (memB' _).mpr
      ·unfold ff at h3
       rw[h3];rfl
end
end Pr
namespace L2
open PySem PySem.Spec PyProof.Rows
theorem ut {α β:Type}[DecidableEq α](f:β->α):∀ {xs:List β}{j:Nat}{x:β},(xs.map f).Nodup->xs[j]?=some x->xs.eraseIdx j=xs.filter fun y=>decide (f y≠f x)
 | [],_,_,_,h=>by cases h
 | y::r,0,x,hn,h=>by
  cases h
  rw[C1,Ei] at hn
  show r=_
  rw[DI,if_neg (by simp)]
  refine(List.filter_eq_self.mpr fun z hz=>?_).symm
  refine decide_eq_true fun e=>hn.1 ?_
  rw[<-e]
  exact List.mem_map.mpr ⟨z,hz,rfl⟩
 | y::r,j+1,x,hn,h=>by
  rw[C1,Ei] at hn
  have h:r[j]?=some x:=h
  have ne:f y≠f x:=fun e=>hn.1 (by rw[e];exact List.mem_map.mpr ⟨x,De h,rfl⟩)
  show y::r.eraseIdx j=_
  rw[DI,if_pos (decide_eq_true ne),ut f hn.2 h]
theorem p5 {α β:Type}(f:α->β):∀ (xs:List α) (j:Nat),(xs.map f).eraseIdx j=(xs.eraseIdx j).map f
 | [],_=>rfl
 | _::_,0=>rfl
 | x::r,j+1=>by
  show f x::(r.map f).eraseIdx j=f x::(r.eraseIdx j).map f
  rw[p5 f r j]
theorem ma {prog:FN}{w:World}{K:Type}[DecidableEq K]{knd:HeapKind prog w K}{A:Around}{E:Value->Shared->Prop}{s:Shared}{d a:Addr}{xs:List (K×Addr×Value)}{k:K}{p:Addr×Value}{Q:Option DictEntry->Shared->Prop}(hu:knd.room A)(hkey:knd.is s.heap k a)(hm:s.heap.DictOfH knd d xs)(hp:atKey xs k=some p)(hsz:xs.length<=FO)
  (h:∀ h',h'.DictOfH knd d (xs.filter fun y=>decide (y.1≠k))->Heap.SameBut d s.heap h'->Q (some (entryOfKey knd (k,p))) { s with heap:=h',toks:=s.toks+knd.draws k }):wpAny (model prog w) A (Builtin.Dict.takeOut d (.ref a)) Q E s:=by
 obtain⟨o,es,ep,ho,hc,hd,he,his,hn⟩:=hm
 unfold Builtin.Dict.takeOut
 try with_reducible refine Gf ?_
 refine Ge (knd.pyHash hu hkey (Ge (wpAny_dictFind_heap (s:={ s with toks:=s.toks+knd.draws k }) hu hkey ho hd he his hn (fun hno=>?_) fun j q hj=>?_)))
 ·rw[atKey_none_of_get hno] at hp;cases hp
 ·have eq:q=p:=by rw[atKey_of_get hn hj] at hp;exact Option.some.inj hp
  subst eq
  refine Ge (Jb (s:={ s with toks:=s.toks+knd.draws k }) ho hd ?_)
  rw[entry_at he j,hj]
  have hfil:xs.eraseIdx j=xs.filter fun y=>decide (y.1≠k):=ut (fun y:K×Addr×Value=>y.1) hn hj
  refine Ge (wpAny_updateDictKeys (hz:=by have e:=Jg he;omega) (s:={ s with toks:=s.toks+knd.draws k }) ho hd (Gh (h _ ⟨_,_,ep+1,EN _ ho (Obj.isFreed_of_dict (Obj.data_mapDictKeys hd _)),hc.mapDictKeys _,Obj.data_mapDictKeys hd _,?_,fun x hx=>?_,?_⟩ (Heap.SameBut.update ..))))
  ·obtain⟨l⟩:=es
   rw[<-hfil]
   simp only[List.eraseIdxIfInBounds_toArray] at he ⊢
   rw[he,p5]
  ·exact knd.keeps (his x (List.mem_filter.mp hx).1) ho hd (Heap.SameBut.update ..)
  ·exact(List.Sublist.map _ Eo).nodup hn
theorem KT.drop {H:Hp}{kvs:List (List af×V)}{xs:List (List af×Addr×Value)}(r:KT H kvs xs)(k:List af):KT H (eZ kvs k) (xs.filter fun y=>decide (y.1≠k)):=by
 unfold eZ
 induction r with
 | nil=>exact .nil
 | @cons p q ps qs h t ih =>
  rw[DI,DI]
  by_cases e:p.1=k
  ·rw[if_neg (by simp[e]),if_neg (by simp[<-h.1,e])];exact ih
  ·rw[if_pos (by simp[e]),if_pos (by simp[<-h.1,e])];exact .cons h ih
section
variable {X:Cx}{pins:List (Addr×Obj)}{σ:St}{H:Hp}{s:Shared}{a b:Addr}{kvs:List (List af×V)}{k:List af}{A:Around}{E:Value->Shared->Prop}
theorem rD {P:FN}{w:World}{h':Heap}{xs:List (List af×Addr×Value)}(z:kvs.length<=FO)(hd:(a == FP)=false)(rel:KT H kvs xs)(dd:h'.DictOfH (FQ (bc P w)) a xs):aS P w H h' a (.dT kvs):=by
 obtain⟨o,es,ep,h1,h2,h3,h4,h5,h6⟩:=dd
 exact⟨z,hd,xs,rel,o,es,ep,h1,h2,h3,h4,h6⟩
theorem B7 {Q:Unit->Shared->Prop}(hu:A.units+1<cLine)(I:aa X pins σ H s)(e:H a=some (.dT kvs))(eb:H b=some (.tup (k.map kV)))(l:(aP kvs k).isSome=true)(h:∀ s',aa X pins σ (upd H a (.dT (eZ kvs k))) s'->Q () s'):wpAny (model X.prog X.w) A (delItem (.ref a) (.ref b)) Q E s:=by
 obtain⟨z,hd,xs,rel,dd⟩:=iB I.hok e
 have hx:((atKey xs k).map (·.2)).isSome=true:=by rw[<-(rel.val k).isSome_eq];exact l
 obtain⟨p,hp⟩:∃ p,atKey xs k=some p:=by
  cases q:atKey xs k with
  | none=>rw[q] at hx;cases hx
  | some p=>exact⟨p,rfl⟩
 have hl:xs.length<=FO:=by rw[<-Paired.length rel];exact z
 refine wpAny_delItem_slot dd.typeIs (by decide) PySem.F.slot_dict_delitem (GM PySem.F.slot_dict_delitem dd.typeIs PySem.F.entry_dict_delitem ?_ (PySem.F.args_dict_delitem_2 _ _))
 unfold Builtin.«dict.__delitem__»
 refine Ge ?_
 unfold Builtin.Dict.dictSlotArgs
 refine Ge (Ja dd.typeIs ?_)
 show wpAny _ _ (pure (Value.ref a,Value.ref b)) _ _ s
 refine Gh ?_
 show wpAny _ _ (Builtin.Dict.takeOut a (.ref b) >>= _) _ _ s
 refine Ge (ma (Ix hu) (eS I.hok eb) dd hp hl fun h' dd' hs=>Ge (HQ (Gh ⟨.none,rfl,h _ ?_⟩)))
 have he:∃ q,h'.get? a=some q:=let ⟨q,_,_,hq,_⟩:=dd';⟨q,hq⟩
 have nab:b≠a:=fun z=>by rw[z,e] at eb;cases eb
 exact kh I (by rw[e];exact True.intro) hs he (rD (EY (ox kvs k) z) hd ((rel.drop k).keeps fun c ys q=>by rw[upd_ne (fun z=>by rw[z,e] at q;cases q)];exact q) dd')
end
section
variable {X:Cx}{o i:Expr}{td ty:TE}{pos tpos:Pos}
inductive si (td ty:TE)(D:cU)(σ:St)(H:Hp):Prop
 | mk (h:td σ H fun x H1=>ty σ H1 fun y H2=>∃ a b kvs k,x=.ref a/\y=.ref b/\H2 a=some (.dT kvs)/\H2 b=some (.tup (k.map kV))/\(aP kvs k).isSome=true/\D.nx σ (upd H2 a (.dT (eZ kvs k)))):si td ty D σ H
theorem xc (hu:X.A.units+1<cLine)(ho:PE X o td)(hi:PE X i ty):PS X (.Delete [.Subscript o i tpos] pos) (si td ty):=by
 refine⟨?_⟩
 intro pins s σ H D I h
 obtain⟨h⟩:=h
 refine wpAny_Delete (wpAny_deleteEach_cons (wpAny_delete_Subscript (ag (ho pins s σ H _ I h) fun u s1 ⟨x,H1,I1,rx,q1⟩=>ag (hi pins s1 σ H1 _ I1 q1) fun iv s2 ⟨y,H2,I2,ry,a,b,kvs,k,ex,ey,e,eb,l,q2⟩=>?_)))
 subst ex ey
 obtain rfl:u=Value.ref a:=rx
 obtain rfl:iv=Value.ref b:=ry
 exact B7 hu I2 e eb l fun s3 I3=>wpAny_deleteEach_nil ⟨σ,_,I3,q2⟩
end
end L2
namespace Pr
open PySem L2 PyProof.Rows Ent
abbrev BP:Type:=Int×Int
def bT (p:BP):List af:=[.inl p.1,.inl p.2]
theorem tu {p q:BP}(h:bT p=bT q):p=q:=by
 obtain⟨a,b⟩:=p
 obtain⟨c,d⟩:=q
 injection h with h1 h2
 injection h2 with h2 _
 cases h1
 cases h2
 rfl
def sd (prs:List BP):List (List af×V):=prs.map fun p=>(bT p,.bl true)
theorem i8 (prs:List BP):(sd prs).length=prs.length:=CW _
theorem gW (prs:List BP)(p:BP):(aP (sd prs) (bT p)).isSome=decide (p∈prs):=by
 induction prs with
 | nil=>rfl
 | cons q t ih =>
  show (aP ((bT q,V.bl true)::sd t) (bT p)).isSome=_
  by_cases e:q=p
  ·subst e
   rw[dz rfl,decide_eq_true (C6)];rfl
  ·rw[dI (fun z=>e (tu z)),ih]
   by_cases m:p∈t
   ·rw[decide_eq_true m,decide_eq_true (C5 _ m)]
   ·rw[decide_eq_false m,decide_eq_false (fun z=>(List.mem_cons.mp z).elim (fun y=>e y.symm) m)]
theorem p7 {prs:List BP}{p:BP}(h:p∉prs):bh (sd prs) (bT p) (.bl true)=sd (prs++[p]):=by
 unfold bh
 rw[gP,gW,decide_eq_false h,if_neg Bool.false_ne_true]
 unfold sd
 rw[C8]
 rfl
theorem uY (prs:List BP)(p:BP):eZ (sd prs) (bT p)=sd (prs.filter fun q=>decide (q≠p)):=by
 unfold eZ sd
 rw[List.filter_map]
 congr 1
 refine EH fun q _=>?_
 show decide (bT q≠bT p)=decide (q≠p)
 by_cases e:q=p
 ·subst e
  exact(decide_eq_false (fun z:bT q≠bT q=>z rfl)).trans (decide_eq_false (fun z:q≠q=>z rfl)).symm
 ·have z:bT q≠bT p:=fun z=>e (tu z)
  rw[decide_eq_true e,decide_eq_true z]
def A7 (x d:Addr):List (Str×V):=[("ladder",.ref x),("shut_pairs",.ref d)]
structure de (Dc:Addr)(H:Hp)(p x d:Addr)(prs:List BP):Prop where
 i:∃ dx,H p=some (.ins Dc dx (A7 x d))
 s:H d=some (.dT (sd prs))
theorem de.same {Dc:Addr}{H H':Hp}{p x d:Addr}{prs:List BP}(s:ab H H')(h:de Dc H p x d prs):de Dc H' p x d prs:=by
 obtain⟨⟨dx,h1⟩,h2⟩:=h
 exact⟨⟨dx,s _ _ h1⟩,s _ _ h2⟩
def cQ (U:BP->Prop)(prs:List BP):Option BP->Prop
 | none=>∀ p∈prs,¬ U p
 | some p=>p∈prs/\U p/\∀ q∈prs,U q->q=p\/plt p q
theorem plt_irr {p q:BP}(h:plt p q)(h2:plt q p):False:=by
 unfold plt at h h2
 omega
theorem cQ.one {U:BP->Prop}{prs:List BP}{r r':Option BP}(h:cQ U prs r)(h':cQ U prs r'):r=r':=by
 cases r with
 | none =>
  cases r' with
  | none=>rfl
  | some p=>exact absurd h'.2.1 (h p h'.1)
 | some p =>
  cases r' with
  | none=>exact absurd h.2.1 (h' p h.1)
  | some q =>
   rcases h.2.2 q h'.1 h'.2.1 with e|e
   ·rw[e]
   ·rcases h'.2.2 p h.1 h.2.1 with e2|e2
    ·rw[e2]
    ·exact(plt_irr e e2).elim
def gB (H:Hp)(v:V):Option BP->Prop
 | none=>v=.non
 | some p=>∃ t,v=.ref t/\H t=some (.tup [.int p.1,.int p.2])
def cO (st:List Lad.Step)(n:Nat)(es es':List En)(p:BP):Prop:=∃ r:Nat,p.1=(r:Int)/\r<=n/\ff st es es' r p.2
theorem Al {U:BP->Prop}{prs L:List BP}(m:∀ p,p∈L↔U p)(h:∀ p∈L,p∉prs):cQ U prs none:=fun p hp u=>h p ((m p).mpr u) hp
theorem xu {U:BP->Prop}{prs L:List BP}{i:Nat}{p:BP}(m:∀ p,p∈L↔U p)(pw:L.Pairwise plt)(hi:L[i]?=some p)(hp:p∈prs)(h:∀ q∈L.take i,q∉prs):cQ U prs (some p):=by
 refine⟨hp,(m p).mp (De hi),fun q hq hu=>?_⟩
 have hL:=(m q).mpr hu
 obtain⟨j,hj⟩:=List.mem_iff_getElem?.mp hL
 rcases Fh i j with z|z|z
 ·right
  obtain⟨h1,e1⟩:=List.getElem?_eq_some_iff.mp hi
  obtain⟨h2,e2⟩:=List.getElem?_eq_some_iff.mp hj
  have:=List.pairwise_iff_getElem.mp pw i j h1 h2 z
  rw[e1,e2] at this
  exact this
 ·subst z
  rw[hi] at hj
  exact .inl (Option.some.inj hj).symm
 ·exact absurd hq (h q (De (i:=j) (by rw[EI,if_pos z];exact hj)))
section
variable {P:FN}{w:World}{K:W.Frag}{mg:Str->Option Value}{base:Heap}{C:Addr}
inductive qF (Dc:Addr)(vs:List V)(H:Hp)(Q:VK)(E:XK):Prop
 | mk (p dx x:Addr)(e0:vs=[.ref p,.ref x])(hp:H p=some (.ins Dc dx []))(q:∀ d H',ax p H H'->H d=none->de Dc H' p x d []->Q .non H'):qF Dc vs H Q E
theorem vV:aA ["self","ladder"] ["self","ladder"] (aw jE):=aE
theorem A8 (T:Txt K mg C){f:Addr}{fd:Gy}(F:bq K "__init__" "Locks.__init__" jE f fd):ce P w K mg base cH 1 f fd ["self","ladder"] (qF (bG mg "Locks")):=by
 refine F.ok vV (fun vs H Q E h=>?_) (fun cdv A outer s H vs Q E hr h=>?_)
 ·obtain⟨p,dx,x,rfl,_⟩:=h
  rfl
 ·obtain⟨p,dx,x,rfl,hp,q⟩:=h
  refine⟨_,(am (jg (pv 0) (pv 1) rfl)
   (aq (jg (pv 0) pW rfl))),?_⟩
  refine⟨_,rfl,_,rfl,p,_,dx,_,rfl,hp,T.cl_Locks,T.n_Locks_ladder,by decide,?_⟩
  intro kn hkn
  have nk:kn≠p:=fun z=>by rw[z,ae] at hkn;cases hkn
  have hk0:H kn=none:=by rw[upd_ne nk] at hkn;exact hkn
  refine⟨_,rfl,p,_,dx,_,rfl,by rw[upd_ne (Ne.symm nk)];exact ae,T.cl_Locks,T.n_Locks_shut_pairs,by show 1<1000;decide,?_⟩
  refine q kn _ (fun c o h n=>?_) hk0 ⟨⟨dx,ae⟩,by rw[upd_ne nk];exact ae⟩
  rw[upd_ne n,upd_ne (aJ h hk0),upd_ne n];exact h
inductive qV (C Dc:Addr)(vs:List V)(H:Hp)(Q:VK)(E:XK):Prop
 | mk (p x d:Addr)(r n b:Int)(ps:List Int)(rows:List Lad.Step)(prs:List BP)(e0:vs=[.ref p,.int r,.int n])(hK:de Dc H p x d prs)(hL:bu C H x b ps rows)(r0:0<=r)(r1:r<=(rows.length:Int))(n0 : -cu<n)(n1:n<cu)(q:∀ H',ab H H'->Q (.bl (decide ((r,n)∈prs))) H'):qV C Dc vs H Q E
theorem xI:aA ["self","roll","number"] ["self","roll","number"] (aw mD):=aE
theorem vf (T:Txt K mg C):dU P w K mg base (bG mg "Locks") 4 "is_shut" ["self","roll","number"] (qV C (bG mg "Locks")):=by
 refine fC T.m_Locks_is_shut xI (fun vs H Q E h=>?_) (fun f cdv A outer s H vs Q E hr h=>?_)
 ·obtain⟨p,x,d,r,n,b,ps,rows,prs,rfl,_⟩:=h
  rfl
 ·obtain⟨p,x,d,r,n,b,ps,rows,prs,rfl,⟨⟨dx,hp⟩,hd⟩,hL,r0,r1,n0,n1,q⟩:=h
  refine⟨_,(am (b8 (ai (jv T) hr (aO (pv 1) ac (au bV (gH (gZ K (pv 0) rfl) T.cl (io T) hr) ac))))
   (am (b8 (ai (rK T) hr (ah (pv 2))))
   (aq (aB (Br (sY (dJ hr) (be (ao (pv 1) (pv 2))) (gZ K (pv 0) rfl))))))),?_⟩
  obtain⟨ldx,fa,fo,fc,hi⟩:=ig hL
  refine⟨_,rfl,_,rfl,p,_,dx,_,_,rfl,hp,T.cl_Locks,T.n_Locks_ladder,rfl,x,ldx,_,rfl,hi,dO _ _ _ (by decide) (by decide) (by decide),x,b,ps,rows,rfl,hL,_,_,rfl,rfl,r,0,_,rfl,r0,by omega,?_⟩
  refine⟨_,rfl,n,rfl,n0,n1,?_⟩
  refine⟨_,rfl,_,rfl,bE,fun t ht=>?_⟩
  have s1:ab H (upd H t (.tup [.int r,.int n])):=ab.upd ht
  refine⟨_,rfl,p,_,dx,_,_,rfl,s1 _ _ hp,T.cl_Locks,T.n_Locks_shut_pairs,rfl,d,_,rfl,b9.t (k:=bT (r,n)) (s1 _ _ hd) ae,?_⟩
  rw[gW]
  exact q _ s1
inductive qA (C Dc:Addr)(vs:List V)(H:Hp)(Q:VK)(E:XK):Prop
 | mk (p x d:Addr)(r n b:Int)(ps:List Int)(rows:List Lad.Step)(prs:List BP)(e0:vs=[.ref p,.int r,.int n])(hK:de Dc H p x d prs)(hL:bu C H x b ps rows)(r0:0<=r)(r1:r<=(rows.length:Int))(n0 : -cu<n)(n1:n<cu)(hl:prs.length<1000)(no:(r,n)∉prs)(q:∀ H',ax d H H'->de Dc H' p x d (prs++[(r,n)])->Q .non H'):qA C Dc vs H Q E
theorem AH:aA ["self","roll","number"] ["self","roll","number"] (aw lp):=aE
theorem AZ (T:Txt K mg C):dU P w K mg base (bG mg "Locks") 5 "shut" ["self","roll","number"] (qA C (bG mg "Locks")):=by
 refine fC T.m_Locks_shut AH (fun vs H Q E h=>?_) (fun f cdv A outer s H vs Q E hr h=>?_)
 ·obtain⟨p,x,d,r,n,b,ps,rows,prs,rfl,_⟩:=h
  rfl
 ·obtain⟨p,x,d,r,n,b,ps,rows,prs,rfl,⟨⟨dx,hp⟩,hd⟩,hL,r0,r1,n0,n1,hl,no,q⟩:=h
  refine⟨_,(am (bJ (eX (df (pv 0) T.cl_Locks (vf T) hr (ao (pv 1) (pv 2)))) ii bQ)
   (aq (mU (dJ hr) (gZ K (pv 0) rfl) (be (ao (pv 1) (pv 2))) im rfl))),?_⟩
  refine⟨_,rfl,p,dx,_,rfl,hp,rfl,_,rfl,_,rfl,p,x,d,r,n,b,ps,rows,prs,rfl,⟨⟨dx,hp⟩,hd⟩,hL,r0,r1,n0,n1,fun H1 s1=>⟨_,rfl,eI (decide_eq_false no) ?_⟩⟩
  refine⟨_,rfl,p,_,dx,_,_,rfl,s1 _ _ hp,T.cl_Locks,T.n_Locks_shut_pairs,rfl,_,rfl,_,rfl,bE,fun t ht=>?_⟩
  have s2:ab H (upd H1 t (.tup [.int r,.int n])):=s1.trans (ab.upd ht)
  refine⟨d,_,rfl,fq.t (k:=bT (r,n)) (s2 _ _ hd) ae (by rw[i8,Gs];omega),?_⟩
  rw[p7 no]
  have pd:p≠d:=fun z=>by rw[z,hd] at hp;cases hp
  exact q _ (fun c o h n=>by rw[upd_ne n];exact s2 _ _ h) ⟨⟨dx,by rw[upd_ne pd];exact s2 _ _ hp⟩,ae⟩
inductive pi (C Dc:Addr)(vs:List V)(H:Hp)(Q:VK)(E:XK):Prop
 | mk (p x d:Addr)(r n b:Int)(ps:List Int)(rows:List Lad.Step)(prs:List BP)(e0:vs=[.ref p,.int r,.int n])(hK:de Dc H p x d prs)(hL:bu C H x b ps rows)(r0:0<=r)(r1:r<=(rows.length:Int))(n0 : -cu<n)(n1:n<cu)(no:(r,n)∈prs)(q:∀ H',ax d H H'->de Dc H' p x d (prs.filter fun q=>decide (q≠(r,n)))->Q .non H'):pi C Dc vs H Q E
theorem xD:aA ["self","roll","number"] ["self","roll","number"] (aw nC):=aE
theorem A2 (T:Txt K mg C):dU P w K mg base (bG mg "Locks") 5 "open_bar" ["self","roll","number"] (pi C (bG mg "Locks")):=by
 refine fC T.m_Locks_open_bar xD (fun vs H Q E h=>?_) (fun f cdv A outer s H vs Q E hr h=>?_)
 ·obtain⟨p,x,d,r,n,b,ps,rows,prs,rfl,_⟩:=h
  rfl
 ·obtain⟨p,x,d,r,n,b,ps,rows,prs,rfl,⟨⟨dx,hp⟩,hd⟩,hL,r0,r1,n0,n1,no,q⟩:=h
  refine⟨_,(am (bJ (eY (eX (df (pv 0) T.cl_Locks (vf T) hr (ao (pv 1) (pv 2))))) ii bQ)
   (aq (xc (dJ hr) (gZ K (pv 0) rfl) (be (ao (pv 1) (pv 2)))))),?_⟩
  refine⟨_,rfl,p,dx,_,rfl,hp,rfl,_,rfl,_,rfl,p,x,d,r,n,b,ps,rows,prs,rfl,⟨⟨dx,hp⟩,hd⟩,hL,r0,r1,n0,n1,fun H1 s1=>⟨_,rfl,eI (by rw[decide_eq_true no];rfl) ?_⟩⟩
  refine⟨⟨_,rfl,p,_,dx,_,_,rfl,s1 _ _ hp,T.cl_Locks,T.n_Locks_shut_pairs,rfl,_,rfl,_,rfl,bE,fun t ht=>?_⟩⟩
  have s2:ab H (upd H1 t (.tup [.int r,.int n])):=s1.trans (ab.upd ht)
  refine⟨d,t,_,bT (r,n),rfl,rfl,s2 _ _ hd,ae,by rw[gW,decide_eq_true no],?_⟩
  rw[uY]
  have pd:p≠d:=fun z=>by rw[z,hd] at hp;cases hp
  exact q _ (fun c o h n=>by rw[upd_ne n];exact s2 _ _ h) ⟨⟨dx,by rw[upd_ne pd];exact s2 _ _ hp⟩,ae⟩
inductive tq (C Dc:Addr)(vs:List V)(H:Hp)(Q:VK)(E:XK):Prop
 | mk (p x d a c:Addr)(o o':HO)(xs xs':List V)(es es':List En)(b:Int)(ps:List Int)(rows:List Lad.Step)(prs:List BP)(e:vs=[.ref p,.ref a,.ref c])(hK:de Dc H p x d prs)(hL:bu C H x b ps rows)(ok:cf b ps rows)(ha:H a=some o)(ho:Ob o xs)(hx:Paired (bM H) xs es)(hc:H c=some o')(ho':Ob o' xs')(hx':Paired (bM H) xs' es')(hl:es.length+es'.length<64)(ek:∀ e∈es,bi e)(ek':∀ e∈es',bi e)(ky:Ent.Keyed es)(ky':Ent.Keyed es')
  (q:∀ v r H',ab H H'->gB H' v r->cQ (cO (aX b ps rows) rows.length es es') prs r->Q v H'):tq C Dc vs H Q E
theorem i3:aA ["self","one","other","roll","number","bar","beside"] ["self","one","other"] (aw kI):=aE
set_option maxHeartbeats 4000000 in
theorem k7 (T:Txt K mg C):dU P w K mg base (bG mg "Locks") 9 "broken" ["self","one","other"] (tq C (bG mg "Locks")):=by
 refine fC T.m_Locks_broken i3 (fun vs H Q E h=>?_) (fun f cdv A outer s H vs Q E hr h=>?_)
 ·obtain⟨p,x,d,a,c,o,o',xs,xs',es,es',b,ps,rows,prs,rfl,_⟩:=h
  rfl
 ·obtain⟨p,x,d,a,c,o,o',xs,xs',es,es',b,ps,rows,prs,rfl,hK,hL,ok,ha,ho,hx,hc,ho',hx',hl,ek,ek',ky,ky',q⟩:=h
  obtain⟨⟨dx,hp⟩,hd⟩:=id hK
  refine⟨_,(am (cP PassesOwn.never rfl (cc K (ai (Bx T) hr (aO (gZ K (pv 0) rfl) (pv 1) (pv 2)))) (gw K rfl (bI (ba (i:=3) i3.nd rfl (Or.inl rfl)) (bI (ba (i:=4) i3.nd rfl (Or.inl rfl)) (bI (ba (i:=5) i3.nd rfl (Or.inl rfl)) (bI (ba (i:=6) i3.nd rfl (Or.inl rfl)) dQ)))))
    (aq (bJ (oH (sY (dJ hr) (be (ao (pv 3) (pv 4))) (gZ K (pv 0) rfl)))
     (aq (aB (be (ao (pv 3) (pv 4)))))
     bQ)))
   (aq (aB fL))),?_⟩
  refine⟨_,rfl,p,_,dx,_,_,rfl,hp,T.cl_Locks,T.n_Locks_ladder,rfl,_,rfl,_,rfl,x,a,c,o,o',xs,xs',es,es',b,ps,rows,rfl,hL,ok,ha,ho,hx,hc,ho',hx',hl,ek,ek',ky,ky',fun D ys L H1 s1 hD0 hD hP pw mem=>?_⟩
  refine⟨D,rfl,⟨_,.of hD⟩,?_⟩
  refine iJ (xs:=ys) (fun i σ H2=>∃ v3 v4 v5 v6,σ=[some (.ref p),some (.ref a),some (.ref c),v3,v4,v5,v6]/\ab H1 H2/\∀ z∈L.take i,z∉prs) ⟨none,none,none,none,rfl,ab.refl _,fun z hz=>nomatch hz⟩ (fun i σ H2 _ ⟨_,_,_,_,_,s,_⟩=>.of (s _ _ hD)) ?_ ?_
  ·rintro i y σ H2 hy ⟨v3,v4,v5,v6,rfl,s2,no⟩
   obtain⟨z,hz,t,u,v,rfl,ht⟩:=Paired.get hP hy
   refine⟨t,_,rfl,.of (s2 _ _ ht),rfl,_,_,rfl,_,_,rfl,_,_,rfl,_,_,rfl,rfl,?_⟩
   refine⟨_,rfl,_,rfl,bE,fun t2 ht2=>?_⟩
   have s3:ab H1 (upd H2 t2 (.tup [.int z.1,.int z.2])):=s2.trans (ab.upd ht2)
   have s03:=s1.trans s3
   refine⟨_,rfl,p,_,dx,_,_,rfl,s03 _ _ hp,T.cl_Locks,T.n_Locks_shut_pairs,rfl,d,_,rfl,b9.t (k:=bT z) (s03 _ _ hd) ae,_,rfl,?_⟩
   rw[gW]
   by_cases hin:z∈prs
   ·refine eW (decide_eq_true hin) ⟨_,rfl,_,rfl,bE,fun t3 ht3=>?_⟩
    exact q _ (some z) _ (s03.trans (ab.upd ht3)) ⟨t3,rfl,ae⟩ (xu mem pw hz hin no)
   ·refine eI (decide_eq_false hin) ⟨_,_,_,_,rfl,s3,fun y hy=>?_⟩
    rw[C9,hz,Dv] at hy
    rcases hy with hy|hy
    ·exact no y hy
    ·simp only[FJ,DZ] at hy
     rw[hy];exact hin
  ·rintro σ H2 ⟨v3,v4,v5,v6,rfl,s2,no⟩
   refine q _ none _ (s1.trans s2) rfl (Al mem fun z hz=>no z ?_)
   rw[Df (by rw[Paired.length hP];exact EU _)]
   exact hz
inductive aL (H:Hp)(p:Addr):Prop
 | mk (x:Int)(y:Int)(h0_:H p=some (.lst [.int x,.int y])):aL H p
theorem aL.ne {H:Hp}{p l:Addr}(h:aL H p)(hl:H l=none):l≠p:=by
 obtain⟨x,y,h⟩:=h
 exact Ne.symm (aJ h hl)
theorem aL.same {H H':Hp}{p:Addr}(h:aL H p)(s:ab H H'):aL H' p:=by
 obtain⟨x,y,h⟩:=h
 exact⟨x,y,s _ _ h⟩
theorem lA {n:Nat}(h:n<=1000):n<=FO:=E7 (cR h)
theorem B1 (c:Bool) : -(2 ^ 64)<(if c=true then (1:Int) else 0)/\(if c=true then (1:Int) else 0)<2 ^ 64:=by cases c <;> decide
theorem rM {k:Int}{x y:Int}(h0:0<=k)(h1:k<2):∃ v,bY [V.int x,V.int y] k=some (.int v)/\(v=x\/v=y):=by
 obtain⟨m,rfl⟩:∃ m:Nat,k=m:=⟨k.toNat,by omega⟩
 match m,h1 with
 | 0,_=>exact⟨x,bz rfl,.inl rfl⟩
 | 1,_=>exact⟨y,bz rfl,.inr rfl⟩
 | m+2,h=>exact absurd h (by omega)
theorem kQ {k:Int}{x y z:Int}(h0:0<=k)(h1:k<3):∃ v,bY [V.int x,V.int y,V.int z] k=some (.int v)/\(v=x\/v=y\/v=z):=by
 obtain⟨m,rfl⟩:∃ m:Nat,k=m:=⟨k.toNat,by omega⟩
 match m,h1 with
 | 0,_=>exact⟨x,bz rfl,.inl rfl⟩
 | 1,_=>exact⟨y,bz rfl,.inr (.inl rfl)⟩
 | 2,_=>exact⟨z,bz rfl,.inr (.inr rfl)⟩
 | m+3,h=>exact absurd h (by omega)
theorem mF {k:Int}{x y z u:Int}(h0:0<=k)(h1:k<4):∃ v,bY [V.int x,V.int y,V.int z,V.int u] k=some (.int v)/\(v=x\/v=y\/v=z\/v=u):=by
 obtain⟨m,rfl⟩:∃ m:Nat,k=m:=⟨k.toNat,by omega⟩
 match m,h1 with
 | 0,_=>exact⟨x,bz rfl,.inl rfl⟩
 | 1,_=>exact⟨y,bz rfl,.inr (.inl rfl)⟩
 | 2,_=>exact⟨z,bz rfl,.inr (.inr (.inl rfl))⟩
 | 3,_=>exact⟨u,bz rfl,.inr (.inr (.inr rfl))⟩
 | m+4,h=>exact absurd h (by omega)
inductive qT (K:W.Frag)(vs:List V)(H:Hp)(Q:VK)(E:XK):Prop
 | mk (a:Addr)(ns:List Int)(k:Int)(h0_:vs=[.ref a,.int k])(h1_:aU K H a (ns.map V.int))(h2_:ns.length<=900)(h3_:0<=k)(h4_:∀ p H',ab H H'->H p=none->aL H' p->Q (.ref p) H'):qT K vs H Q E
theorem tU:aA ["_law_script","_law_k","_law_cell"] ["_law_script","_law_k"] (aw mq):=aE
theorem qQ (T:Txt K mg C):aK P w K mg base 1 "_law_pot" ["_law_script","_law_k"] (qT K):=by
 refine aW T.f_law_pot tU (fun vs H Q E h=>?_) (fun f cdv A outer s H vs Q E hr h=>?_)
 ·obtain⟨a,ns,k,rfl,_⟩:=h
  rfl
 ·obtain⟨a,ns,k,rfl,ha,hlen,hk,q⟩:=h
  refine⟨_,am (aG (i:=2) tU.nd rfl (Or.inl rfl) (ay (bH K) (au mo (cq (BS K) T.b_list Ik (ah (pv 0))) (bO (ah ac))) (aM (sj rfl) T.b_min Iu (ao (pv 1) (aM (gY K) T.b_len Im (ah (pv 0))))) (fun _ _=>rfl)))
   (aq (aB (bO (ao (au cS (pv 2) (cq sT T.b_int boot_int (ah (ic mT (pv 2) (au dm ac ac) (bD _)))))
    (au ix (au cg (au cg (au cS (au ix (pv 2) ac) ac) (au cS ac (pv 1))) ac) ac))))),?_⟩
  refine⟨_,rfl,a,_,rfl,.inl ha,fun l1 hl1=>⟨lA (by decide +kernel),fun l2 hl2=>?_⟩⟩
  have n12:l1≠l2:=aJ ae hl2
  refine⟨l1,l2,_,_,rfl,rfl,by rw[upd_ne n12];exact ae,ae,lA (by rw[CW,Dp];omega),fun l3 hl3=>?_⟩
  have s3:ab H _:=((ab.upd (o:=.lst (ns.map V.int)) hl1).trans (ab.upd (o:=.lst [.int 0]) hl2)).trans (ab.upd (o:=.lst (ns.map V.int++[.int 0])) hl3)
  refine⟨_,rfl,_,rfl,a,_,rfl,.inl (s3.seq ha),_,_,rfl,?_⟩
  have hm0:0<=(if (((ns.map V.int).length:Nat):Int)<k then (((ns.map V.int).length:Nat):Int) else k):=by split <;> omega
  have hm1:(if (((ns.map V.int).length:Nat):Int)<k then (((ns.map V.int).length:Nat):Int) else k)<(((ns++[0]).length:Nat):Int):=by
   rw[CW,C7,Dp]
   split <;> omega
  have e3:ns.map V.int++[V.int 0]=(ns++[0]).map V.int:=by rw[C8];rfl
  refine⟨l3,_,_,_,rfl,rfl,.of (ae.trans (by rw[e3])),jt hm0 hm1,?_⟩
  refine⟨_,rfl,_,rfl,_,_,rfl,rfl,⟨by decide +kernel,by decide +kernel,by decide +kernel⟩,_,_,rfl,rfl,.inr ⟨_,rfl,_,_,rfl,rfl,.inr (B1 _),?_⟩⟩
  refine⟨_,rfl,_,_,rfl,rfl,(by show (0:Int)<_;decide +kernel),_,_,rfl,rfl,.inr ⟨by decide +kernel,by decide +kernel⟩,_,rfl,_,_,rfl,rfl,.inl ⟨by decide +kernel,by decide +kernel⟩,_,_,rfl,rfl,_,_,rfl,rfl,_,_,rfl,rfl,(by show (0:Int)<_;decide +kernel),bE,fun p hp=>?_⟩
  refine q p _ (s3.trans (ab.upd hp)) ?_ ⟨_,_,ae⟩
  exact s3.free hp
inductive uM (vs:List V)(H:Hp)(Q:VK)(E:XK):Prop
 | mk (p:Addr)(many:Int)(h0_:vs=[.ref p,.int many])(h1_:aL H p)(h2_:0<many)(h3_:many<2 ^ 300)(h4_:∀ d H',0<=d->d<many->ax p H H'->aL H' p->Q (.int d) H'):uM vs H Q E
theorem tw:aA ["_law_pot_here","_law_many","_law_digit_here"] ["_law_pot_here","_law_many"] (aw lS):=aE
theorem aY (T:Txt K mg C):aK P w K mg base 1 "_law_digit" ["_law_pot_here","_law_many"] uM:=by
 refine aW T.f_law_digit tw (fun vs H Q E h=>?_) (fun f cdv A outer s H vs Q E hr h=>?_)
 ·obtain⟨p,many,rfl,_⟩:=h
  rfl
 ·obtain⟨p,many,rfl,⟨x,y,hp⟩,h0,h1,q⟩:=h
  refine⟨_,am (bJ (bU gy (ay (bH K) (pv 0) ac (fun _ _=>rfl)) ac (bD _))
    (am (aG (i:=2) tw.nd rfl (Or.inl rfl) (au ix (ay (bH K) (pv 0) ac (fun _ _=>rfl)) (pv 1)))
    (am (fU (au lO (ay (bH K) (pv 0) ac (fun _ _=>rfl)) (pv 1)) (jS (pv 0) ac iR))
    (aq (aB (pv 2))))) bQ)
   (am (fU (au ix (au cg (au cS (ay (bH K) (pv 0) ac (fun _ _=>rfl)) ac) ac) ac) (jS (pv 0) ac iR))
   (aq (aB (au ix (au lO (ay (bH K) (pv 0) ac (fun _ _=>rfl)) ac) (pv 1))))),?_⟩
  refine⟨_,rfl,p,_,_,_,rfl,rfl,.of hp,rfl,_,_,rfl,rfl,_,rfl,?_⟩
  refine j8 (fun hc=>?_) (fun hc=>?_)
  ·refine⟨_,rfl,p,_,_,_,rfl,rfl,.of hp,rfl,_,rfl,_,_,rfl,rfl,h0,?_⟩
   refine⟨_,rfl,p,_,_,_,rfl,rfl,.of hp,rfl,_,rfl,_,_,rfl,rfl,⟨h0,h1⟩,_,rfl,p,_,_,_,rfl,rfl,hp,rfl,_,rfl,?_⟩
   exact q _ _ (Ft _ (by omega)) (Fu _ h0) ax.upd ⟨_,_,ae⟩
  ·refine⟨_,rfl,p,_,_,_,rfl,rfl,.of hp,rfl,_,_,rfl,rfl,.inr ⟨by decide +kernel,by decide +kernel⟩,_,_,rfl,rfl,_,_,rfl,rfl,(by show (0:Int)<_;decide +kernel),_,rfl,p,_,_,_,rfl,rfl,hp,rfl,?_⟩
   refine⟨_,rfl,p,_,_,_,rfl,rfl,.of ae,rfl,_,_,rfl,rfl,⟨by decide +kernel,by decide +kernel⟩,_,rfl,_,_,rfl,rfl,h0,?_⟩
   exact q _ _ (Ft _ (by omega)) (Fu _ h0) ax.upd ⟨_,_,ae⟩
abbrev cx:Int:=100000000000000000000000000000
inductive o6 (vs:List V)(H:Hp)(Q:VK)(E:XK):Prop
 | mk (p:Addr)(h0_:vs=[.ref p])(h1_:aL H p)(h2_:∀ d H',-cx<d->d<cx->ax p H H'->aL H' p->Q (.int d) H'):o6 vs H Q E
theorem xK:aA ["_law_pot_here"] ["_law_pot_here"] (aw nH):=aE
theorem yb (T:Txt K mg C):aK P w K mg base 2 "_law_begin" ["_law_pot_here"] o6:=by
 refine aW T.f_law_begin xK (fun vs H Q E h=>?_) (fun f cdv A outer s H vs Q E hr h=>?_)
 ·obtain⟨p,rfl,_⟩:=h
  rfl
 ·obtain⟨p,rfl,hp,q⟩:=h
  refine⟨_,(aq (aB (ay (bH K) (bO (ao (au bV (ai (aY T) hr (ao (pv 0) ac)) ac) (au bV (ai (aY T) hr (ao (pv 0) (au cS ac (au dm ac ac)))) (au dm ac ac)))) (ai (aY T) hr (ao (pv 0) ac)) (fun _ _=>rfl)))),?_⟩
  refine⟨_,rfl,p,_,rfl,hp,by decide +kernel,by decide +kernel,fun d1 H1 a1 b1 c1 hp1=>⟨_,_,rfl,rfl,?_⟩⟩
  refine⟨_,rfl,_,_,rfl,rfl,⟨by decide +kernel,by decide +kernel,by decide +kernel⟩,_,_,rfl,rfl,.inl ⟨by decide +kernel,by decide +kernel⟩,p,_,rfl,hp1,by decide +kernel,by decide +kernel,fun d2 H2 a2 b2 c2 hp2=>⟨_,_,rfl,rfl,⟨by decide +kernel,by decide +kernel,by decide +kernel⟩,_,_,rfl,rfl,bE,fun l hl=>?_⟩⟩
  refine⟨_,rfl,p,_,rfl,hp2.same (ab.upd hl),by decide +kernel,by decide +kernel,fun d3 H3 a3 b3 c3 hp3=>?_⟩
  obtain⟨v,hv,hor⟩:=rM (x:=d1-49) (y:=d2-10 ^ (28:Int).toNat) a3 b3
  refine⟨l,_,_,_,rfl,rfl,.of (c3 _ _ ae (hp2.ne hl)),hv,q v H3 ?_ ?_ (((c1.trans c2).trans (ab.upd hl).but).trans c3) hp3⟩
  all_goals
   have e28:(10:Int) ^ (28:Int).toNat=10000000000000000000000000000:=by decide +kernel
   have hB:cx=100000000000000000000000000000:=rfl
   rw[e28] at hor b2
   rcases hor with rfl|rfl <;> omega
inductive oz (vs:List V)(H:Hp)(Q:VK)(E:XK):Prop
 | mk (p:Addr)(b:Int)(h0_:vs=[.ref p,.int b])(h1_:aL H p)(b0 : -cx<b)(b1:b<cx)(h2_:∀ d H',-aN<d->d<aN->ax p H H'->aL H' p->Q (.int d) H'):oz vs H Q E
theorem lu:aA ["_law_pot_here","_law_begin_here","_law_near_here","_law_far"] ["_law_pot_here","_law_begin_here"] (aw mB):=aE
theorem pX (T:Txt K mg C):aK P w K mg base 2 "_law_near" ["_law_pot_here","_law_begin_here"] oz:=by
 refine aW T.f_law_near lu (fun vs H Q E h=>?_) (fun f cdv A outer s H vs Q E hr h=>?_)
 ·obtain⟨p,b,rfl,_⟩:=h
  rfl
 ·obtain⟨p,b,rfl,hp,b0,b1',q⟩:=h
  refine⟨_,(am (aG (i:=2) lu.nd rfl (Or.inl rfl) (au bV (ai (aY T) hr (ao (pv 0) ac)) ac))
   (am (aG (i:=3) lu.nd rfl (Or.inl rfl) (au bV (ai (aY T) hr (ao (pv 0) (au cS ac (au dm ac ac)))) (au dm ac ac)))
   (aq (aB (au cg (pv 1) (ay (bH K) (bO (aO (pv 2) (pv 2) (pv 3))) (ai (aY T) hr (ao (pv 0) ac)) (fun _ _=>rfl))))))),?_⟩
  refine⟨_,rfl,p,_,rfl,hp,by decide +kernel,by decide +kernel,fun d1 H1 a1 b1 c1 hp1=>⟨_,_,rfl,rfl,?_⟩⟩
  refine⟨_,rfl,_,_,rfl,rfl,⟨by decide +kernel,by decide +kernel,by decide +kernel⟩,_,_,rfl,rfl,.inl ⟨by decide +kernel,by decide +kernel⟩,p,_,rfl,hp1,by decide +kernel,by decide +kernel,fun d2 H2 a2 b2 c2 hp2=>⟨_,_,rfl,rfl,⟨by decide +kernel,by decide +kernel,by decide +kernel⟩,_,_,rfl,rfl,?_⟩⟩
  refine⟨_,rfl,_,rfl,_,rfl,_,rfl,dZ,fun l hl=>?_⟩
  refine⟨_,rfl,p,_,rfl,hp2.same (ab.upd hl),by decide +kernel,by decide +kernel,fun d3 H3 a3 b3 c3 hp3=>?_⟩
  obtain⟨v,hv,hor⟩:=kQ (x:=d1-100) (y:=d1-100) (z:=d2-10 ^ (12:Int).toNat) a3 b3
  refine⟨l,_,_,_,rfl,rfl,.of (c3 _ _ ae (hp2.ne hl)),hv,_,_,rfl,rfl,q (b+v) H3 ?_ ?_ (((c1.trans c2).trans (ab.upd hl).but).trans c3) hp3⟩
  all_goals
   have e28:(10:Int) ^ (12:Int).toNat=1000000000000:=by decide +kernel
   have hB:cx=100000000000000000000000000000:=rfl
   have hW:aN=1000000000000000000000000000000:=rfl
   rw[e28] at hor b2
   rcases hor with rfl|rfl|rfl <;> omega
inductive qG (vs:List V)(H:Hp)(Q:VK)(E:XK):Prop
 | mk (p:Addr)(h0_:vs=[.ref p])(h1_:aL H p)(h2_:∀ d H',-aN<d->d<aN->ax p H H'->aL H' p->Q (.int d) H'):qG vs H Q E
theorem nR:aA ["_law_pot_here","_law_far","_law_near_here"] ["_law_pot_here"] (aw mQ):=aE
theorem k9 (T:Txt K mg C):aK P w K mg base 2 "_law_wide" ["_law_pot_here"] qG:=by
 refine aW T.f_law_wide nR (fun vs H Q E h=>?_) (fun f cdv A outer s H vs Q E hr h=>?_)
 ·obtain⟨p,rfl,_⟩:=h
  rfl
 ·obtain⟨p,rfl,hp,q⟩:=h
  refine⟨_,(am (aG (i:=1) nR.nd rfl (Or.inl rfl) (au cg (au bV (ai (aY T) hr (ao (pv 0) (au bV (au cS ac (au dm ac ac)) ac))) (au dm ac ac)) ac))
   (am (aG (i:=2) nR.nd rfl (Or.inl rfl) (au bV (ai (aY T) hr (ao (pv 0) ac)) ac))
   (aq (aB (ay (bH K) (bO (aR (pv 2) (aO (pv 2) (pv 2) (pv 1)))) (ai (aY T) hr (ao (pv 0) ac)) (fun _ _=>rfl)))))),?_⟩
  refine⟨_,rfl,_,_,rfl,rfl,⟨by decide +kernel,by decide +kernel,by decide +kernel⟩,_,_,rfl,rfl,.inl ⟨by decide +kernel,by decide +kernel⟩,_,_,rfl,rfl,p,_,rfl,hp,by decide +kernel,by decide +kernel,fun d1 H1 a1 b1 c1 hp1=>⟨_,_,rfl,rfl,⟨by decide +kernel,by decide +kernel,by decide +kernel⟩,_,_,rfl,rfl,_,_,rfl,rfl,?_⟩⟩
  refine⟨_,rfl,p,_,rfl,hp1,by decide +kernel,by decide +kernel,fun d2 H2 a2 b2 c2 hp2=>⟨_,_,rfl,rfl,?_⟩⟩
  refine⟨_,rfl,_,rfl,_,rfl,_,rfl,iC,fun l hl=>?_⟩
  refine⟨_,rfl,p,_,rfl,hp2.same (ab.upd hl),by decide +kernel,by decide +kernel,fun d3 H3 a3 b3 c3 hp3=>?_⟩
  obtain⟨v,hv,hor⟩:=mF (x:=d2-2) (y:=d2-2) (z:=d2-2) (u:=d1-10 ^ (30:Int).toNat+1) a3 b3
  refine⟨l,_,_,_,rfl,rfl,.of (c3 _ _ ae (hp2.ne hl)),hv,q v H3 ?_ ?_ (((c1.trans c2).trans (ab.upd hl).but).trans c3) hp3⟩
  all_goals
   have e30:(10:Int) ^ (30:Int).toNat=1000000000000000000000000000000:=by decide +kernel
   have hW:aN=1000000000000000000000000000000:=rfl
   rw[e30] at hor b1
   rcases hor with rfl|rfl|rfl|rfl <;> omega
inductive qX (C:Addr)(vs:List V)(H:Hp)(Q:VK)(E:XK):Prop
 | mk (p x:Addr)(b0 b:Int)(ps:List Int)(rows:List Lad.Step)(h0_:vs=[.ref p,.ref x,.int b0])(h1_:aL H p)(hL:bu C H x b ps rows)(ok:cf b ps rows)(b1 : -cx<b0)(b2:b0<cx)(q:∀ t r n H',ax p H H'->aL H' p->H t=none->H' t=some (.tup [.int r,.int n])->0<=r->r<=(rows.length:Int)->-cu<n->n<cu->Q (.ref t) H'):qX C vs H Q E
theorem jK:aA ["_law_pot_here","_law_ladder","_law_begin_here","_law_roll","_law_near_here","_law_far"] ["_law_pot_here","_law_ladder","_law_begin_here"] (aw lj):=aE
set_option maxHeartbeats 4000000 in
theorem Ah (T:Txt K mg C):aK P w K mg base 5 "_law_bar" ["_law_pot_here","_law_ladder","_law_begin_here"] (qX C):=by
 refine aW T.f_law_bar jK (fun vs H Q E h=>?_) (fun f cdv A outer s H vs Q E hr h=>?_)
 ·obtain⟨p,x,b0,b,ps,rows,rfl,_⟩:=h
  rfl
 ·obtain⟨p,x,b0,b,ps,rows,rfl,hp,hL,ok,bb1,bb2,q⟩:=h
  refine⟨_,(am (aG (i:=3) jK.nd rfl (Or.inl rfl) (ai (aY T) hr (ao (pv 0) (gH (pv 1) T.cl (io T) hr))))
   (am (aG (i:=4) jK.nd rfl (Or.inl rfl) (df (pv 1) T.cl (qu T) hr (ao (pv 3) (ai (pX T) hr (ao (pv 0) (pv 2))))))
   (am (aG (i:=5) jK.nd rfl (Or.inl rfl) (au cg (au bV (ai (aY T) hr (ao (pv 0) (au bV (au cS ac (au dm ac ac)) ac))) (au dm ac ac)) ac))
   (aq (aB (be (ao (pv 3) (ay (bH K) (bO (aR (pv 4) (aO (pv 4) (au bV (ai (aY T) hr (ao (pv 0) ac)) ac) (pv 5)))) (ai (aY T) hr (ao (pv 0) ac)) (fun _ _=>rfl))))))))),?_⟩
  obtain⟨dx,fa,fo,fc,hi⟩:=ig hL
  have xp:x≠p:=by
   obtain⟨y1,y2,hy⟩:=hp
   exact fun z=>by rw[z,hy] at hi;cases hi
  have rl:=(ik ok.r).1
  have lad:∀ H',ax p H H'->bu C H' x b ps rows:=fun H' c=>by
   obtain⟨y1,y2,hy⟩:=hp
   obtain⟨ldx,a1,a2,a3,us',j1,j2,j3,j4,j5⟩:=hL
   have tp:∀ b' ys,H b'=some (.tup ys)->H' b'=some (.tup ys):=fun b' ys h=>c _ _ h fun z=>by rw[z,hy] at h;cases h
   refine⟨ldx,a1,a2,a3,us',c _ _ j1 (fun z=>by rw[z,hy] at j1;cases j1),tp _ _ j2,tp _ _ j3,tp _ _ j4,Paired.mono (fun _ _ z=>?_) j5⟩
   obtain⟨r',l',e',q1,q2⟩:=z
   exact⟨r',l',e',tp _ _ q1,tp _ _ q2⟩
  refine⟨_,rfl,_,rfl,x,dx,_,rfl,hi,dO _ _ _ (by decide) (by decide) (by decide),x,b,ps,rows,rfl,hL,p,_,rfl,hp,by omega,Fx (b:=100) (by omega) (by decide +kernel),fun r H1 r0 r1 c1 hp1=>?_⟩
  have hi1:=c1 _ _ hi xp
  refine⟨_,rfl,x,dx,_,rfl,hi1,dO _ _ _ (by decide) (by decide) (by decide),_,rfl,_,rfl,_,rfl,p,b0,rfl,hp1,bb1,bb2,fun m H2 m0 m1 c2 hp2=>?_⟩
  have c02:=c1.trans c2
  refine⟨x,r,m,b,ps,rows,rfl,lad H2 c02,ok,r0,by omega,m0,m1,fun H3 s3=>?_⟩
  obtain⟨k,rfl⟩:∃ k:Nat,r=k:=⟨r.toNat,by omega⟩
  rw[qo]
  have uf:=wc ok k m0 m1
  generalize Lad.ur (aX b ps rows) k m=nn at uf
  have c03:=c02.trans s3.but
  have hp3:=hp2.same s3
  refine⟨_,rfl,_,_,rfl,rfl,⟨by decide +kernel,by decide +kernel,by decide +kernel⟩,_,_,rfl,rfl,.inl ⟨by decide +kernel,by decide +kernel⟩,_,_,rfl,rfl,p,_,rfl,hp3,by decide +kernel,by decide +kernel,fun d1 H4 a4 b4 c4 hp4=>⟨_,_,rfl,rfl,⟨by decide +kernel,by decide +kernel,by decide +kernel⟩,_,_,rfl,rfl,_,_,rfl,rfl,?_⟩⟩
  refine⟨_,rfl,_,rfl,_,rfl,_,rfl,p,_,rfl,hp4,by decide +kernel,by decide +kernel,fun d2 H5 a5 b5 c5 hp5=>⟨_,_,rfl,rfl,_,rfl,iC,fun l hl=>?_⟩⟩
  refine⟨_,rfl,p,_,rfl,hp5.same (ab.upd hl),by decide +kernel,by decide +kernel,fun d3 H6 a6 b6 c6 hp6=>?_⟩
  obtain⟨v,hv,hor⟩:=mF (x:=nn) (y:=nn) (z:=d2-4) (u:=d1-10 ^ (40:Int).toNat+1) a6 b6
  have c06:=(((c03.trans c4).trans c5).trans (ab.upd hl).but).trans c6
  refine⟨l,_,_,_,rfl,rfl,.of (c6 _ _ ae (hp5.ne hl)),hv,bE,fun t ht=>q t k v _ (c06.trans (ab.upd ht).but) (hp6.same (ab.upd ht)) ?_ ae r0 (by omega) ?_ ?_⟩
  ·cases e:H t with
   | none=>rfl
   | some o =>
    have tp:t≠p:=hp6.ne ht
    rw[c06 _ _ e tp] at ht
    cases ht
  all_goals
   have e40:(10:Int) ^ (40:Int).toNat=10000000000000000000000000000000000000000:=by decide +kernel
   have hW:aN=1000000000000000000000000000000:=rfl
   have hW4:cu=10000000000000000000000000000000000000000:=rfl
   rw[e40] at hor b4
   rcases hor with rfl|rfl|rfl|rfl <;> omega
end
end Pr
namespace L2
open PySem PySem.Spec PyProof.Rows
section
variable {X:Cx}
end
end L2
namespace Pr
open PySem L2 PyProof.Rows Ent
theorem pV {d:Int}(h1 : -1000000000<=d)(h2:d<=1000000000)(h3:d≠0):dR d=true:=by
 unfold dR
 rw[decide_eq_true h1,decide_eq_true h2,decide_eq_false h3]
 rfl
theorem BK {S:List Int}(h1:1<=S.length)(h2:S.length<=12)(h3:∀ v∈S,1<=v/\v<=1000):eK S=true:=by
 unfold eK bS
 rw[decide_eq_true (by omega),decide_eq_true (by omega),Bool.and_true,Bool.true_and,Dq]
 intro v hv
 unfold ip
 rw[decide_eq_true (h3 v hv).1,decide_eq_true (h3 v hv).2]
 rfl
theorem vL {ps:List Int}(h1:1<=ps.length)(h2:ps.length<=12)(h3:∀ v∈ps,dR v=true)(h4:0<ps.headD 0):eh ps=true:=by
 unfold eh bS iX
 rw[decide_eq_true (by omega),decide_eq_true (by omega),decide_eq_true h4,List.all_eq_true.mpr h3]
 rfl
theorem Af {rows:List Lad.Step}(h2:rows.length<=4)(h3:∀ v∈rows,dB v=true):eQ rows=true:=by
 unfold eQ bS
 rw[decide_eq_true (by omega),decide_eq_true (by omega),List.all_eq_true.mpr h3]
 rfl
theorem qv {p l:Addr}{H H':Hp}(b:ax p H H')(h:H' l=none)(hp:aL H' p):H l=none:=by
 cases e:H l with
 | none=>rfl
 | some o =>
  have:=b l o e (hp.ne h)
  rw[h] at this
  cases this
def gm (H:Hp)(v:V)(s:Lad.Step):Prop:=∃ r l,v=.ref r/\H r=some (.tup [.int s.1,.ref l])/\H l=some (.tup (s.2.map V.int))/\s.2.length<=1000
theorem gm.tups {H H':Hp}(t:∀ b xs,H b=some (.tup xs)->H' b=some (.tup xs)){v:V}{s:Lad.Step}(h:gm H v s):gm H' v s:=by
 obtain⟨r,l,e,h1,h2,h3⟩:=h
 exact⟨r,l,e,t _ _ h1,t _ _ h2,h3⟩
theorem gm.g {H:Hp}{v:V}{s:Lad.Step}(h:gm H v s):cZ H v s:=by
 obtain⟨r,l,e,h1,h2,h3⟩:=h
 exact⟨r,l,_,_,e,h1,.inr rfl,h2,.inr rfl,h3⟩
theorem iu {p:Addr}{H H':Hp}(hp:aL H p)(c:ax p H H'):∀ b xs,H b=some (.tup xs)->H' b=some (.tup xs):=fun b xs h=>by
 obtain⟨x,y,z⟩:=hp
 exact c _ _ h fun e=>by rw[e,z] at h;cases h
section
variable {P:FN}{w:World}{K:W.Frag}{mg:Str->Option Value}{base:Heap}{C:Addr}
inductive rp (vs:List V)(H:Hp)(Q:VK)(E:XK):Prop
 | mk (p:Addr)(e:vs=[.ref p])(hp:aL H p)(q:∀ l ps H',eh ps=true->ax p H H'->aL H' p->H l=none->H' l=some (.lst (ps.map V.int))->Q (.ref l) H'):rp vs H Q E
theorem js:aA ["_law_pot_here","_law_found","_law_k","_law_length"] ["_law_pot_here"] (aw md):=aE
set_option maxHeartbeats 4000000 in
theorem yM (T:Txt K mg C):aK P w K mg base 2 "_law_parts" ["_law_pot_here"] rp:=by
 refine aW T.f_law_parts js (fun vs H Q E h=>?_) (fun f cdv A outer s H vs Q E hr h=>?_)
 ·obtain⟨p,rfl,_⟩:=h
  rfl
 ·obtain⟨p,rfl,hp,q⟩:=h
  refine⟨_,(am (aG (i:=1) js.nd rfl (Or.inl rfl) (bO cT))
   (am (cP PassesOwn.never rfl (gL rfl T.b_range (ah (au cg ac (ai (aY T) hr (ao (pv 0) ac))))) (ba (i:=2) js.nd rfl (Or.inl rfl))
    (am (aG (i:=3) js.nd rfl (Or.inl rfl) (ay (bH K) (bO (aO (au cg ac (ai (aY T) hr (ao (pv 0) ac))) (au cg ac (ai (aY T) hr (ao (pv 0) ac))) (au bV (au dm ac ac) (ai (aY T) hr (ao (pv 0) ac))))) (ai (aY T) hr (ao (pv 0) ac)) (fun _ _=>rfl)))
    (aq (b8 (fI K PySem.F.plainAttrs_list PySem.F.slot_list_append PySem.F.type_list_append er (pv 1) (ah (au cS (pv 3) (ay (bH K) (bO (ao ac (au bV ac (au cS ac (ai (aY T) hr (ao (pv 0) ac)))))) (cq sT T.b_int boot_int (ah (ic gy (pv 2) ac (bD _)))) (fun _ _=>rfl)))))))))
   (aq (aB (pv 1))))),?_⟩
  have e9:(10:Int) ^ (9:Int).toNat=1000000000:=by decide +kernel
  refine⟨EX _,fun L hL=>?_⟩
  have s1:ab H (upd H L (.lst [])):=ab.upd hL
  have hL1:(upd H L (.lst [])) L=some (.lst []):=ae
  generalize (upd H L (.lst []))=H1 at s1 hL1
  have nL:=hp.ne hL
  refine⟨_,rfl,p,_,rfl,hp.same s1,by decide +kernel,by decide +kernel,fun d0 H2 a0 b0 c2 hp2=>⟨_,_,rfl,rfl,_,rfl,by omega,by omega,?_⟩⟩
  refine gJ (n:=(1+d0).toNat) (fun i σ H5=>∃ v2 v3 ps,σ=[some (.ref p),some (.ref L),v2,v3]/\ps.length=i/\(∀ v∈ps,dR v=true)/\(0<i->0<ps.headD 0)/\ax p H H5/\aL H5 p/\H5 L=some (.lst (ps.map V.int)))
   ⟨none,none,[],rfl,rfl,(fun v hv=>nomatch hv),(fun z=>absurd z (E3 _)),s1.but.trans c2,hp2,c2 _ _ hL1 nL⟩ ?turn ?fin
  case fin =>
   rintro σ H5 ⟨v2,v3,ps,rfl,e1,e2,e3,c5,hp5,hL5⟩
   exact⟨_,rfl,q L ps H5 (vL (by omega) (by omega) e2 (e3 (by omega))) c5 hp5 hL hL5⟩
  case turn =>
   rintro i σ H5 hi ⟨v2,v3,ps,rfl,e1,e2,e3,c5,hp5,hL5⟩
   refine⟨_,rfl,p,_,rfl,hp5,by decide +kernel,by decide +kernel,fun d1 H6 a1 b1 c6 hp6=>⟨_,_,rfl,rfl,_,rfl,p,_,rfl,hp6,by decide +kernel,by decide +kernel,fun d2 H7 a2 b2 c7 hp7=>⟨_,_,rfl,rfl,_,_,rfl,rfl,⟨by decide +kernel,by decide +kernel,by decide +kernel⟩,_,rfl,p,_,rfl,hp7,by decide +kernel,by decide +kernel,fun d3 H8 a3 b3 c8 hp8=>⟨_,_,rfl,rfl,dZ,fun l hl=>?_⟩⟩⟩⟩
   rw[e9]
   refine⟨_,rfl,p,_,rfl,hp8.same (ab.upd hl),by decide +kernel,by decide +kernel,fun d4 H9 a4 b4 c9 hp9=>?_⟩
   obtain⟨ln,hv,hor⟩:=kQ (x:=1+d1) (y:=1+d2) (z:=1000000000-d3) a4 b4
   have hln:1<=ln/\ln<=1000000000:=by rcases hor with rfl|rfl|rfl <;> omega
   refine⟨l,_,_,_,rfl,rfl,.of (c9 _ _ ae (hp8.ne hl)),hv,?_⟩
   have c59:ax p H5 H9:=((((c6.trans c7).trans c8).trans (ab.upd hl).but).trans c9)
   have hL9:=c59 _ _ hL5 nL
   refine⟨_,rfl,.inl ⟨rfl,_,.of hL9⟩,_,rfl,_,rfl,p,_,rfl,hp9,by decide +kernel,by decide +kernel,fun d5 HA a5 b5 cA hpA=>⟨_,_,rfl,rfl,.inl ⟨by decide +kernel,by decide +kernel⟩,_,_,rfl,rfl,bE,fun l2 hl2=>?_⟩⟩
   have bA:∃ sg,bY [V.int 1,V.int (1-2*d5)] (if decide (0<0+(i:Int))=true then 1 else 0)=some (.int sg)/\(sg=1\/(0<i/\sg=-1)):=by
    by_cases z:(0:Int)<0+(i:Int)
    ·rw[decide_eq_true z,if_pos rfl]
     refine⟨1-2*d5,rfl,?_⟩
     omega
    ·rw[decide_eq_false z,if_neg Bool.false_ne_true]
     exact⟨1,rfl,.inl rfl⟩
   obtain⟨sg,hsg,hs⟩:=bA
   refine⟨_,rfl,_,_,rfl,rfl,.inr ⟨_,rfl,l2,_,_,_,rfl,rfl,.of ae,hsg,_,_,rfl,rfl,.inr (by rcases hs with rfl|⟨_,rfl⟩ <;> exact⟨by decide,by decide⟩),?_⟩⟩
   have c5A:ax p H5 (upd HA l2 (.lst [.int 1,.int (1-2*d5)])):=(c59.trans cA).trans (ab.upd hl2).but
   have hpB:=hpA.same (ab.upd (o:=.lst [.int 1,.int (1-2*d5)]) hl2)
   generalize (upd HA l2 (.lst [.int 1,.int (1-2*d5)]))=HB at c5A hpB
   refine⟨L,_,_,rfl,rfl,c5A _ _ hL5 nL,cR (by rw[CW];omega),_,_,ps++[ln*sg],rfl,?_,?_,?_,?_,?_,?_⟩
   ·rw[C7,e1];rfl
   ·intro v hv
    rcases List.mem_append.mp hv with z|z
    ·exact e2 v z
    ·rw[List.mem_singleton.mp z]
     rcases hs with rfl|⟨_,rfl⟩
     ·exact pV (by omega) (by omega) (by omega)
     ·exact pV (by omega) (by omega) (by omega)
   ·intro _
    cases ps with
    | nil =>
     have:i=0:=e1.symm
     rcases hs with rfl|⟨z,_⟩
     ·show 0<ln*1
      omega
     ·omega
    | cons a r=>exact e3 (by rw[<-e1];exact Nat.succ_pos _)
   ·exact fun b o z n=>by rw[upd_ne (aJ z hL)];exact c5A b o (c5 b o z n) n
   ·obtain⟨x,y,z⟩:=hpB
    exact⟨x,y,by rw[upd_ne (Ne.symm nL)];exact z⟩
   ·rw[C8];exact ae
inductive uG (vs:List V)(H:Hp)(Q:VK)(E:XK):Prop
 | mk (p:Addr)(e:vs=[.ref p])(hp:aL H p)(q:∀ l ys rows H',eQ rows=true->ax p H H'->aL H' p->H l=none->H' l=some (.lst ys)->Paired (gm H') ys rows->Q (.ref l) H'):uG vs H Q E
theorem gp:aA ["_law_pot_here","_law_found","_law_k","_law_begin_here","_law_sizes","_law_j","_law_some"] ["_law_pot_here"] (aw kB):=aE
set_option maxHeartbeats 8000000 in
theorem zO (T:Txt K mg C):aK P w K mg base 2 "_law_rows" ["_law_pot_here"] uG:=by
 refine aW T.f_law_rows gp (fun vs H Q E h=>?_) (fun f cdv A outer s H vs Q E hr h=>?_)
 ·obtain⟨p,rfl,_⟩:=h
  rfl
 ·obtain⟨p,rfl,hp,q⟩:=h
  refine⟨_,(am (aG (i:=1) gp.nd rfl (Or.inl rfl) (bO cT))
   (am (cP PassesOwn.never rfl (gL rfl T.b_range (ah (ai (aY T) hr (ao (pv 0) ac)))) (ba (i:=2) gp.nd rfl (Or.inl rfl))
    (am (aG (i:=3) gp.nd rfl (Or.inl rfl) (ay (bH K) (bO (ao (au bV (ai (aY T) hr (ao (pv 0) ac)) ac) (au bV (ai (aY T) hr (ao (pv 0) (au dm ac ac))) (au cS ac (au dm ac ac))))) (ai (aY T) hr (ao (pv 0) ac)) (fun _ _=>rfl)))
    (am (aG (i:=4) gp.nd rfl (Or.inl rfl) (bO cT))
    (jy (cP PassesOwn.never rfl (gL rfl T.b_range (ah (au cg ac (ai (aY T) hr (ao (pv 0) ac))))) (ba (i:=5) gp.nd rfl (Or.inl rfl))
     (am (aG (i:=6) gp.nd rfl (Or.inl rfl) (bO (aO (au cg ac (ai (aY T) hr (ao (pv 0) ac))) (au cg ac (ai (aY T) hr (ao (pv 0) ac))) (au bV ac (ai (aY T) hr (ao (pv 0) ac))))))
     (aq (b8 (fI K PySem.F.plainAttrs_list PySem.F.slot_list_append PySem.F.type_list_append er (pv 4) (ah (ay (bH K) (pv 6) (ai (aY T) hr (ao (pv 0) ac)) (fun _ _=>rfl))))))))
    (aq (b8 (fI K PySem.F.plainAttrs_list PySem.F.slot_list_append PySem.F.type_list_append er (pv 1) (ah (be (ao (pv 3) (cq fO T.b_tuple Il (ah (pv 4)))))))))))))
   (aq (aB (pv 1))))),?_⟩
  have e11:(10:Int) ^ (11:Int).toNat=100000000000:=by decide +kernel
  have e12:(10:Int) ^ (12:Int).toNat=1000000000000:=by decide +kernel
  have hW:aN=1000000000000000000000000000000:=rfl
  refine⟨EX _,fun L hL=>?_⟩
  have s1:ab H (upd H L (.lst [])):=ab.upd hL
  have hL1:(upd H L (.lst [])) L=some (.lst []):=ae
  generalize (upd H L (.lst []))=H1 at s1 hL1
  have nL:=hp.ne hL
  refine⟨_,rfl,p,_,rfl,hp.same s1,by decide +kernel,by decide +kernel,fun d1 H2 a1 b1 c2 hp2=>⟨_,rfl,by omega,by omega,?_⟩⟩
  refine gJ (n:=d1.toNat) (fun i σ H5=>∃ v2 v3 v4 v5 v6 ys rows,σ=[some (.ref p),some (.ref L),v2,v3,v4,v5,v6]/\Paired (gm H5) ys rows/\rows.length=i/\(∀ v∈rows,dB v=true)/\ax p H H5/\aL H5 p/\H5 L=some (.lst ys))
   ⟨none,none,none,none,none,[],[],rfl,.nil,rfl,(fun v hv=>by cases hv),s1.but.trans c2,hp2,c2 _ _ hL1 nL⟩ ?turn ?fin
  case fin =>
   rintro σ H5 ⟨v2,v3,v4,v5,v6,ys,rows,rfl,f1,f2,f3,c5,hp5,hL5⟩
   exact⟨_,rfl,q L ys rows H5 (Af (by omega) f3) c5 hp5 hL hL5 f1⟩
  case turn =>
   rintro i σ H5 hi ⟨v2,v3,v4,v5,v6,ys,rows,rfl,f1,f2,f3,c5,hp5,hL5⟩
   refine⟨_,rfl,p,_,rfl,hp5,by decide +kernel,by decide +kernel,fun d2 H6 a2 b2 c6 hp6=>⟨_,_,rfl,rfl,_,rfl,_,_,rfl,rfl,⟨by decide +kernel,by decide +kernel,by decide +kernel⟩,p,_,rfl,hp6,by decide +kernel,by decide +kernel,fun d3 H7 a3 b3 c7 hp7=>⟨_,_,rfl,rfl,⟨by decide +kernel,by decide +kernel,by decide +kernel⟩,_,_,rfl,rfl,.inl ⟨by decide +kernel,by decide +kernel⟩,_,_,rfl,rfl,bE,fun l hl=>?_⟩⟩⟩
   rw[e11]
   rw[e12] at b3
   refine⟨_,rfl,p,_,rfl,hp7.same (ab.upd hl),by decide +kernel,by decide +kernel,fun d4 H8 a4 b4 c8 hp8=>?_⟩
   obtain⟨fi,hv,hor⟩:=rM (x:=d2-4) (y:=d3-5*100000000000) a4 b4
   have hfi : -aN<fi/\fi<aN:=by rcases hor with rfl|rfl <;> omega
   refine⟨l,_,_,_,rfl,rfl,.of (c8 _ _ ae (hp7.ne hl)),hv,?_⟩
   have c58:ax p H5 H8:=(((c6.trans c7).trans (ab.upd hl).but).trans c8)
   refine⟨EX _,fun D hD=>?_⟩
   have sD:ab H8 (upd H8 D (.lst [])):=ab.upd hD
   have uD:(upd H8 D (.lst [])) D=some (.lst []):=ae
   have nD:=hp8.ne hD
   have hp9:=hp8.same sD
   have hD5:H5 D=none:=qv c58 hD hp8
   have nLD:L≠D:=aJ hL5 hD5
   generalize (upd H8 D (.lst []))=H9 at sD uD hp9
   have c59:ax p H5 H9:=c58.trans sD.but
   refine⟨fun σ HB=>∃ (v5 v6:Option V) (S:List Int),σ=[some (.ref p),some (.ref L),some (.int (0+(i:Int))),some (.int fi),some (.ref D),v5,v6]/\1<=S.length/\S.length<=3/\(∀ v∈S,1<=v/\v<=1000)/\ax p H5 HB/\aL HB p/\HB D=some (.lst (S.map V.int)),?_,?_⟩
   ·refine⟨_,rfl,p,_,rfl,hp9,by decide +kernel,by decide +kernel,fun d5 HA a5 b5 cA hpA=>⟨_,_,rfl,rfl,_,rfl,by omega,by omega,?_⟩⟩
    refine gJ (n:=(1+d5).toNat) (fun j σ HB=>∃ (v5 v6:Option V) (S:List Int),σ=[some (.ref p),some (.ref L),some (.int (0+(i:Int))),some (.int fi),some (.ref D),v5,v6]/\S.length=j/\(∀ v∈S,1<=v/\v<=1000)/\ax p H5 HB/\aL HB p/\HB D=some (.lst (S.map V.int)))
     ⟨v5,v6,[],rfl,rfl,(fun v hv=>by cases hv),c59.trans cA,hpA,cA _ _ uD nD⟩ ?_ ?_
    ·rintro j σ HB hj ⟨w5,w6,S,rfl,e1,e2,cB,hpB,hDB⟩
     refine⟨_,rfl,p,_,rfl,hpB,by decide +kernel,by decide +kernel,fun g1 HC x1 y1 cC hpC=>⟨_,_,rfl,rfl,_,rfl,p,_,rfl,hpC,by decide +kernel,by decide +kernel,fun g2 HD x2 y2 cD hpD=>⟨_,_,rfl,rfl,_,rfl,p,_,rfl,hpD,by decide +kernel,by decide +kernel,fun g3 HE x3 y3 cE hpE=>⟨_,_,rfl,rfl,dZ,fun l2 hl2=>?_⟩⟩⟩⟩
     have cBE:ax p HB HE:=(cC.trans cD).trans cE
     have sl2:=ab.upd (o:=.lst [.int (1+g1),.int (1+g2),.int (1000-g3)]) hl2
     refine⟨_,rfl,.inl ⟨rfl,_,.of (sl2 _ _ (cBE _ _ hDB nD))⟩,_,rfl,_,rfl,p,_,rfl,hpE.same sl2,by decide +kernel,by decide +kernel,fun g4 HF x4 y4 cF hpF=>?_⟩
     obtain⟨sz,hv4,hor4⟩:=kQ (x:=1+g1) (y:=1+g2) (z:=1000-g3) x4 y4
     have hsz:1<=sz/\sz<=1000:=by rcases hor4 with rfl|rfl|rfl <;> omega
     have cBF:ax p HB HF:=(cBE.trans sl2.but).trans cF
     refine⟨l2,_,_,_,rfl,rfl,.of (cF _ _ ae (hpE.ne hl2)),hv4,D,_,_,rfl,rfl,cBF _ _ hDB nD,cR (by rw[CW];omega),_,_,S++[sz],rfl,?_,?_,?_,?_,?_⟩
     ·rw[C7,e1];rfl
     ·intro v hv
      rcases List.mem_append.mp hv with z|z
      ·exact e2 v z
      ·rw[List.mem_singleton.mp z];exact hsz
     ·exact fun b o z n=>by rw[upd_ne (aJ z hD5)];exact cBF b o (cB b o z n) n
     ·obtain⟨x,y,z⟩:=hpF
      exact⟨x,y,by rw[upd_ne (Ne.symm nD)];exact z⟩
     ·rw[C8];exact ae
    ·rintro σ HB ⟨w5,w6,S,rfl,e1,e2,cB,hpB,hDB⟩
     exact⟨w5,w6,S,rfl,by omega,by omega,e2,cB,hpB,hDB⟩
   rintro σ HB ⟨w5,w6,S,rfl,e0,e1,e2,cB,hpB,hDB⟩
   have so:eK S=true:=BK e0 (by omega) e2
   have hLB:=cB _ _ hL5 nL
   refine⟨_,rfl,.inl ⟨rfl,_,.of hLB⟩,_,rfl,_,rfl,D,_,_,rfl,hDB,.inl rfl,fun l3 HC sC hl3=>⟨bE,fun m hm=>?_⟩⟩
   have sm:ab HC (upd HC m (.tup [.int fi,.ref l3])):=ab.upd hm
   have um:(upd HC m (.tup [.int fi,.ref l3])) m=some (.tup [.int fi,.ref l3]):=ae
   generalize (upd HC m (.tup [.int fi,.ref l3]))=HD at sm um
   have sBD:=sC.trans sm
   have hLD:=sBD _ _ hLB
   have c5D:ax p H5 HD:=cB.trans sBD.but
   have hyl:ys.length=rows.length:=Paired.length f1
   have tp:∀ b' xs',HD b'=some (.tup xs')->(upd HD L (.lst (ys++[.ref m]))) b'=some (.tup xs'):=fun b' xs' h=>by
    rw[upd_ne (fun z=>by rw[z,hLD] at h;cases h)];exact h
   refine⟨L,ys,_,rfl,rfl,hLD,cR (by omega),?_⟩
   refine⟨_,_,_,_,_,ys++[.ref m],rows++[(fi,S)],rfl,?_,by rw[C7,f2];rfl,?_,?_,?_,ae⟩
   ·exact Paired.snoc (Paired.mono (fun _ _ x=>x.tups fun b xs h=>tp _ _ (iu hp5 c5D _ _ h)) f1) ⟨m,l3,rfl,tp _ _ um,tp _ _ (sm _ _ hl3),by show S.length<=1000;omega⟩
   ·intro v hv
    rcases List.mem_append.mp hv with hv|hv
    ·exact f3 v hv
    ·rw[List.mem_singleton.mp hv]
     unfold dB fZ
     rw[decide_eq_true hfi.1,decide_eq_true hfi.2,so]
     rfl
   ·exact fun b o z n=>by rw[upd_ne (aJ z hL)];exact c5D b o (c5 b o z n) n
   ·obtain⟨x,y,z⟩:=hpB
    exact⟨x,y,by rw[upd_ne (Ne.symm nL)];exact sBD _ _ z⟩
end
end Pr
namespace Srt
abbrev T2:=Int×Int
def tlt2 (a b:T2):Bool:=if a.1=b.1 then decide (a.2<b.2) else decide (a.1<b.1)
theorem ow {a b:T2}:tlt2 a b=true↔a.1<b.1\/(a.1=b.1/\a.2<b.2):=by
 unfold tlt2
 by_cases e:a.1=b.1
 ·rw[if_pos e,decide_eq_true_iff];omega
 ·rw[if_neg e,decide_eq_true_iff];omega
theorem tlt2_no {a b:T2}:tlt2 a b=false↔¬ (a.1<b.1\/(a.1=b.1/\a.2<b.2)):=by
 rw[<-ow];cases tlt2 a b <;> simp
def ltP (es:List T2)(i j:Nat):Bool:=tlt2 (es.getD i (0,0)) (es.getD j (0,0))
theorem ltP_ord (es:List T2):Ord (ltP es):=⟨fun {a b} h=>by
 unfold ltP at h ⊢
 rw[ow] at h
 rw[tlt2_no]
 omega,fun {a b c} h h'=>by
 unfold ltP at h h' ⊢
 rw[tlt2_no] at h h' ⊢
 omega⟩
end Srt
namespace L2
open PySem PySem.Spec PySem.W PyProof.Rows
section
variable {X:Cx}{pins:List (Addr×Obj)}{σ:St}{H:Hp}{s:Shared}
abbrev jI (H:Hp):List V->List Srt.T2->Prop:=Paired fun x e=>∃ a,x=.ref a/\H a=some (.tup [.int e.1,.int e.2])
theorem mN (I:aa X pins σ H s){t:Addr}{m v:Int}(h:H t=some (.tup [.int m,.int v])):∃ o n tm tv,s.heap.get? t=some o/\o.cls=.type "tuple"/\o.data=.seq #[.int m tm,.int v tv] n:=by
 obtain⟨_,its,rv,o,ho,hc,n,hd⟩:=I.hok t _ h
 obtain⟨u,v,rfl,⟨tk,rfl⟩,⟨tv,rfl⟩⟩:=fg rv
 exact⟨o,n,tk,tv,ho,hc,hd⟩
theorem yT (I:aa X pins σ H s){A:Around}{t t':Addr}{e e':Srt.T2}(h:H t=some (.tup [.int e.1,.int e.2]))(h':H t'=some (.tup [.int e'.1,.int e'.2])){C:Bool->Shared->Prop}{E:Value->Shared->Prop}(q:C (Srt.tlt2 e e') s) :
  wpAny (model X.prog X.w) A (keyLt' (Ip true) (.ref t) (.ref t')) C E s:=by
 obtain⟨o,n,tm,tv,ho,hc,hd⟩:=mN I h
 obtain⟨o',n',tm',tv',ho',hc',hd'⟩:=mN I h'
 unfold Srt.tlt2 at q
 refine W.kat_lt ho hd ho' hd' ?_
 refine W.kat_cons (Iq (W.kat_go (fun e1=>W.kat_yes ?_) fun e1=>W.kat_no ?_))
 ·have e1':e.1=e'.1:=by simpa using e1
  rw[if_pos e1'] at q
  refine W.kat_cons (Iq (W.kat_go (fun e3=>W.kat_yes (W.kat_nil ?_)) fun e3=>W.kat_no ?_))
  ·have e3':e.2=e'.2:=by simpa using e3
   rw[decide_eq_false (by omega)] at q
   exact q
  ·exact W.kat_one _ _ (lt_int q)
 ·have e1':¬ e.1=e'.1:=by simpa using e1
  rw[if_neg e1'] at q
  exact oneLt_int q
theorem pO (I:aa X pins σ H s):∀ {xs:List V}{ks:List Value}{es:List Srt.T2},ap xs ks->jI H xs es->∃ fs,W.KatTups s.heap ks fs/\fs.length=ks.length/\∀ v∈fs,∃ m tm,v=Value.int m tm
 | _,_,_,.nil,.nil=>⟨[],.nil,rfl,fun v h=>nomatch h⟩
 | _,_,_,.cons rx rv,.cons ⟨t,e,h⟩ r=>by
  obtain⟨fs,h1,h2,h3⟩:=pO I rv r
  obtain⟨o,n,tm,tv,ho,hc,hd⟩:=mN I h
  subst e
  cases rx
  refine⟨_::fs,.cons ho hc hd rfl h1,by rw[C4,C4,h2],fun v hv=>?_⟩
  rcases List.mem_cons.mp hv with rfl|hv
  ·exact⟨_,_,rfl⟩
  ·exact h3 v hv
theorem pP:∀ {kvs:List (List af×V)}{zs:List (List af×Addr×Value)}{es:List Srt.T2},KT H kvs zs->kvs.map (·.1)=es.map (fun e=>[Sum.inl e.1,Sum.inl e.2])->jI H ((zs.map fun x=>x.2.1).map V.ref) es
 | _,_,[],.nil,_=>.nil
 | _,_,e::es,.nil,h=>by cases h
 | _,_,[],.cons _ _,h=>by cases h
 | _,_,e::es,.cons (a:=a) (b:=b) r t,h=>by
  rw[C1,C1] at h
  have h1:=(List.cons.inj h).1
  have h2:=r.2.1
  rw[h1] at h2
  exact .cons ⟨_,rfl,h2⟩ (pP t (List.cons.inj h).2)
inductive sV (vs:List V)(H:Hp)(Q:VK):Prop
 | mk (p:Addr)(kvs:List (List af×V))(es:List Srt.T2)(e:vs=[.ref p])(h:H p=some (.dT kvs))(hk:kvs.map (·.1)=es.map (fun e=>[Sum.inl e.1,Sum.inl e.2]))(h64:es.length<64)
  (q:∀ D (ys:List V) (fs:List Srt.T2),jI H ys fs->fs.Perm es->fs.Pairwise (fun a b=>Srt.tlt2 b a=false)->H D=none->Q (.ref D) (upd H D (.lst ys))):sV vs H Q
theorem nG (hc:X.calm=true)(hex:X.ex=[]:=by rfl):bm X (.builtin "sorted") sV:=by
 intro pins s σ H xs us Q I r h
 obtain⟨p,kvs,es,rfl,hp,hk,h64,q⟩:=h
 obtain⟨u,rfl,rx⟩:=bX r
 cases rx
 obtain⟨z,hd,zs,kt,o,ds,ep,h1,h2,h3,h4,h5⟩:=(show aS X.prog X.w H s.heap p (.dT kvs) from I.hok p _ hp)
 have tr:=pP kt hk
 have hl:((zs.map fun x=>x.2.1).map V.ref).length=es.length:=Paired.length tr
 have hlen:ds.size=zs.length:=by
  have e1:ds.toList.length=zs.length:=by rw[h4,CW]
  simp at e1
  exact e1
 have hh:X.A.in1.handled=none:=I.ok.hd hc
 refine ux (PV:=fun vs=>vs=(zs.map fun x=>x.2.1).map Value.ref) hex I (fun Q' hq=>?_) fun vs rv=>?_
 ·refine kdu_collect (Dx.src (es:=ds) (ep:=ep) hd) hh ⟨o,h1,h2,h3⟩ (by rw[hlen,<-Paired.length kt];exact z) fun h' tk acc keep hacc=>hq _ h' tk s.drawn keep ?_
  refine Ek fun j=>?_
  rw[Da,Da,Fl]
  have el:ds[j]?=(zs[j]?).map (entryOfKey (FQ (bc X.prog X.w))):=entry_at h4 j
  by_cases hj:j<acc.size
  ·obtain⟨e,he,hv⟩:=hacc.2 j acc[j] (Fo hj)
   rw[el] at he
   rw[Fo hj,hv]
   cases hz:zs[j]? with
   | none=>rw[hz] at he;cases he
   | some x=>rw[hz] at he;cases he;rfl
  ·have hz:zs[j]?=none:=by
    refine DY ?_
    have e1:=hacc.1
    omega
   rw[Fp (by omega),hz]
   rfl
 ·subst rv
  have rv:ap ((zs.map fun x=>x.2.1).map V.ref) ((zs.map fun x=>x.2.1).map Value.ref):=ss _
  refine⟨_,Srt.ltP es,rv,by omega,fun s' I' h2=>⟨Ip true,Srt.ltP_ord es,fun _ Q' hQ=>?_,fun i j C hi hj hC=>?_⟩,fun D is p1 p2 hD=>?_⟩
  ·obtain⟨fs,t1,t2,t3⟩:=pO I' rv tr
   have:=rv.length
   refine W.kat_kind (T:=.type "int") t1 (by omega) (fun v hv=>?_) (by decide +kernel) ?_
   ·obtain⟨m,tm,rfl⟩:=t3 v hv
    exact W.Looks.of_pure rfl
   ·exact hQ
  ·have hi':es[i]?=some es[i]:=CZ (by omega)
   have hj':es[j]?=some es[j]:=CZ (by omega)
   obtain⟨u,eu,t,rfl,ht⟩:=Paired.getR tr hi'
   obtain⟨u',eu',t',rfl,ht'⟩:=Paired.getR tr hj'
   obtain⟨w1,hw1,r1⟩:=rv.get eu
   obtain⟨w2,hw2,r2⟩:=rv.get eu'
   cases r1
   cases r2
   unfold W.kas_ask
   rw[C0,C0,hw1,hw2]
   refine yT I' ht ht' ?_
   unfold Srt.ltP at hC
   rw[C0,C0,hi',hj'] at hC
   exact hC
  ·refine q D _ (is.map fun i=>es.getD i (0,0)) ?_ ?_ ?_ hD
   ·have:∀ l:List Nat,(∀ i∈l,i<es.length)->jI H (l.map fun i=>((zs.map fun x=>x.2.1).map V.ref).getD i .non) (l.map fun i=>es.getD i (0,0)):=fun l=>by
     induction l with
     | nil=>exact fun _=>.nil
     | cons i r ih =>
      intro hlt
      have hi:=hlt i C6
      have hi':es[i]?=some es[i]:=CZ hi
      obtain⟨u,eu,t,e2,ht⟩:=Paired.getR tr hi'
      refine .cons ⟨t,?_,?_⟩ (ih fun j hj=>hlt j (C5 _ hj))
      ·show ((zs.map fun x=>x.2.1).map V.ref).getD i .non=_
       rw[C0,eu,e2];rfl
      ·show H t=some (.tup [.int (es.getD i (0,0)).1,.int (es.getD i (0,0)).2])
       rw[C0,hi'];exact ht
    exact this is fun i hi=>by rw[<-hl];exact List.mem_range.mp (p1.mem_iff.mp hi)
   ·have e0:es=(C2 es.length).map fun i=>es.getD i (0,0):=by
     refine DC (by simp) fun i a b=>?_
     rw[EE,EF,C0,CZ a]
     rfl
    rw[hl] at p1
    have:=p1.map (fun i=>es.getD i (0,0))
    rw[<-e0] at this
    exact this
   ·exact List.pairwise_map.mpr (p2.imp fun {a b} h=>h.elim (fun z=>(Srt.ltP_ord es).1 z) fun z=>z.1)
end
end L2
namespace L2
open PySem PySem.Spec PyProof.Rows
section
variable {X:Cx}
end
end L2
namespace L2
open PySem PySem.Spec PyProof.Rows
section
variable {X:Cx}
theorem ol {prog:FN}{w:World}{A:Around}{s:Shared}{E:Value->Shared->Prop}{nm:String}{a b:Addr}{Q:Bool->Shared->Prop}{oa ob:Obj}{es:Array DictEntry}{ep ep':Nat}(ha:(a == FP)=false)(hb:(b == FP)=false)
  (hoa:s.heap.get? a=some oa) (hda:oa.data=.dict es ep) (hob:s.heap.get? b=some ob) (hdb:ob.data=.dict #[] ep') (h:Q (es.size == 0) s) :
  wpAny (model prog w) A (Builtin.Dict.samePairs nm a b) Q E s:=by
 unfold Builtin.Dict.samePairs Builtin.Dict.showsAll
 rw[if_neg (show ¬ (a == FP)=true by rw[ha];exact Bool.false_ne_true),if_neg (show ¬ (b == FP)=true by rw[hb];exact Bool.false_ne_true)]
 refine Ge (Gh (Ge (Gh ?_)))
 refine Ge (Jb hoa hda ?_)
 dsimp only
 refine Ge (Jb hob hdb ?_)
 by_cases hsz:es.size=0
 case neg =>
  rw[if_pos (by simpa using hsz)]
  have hbf:(es.size == 0)=false:=by simpa using hsz
  rw[hbf] at h
  exact Ge (Gj (Gh h))
 case pos =>
  have h':Q true s:=by simpa [hsz] using h
  rw[if_neg (by rw[hsz];simp)]
  refine Ge (Jc hoa hda ?_)
  refine Ge ?_
  rw[Std.Legacy.Range.forIn_eq_forIn_range']
  simp only[Std.Legacy.Range.size,Ff,Fi,Nat.div_one,hsz]
  exact Gh (Gh h')
inductive nU (neg:Bool)(x y:V)(H:Hp)(Q:VK):Prop
 | mk (a b:Addr)(kvs:List (List af×V))(ex:x=.ref a)(ey:y=.ref b)(ha:H a=some (.dT kvs))(hb:H b=some (.dK []))(q:Q (.bl (if neg then !decide (kvs=[]) else decide (kvs=[]))) H):nU neg x y H Q
theorem qN {pins:List (Addr×Obj)}{σ:St}{H:Hp}{s:Shared}(I:aa X pins σ H s){a b:Addr}{kvs:List (List af×V)}(ha:H a=some (.dT kvs))(hb:H b=some (.dK [])) :
  (a == FP)=false/\(b == FP)=false/\s.TypeIs (.ref a) "dict"/\s.TypeIs (.ref b) "dict"/\∃ oa ob es ep ep',s.heap.get? a=some oa/\oa.data=.dict es ep/\s.heap.get? b=some ob/\ob.data=.dict #[] ep'/\(es.size == 0)=decide (kvs=[]):=by
 obtain⟨_,hda,zs,kt,da⟩:=iB I.hok ha
 obtain⟨_,hdb,vb,rb,db⟩:=tW I.hok hb
 have ta:=da.typeIs
 have tb:=db.typeIs
 obtain⟨oa,es,ep,h1,_,h3,h4,_⟩:=da
 obtain⟨ob,es',ep',g1,_,g3,_,g5,_⟩:=db
 cases rb
 have e0:es'=#[]:=by
  have:es'.toList=[]:=by cases hh:es'.toList with
   | nil=>rfl
   | cons x r=>rw[hh] at g5;cases g5
  exact Array.toList_eq_nil_iff.mp this
 subst e0
 refine⟨hda,hdb,ta,tb,oa,ob,es,ep,ep',h1,h3,g1,g3,?_⟩
 have l:es.size=kvs.length:=by rw[Jg h4];exact(Paired.length kt).symm
 cases kvs with
 | nil=>rw[l];rfl
 | cons x r=>rw[l,decide_eq_false (by simp)];rfl
theorem wI {k:Nat}(hr:aQ k X.A):bj X (FX .Eq) (nU false):=by
 intro pins s σ H x y v u Q I rx ry h
 obtain⟨a,b,kvs,rfl,rfl,ha,hb,q⟩:=h
 cases rx
 cases ry
 obtain⟨la,lb,ta,tb,oa,ob,es,ep,ep',h1,h3,g1,g3,e⟩:=qN I ha hb
 refine Jh (op:=.Eq) ta tb PySem.F.slot_dict_eq (GM PySem.F.slot_dict_eq ta PySem.F.entry_dict_eq ?_ (PySem.F.args_dict_eq_2 _ _)) (by have:=hr.un;omega)
 show wpAny _ _ (Builtin.Dict.dictSlotArgs "__eq__" ⟨[.ref a,.ref b],[]⟩ >>= _) _ _ s
 refine Ge ?_
 unfold Builtin.Dict.dictSlotArgs
 refine Ge (Ja ta ?_)
 show wpAny _ _ (pure (Value.ref a,Value.ref b)) _ _ s
 refine Gh ?_
 refine Ge (Hh (T:="dict") tb PySem.F.sub_dict_dict ?_)
 simp only[Bool.not_true,Bool.false_eq_true,if_false]
 refine Ge (Gh (Ge (Gh ?_)))
 refine Ge (ol la lb h1 h3 g1 g3 ?_)
 refine Gh ⟨_,rfl,?_,?_⟩
 ·exact fun x=>nomatch x
 ·rw[e]
  exact bb I q (by cases decide (kvs=[]) <;> rfl)
theorem zS {k:Nat}(hr:aQ k X.A):bj X (FX .NotEq) (nU true):=by
 intro pins s σ H x y v u Q I rx ry h
 obtain⟨a,b,kvs,rfl,rfl,ha,hb,q⟩:=h
 cases rx
 cases ry
 obtain⟨la,lb,ta,tb,oa,ob,es,ep,ep',h1,h3,g1,g3,e⟩:=qN I ha hb
 refine Jh (op:=.NotEq) ta tb PySem.F.slot_dict_ne (GM PySem.F.slot_dict_ne ta PySem.F.entry_dict_ne ?_ (PySem.F.args_dict_ne_2 _ _)) (by have:=hr.un;omega)
 show wpAny _ _ (Builtin.Dict.dictSlotArgs "__ne__" ⟨[.ref a,.ref b],[]⟩ >>= _) _ _ s
 refine Ge ?_
 unfold Builtin.Dict.dictSlotArgs
 refine Ge (Ja ta ?_)
 show wpAny _ _ (pure (Value.ref a,Value.ref b)) _ _ s
 refine Gh ?_
 refine Ge (Hh (T:="dict") tb PySem.F.sub_dict_dict ?_)
 simp only[Bool.not_true,Bool.false_eq_true,if_false]
 refine Ge (Gh (Ge (Gh ?_)))
 refine Ge (ol la lb h1 h3 g1 g3 ?_)
 refine Gh ⟨_,rfl,?_,?_⟩
 ·exact fun x=>nomatch x
 ·rw[e]
  exact bb I q (by cases decide (kvs=[]) <;> rfl)
end
end L2
namespace Pr
open PySem L2 PyProof.Rows Ent
theorem iH {p x:Addr}{H H':Hp}{b:Int}{ps:List Int}{rows:List Lad.Step}{C:Addr}(hp:aL H p)(hL:bu C H x b ps rows)(c:ax p H H'):bu C H' x b ps rows:=by
 obtain⟨y1,y2,hy⟩:=hp
 obtain⟨ldx,a1,a2,a3,us',j1,j2,j3,j4,j5⟩:=hL
 have tp:∀ b' ys,H b'=some (.tup ys)->H' b'=some (.tup ys):=fun b' ys h=>c _ _ h fun z=>by rw[z,hy] at h;cases h
 refine⟨ldx,a1,a2,a3,us',c _ _ j1 (fun z=>by rw[z,hy] at j1;cases j1),tp _ _ j2,tp _ _ j3,tp _ _ j4,Paired.mono (fun _ _ z=>?_) j5⟩
 obtain⟨r',l',e',q1,q2⟩:=z
 exact⟨r',l',e',tp _ _ q1,tp _ _ q2⟩
structure dP (n:Nat)(prs:List BP):Prop where
 nd:prs.Nodup
 l:prs.length<64
 b:∀ q∈prs,0<=q.1/\q.1<=(n:Int)/\-cu<q.2/\q.2<cu
theorem lM (prs:List BP):(sd prs).map (·.1)=prs.map (fun e=>[Sum.inl e.1,Sum.inl e.2]):=by
 unfold sd
 rw[El]
 rfl
theorem rN {prs:List BP}:decide (sd prs=[])=decide (prs=[]):=by
 cases prs with
 | nil=>rfl
 | cons a r=>rw[decide_eq_false (by simp[sd]),decide_eq_false (by simp)]
section
variable {P:FN}{w:World}{K:W.Frag}{mg:Str->Option Value}{base:Heap}{C:Addr}
inductive oW (C:Addr)(vs:List V)(H:Hp)(Q:VK)(E:XK):Prop
 | mk (p x d:Addr)(b0 b:Int)(ps:List Int)(rows:List Lad.Step)(prs:List BP)(e:vs=[.ref p,.ref x,.int b0,.ref d])(hp:aL H p)(hL:bu C H x b ps rows)(ok:cf b ps rows)(b1 : -cx<b0)(b2:b0<cx)(hd:H d=some (.dT (sd prs)))(po:dP rows.length prs)
  (q:∀ m H',-aN<m->m<aN->ax p H H'->aL H' p->Q (.int m) H'):oW C vs H Q E
theorem fG:aA ["_law_pot_here","_law_ladder","_law_begin_here","_law_shut","_law_near_here","_law_bars","_law_roll","_law_number","_law_first","_law_behind","_law_found"] ["_law_pot_here","_law_ladder","_law_begin_here","_law_shut"] (aw kD):=aE
set_option maxHeartbeats 8000000 in
theorem n5 (T:Txt K mg C):aK P w K mg base 5 "_law_moment" ["_law_pot_here","_law_ladder","_law_begin_here","_law_shut"] (oW C):=by
 refine aW T.f_law_moment fG (fun vs H Q E h=>?_) (fun f cdv A outer s H vs Q E hr h=>?_)
 ·obtain⟨p,x,d,b0,b,ps,rows,prs,rfl,_⟩:=h
  rfl
 ·obtain⟨p,x,d,b0,b,ps,rows,prs,rfl,hp,hL,ok,bb1,bb2,hd,po,q⟩:=h
  refine⟨_,(am (aG (i:=4) fG.nd rfl (Or.inl rfl) (ai (pX T) hr (ao (pv 0) (pv 2))))
   (am (bJ (PW.pt (vp (bU (wI hr) (pv 3) ly (bD _)) (qZ (bU gS (ai (aY T) hr (ao (pv 0) ac)) ac (bD _)))))
    (aq (aB (pv 4)))
    bQ)
   (am (aG (i:=5) fG.nd rfl (Or.inl rfl) (aM (nG rfl) T.b_sorted Ir (ah (pv 3))))
   (am (fU (ay (bH K) (pv 5) (ai (aY T) hr (ao (pv 0) (aM (gY K) T.b_len Im (ah (pv 5))))) (fun _ _=>rfl)) (gw K rfl (bI (ba (i:=6) fG.nd rfl (Or.inl rfl)) (bI (ba (i:=7) fG.nd rfl (Or.inl rfl)) dQ))))
   (am (fU (df (pv 1) T.cl (ph T) hr (ao (pv 6) (pv 7))) (gw K rfl (bI (ba (i:=8) fG.nd rfl (Or.inl rfl)) (bI (ba (i:=9) fG.nd rfl (Or.inl rfl)) dQ))))
   (am (aG (i:=10) fG.nd rfl (Or.inl rfl) (ay (bH K) (bO (aR (pv 8) (aO (au bV (pv 9) ac) (pv 9) (au lO (au cg (pv 8) (pv 9)) ac)))) (ai (aY T) hr (ao (pv 0) ac)) (fun _ _=>rfl)))
   (am (bJ (bU mT (aM zx T.b_abs boot_abs (ah (pv 10))) (au dm ac ac) (bD _))
    (aq (aB (pv 4)))
    bQ)
   (aq (aB (pv 10)))))))))),?_⟩
  obtain⟨dx,fa,fo,fc,hi⟩:=ig hL
  have xp:x≠p:=by
   obtain⟨y1,y2,hy⟩:=hp
   exact fun z=>by rw[z,hy] at hi;cases hi
  have dp:d≠p:=by
   obtain⟨y1,y2,hy⟩:=hp
   exact fun z=>by rw[z,hy] at hd;cases hd
  refine⟨_,rfl,_,rfl,p,b0,rfl,hp,bb1,bb2,fun nm H1 m0 m1 c1 hp1=>?_⟩
  have hd1:=c1 _ _ hd dp
  refine⟨_,rfl,fun e he=>?_⟩
  have se:ab H1 (upd H1 e (.dK [])):=ab.upd he
  have ue:(upd H1 e (.dK [])) e=some (.dK []):=ae
  have hp2:=hp1.same se
  generalize (upd H1 e (.dK []))=H2 at se ue hp2
  have c2:ax p H H2:=c1.trans se.but
  have hd2:=se _ _ hd1
  refine⟨d,e,_,rfl,rfl,hd2,ue,_,rfl,?_⟩
  rw[if_neg Bool.false_ne_true,rN]
  by_cases em:prs=[]
  ·exact eW (decide_eq_true em) (bP ⟨_,rfl,q nm H2 m0 m1 c2 hp2⟩)
  refine eI (decide_eq_false em) ⟨_,rfl,p,_,rfl,hp2,by decide +kernel,by decide +kernel,fun g1 H3 x1 y1 c3 hp3=>⟨rfl,_,rfl,?_⟩⟩
  have c03:=c2.trans c3
  generalize decide (V.int g1=V.int 0)=kk
  cases kk with
  | true=>exact bP ⟨_,rfl,q nm H3 m0 m1 c03 hp3⟩
  | false =>
   have hd3:=c3 _ _ hd2 dp
   refine bK ⟨_,rfl,d,_,prs,rfl,hd3,lM prs,po.l,fun D ys fs hP pm srt hD=>?_⟩
   have sD:ab H3 (upd H3 D (.lst ys)):=ab.upd hD
   have uD:(upd H3 D (.lst ys)) D=some (.lst ys):=ae
   have hp4:=hp3.same sD
   have nD:=hp3.ne hD
   generalize (upd H3 D (.lst ys))=H4 at sD uD hp4
   have yl:ys.length=fs.length:=Paired.length hP
   have fl:fs.length=prs.length:=pm.length_eq
   have pl:0<prs.length:=List.length_pos_iff.mpr em
   have pl2:=po.l
   refine⟨_,rfl,_,rfl,_,rfl,D,_,rfl,.inl (.of uD),p,_,rfl,hp4,by omega,Fx (b:=100) (by omega) (by decide +kernel),fun g2 H5 x2 y2 c5 hp5=>?_⟩
   obtain⟨k,rfl⟩:∃ k:Nat,g2=k:=⟨g2.toNat,by omega⟩
   have hk:k<fs.length:=by omega
   obtain⟨u,hu,t,rfl,ht⟩:=Paired.getR hP (CZ hk)
   have hin:fs[k]∈prs:=pm.mem_iff.mp (Dr hk)
   generalize fs[k]=rn at ht hin
   obtain⟨r0,r1,n0,n1⟩:=po.b rn hin
   have c05:=(c03.trans sD.but).trans c5
   have ht5:H5 t=some (.tup [.int rn.1,.int rn.2]):=iu hp4 c5 _ _ (sD _ _ ht)
   have hi5:=c05 _ _ hi xp
   refine⟨D,_,_,_,rfl,rfl,.of (c5 _ _ uD nD),bz hu,t,_,rfl,.of ht5,rfl,_,_,rfl,_,_,rfl,rfl,?_⟩
   refine⟨_,rfl,x,dx,_,rfl,hi5,dO _ _ _ (by decide) (by decide) (by decide),_,rfl,_,rfl,x,rn.1,rn.2,b,ps,rows,rfl,iH hp hL c05,ok,r0,r1,n0,n1,fun t6 H6 s6 ht6=>?_⟩
   generalize Lad.down (et b ps rows rn.1) rn.2=fst at ht6
   generalize Lad.down (et b ps rows rn.1) (rn.2+1)=bhd at ht6
   have hp6:=hp5.same s6
   have c06:=c05.trans s6.but
   refine⟨t6,_,rfl,.of ht6,rfl,_,_,rfl,_,_,rfl,rfl,?_⟩
   refine⟨_,rfl,_,rfl,_,_,rfl,rfl,_,rfl,_,rfl,_,rfl,_,_,rfl,rfl,_,_,rfl,rfl,⟨by decide +kernel,by decide +kernel⟩,iC,fun l hl=>?_⟩
   refine⟨_,rfl,p,_,rfl,hp6.same (ab.upd hl),by decide +kernel,by decide +kernel,fun g3 H7 x3 y3 c7 hp7=>?_⟩
   obtain⟨v,hv,_⟩:=mF (x:=fst) (y:=bhd-1) (z:=bhd) (u:=(fst+bhd) / 2) x3 y3
   have c07:=(c06.trans (ab.upd hl).but).trans c7
   refine⟨l,_,_,_,rfl,rfl,.of (c7 _ _ ae (hp6.ne hl)),hv,?_⟩
   refine⟨_,rfl,_,rfl,_,_,rfl,rfl,⟨by decide +kernel,by decide +kernel,by decide +kernel⟩,_,_,rfl,rfl,_,rfl,j8 (fun _=>⟨_,rfl,q nm H7 m0 m1 c07 hp7⟩) (fun hc=>⟨_,rfl,?_⟩)⟩
   have e30:(10:Int) ^ (30:Int).toNat=1000000000000000000000000000000:=by decide +kernel
   have hW:aN=1000000000000000000000000000000:=rfl
   rw[e30,decide_eq_true_iff] at hc
   exact q v H7 (by split at hc <;> omega) (by split at hc <;> omega) c07 hp7
def kk (i:Nat):Str:=Str.ofString "k"++Str.ofString (toString (i:Int))
theorem zT:∀ i<13,(kk i).cps.size<=8/\((kk i).cps.toList.all fun c=>decide (c<128))=true:=by decide +kernel
theorem xC:∀ i:Nat,i<13->(Str.ofString "k").length+(Str.ofString (toString (i:Int))).length<=1000:=by decide +kernel
theorem Bg:((C2 13).map kk).Nodup:=by decide +kernel
theorem CL:Str.ofString "x9" ∉ (C2 13).map kk:=by decide +kernel
theorem pq {k:Str}(h:k.cps.size<=8/\(k.cps.toList.all fun c=>decide (c<128))=true):iy k:=⟨h.1,fun c hc=>of_decide_eq_true (List.all_eq_true.mp h.2 c hc)⟩
theorem vT:iy (Str.ofString "x9"):=pq (by decide +kernel)
theorem gR {m:Int}(h0 : -aN<m)(h1:m<aN):m.natAbs<10 ^ 30:=by
 have hW:aN=1000000000000000000000000000000:=rfl
 have:(10:Nat) ^ 30=1000000000000000000000000000000:=by decide +kernel
 omega
theorem aF.tups {H H':Hp}(t:∀ b xs,H b=some (.tup xs)->H' b=some (.tup xs)){x:V}{e:En}(h:aF H x e):aF H' x e:=by
 obtain⟨a,e1,h1⟩:=h
 exact⟨a,e1,t _ _ h1⟩
structure cG (p:Addr)(H:Hp)(L:Addr)(xs:List V)(es:List En):Prop where
 h:H L=some (.lst xs)
 n:L≠p
 t:Paired (aF H) xs es
theorem cG.but {p:Addr}{H H':Hp}{L:Addr}{xs:List V}{es:List En}(hp:aL H p)(h:cG p H L xs es)(c:ax p H H'):cG p H' L xs es :=
 ⟨c _ _ h.h h.n,h.n,Paired.mono (fun _ _ z=>z.tups (iu hp c)) h.t⟩
inductive qa (C:Addr)(vs:List V)(H:Hp)(Q:VK)(E:XK):Prop
 | mk (p x d:Addr)(b0 b:Int)(ps:List Int)(rows:List Lad.Step)(prs:List BP)(e:vs=[.ref p,.ref x,.int b0,.ref d])(hp:aL H p)(hL:bu C H x b ps rows)(ok:cf b ps rows)(b1 : -cx<b0)(b2:b0<cx)(hd:H d=some (.dT (sd prs)))(po:dP rows.length prs)
  (q:∀ L xs es n H',ax p H H'->aL H' p->H L=none->cG p H' L xs es->(∀ e∈es,bi e)->n<13->es.map (·.2.1)=(C2 n).map kk->Q (.ref L) H'):qa C vs H Q E
theorem mC:aA ["_law_pot_here","_law_ladder","_law_begin_here","_law_shut","_law_many"] ["_law_pot_here","_law_ladder","_law_begin_here","_law_shut"] (aw mz):=aE
set_option maxHeartbeats 4000000 in
theorem Cf (T:Txt K mg C):aK P w K mg base 6 "_law_entries" ["_law_pot_here","_law_ladder","_law_begin_here","_law_shut"] (qa C):=by
 refine aW T.f_law_entries mC (fun vs H Q E h=>?_) (fun f cdv A outer s H vs Q E hr h=>?_)
 ·obtain⟨p,x,d,b0,b,ps,rows,prs,rfl,_⟩:=h
  rfl
 ·obtain⟨p,x,d,b0,b,ps,rows,prs,rfl,hp,hL,ok,bb1,bb2,hd,po,q⟩:=h
  refine⟨_,(am (aG (i:=4) mC.nd rfl (Or.inl rfl) (ai (aY T) hr (ao (pv 0) ac)))
   (aq (aB (cm rfl (bR mC) (gL rfl T.b_range (ah (pv 4))) (fun _ _ _ _=>ca) (fun _ _ _ _=>(be (aO (ai (n5 T) hr (aR (pv 1) (aO (pv 2) (pv 3) (pv 4)))) (au Aj o8 (cq xP T.b_str boot_str (ah (pv 0)))) (ai (k9 T) hr (ah (pv 1)))))))))),?_⟩
  have dp:d≠p:=by
   obtain⟨y1,y2,hy⟩:=hp
   exact fun z=>by rw[z,hy] at hd;cases hd
  refine⟨_,rfl,p,_,rfl,hp,by decide +kernel,by decide +kernel,fun n H1 n0 n1 c1 hp1=>?_⟩
  refine⟨_,rfl,_,rfl,by omega,by omega,fun D hD=>?_⟩
  have hDH:H D=none:=qv c1 hD hp1
  have nD:=hp1.ne hD
  refine BD (n:=n.toNat) (fun i ys H2=>∃ es:List En,Paired (aF H2) ys es/\es.map (·.2.1)=(C2 i).map kk/\(∀ e∈es,bi e)/\ax p H H2/\aL H2 p/\H2 D=some (.lst ys)) ⟨[],.nil,rfl,(fun e he=>nomatch he),c1.trans (ab.upd hD).but,hp1.same (ab.upd hD),ae⟩ (fun i ys H2 ⟨_,_,_,_,_,_,h⟩=>h) (fun ys H2 ⟨es,t,e1,e2,c2,hp2,h⟩=>?_) fun i ys H2 hi ⟨es,t,e1,e2,c2,hp2,h⟩=>?_
  ·exact q D ys es n.toNat H2 c2 hp2 hDH ⟨h,nD,t⟩ e2 (by omega) e1
  ·have i13:i<13:=by omega
   have el:es.length=i:=by have:=congrArg Dw e1;rw[CW,CW,D4] at this;exact this
   have yl:ys.length=es.length:=Paired.length t
   refine cI ⟨_,rfl,_,rfl,_,rfl,_,rfl,p,x,d,b0,b,ps,rows,prs,rfl,hp2,iH hp hL c2,ok,bb1,bb2,c2 _ _ hd dp,po,fun m H3 m0 m1 c3 hp3=>?_⟩
   rw[Fv]
   refine⟨_,rfl,(i:Int),rfl,PySem.Spec.log2_small (EW (show (i:Int).natAbs<100 by omega) (by decide +kernel)),_,_,rfl,rfl,lA (xC i i13),?_⟩
   refine⟨_,rfl,p,rfl,hp3,fun v H4 v0 v1 c4 hp4=>⟨dZ,fun t5 ht5=>?_⟩⟩
   have s5:ab H4 (upd H4 t5 (.tup (bC (m,kk i,v)))):=ab.upd ht5
   have u5:(upd H4 t5 (.tup (bC (m,kk i,v)))) t5=some (.tup (bC (m,kk i,v))):=ae
   have hp5:=hp4.same s5
   show bw n.toNat i D ys _ (.ref t5) (upd H4 t5 (.tup (bC (m,kk i,v))))
   generalize (upd H4 t5 (.tup (bC (m,kk i,v))))=H5 at s5 u5 hp5
   have c25:=(c3.trans c4).trans s5.but
   have hD5:=c25 _ _ h nD
   have tp:∀ b' xs',H5 b'=some (.tup xs')->(upd H5 D (.lst (ys++[.ref t5]))) b'=some (.tup xs'):=fun b' xs' h=>by
    rw[upd_ne (fun z=>by rw[z,hD5] at h;cases h)];exact h
   refine bw.mk hi (by omega) (by omega) hD5 ⟨es++[(m,kk i,v)],?_,?_,?_,?_,?_,ae⟩
   ·exact Paired.snoc ⟨t5,rfl,tp _ _ u5⟩ (Paired.mono (fun _ _ z=>z.tups fun b' xs' h=>tp _ _ (iu hp2 c25 _ _ h)) t)
   ·rw[C8,e1,List.range_succ,C8];rfl
   ·intro e he
    rcases List.mem_append.mp he with z|z
    ·exact e2 e z
    ·rw[List.mem_singleton.mp z]
     exact⟨gR m0 m1,gR v0 v1,pq (zT i i13)⟩
   ·exact fun b' o z n=>by rw[upd_ne (aJ z hDH)];exact c25 b' o (c2 b' o z n) n
   ·obtain⟨y1,y2,z⟩:=hp5
    exact⟨y1,y2,by rw[upd_ne (Ne.symm nD)];exact z⟩
theorem uO {α β:Type}{R:α->β->Prop}{e:β}:∀ {mid:List β}{ys:List α},Paired R ys (mid++[e])->∃ ym y,ys=ym++[y]/\Paired R ym mid/\R y e
 | [],_,.cons h .nil=>⟨[],_,rfl,.nil,h⟩
 | m::mid,_,.cons h t=>by
  obtain⟨ym,y,e1,h1,h2⟩:=uO t
  exact⟨_::ym,y,by rw[e1];rfl,.cons h h1,h2⟩
theorem zR {n:Nat}(h:0<n):cz n (-1)=some (n-1):=by
 unfold cz
 rw[if_neg (by decide),if_pos (by omega)]
 congr 1
 omega
theorem Cc {n:Nat}(h:0<n):cz n 0=some 0:=by
 unfold cz
 rw[if_pos (by decide),if_pos (by omega)]
 rfl
theorem wm {α:Type}(xs:List α)(z b:α):(xs++[z]).set ((xs++[z]).length-1) b=xs++[b]:=by
 rw[C7,Dp,Fi,Ez _ _ (EU _),Fg]
 rfl
theorem mV {α β:Type}{R:α->β->Prop}:∀ {xs:List α}{ys:List β},Paired R xs ys->Paired R xs.reverse ys.reverse
 | _,_,.nil=>.nil
 | _,_,.cons h t=>by
  rw[DR,DR]
  exact Paired.snoc h (mV t)
theorem CN {α:Type}{xs:List α}(h:1<xs.length):∃ a m z,xs=a::(m++[z]):=by
 cases xs with
 | nil=>simp at h
 | cons a r =>
  have:r≠[]:=fun z=>by rw[z] at h;simp at h
  exact⟨a,r.dropLast,r.getLast this,by rw[Ey]⟩
structure Fd (p:Addr)(H H':Hp)(F:Addr)(ys:List V)(fs:List En):Prop where
 c:ax p H H'
 hp:aL H' p
 e:cG p H' F ys fs
 k:∀ e∈fs,bi e
theorem Fd.but {p F:Addr}{H H' H2:Hp}{ys:List V}{fs:List En}(h:Fd p H H' F ys fs)(c:ax p H' H2)(hp:aL H2 p):Fd p H H2 F ys fs:=⟨h.c.trans c,hp,h.e.but h.hp c,h.k⟩
theorem Fd.app {p F t:Addr}{H H':Hp}{ys:List V}{fs:List En}{e:En}(h:Fd p H H' F ys fs)(hF:H F=none)(ht:H' t=none)(ek:bi e):Fd p H (upd (upd H' t (.tup (bC e))) F (.lst (ys++[.ref t]))) F (ys++[.ref t]) (fs++[e]):=by
 have s1:ab H' (upd H' t (.tup (bC e))):=ab.upd ht
 have u1:(upd H' t (.tup (bC e))) t=some (.tup (bC e)):=ae
 generalize (upd H' t (.tup (bC e)))=H2 at s1 u1
 have hF2:=s1 _ _ h.e.h
 have tp:∀ b xs,H2 b=some (.tup xs)->(upd H2 F (.lst (ys++[.ref t]))) b=some (.tup xs):=fun b xs h=>by
  rw[upd_ne (fun z=>by rw[z,hF2] at h;cases h)];exact h
 refine⟨fun b o z n=>?_,?_,⟨ae,h.e.n,Paired.snoc ⟨t,rfl,tp _ _ u1⟩ (Paired.mono (fun _ _ z=>z.tups fun b xs h=>tp _ _ (s1 _ _ h)) h.e.t)⟩,fun y hy=>?_⟩
 ·rw[upd_ne (aJ z hF)];exact s1 _ _ (h.c b o z n)
 ·obtain⟨x,y,z⟩:=h.hp
  exact⟨x,y,by rw[upd_ne (Ne.symm h.e.n)];exact s1 _ _ z⟩
 ·rcases List.mem_append.mp hy with z|z
  ·exact h.k y z
  ·rw[List.mem_singleton.mp z];exact ek
theorem mv {fs:List En}{n:Nat}(h:n<13)(sl:(fs.map (·.2.1)).Sublist ((C2 n).map kk)):Ent.Keyed fs/\(Str.ofString "x9")∉fs.map (·.2.1)/\fs.length<=13:=by
 have s2:((C2 n).map kk).Sublist ((C2 13).map kk):=List.Sublist.map _ (List.range_sublist.mpr (by omega))
 have s3:=sl.trans s2
 refine⟨List.Nodup.sublist s3 Bg,fun z=>CL (s3.subset z),?_⟩
 have:=s3.length_le
 rw[CW,CW,D4] at this
 exact this
inductive o0 (C:Addr)(vs:List V)(H:Hp)(Q:VK)(E:XK):Prop
 | mk (p x d L:Addr)(b0 b:Int)(ps:List Int)(rows:List Lad.Step)(prs:List BP)(xs:List V)(es:List En)(n:Nat)(e:vs=[.ref p,.ref x,.int b0,.ref d,.ref L])(hp:aL H p)(hL:bu C H x b ps rows)(ok:cf b ps rows)(b1 : -cx<b0)(b2:b0<cx)(hd:H d=some (.dT (sd prs)))(po:dP rows.length prs)(hE:cG p H L xs es)(ek:∀ e∈es,bi e)(n13:n<13)(ky:es.map (·.2.1)=(C2 n).map kk)
  (q:∀ F ys fs H',ax p H H'->aL H' p->H F=none->cG p H' F ys fs->(∀ e∈fs,bi e)->Ent.Keyed fs->fs.length<=14->Q (.ref F) H'):o0 C vs H Q E
theorem gx:aA ["_law_pot_here","_law_ladder","_law_begin_here","_law_shut","_law_entries_here","_law_found","_law_moment_here","_law_key","_law_value","_law_way","_law_one","_law_other"] ["_law_pot_here","_law_ladder","_law_begin_here","_law_shut","_law_entries_here"] (aw kE):=aE
set_option maxHeartbeats 16000000 in
theorem Bn (T:Txt K mg C):aK P w K mg base 6 "_law_changed" ["_law_pot_here","_law_ladder","_law_begin_here","_law_shut","_law_entries_here"] (o0 C):=by
 refine aW T.f_law_changed gx (fun vs H Q E h=>?_) (fun f cdv A outer s H vs Q E hr h=>?_)
 ·obtain⟨p,x,d,L,b0,b,ps,rows,prs,xs,es,n,rfl,_⟩:=h
  rfl
 ·obtain⟨p,x,d,L,b0,b,ps,rows,prs,xs,es,n,rfl,hp,hL,ok,bb1,bb2,hd,po,hE,ek,n13,ky,q⟩:=h
  refine⟨_,(am (aG (i:=5) gx.nd rfl (Or.inl rfl) (bO cT))
   (am (cP PassesOwn.never rfl (cc K (pv 4)) (gw K rfl (bI (ba (i:=6) gx.nd rfl (Or.inl rfl)) (bI (ba (i:=7) gx.nd rfl (Or.inl rfl)) (bI (ba (i:=8) gx.nd rfl (Or.inl rfl)) dQ))))
    (am (aG (i:=9) gx.nd rfl (Or.inl rfl) (ai (aY T) hr (ao (pv 0) ac)))
    (aq (bJ (bU gS (pv 9) ac (bD _))
     (aq (b8 (fI K PySem.F.plainAttrs_list PySem.F.slot_list_append PySem.F.type_list_append er (pv 5) (ah (be (aO (pv 6) (pv 7) (ai (k9 T) hr (ah (pv 0)))))))))
     (aq (bJ (bU gS (pv 9) ac (bD _))
      (aq (b8 (fI K PySem.F.plainAttrs_list PySem.F.slot_list_append PySem.F.type_list_append er (pv 5) (ah (be (aO (ai (n5 T) hr (aR (pv 0) (aO (pv 1) (pv 2) (pv 3)))) (pv 7) (pv 8)))))))
      (aq (bJ (bU qU (pv 9) ac (bD _))
       (aq (b8 (fI K PySem.F.plainAttrs_list PySem.F.slot_list_append PySem.F.type_list_append er (pv 5) (ah (be (aO (pv 6) (pv 7) (pv 8)))))))
       bQ))))))))
   (jy (bJ (PW.pt (jV (bU gy (aM (gY K) T.b_len Im (ah (pv 5))) ac (bD _)) (nq (bU gS (ai (aY T) hr (ao (pv 0) ac)) ac (bD _)))))
    (am (AU (i:=10) (j:=11) rfl gx.nd rfl rfl (by decide) rfl rfl (ao (ay (bH K) (pv 5) ac (fun _ _=>rfl)) (ay (bH K) (pv 5) (eL eM ac) (fun _ _=>rfl))) rfl)
    (am (fU (be (aO (ay (cb K) (pv 10) ac (fun _ _=>rfl)) (ay (cb K) (pv 10) ac (fun _ _=>rfl)) (ay (cb K) (pv 11) ac (fun _ _=>rfl)))) (jS (pv 5) ac iR))
    (aq (fU (be (aO (ay (cb K) (pv 11) ac (fun _ _=>rfl)) (ay (cb K) (pv 11) ac (fun _ _=>rfl)) (ay (cb K) (pv 10) ac (fun _ _=>rfl)))) (jS (pv 5) (eL eM ac) iR)))))
    bQ)
   (jy (bJ (bU gS (ai (aY T) hr (ao (pv 0) ac)) ac (bD _))
    (aq (b8 (fI K PySem.F.plainAttrs_list PySem.F.slot_list_append PySem.F.type_list_append er (pv 5) (ah (be (aO (ai (n5 T) hr (aR (pv 0) (aO (pv 1) (pv 2) (pv 3)))) o8 (ai (k9 T) hr (ah (pv 0)))))))))
    bQ)
   (am (b8 (BH PySem.F.plainAttrs_list PySem.F.slot_list_reverse PySem.F.type_list_reverse zV (pv 5)))
   (aq (aB (pv 5)))))))),?_⟩
  have dp:d≠p:=by
   obtain⟨y1,y2,hy⟩:=hp
   exact fun z=>by rw[z,hy] at hd;cases hd
  have el:es.length=n:=by have:=congrArg Dw ky;rw[CW,CW,D4] at this;exact this
  refine⟨EX _,fun F hF=>?_⟩
  have sF:ab H (upd H F (.lst [])):=ab.upd hF
  have F0:Fd p H (upd H F (.lst [])) F [] []:=⟨sF.but,hp.same sF,⟨ae,hp.ne hF,.nil⟩,fun e he=>nomatch he⟩
  generalize (upd H F (.lst []))=H1 at sF F0
  refine⟨_,rfl,L,rfl,⟨_,.of (sF _ _ hE.h)⟩,?_⟩
  refine iJ (xs:=xs) (fun i σ HX=>∃ v6 v7 v8 v9 ys fs,σ=[some (.ref p),some (.ref x),some (.int b0),some (.ref d),some (.ref L),some (.ref F),v6,v7,v8,v9,none,none]/\Fd p H HX F ys fs/\(fs.map (·.2.1)).Sublist ((es.take i).map (·.2.1))) ⟨none,none,none,none,[],[],rfl,F0,.slnil⟩ (fun i σ HX _ ⟨_,_,_,_,_,_,_,h,_⟩=>.of (h.c _ _ hE.h hE.n)) ?turn ?fin
  case turn =>
   rintro i y σ HX hy ⟨v6,v7,v8,v9,ys,fs,rfl,fd,sl⟩
   obtain⟨e,he,u,rfl,hu⟩:=Paired.get hE.t hy
   have hin:e∈es:=De he
   have huX:=iu hp fd.c _ _ hu
   have ok_e:=ek e hin
   have tk:(es.take (i+1)).map (fun e:En=>e.2.1)=(es.take i).map (fun e:En=>e.2.1)++[e.2.1]:=by rw[C9,he,C8];rfl
   have keep:∀ {gs:List En},(gs.map (fun e:En=>e.2.1)).Sublist ((es.take i).map (·.2.1))->(gs.map (fun e:En=>e.2.1)).Sublist ((es.take (i+1)).map (·.2.1)):=fun h=>by rw[tk];exact h.trans (List.sublist_append_left _ _)
   have more:∀ {m v:Int},((fs++[(m,e.2.1,v)]).map (fun e:En=>e.2.1)).Sublist ((es.take (i+1)).map (·.2.1)):=fun {m v}=>by
    rw[tk,C8]
    exact List.Sublist.append sl (List.Sublist.refl _)
   have fl:=(mv n13 (sl.trans (by rw[<-ky];exact List.Sublist.map _ (Ed _ _)))).2.2
   have yl:ys.length=fs.length:=Paired.length fd.e.t
   refine⟨u,_,rfl,.of huX,rfl,_,_,rfl,_,_,rfl,_,_,rfl,rfl,?_⟩
   refine⟨_,rfl,p,_,rfl,fd.hp,by decide +kernel,by decide +kernel,fun g H2 g0 g1 c2 hp2=>?_⟩
   have fd2:=fd.but c2 hp2
   refine⟨_,rfl,rfl,_,rfl,?_⟩
   generalize decide (V.int g=V.int 1)=k1
   cases k1 with
   | true =>
    refine bP ⟨_,rfl,.inl ⟨rfl,_,.of fd2.e.h⟩,_,rfl,_,rfl,_,rfl,p,rfl,hp2,fun v H3 v0 v1 c3 hp3=>⟨dZ,fun t ht=>?_⟩⟩
    have fd3:=fd2.but c3 hp3
    exact⟨F,_,_,rfl,rfl,ab.upd ht _ _ fd3.e.h,cR (by omega),_,_,_,_,_,fs++[(e.1,e.2.1,v)],rfl,fd3.app (e:=(e.1,e.2.1,v)) hF ht ⟨ok_e.m,gR v0 v1,ok_e.k⟩,more⟩
   | false =>
    refine bK ⟨_,rfl,rfl,_,rfl,?_⟩
    generalize decide (V.int g=V.int 2)=k2
    cases k2 with
    | true =>
     refine bP ⟨_,rfl,.inl ⟨rfl,_,.of fd2.e.h⟩,_,rfl,_,rfl,_,rfl,_,rfl,p,x,d,b0,b,ps,rows,prs,rfl,hp2,iH hp hL fd2.c,ok,bb1,bb2,fd2.c _ _ hd dp,po,fun m H3 m0 m1 c3 hp3=>⟨_,rfl,_,rfl,dZ,fun t ht=>?_⟩⟩
     have fd3:=fd2.but c3 hp3
     exact⟨F,_,_,rfl,rfl,ab.upd ht _ _ fd3.e.h,cR (by omega),_,_,_,_,_,fs++[(m,e.2.1,e.2.2)],rfl,fd3.app (e:=(m,e.2.1,e.2.2)) hF ht ⟨gR m0 m1,ok_e.v,ok_e.k⟩,more⟩
    | false =>
     refine bK ⟨_,rfl,rfl,_,rfl,?_⟩
     generalize (!decide (V.int g=V.int 0))=k3
     cases k3 with
     | true =>
      refine bP ⟨_,rfl,.inl ⟨rfl,_,.of fd2.e.h⟩,_,rfl,_,rfl,_,rfl,dZ,fun t ht=>?_⟩
      exact⟨F,_,_,rfl,rfl,ab.upd ht _ _ fd2.e.h,cR (by omega),_,_,_,_,_,fs++[(e.1,e.2.1,e.2.2)],rfl,fd2.app (e:=(e.1,e.2.1,e.2.2)) hF ht ok_e,more⟩
     | false=>exact bK ⟨_,_,_,_,ys,fs,rfl,fd2,keep sl⟩
  case fin =>
   rintro σ HX ⟨v6,v7,v8,v9,ys,fs,rfl,fd,sl⟩
   have xl:xs.length=es.length:=Paired.length hE.t
   rw[xl,Dg,ky] at sl
   refine⟨fun σ HX=>∃ v10 v11 ys fs,σ=[some (.ref p),some (.ref x),some (.int b0),some (.ref d),some (.ref L),some (.ref F),v6,v7,v8,v9,v10,v11]/\Fd p H HX F ys fs/\(fs.map (·.2.1)).Sublist ((C2 n).map kk),?_,?_⟩
   ·refine⟨_,rfl,F,_,rfl,.inl (.of fd.e.h),_,_,rfl,rfl,_,rfl,?_⟩
    by_cases h1:(1:Int)<(ys.length:Int)
    ·refine eW (decide_eq_true h1) ⟨_,rfl,p,_,rfl,fd.hp,by decide +kernel,by decide +kernel,fun g H2 g0 g1 c2 hp2=>⟨rfl,_,rfl,?_⟩⟩
     have fd2:=fd.but c2 hp2
     generalize decide (V.int g=V.int 1)=k1
     cases k1 with
     | false=>exact bK ⟨_,_,ys,fs,rfl,fd2,sl⟩
     | true =>
      have yl:ys.length=fs.length:=Paired.length fd2.e.t
      obtain⟨e0,mid,ez,rfl⟩:=CN (xs:=fs) (by omega)
      obtain⟨hc,hp',⟨hFl,nF,tt⟩,kok⟩:=id fd2
      cases tt with
      | cons t0 tr =>
       obtain⟨ym,yz,rfl,tm,tz⟩:=uO tr
       obtain⟨a0,rfl,ha0⟩:=t0
       obtain⟨az,rfl,haz⟩:=tz
       refine bP ⟨_,rfl,F,_,_,_,rfl,rfl,.of hFl,bz (j:=0) rfl,_,rfl,_,rfl,F,_,_,_,rfl,rfl,.of hFl,(by exact jd (V.ref a0::ym) (V.ref az)),_,_,rfl,?_⟩
       refine⟨_,rfl,a0,_,_,_,rfl,rfl,.of ha0,rfl,_,rfl,a0,_,_,_,rfl,rfl,.of ha0,rfl,_,rfl,az,_,_,_,rfl,rfl,.of haz,rfl,dZ,fun t1 ht1=>?_⟩
       have s3:ab H2 (upd H2 t1 (.tup (bC (e0.1,e0.2.1,ez.2.2)))):=ab.upd ht1
       have u3:(upd H2 t1 (.tup (bC (e0.1,e0.2.1,ez.2.2)))) t1=some (.tup (bC (e0.1,e0.2.1,ez.2.2))):=ae
       refine⟨_,rfl,F,_,_,_,rfl,rfl,s3 _ _ hFl,Cc (by simp),?_⟩
       have e3:(upd H2 t1 (.tup [.int e0.1,.str e0.2.1,.int ez.2.2]))=(upd H2 t1 (.tup (bC (e0.1,e0.2.1,ez.2.2)))):=rfl
       rw[e3]
       generalize (upd H2 t1 (.tup (bC (e0.1,e0.2.1,ez.2.2))))=H3 at s3 u3
       have hF3:=s3 _ _ hFl
       have tp3:∀ b xs,H3 b=some (.tup xs)->(upd H3 F (.lst (V.ref t1::(ym++[V.ref az])))) b=some (.tup xs):=fun b xs h=>by
        rw[upd_ne (fun z=>by rw[z,hF3] at h;cases h)];exact h
       have c4:∀ b o,H3 b=some o->b≠F->(upd H3 F (.lst (V.ref t1::(ym++[V.ref az])))) b=some o:=fun b o h n=>by rw[upd_ne n];exact h
       have hF4:(upd H3 F (.lst (V.ref t1::(ym++[V.ref az])))) F=some (.lst (V.ref t1::(ym++[V.ref az]))):=ae
       have e4:((V.ref a0::(ym++[V.ref az])).set 0 (.ref t1))=V.ref t1::(ym++[V.ref az]):=rfl
       rw[e4]
       generalize (upd H3 F (.lst (V.ref t1::(ym++[V.ref az]))))=H4 at tp3 c4 hF4
       have a4:=tp3 _ _ (s3 _ _ ha0)
       have z4:=tp3 _ _ (s3 _ _ haz)
       refine⟨_,rfl,az,_,_,_,rfl,rfl,.of z4,rfl,_,rfl,az,_,_,_,rfl,rfl,.of z4,rfl,_,rfl,a0,_,_,_,rfl,rfl,.of a4,rfl,dZ,fun t2 ht2=>?_⟩
       have s5:ab H4 (upd H4 t2 (.tup (bC (ez.1,ez.2.1,e0.2.2)))):=ab.upd ht2
       have u5:(upd H4 t2 (.tup (bC (ez.1,ez.2.1,e0.2.2)))) t2=some (.tup (bC (ez.1,ez.2.1,e0.2.2))):=ae
       have e5:(upd H4 t2 (.tup [.int ez.1,.str ez.2.1,.int e0.2.2]))=(upd H4 t2 (.tup (bC (ez.1,ez.2.1,e0.2.2)))):=rfl
       rw[e5]
       generalize (upd H4 t2 (.tup (bC (ez.1,ez.2.1,e0.2.2))))=H5 at s5 u5
       have hF5:=s5 _ _ hF4
       refine⟨_,rfl,_,rfl,F,_,_,_,rfl,rfl,hF5,zR (by simp),?_⟩
       have e6:((V.ref t1::(ym++[V.ref az])).set ((V.ref t1::(ym++[V.ref az])).length-1) (.ref t2))=V.ref t1::(ym++[V.ref t2]):=wm (V.ref t1::ym) (V.ref az) (V.ref t2)
       rw[e6]
       have tp5:∀ b xs,H5 b=some (.tup xs)->(upd H5 F (.lst (V.ref t1::(ym++[V.ref t2])))) b=some (.tup xs):=fun b xs h=>by
        rw[upd_ne (fun z=>by rw[z,hF5] at h;cases h)];exact h
       have k0:=kok e0 C6
       have kz:=kok ez (by simp)
       refine⟨_,_,_,(e0.1,e0.2.1,ez.2.2)::(mid++[(ez.1,ez.2.1,e0.2.2)]),rfl,⟨fun b o z n=>?_,?_,⟨ae,nF,.cons ⟨t1,rfl,tp5 _ _ (s5 _ _ (tp3 _ _ u3))⟩ (Paired.snoc ⟨t2,rfl,tp5 _ _ u5⟩ (Paired.mono (fun _ _ z=>z.tups fun b xs h=>tp5 _ _ (s5 _ _ (tp3 _ _ (s3 _ _ h)))) tm))⟩,fun e he=>?_⟩,?_⟩
       ·rw[upd_ne (aJ z hF)]
        exact s5 _ _ (c4 _ _ (s3 _ _ (hc b o z n)) (aJ z hF))
       ·obtain⟨y1,y2,z⟩:=hp'
        exact⟨y1,y2,by rw[upd_ne (Ne.symm nF)];exact s5 _ _ (c4 _ _ (s3 _ _ z) (Ne.symm nF))⟩
       ·rcases List.mem_cons.mp he with rfl|he
        ·exact⟨k0.m,kz.v,k0.k⟩
        ·rcases List.mem_append.mp he with z|z
         ·exact kok e (by simp[z])
         ·rw[List.mem_singleton.mp z];exact⟨kz.m,k0.v,kz.k⟩
       ·rw[C1,C8] at sl ⊢
        exact sl
    ·exact eI (decide_eq_false h1) (bK ⟨_,_,ys,fs,rfl,fd,sl⟩)
   rintro σ HY ⟨v10,v11,ys,fs,rfl,fd,sl⟩
   obtain⟨kd,kx,fl⟩:=mv n13 sl
   have yl:ys.length=fs.length:=Paired.length fd.e.t
   refine⟨fun σ HX=>∃ ys fs,σ=[some (.ref p),some (.ref x),some (.int b0),some (.ref d),some (.ref L),some (.ref F),v6,v7,v8,v9,v10,v11]/\Fd p H HX F ys fs/\Ent.Keyed fs/\fs.length<=14,?_,?_⟩
   ·refine⟨_,rfl,p,_,rfl,fd.hp,by decide +kernel,by decide +kernel,fun g H2 g0 g1 c2 hp2=>⟨rfl,_,rfl,?_⟩⟩
    have fd2:=fd.but c2 hp2
    generalize decide (V.int g=V.int 0)=k1
    cases k1 with
    | false=>exact bK ⟨ys,fs,rfl,fd2,kd,by omega⟩
    | true =>
     refine bP ⟨_,rfl,.inl ⟨rfl,_,.of fd2.e.h⟩,_,rfl,_,rfl,_,rfl,_,rfl,p,x,d,b0,b,ps,rows,prs,rfl,hp2,iH hp hL fd2.c,ok,bb1,bb2,fd2.c _ _ hd dp,po,fun m H3 m0 m1 c3 hp3=>⟨_,rfl,p,rfl,hp3,fun v H4 v0 v1 c4 hp4=>⟨dZ,fun t ht=>?_⟩⟩⟩
     have fd4:=(fd2.but c3 hp3).but c4 hp4
     refine⟨F,_,_,rfl,rfl,ab.upd ht _ _ fd4.e.h,cR (by omega),_,fs++[(m,Str.ofString "x9",v)],rfl,fd4.app (e:=(m,Str.ofString "x9",v)) hF ht ⟨gR m0 m1,gR v0 v1,vT⟩,?_,by rw[C7];show fs.length+1<=14;omega⟩
     unfold Ent.Keyed at kd ⊢
     rw[C8]
     exact List.nodup_append.mpr ⟨kd,DN _ _,fun a ha b hb z=>by
      rw[List.mem_singleton.mp hb] at z
      have z':a=Str.ofString "x9":=z
      exact kx (z'▸ha)⟩
   rintro σ HZ ⟨ys,fs,rfl,fd,kd,fl⟩
   refine⟨_,rfl,.inl ⟨rfl,_,.of fd.e.h⟩,F,_,rfl,rfl,fd.e.h,_,rfl,?_⟩
   have tp:∀ b xs,HZ b=some (.tup xs)->(upd HZ F (.lst ys.reverse)) b=some (.tup xs):=fun b xs h=>by
    rw[upd_ne (fun z=>by rw[z,fd.e.h] at h;cases h)];exact h
   refine q F ys.reverse fs.reverse _ (fun b o z n=>by rw[upd_ne (aJ z hF)];exact fd.c b o z n) ?_ hF ⟨ae,fd.e.n,mV (Paired.mono (fun _ _ z=>z.tups tp) fd.e.t)⟩ (fun e he=>fd.k e (List.mem_reverse.mp he)) ?_ (by rw[DL];exact fl)
   ·obtain⟨y1,y2,z⟩:=fd.hp
    exact⟨y1,y2,by rw[upd_ne (Ne.symm fd.e.n)];exact z⟩
   ·unfold Ent.Keyed at kd ⊢
    rw[EJ]
    exact(Ep _).nodup_iff.mpr kd
theorem jF {H:Hp}:∀ {ys:List V}{es:List En},Paired (aF H) ys es->av H (es.map eD) ys
 | _,_,.nil=>by unfold av;rfl
 | _,_,.cons h t=>by
  rw[C1]
  unfold av
  exact⟨_,_,rfl,h.dat,jF t⟩
theorem Ap {e:En}(h:iy e.2.1):(eD e).canLay0=true:=by
 unfold eD PyData.canLay0 PyData.canLayAll0 PyData.canLayAll0
 rw[(uo h).cl]
 rfl
theorem jw:∀ {es:List En},(∀ e∈es,bi e)->PyData.canLayAll0 (es.map eD)=true
 | [],_=>rfl
 | r::t,h=>by
  rw[C1]
  unfold PyData.canLayAll0
  rw[jw fun x hx=>h x (C5 _ hx),Bool.and_true]
  exact Ap (h r C6).k
theorem jn:∀ es:List En,PyData.depthAll (es.map eD)<=1
 | []=>by decide
 | r::t=>by
  rw[C1]
  have:=jn t
  simp only[PyData.depthAll,eD,PyData.depth]
  omega
theorem Ck (es:List En):PyData.eqv (.list (es.map eD)) (.list [])=decide (es=[]):=by
 cases es with
 | nil=>rfl
 | cons x t=>rw[decide_eq_false (by simp)];rfl
def wn (i j:Int)(es:List En):List En:=es.filter fun e=>decide (i<=e.1) && decide (e.1<j)
theorem vP {i j:Int}{es:List En}{k:Nat}{e:En}(h:es[k]?=some e):wn i j (es.take (k+1))=wn i j (es.take k)++(if (decide (i<=e.1) && decide (e.1<j))=true then [e] else []):=by
 unfold wn
 rw[C9,h,DW]
 cases z:(decide (i<=e.1) && decide (e.1<j)) <;> simp[z]
theorem yU {st:List Lad.Step}(g:Lad.Goods st){r:Nat}{n x:Int}(h1:Lad.dn st r n<=x)(h2:x<Lad.dn st r (n+1)):Lad.ur st r x=n:=by
 have a:=(Lad.le_ur g r x n).mpr h1
 have b:=Lad.le_ur g r x (n+1)
 omega
theorem qL {st:List Lad.Step}(g:Lad.Goods st)(r:Nat)(n:Int)(es:List En):wn (Lad.dn st r n) (Lad.dn st r (n+1)) es=own st r n es:=by
 unfold wn own
 refine EH fun e _=>?_
 rw[Bool.eq_iff_iff,Bool.and_eq_true,decide_eq_true_eq,decide_eq_true_eq,decide_eq_true_eq]
 constructor
 ·exact fun h=>yU g h.1 h.2
 ·rintro rfl
  exact Lad.ur_spec g r e.1
theorem xW {es:List En}{is:List Nat}(p1:is.Perm (C2 es.length))(p2:is.Pairwise (Srt.R (Srt.ltE es))):(bA es is).Pairwise (fun a b=>ck b a=false):=by
 unfold bA
 refine List.pairwise_map.mpr (p2.imp_of_mem fun {i j} hi hj hr=>?_)
 have hf:Srt.tlt (es.getD j dn) (es.getD i dn)=false:=hr.elim (fun h=>(Srt.ltE_ord es).1 h) (·.1)
 by_cases e:((es.getD j dn).1,(es.getD j dn).2.1)=((es.getD i dn).1,(es.getD i dn).2.1)
 ·show Srt.plt (pl (es.getD j dn)) (pl (es.getD i dn))=false
  rw[show pl (es.getD j dn)=pl (es.getD i dn) from e]
  exact Srt.plt_irr _
 ·rw[Srt.tlt_plt e] at hf
  exact hf
theorem yd {f:En}{r:List En}(h:(f::r).Pairwise (fun a b=>ck b a=false)):∀ e∈f::r,ck e f=false:=fun e he=>by
 rcases List.mem_cons.mp he with rfl|he
 ·exact jz _
 ·exact(List.pairwise_cons.mp h).1 e he
theorem BY {l:En}{r:List En}(h:(r++[l]).Pairwise (fun a b=>ck b a=false)):∀ e∈r++[l],ck l e=false:=fun e he=>by
 rcases List.mem_append.mp he with he|he
 ·exact(List.pairwise_append.mp h).2.2 e he l C6
 ·rw[List.mem_singleton.mp he];exact jz _
theorem nB {i j:Int}{es:List En}{e:En}(h:e∈wn i j es):e∈es:=(List.mem_filter.mp h).1
def pc (H:Hp)(v:V)(es:List En):Prop:=(es=[]/\v=.non)\/(es≠[]/\BT H v es)
inductive tZ (vs:List V)(H:Hp)(Q:VK)(E:XK):Prop
 | mk (a t:Addr)(xs:List V)(es:List En)(i j:Int)(h0:vs=[.ref a,.ref t])(h1:H a=some (.lst xs))(h2:H t=some (.tup [.int i,.int j]))(h3:Paired (aF H) xs es)(h4:es.length<64)(ek:∀ e∈es,bi e)
  (q:∀ v H',ab H H'->pc H' v (wn i j es)->Q v H'):tZ vs H Q E
theorem jL:aA ["_law_entries_here","_law_stretch","_law_some","_law_values"] ["_law_entries_here","_law_stretch"] (aw lK):=aE
set_option maxHeartbeats 8000000 in
theorem qb (T:Txt K mg C):aK P w K mg base 2 "_law_fold" ["_law_entries_here","_law_stretch"] tZ:=by
 refine aW T.f_law_fold jL (fun vs H Q E h=>?_) (fun f cdv A outer s H vs Q E hr h=>?_)
 ·obtain⟨a,t,xs,es,i,j,rfl,_⟩:=h
  rfl
 ·obtain⟨a,t,xs,es,i,j,rfl,ha,hst,hp,h64,ek,q⟩:=h
  refine⟨_,(am (aG (i:=2) jL.nd rfl (Or.inl rfl) (aM wJ T.b_sorted Ir (ah (cm rfl (bR jL) (cc K (pv 0)) (fun _ _ _ _=>(ju (rO iZ iV (ay (cb K) (pv 2) ac (fun _ _=>rfl)) (ay (cb K) (pv 0) ac (fun _ _=>rfl)) (ay (cb K) (pv 2) ac (fun _ _=>rfl))))) (fun _ _ _ _=>(pv 0))))))
   (am (bJ (bU (sJ hr) (pv 2) (bO cT) (bD _))
    (aq (aB fL))
    bQ)
   (am (kg (i:=3) rfl rfl rfl (bR jL) (cc K (pv 2)) (fun _ _ _ _=>ca) (fun _ _ _ _=>(ay (cb K) (pv 0) ac (fun _ _=>rfl))))
   (aq (aB (be (aR (aM (gY K) T.b_len Im (ah (pv 2))) (aR (aM (km K rfl) T.b_sum Io (ah (pv 3))) (aR (aM (n6 K rfl) T.b_min Iu (ah (pv 3))) (aO (aM (nw K rfl) T.b_max boot_max (ah (pv 3))) (ay (bH K) (pv 2) ac (fun _ _=>rfl)) (ay (bH K) (pv 2) (eL eM ac) (fun _ _=>rfl)))))))))))),?_⟩
  have hlen:=Paired.length hp
  refine⟨_,rfl,a,rfl,⟨_,.of ha⟩,fun D hD=>?_⟩
  refine fF (xs:=xs) (fun k ys H1=>H1 D=some (.lst ys)/\ab H H1/\Paired (aF H1) ys (wn i j (es.take k))/\ys.length<=k) ⟨ae,ab.upd hD,.nil,EU _⟩ (fun k ys H1 h=>⟨h.1,.of (h.2.1 _ _ ha)⟩) (fun ys0 HA h=>?fin) fun k x ys H1 hk hx h=>?go
  case go =>
   obtain⟨d1,d2,d3,d4⟩:=h
   obtain⟨e,he,b,rfl,hb⟩:=Paired.get hp hx
   have wt:=vP (i:=i) (j:=j) he
   refine⟨_,rfl,t,_,_,_,rfl,rfl,.of (d2 _ _ hst),rfl,_,rfl,b,_,_,_,rfl,rfl,.of (d2 _ _ hb),rfl,_,_,rfl,rfl,_,rfl,?_⟩
   have no:(decide (i<=e.1) && decide (e.1<j))=false->cN xs.length k ys (fun k ys H1=>H1 D=some (.lst ys)/\ab H H1/\Paired (aF H1) ys (wn i j (es.take k))/\ys.length<=k) H1:=fun z=>by
    refine cN.mk hk ⟨d1,d2,?_,by omega⟩
    rw[wt,z,if_neg (by decide),DJ]
    exact d3
   by_cases z1:i<=e.1
   ·refine eW (decide_eq_true z1) ⟨_,rfl,t,_,_,_,rfl,rfl,.of (d2 _ _ hst),rfl,_,_,rfl,rfl,_,rfl,?_⟩
    by_cases z2:e.1<j
    ·refine eW (decide_eq_true z2) ⟨_,rfl,bw.mk hk (by omega) (by omega) d1 ⟨ae,d2.but_ne hD,?_,by rw[C7];show ys.length+1<=k+1;omega⟩⟩
     rw[wt,decide_eq_true z1,decide_eq_true z2,if_pos (by decide)]
     have tp:∀ b' xs',H1 b'=some (.tup xs')->(upd H1 D (.lst (ys++[.ref b]))) b'=some (.tup xs'):=fun b' xs' h=>by
      rw[upd_ne (fun z=>by rw[z,d1] at h;cases h)];exact h
     exact Paired.snoc ⟨b,rfl,tp _ _ (d2 _ _ hb)⟩ (Paired.mono (fun _ _ z=>z.tups tp) d3)
    ·exact eI (decide_eq_false z2) (no (by rw[decide_eq_false z2,Bool.and_false]))
   ·refine eI (decide_eq_false z1) ⟨_,rfl,bK (no (by rw[decide_eq_false z1,Bool.false_and]))⟩
  obtain⟨dA,sA,d3,d4⟩:=h
  rw[Df (by omega)] at d3
  have hl2:=Paired.length d3
  have wl:(wn i j es).length<=es.length:=Dl _ _
  have ekw:∀ e∈wn i j es,bi e:=fun e he=>ek e (nB he)
  generalize hws:wn i j es=ws at d3 hl2 wl ekw q
  refine⟨D,_,ys0,ws,rfl,dA,.inl rfl,d3,by omega,fun D2 is p1 p2 hD=>?_⟩
  have hpm:=fy p1
  have srt:=xW p1 p2
  have s1:ab HA (upd HA D2 (.lst (is.map fun i=>ys0.getD i .non))):=ab.upd hD
  have hy:(upd HA D2 (.lst (is.map fun i=>ys0.getD i .non))) D2=some (.lst (is.map fun i=>ys0.getD i .non)):=ae
  have hE:Paired (aF (upd HA D2 (.lst (is.map fun i=>ys0.getD i .non)))) (is.map fun i=>ys0.getD i .non) (bA ws is):=Paired.picks (Paired.mono2 (fun _ _ z=>z.same s1)  d3) is fun i hi=>by
   have:=List.mem_range.mp (p1.mem_iff.mp hi)
   omega
  generalize (upd HA D2 (.lst (is.map fun i=>ys0.getD i .non)))=H1 at s1 hy hE
  generalize (is.map fun i=>ys0.getD i .non)=ys at hy hE
  have hyl:ys.length=ws.length:=by rw[hE.length,hpm.length_eq]
  have ekp:∀ e∈bA ws is,bi e:=fun e he=>ekw e (hpm.mem_iff.mp he)
  generalize bA ws is=pe at hpm srt hE ekp
  refine⟨_,rfl,EX _,fun e0 he0=>?_⟩
  have s2:ab H1 (upd H1 e0 (.lst [])):=ab.upd he0
  have h0':(upd H1 e0 (.lst [])) e0=some (.lst []):=ae
  generalize (upd H1 e0 (.lst []))=H2 at s2 h0'
  have hy2:=s2 _ _ hy
  have hE2:Paired (aF H2) ys pe:=Paired.mono2 (fun _ _ z=>z.same s2) hE
  have s02:=s1.trans s2
  refine⟨.list (pe.map eD),.list [],by unfold aj;exact⟨D2,_,rfl,hy2,jF hE2⟩,by unfold aj;exact⟨e0,_,rfl,h0',by unfold av;rfl⟩,by unfold PyData.canLay0;exact jw ekp,rfl,by have:=jn pe;simp only[PyData.depth];omega,_,rfl,?_⟩
  rw[Ck]
  by_cases z:pe=[]
  ·rw[z] at hpm
   have en:ws=[]:=List.Perm.eq_nil hpm.symm
   exact eW (by rw[decide_eq_true z];rfl) (q .non _ (sA.trans s02) (.inl ⟨en,rfl⟩))
  ·refine eI (by rw[decide_eq_false z];rfl) ?_
   refine⟨_,rfl,D2,rfl,⟨ys,.of hy2⟩,fun V' hV=>?_⟩
   refine fF (xs:=ys) (fun i zs H3=>H3 V'=some (.lst zs)/\ab H2 H3/\zs=(aH (pe.take i)).map V.int) ⟨ae,ab.upd hV,rfl⟩ (fun i zs H3 h=>⟨h.1,h.2.1.seq (.of hy2)⟩) (fun zs H3 h=>?_) fun i x zs H3 hi hx h=>?_
   ·obtain⟨d1,d2,d3⟩:=h
    rw[Df (by rw[hE.length];exact EU _)] at d3
    subst d3
    have hD2:=d2 _ _ hy2
    have hE3:Paired (aF H3) ys pe:=Paired.mono2 (fun _ _ z=>z.same d2) hE2
    cases hpk:pe with
    | nil=>exact absurd hpk z
    | cons fe re =>
    have hne:aH pe≠[]:=by rw[hpk];unfold aH;simp
    rcases Ds pe with zz|⟨rl,le,hpl⟩
    ·exact absurd zz z
    rw[Dt] at hpl
    obtain⟨yf,ef,rf⟩:=Paired.getR hE3 (i:=0) (y:=fe) (by rw[hpk];rfl)
    obtain⟨yl,el,rl'⟩:=Paired.getR hE3 (i:=rl.length) (y:=le) (by rw[hpl];simp)
    have hlast:∃ yr',ys=yr'++[yl]:=by
     rcases Ds ys with zz|⟨yr',yl',hyr⟩
     ·rw[zz] at ef;cases ef
     ·rw[Dt] at hyr
      refine⟨yr',?_⟩
      have l1:ys.length=rl.length+1:=by rw[hE3.length,hpl];simp
      have l2:yr'.length=rl.length:=by rw[hyr] at l1;simpa using l1
      rw[hyr,<-l2] at el
      rw[hyr]
      simp at el
      rw[el]
    obtain⟨yr',hyr⟩:=hlast
    have sf:∀ e∈pe,ck e fe=false:=by rw[hpk] at srt ⊢;exact yd srt
    have sl:∀ e∈pe,ck le e=false:=by rw[hpl] at srt ⊢;exact BY srt
    have hbar:=fun lo hi (g1:lo∈aH pe) g2 (g3:hi∈aH pe) g4=>bn.perm hpm (.some lo hi fe le g1 g2 g3 g4 (by rw[hpk];exact C6) sf (by rw[hpl];simp) sl rfl)
    refine⟨_,rfl,D2,ys,rfl,.inl (.of hD2),_,rfl,V',_,rfl,.inl (.of d1),_,rfl,V',_,rfl,.of d1,hne,fun lo g1 g2=>⟨_,rfl,V',_,rfl,.of d1,hne,fun hi g3 g4=>?_⟩⟩
    refine⟨_,rfl,D2,ys,_,_,rfl,rfl,.of hD2,bz (j:=0) ef,_,rfl,_,rfl,D2,ys,_,_,rfl,rfl,.of hD2,by rw[hyr];exact jd _ _,ir (by show 6<=1000;decide),fun pp hpp=>?_⟩
    have hn:ys.length=pe.length:=hE3.length
    refine q (.ref pp) _ (sA.trans ((s02.trans d2).trans (ab.upd hpp))) (.inr ⟨fun en=>z (List.Perm.eq_nil (en▸hpm)),pp,_,rfl,?_,hbar lo hi g1 g2 g3 g4⟩)
    exact nX (by rw[ae,hn]) (rf.same (ab.upd hpp)) (rl'.same (ab.upd hpp))
   ·obtain⟨d1,d2,d3⟩:=h
    obtain⟨e,he,b,rfl,hb⟩:=Paired.get hE2 hx
    refine cI ⟨_,rfl,b,_,_,_,rfl,rfl,.of (d2 _ _ hb),bz (j:=2) rfl,bw.mk hi (by omega) ?_ d1 ⟨ae,d2.but_ne hV,?_⟩⟩
    ·rw[d3]
     unfold aH
     rw[CW,CW,Db]
     omega
    ·rw[d3,C9,he]
     unfold aH
     simp
def kU (es:List En)(d:PyData):Prop:=(es=[]/\d=.none)\/(es≠[]/\d=bd es/\bn es (bd es))
theorem pF {H:Hp}{v:V}{es:List En}(h:pc H v es)(k:Ent.Keyed es)(ek:∀ e∈es,bi e)(hl:es.length<=1000):∃ d,aj H d v/\d.canLay0=true/\d.depth<=2/\kU es d:=by
 rcases h with⟨e,rfl⟩|⟨ne,bt⟩
 ·exact⟨.none,by unfold aj;rfl,rfl,by decide,.inl ⟨e,rfl⟩⟩
 ·obtain⟨p,rfl,dt,bo⟩:=BT.dat k bt
  have bl:dw (bd es):=⟨es,ek,hl,bo⟩
  obtain⟨lf,_,dp⟩:=bl.lf
  exact⟨bd es,dt,lf.cl,dp,.inr ⟨ne,rfl,bo⟩⟩
theorem ud {es:List En}(ne:es≠[])(h:bn es (bd es)):PyData.eqv cw (bd es)=false/\PyData.eqv (bd es) cw=false/\PyData.eqv .none (bd es)=false/\PyData.eqv (bd es) .none=false:=by
 cases h with
 | non e _=>exact absurd e ne
 | some lo hi f l h1 h2 h3 h4 h5 h6 h7 h8 e =>
  rw[e]
  have hn:0<es.length:=List.length_pos_iff.mpr ne
  have a:((0:Int) == (es.length:Int))=false:=beq_eq_false_iff_ne.mpr (by omega)
  have b:((es.length:Int) == (0:Int))=false:=beq_eq_false_iff_ne.mpr (by omega)
  refine⟨?_,?_,by unfold d7;unfold PyData.eqv;rfl,by unfold d7;unfold PyData.eqv;rfl⟩
  ·unfold cw d7 PyData.eqv PyData.eqvAll PyData.eqv
   rw[a];rfl
  ·unfold cw d7 PyData.eqv PyData.eqvAll PyData.eqv
   rw[b];rfl
theorem wM {a b:List En}{da db:PyData}(ha:kU a da)(hb:kU b db):PyData.eqv da db=PyData.eqv (bd a) (bd b):=by
 rcases ha with⟨rfl,rfl⟩|⟨na,rfl,oa⟩
 ·rcases hb with⟨rfl,rfl⟩|⟨nb,rfl,ob⟩
  ·rw[iU];rfl
  ·obtain⟨h1,_,h3,_⟩:=ud nb ob
   rw[iU,h1,h3]
 ·rcases hb with⟨rfl,rfl⟩|⟨nb,rfl,ob⟩
  ·obtain⟨_,h2,_,h4⟩:=ud na oa
   rw[iU,h2,h4]
  ·rfl
theorem Az {U:BP->Prop}{prs L:List BP}{i:Nat}{p:BP}(pm:L.Perm prs)(pw:L.Pairwise (fun a b=>Srt.tlt2 b a=false))(hi:L[i]?=some p)(hu:U p)(h:∀ q∈L.take i,¬ U q):cQ U prs (some p):=by
 refine⟨pm.mem_iff.mp (De hi),hu,fun q hq hu'=>?_⟩
 have hL:=pm.mem_iff.mpr hq
 obtain⟨j,hj⟩:=List.mem_iff_getElem?.mp hL
 rcases Fh i j with z|z|z
 ·obtain⟨h1,e1⟩:=List.getElem?_eq_some_iff.mp hi
  obtain⟨h2,e2⟩:=List.getElem?_eq_some_iff.mp hj
  have:=List.pairwise_iff_getElem.mp pw i j h1 h2 z
  rw[e1,e2,Srt.tlt2_no] at this
  by_cases e:q=p
  ·exact .inl e
  ·right
   unfold plt
   have:¬ (q.1=p.1/\q.2=p.2):=fun⟨x,y⟩=>e (Prod.ext x y)
   omega
 ·subst z
  rw[hi] at hj
  exact .inl (Option.some.inj hj).symm
 ·exact absurd hu' (h q (De (i:=j) (by rw[EI,if_pos z];exact hj)))
theorem oA {i j:Int}{es:List En}(k:Ent.Keyed es):Ent.Keyed (wn i j es):=by
 unfold Ent.Keyed at k ⊢
 exact List.Nodup.sublist (List.Sublist.map _ Eo) k
inductive rJ (C:Addr)(vs:List V)(H:Hp)(Q:VK)(E:XK):Prop
 | mk (x d a c:Addr)(b:Int)(ps:List Int)(rows:List Lad.Step)(prs:List BP)(xs ys:List V)(es fs:List En)(e:vs=[.ref x,.ref d,.ref a,.ref c])(hL:bu C H x b ps rows)(ok:cf b ps rows)(hd:H d=some (.dT (sd prs)))(po:dP rows.length prs)(ha:H a=some (.lst xs))(ta:Paired (aF H) xs es)(hc:H c=some (.lst ys))(tc:Paired (aF H) ys fs)(la:es.length<64)(lc:fs.length<64)(ea:∀ e∈es,bi e)(ec:∀ e∈fs,bi e)(ka:Ent.Keyed es)(kc:Ent.Keyed fs)
  (q:∀ v r H',ab H H'->gB H' v r->cQ (cO (aX b ps rows) rows.length es fs) prs r->Q v H'):rJ C vs H Q E
theorem jP:aA ["_law_ladder","_law_shut","_law_one","_law_other","_law_roll","_law_number","_law_stretch"] ["_law_ladder","_law_shut","_law_one","_law_other"] (aw mI):=aE
set_option maxHeartbeats 8000000 in
theorem tf (T:Txt K mg C):aK P w K mg base 5 "_law_due" ["_law_ladder","_law_shut","_law_one","_law_other"] (rJ C):=by
 refine aW T.f_law_due jP (fun vs H Q E h=>?_) (fun f cdv A outer s H vs Q E hr h=>?_)
 ·obtain⟨x,d,a,c,b,ps,rows,prs,xs,ys,es,fs,rfl,_⟩:=h
  rfl
 ·obtain⟨x,d,a,c,b,ps,rows,prs,xs,ys,es,fs,rfl,hL,ok,hd,po,ha,ta,hc,tc,la,lc,ea,ec,ka,kc,q⟩:=h
  refine⟨_,(am (cP PassesOwn.never rfl (cc K (aM (nG rfl) T.b_sorted Ir (ah (pv 1)))) (gw K rfl (bI (ba (i:=4) jP.nd rfl (Or.inl rfl)) (bI (ba (i:=5) jP.nd rfl (Or.inl rfl)) dQ)))
    (am (aG (i:=6) jP.nd rfl (Or.inl rfl) (df (pv 0) T.cl (ph T) hr (ao (pv 4) (pv 5))))
    (aq (bJ (bU (ke hr) (ai (qb T) hr (ao (pv 2) (pv 6))) (ai (qb T) hr (ao (pv 3) (pv 6))) (bD _))
     (aq (aB (be (ao (pv 4) (pv 5)))))
     bQ))))
   (aq (aB fL))),?_⟩
  obtain⟨dx,fa,fo,fc,hi⟩:=ig hL
  refine⟨_,rfl,d,_,prs,rfl,hd,lM prs,po.l,fun D ls L hP pm srt hD=>?_⟩
  have sD:ab H (upd H D (.lst ls)):=ab.upd hD
  have uD:(upd H D (.lst ls)) D=some (.lst ls):=ae
  generalize (upd H D (.lst ls))=H1 at sD uD
  refine⟨D,rfl,⟨_,.of uD⟩,?_⟩
  refine iJ (xs:=ls) (fun i σ H2=>∃ v4 v5 v6,σ=[some (.ref x),some (.ref d),some (.ref a),some (.ref c),v4,v5,v6]/\ab H1 H2/\∀ z∈L.take i,¬ cO (aX b ps rows) rows.length es fs z) ⟨none,none,none,rfl,ab.refl _,fun z hz=>nomatch hz⟩ (fun i σ H2 _ ⟨_,_,_,_,s,_⟩=>.of (s _ _ uD)) ?_ ?_
  ·rintro i y σ H2 hy ⟨v4,v5,v6,rfl,s2,no⟩
   obtain⟨z,hz,t,rfl,ht⟩:=Paired.get hP hy
   have hin:z∈prs:=pm.mem_iff.mp (De hz)
   obtain⟨r0,r1,n0,n1⟩:=po.b z hin
   have s02:=sD.trans s2
   refine⟨t,_,rfl,.of (s02 _ _ ht),rfl,_,_,rfl,_,_,rfl,rfl,?_⟩
   refine⟨_,rfl,x,dx,_,rfl,s02 _ _ hi,dO _ _ _ (by decide) (by decide) (by decide),_,rfl,_,rfl,x,z.1,z.2,b,ps,rows,rfl,hL.same s02,ok,r0,r1,n0,n1,fun t3 H3 s3 ht3=>?_⟩
   obtain⟨k,hk⟩:∃ k:Nat,z.1=k:=⟨z.1.toNat,by omega⟩
   rw[hk,uv,uv] at ht3
   have s03:=s02.trans s3
   refine⟨_,rfl,_,rfl,a,t3,xs,es,_,_,rfl,s03 _ _ ha,ht3,Paired.mono (fun _ _ z=>z.tups fun b xs h=>s03 _ _ h) ta,la,ea,fun v1 H4 s4 f4=>?_⟩
   have s04:=s03.trans s4
   refine⟨_,rfl,_,rfl,c,t3,ys,fs,_,_,rfl,s04 _ _ hc,s4 _ _ ht3,Paired.mono (fun _ _ z=>z.tups fun b xs h=>s04 _ _ h) tc,lc,ec,fun v2 H5 s5 f5=>?_⟩
   have wl:∀ gs:List En,(wn (Lad.dn (aX b ps rows) k z.2) (Lad.dn (aX b ps rows) k (z.2+1)) gs).length<=gs.length:=fun gs=>Dl _ _
   obtain⟨d1,dt1,cl1,dp1,fd1⟩:=pF f4 (oA ka) (fun e he=>ea e (nB he)) (by have:=wl es;omega)
   obtain⟨d2,dt2,cl2,dp2,fd2⟩:=pF f5 (oA kc) (fun e he=>ec e (nB he)) (by have:=wl fs;omega)
   have ev:=wM fd1 fd2
   rw[qL ok.goods,qL ok.goods] at ev
   have uz:cO (aX b ps rows) rows.length es fs z↔PyData.eqv d1 d2=false:=by
    constructor
    ·rintro⟨k',h1,h2,h3⟩
     obtain rfl:k'=k:=by omega
     rw[ev];exact h3
    ·intro h
     rw[ev] at h
     exact⟨k,hk,by omega,h⟩
   refine⟨d1,d2,aj.same s5 _ _ dt1,dt2,cl1,cl2,by omega,_,rfl,?_⟩
   rw[if_pos (rfl:true=true)]
   cases he:PyData.eqv d1 d2 with
   | false =>
    refine bP ⟨_,rfl,_,rfl,bE,fun t6 ht6=>?_⟩
    exact q _ (some z) _ ((s04.trans s5).trans (ab.upd ht6)) ⟨t6,rfl,ae⟩ (Az pm srt hz (uz.mpr he) no)
   | true =>
    refine bK ⟨_,_,_,rfl,s2.trans (s3.trans (s4.trans s5)),fun y hy=>?_⟩
    rw[C9,hz,Dv] at hy
    rcases hy with hy|hy
    ·exact no y hy
    ·simp only[FJ,DZ] at hy
     rw[hy]
     intro u
     rw[uz.mp u] at he
     cases he
  ·rintro σ H2 ⟨v4,v5,v6,rfl,s2,no⟩
   refine q _ none _ (sD.trans s2) rfl fun p hp=>no p ?_
   rw[Df (by rw[Paired.length hP];exact EU _)]
   exact pm.mem_iff.mpr hp
end
end Pr
namespace L2
open PySem PySem.Spec PyProof.Rows
section
variable {X:Cx}{tg:Expr}
end
end L2
namespace PySem.W
open PySem PySem.Calls PyProof.Rows PySem.Spec
theorem zN:GO (.type "list_reverseiterator") "__len__"=pure none:=by rw[GY,GZ];kernel_rfl
theorem xw:GO (.type "list_reverseiterator") "__length_hint__"=pure (some (.builtin "list_reverseiterator.__length_hint__")):=by rw[GY,GZ];kernel_rfl
section
variable {prog:FN}{w:World}{A:Around}{E:Value->Shared->Prop}{s:Shared}{r l:Addr}{items:Array Value}
theorem AN {Q:Bool->Shared->Prop}(hT:s.TypeIs (.ref r) "list_reverseiterator")(h:Q false s):wpAny (model prog w) A (Builtin.List.listLengthHint (.ref r)) Q E s:=by
 unfold Builtin.List.listLengthHint
 refine Ge (G9 hT zN ?_)
 show wpAny _ A (specialOf (Value.ref r) (Str.ofString "__length_hint__") >>= _) _ _ _
 refine Ge (G9 hT xw ?_)
 generalize hid:("list_reverseiterator.__length_hint__" : String)=id0
 wp_delta
 rw[show splitId id0=some ("list_reverseiterator","__length_hint__") from by subst hid;decide +kernel]
 subst hid
 refine Ge (Hh (b:=true) hT (by rw[G0];kernel_rfl) ?_)
 exact Gh h
theorem x8 {R:Gv->Shared->Prop}(hh:A.handled=none)(hne:l≠r)(hit:s.heap.IsRevIter r l ((items.size:Int)-1))(hl:s.heap.IsList l items)(S:Addr)(hSr:S≠r)(hSd:S≠l)(res:Value)(c₀:Nat)(hS:s.heap.get? S=some { cls:=.type "list",data:=.seq #[] c₀ })
  (hR:∀ h' tk acc' c',(∀ b o,b≠S->b≠r->s.heap.get? b=some o->h'.get? b=some o)->h'.get? S=some { cls:=.type "list",dict:=none,data:=.seq acc' c',slots:=#[] }->ItemsOf (fun i v=>items[items.size-1-i]?=some v) acc' items.size->R (.ok (.ret res)) { s with heap:=h',toks:=tk }) (hn:items.size<=FO) :
  wpAny (model prog w) A.in1 (Builtin.List.listExtendWith (.ref S) (.ref r) res)
   (fun fin s'=>match fin with|.done f=>R (.ok f) s'|.again c'=>c'.quiet=true/\Gw (model prog w) A c' R s') (fun e s'=>R (.error e) s') s:=by
 have hSf:S∉[r,l]:=by simp only[DF,DG,or_false,not_or];exact⟨hSr,hSd⟩
 have W:=Walks.listRev (prog:=prog) (w:=w) (A:=A.in1) hh r l hne items
 have st:(0<=items.size/\s.heap.IsRevIter r l ((items.size:Int)-1-((0:Nat):Int))/\s.heap.IsList l items):=⟨EX _,by rw[show (items.size:Int)-1-((0:Nat):Int)=(items.size:Int)-1 from by omega];exact hit,hl⟩
 have key:Gw (model prog w) A (.builtin "list.extend.loop" ⟨[.ref S,.ref r,res],[]⟩) R s:=by
  refine codeAny_extend_loopS W.toS hn S hSf res items.size 0 _ #[] c₀ rfl (EX _) st hS (ItemsOf.nil _) fun s' acc' c' hm hS' hacc=>?_
  rw[Moved.eq_with hm]
  refine hR s'.heap s'.toks acc' c' (fun b o hb hr e=>hm.heap b o (fun hmem=>?_) e) hS' hacc
  rcases List.mem_cons.mp hmem with e'|hmem
  ·exact hb e'
  ·exact hr (List.mem_singleton.mp hmem)
 unfold Builtin.List.listExtendWith
 refine Ge (GN hit.typeIs ?_)
 have h1:Builtin.List.listSameRef (.ref S) (.ref r)=false:=by simp[Builtin.List.listSameRef,hSr]
 rw[if_neg (by rw[h1];decide)]
 refine Ge (wpAny_pyIter_revIter hit ?_)
 refine Ge (Gf (AN hit.typeIs ?_))
 rw[if_neg (by decide)]
 exact Gh ⟨IT PySem.F.plain_extend_loop _,key⟩
theorem Cm {R:Gv->Shared->Prop}(hh:A.handled=none)(hne:l≠r)(hit:s.heap.IsRevIter r l ((items.size:Int)-1))(hl:s.heap.IsList l items)(S:Addr)(hSr:S≠r)(hSd:S≠l)(hS:s.heap.get? S=some { cls:=.type "list",data:=.seq #[] })
  (hR:∀ h' tk acc' c',(∀ b o,b≠S->b≠r->s.heap.get? b=some o->h'.get? b=some o)->h'.get? S=some { cls:=.type "list",dict:=none,data:=.seq acc' c',slots:=#[] }->ItemsOf (fun i v=>items[items.size-1-i]?=some v) acc' items.size->R (.ok (.ret .none)) { s with heap:=h',toks:=tk }) (hn:items.size<=FO) :
  wpAny (model prog w) A.in1 (Builtin.«list.__init__» ⟨[.ref S,.ref r],[]⟩)
   (fun fin s'=>match fin with|.done f=>R (.ok f) s'|.again c'=>c'.quiet=true/\Gw (model prog w) A c' R s') (fun e s'=>R (.error e) s') s:=by
 show wpAny _ _ (do let old <-Builtin.List.listItems (.ref S);Builtin.List.listUpdate (.ref S) (fun _=>#[]);letGo old.toList.reverse;Builtin.List.listExtendWith (.ref S) (.ref r) .none) _ _ s
 refine Ge ?_
 unfold Builtin.List.listItems
 refine Ge (IP hS rfl (Gh ?_))
 show wpAny _ _ (updateSeq S (fun _=>#[]) >>= fun _=>letGo (#[]:Array Value).toList.reverse >>= fun _=>Builtin.List.listExtendWith (.ref S) (.ref r) .none) _ _ s
 refine Ge (IU hS rfl ?_)
 have hS₂:=EN (Obj.mapSeq (fun _=>(#[]:Array Value))) hS rfl
 have oth:∀ b o,b≠S->s.heap.get? b=some o->(s.heap.update S (Obj.mapSeq (fun _=>(#[]:Array Value)))).get? b=some o :=
  fun b o hb e=>(EQ _ _ (Ne.symm hb)).trans e
 refine Ge (HQ ?_)
 refine x8 hh hne (hit.at fun o e=>oth r o hSr.symm e) (hl.at fun o e=>oth l o hSd.symm e) S hSr hSd .none _ hS₂ (fun h' tk acc' c' hk hS' hacc=>?_) hn
 exact hR h' tk acc' c' (fun b o hb hr e=>hk b o hb hr (oth b o hb e)) hS' hacc
theorem rvl_call {Q:Value->Shared->Prop}(hh:A.handled=none)(hne:l≠r)(hit:s.heap.IsRevIter r l ((items.size:Int)-1))(hl:s.heap.IsList l items)(hn:items.size<=FO)
  (hQ:∀ h' tk acc' c',(∀ b o,b≠r->s.heap.get? b=some o->h'.get? b=some o)->h'.get? s.heap.objs.size=some { cls:=.type "list",dict:=none,data:=.seq acc' c',slots:=#[] }->ItemsOf (fun i v=>items[items.size-1-i]?=some v) acc' items.size->Q (.ref s.heap.objs.size) { s with heap:=h',toks:=tk }) :
  wpAny (model prog w) A (call (.type "list") [.ref r]) Q E s:=by
 refine callType_codes (Q₁:=fun obj s₁=>obj=.ref s.heap.objs.size/\s₁={ s with heap:=s.heap.push { cls:=.type "list",data:=.seq #[] } }) PySem.F.called_list (PySem.F.typeCall_list_1 _) PySem.F.entry_list_init
  (code_list_new _ ⟨rfl,rfl⟩) fun obj s₁ h₁=>?_
 obtain⟨rfl,rfl⟩:=h₁
 have hS:(s.heap.push { cls:=.type "list",data:=.seq #[] }).get? s.heap.objs.size=some { cls:=.type "list",data:=.seq #[] }:=EM _ rfl
 have lr:r<s.heap.objs.size:=let ⟨o,ho,_⟩:=hit;EK ho
 have ll:l<s.heap.objs.size:=let ⟨o,ho,_⟩:=hl;EK ho
 refine⟨⟨_,hS,rfl⟩,PySem.F.args_list_init_2 _ _,Cm (s:={ s with heap:=s.heap.push { cls:=.type "list",data:=.seq #[] } }) (A:=A.in1) hh hne (hit.at fun o e=>EL _ e) (hl.at fun o e=>EL _ e) _ (E1 lr) (E1 ll) hS (fun h' tk acc' c' hk hS' hacc=>?_) hn⟩
 exact⟨rfl,hQ h' tk acc' c' (fun b o hr e=>hk b o (EV (EK e)) hr (EL _ e)) hS' hacc⟩
end
end PySem.W
namespace L2
open PySem PySem.Spec PyProof.Rows
section
variable {X:Cx}
inductive vk (K:W.Frag)(Q:VK)(vs:List V)(H1:Hp):Prop
 | mk (a:Addr)(xs:List V)(e:vs=[.ref a])(h:aU K H1 a xs)(q:∀ D,H1 D=none->Q (.ref D) (upd H1 D (.lst xs.reverse))):vk K Q vs H1
def vN (K:W.Frag)(ta:TA):TE:=fun σ H Q=>ta σ H fun vs H1=>vk K Q vs H1
theorem BR (K:W.Frag){a:Expr}{ta:TA}{p1 p2 pos1 pos2:Pos}(hc:X.calm=true)(hgl:Gl X "list")(hml:X.mg "list"=none)(hg:Gl X "reversed")(hm:X.mg "reversed"=none)(ha:PA X [a] ta)
  (hs:FV [a] X.env=[(false,eval a X.env)]:=by rfl) (hs2:FV [.Call (.Name "reversed" p2) [a] [] pos2] X.env=[(false,eval (.Call (.Name "reversed" p2) [a] [] pos2) X.env)]:=by rfl) (e:X.K=K:=by rfl) :
  PE X (.Call (.Name "list" p1) [.Call (.Name "reversed" p2) [a] [] pos2] [] pos1) (vN K ta):=by
 subst e
 refine⟨?_⟩
 intro pins s σ H Q I h
 refine Call_ (eP I hgl hml Ik (PyProof.Rows.callWith_type1 ?_ hs2 rfl))
 rw[hs2]
 refine Calls.spliced_cons ?_
 refine Call_ (eP I hg hm boot_reversed (PyProof.Rows.callWith_type1 (ag (ha pos2 pins s σ H _ I h) fun us s1 ⟨vs,H1,I1,r1,q1⟩=>?_) hs rfl))
 obtain⟨a,xs,e,hq,q⟩:=q1
 subst e
 obtain⟨u,rfl,rx⟩:=bX r1
 cases rx
 obtain⟨its,rv,pl,hz⟩:=I1.list hq
 have hl:=rv.length
 have p':s1.heap.IsList a its.toArray:=by
  obtain⟨o,k,h1,h2,h3,h4⟩:=pl
  exact⟨o,h1,h2,k,h4⟩
 have al:a<s1.heap.objs.size:=let ⟨o,ho,_⟩:=p';EK ho
 refine call_reversed_list p' ?_
 have st:(s1.heap.push (revObj a ((its.toArray.size:Int)-1))).IsRevIter s1.heap.objs.size a ((its.toArray.size:Int)-1):=⟨_,EM _ rfl,rfl,rfl⟩
 refine Calls.spliced_nil ?_
 refine W.rvl_call (s:={ s1 with heap:=s1.heap.push (revObj a ((its.toArray.size:Int)-1)) }) (I1.ok.hd hc) (EV al) st (p'.at fun o e=>EL _ e) (by rw[CY,<-hl];exact hz) fun h' tk acc c hk hS hacc=>?_
 have keep:∀ b o,s1.heap.get? b=some o->h'.get? b=some o:=fun b o e=>hk b o (EV (EK e)) (EL _ e)
 have ea:acc.toList=its.reverse:=by
  obtain⟨h1,h2⟩:=hacc
  have h1':acc.size=its.length:=h1
  have h2':∀ j v,acc[j]?=some v->its.toArray[its.length-1-j]?=some v:=h2
  refine DC (by rw[DL];exact h1') fun j g1 g2=>?_
  have g1':j<acc.size:=g1
  have:its.toArray[its.length-1-j]?=some acc[j]:=h2' j acc[j] (Fo g1')
  have hj:j<its.length:=by omega
  rw[DX,CZ (by omega:its.length-1-j<its.length)] at this
  rw[Array.getElem_toList,List.getElem_reverse]
  exact(Option.some.inj this).symm
 have hle:s1.heap.objs.size<=(s1.heap.push (revObj a ((its.toArray.size:Int)-1))).objs.size:=by rw[Ie];exact E2 _
 refine⟨.ref (s1.heap.push (revObj a ((its.toArray.size:Int)-1))).objs.size,_,I1.laid (o:=.lst xs.reverse) (t':=tk) keep hle ⟨by rw[DL];exact hz,its.reverse,c,rv.reverse,?_⟩,rfl,q _ (I1.hok.fresh hle)⟩
 rw[hS,<-ea,Array.toArray_toList]
end
end L2
namespace Pr
open PySem L2 PyProof.Rows Ent
theorem lV {α:Type}[BEq α][LawfulBEq α](a b:α):(a == b)=(b == a):=by
 rw[Bool.eq_iff_iff,beq_iff_eq,beq_iff_eq]
 exact eq_comm
mutual
theorem qi:∀ a b:PyData,PyData.eqv a b=PyData.eqv b a
 | .none,b=>by cases b <;> (unfold PyData.eqv;rfl)
 | .bool x,b=>by cases b <;> (unfold PyData.eqv;first|rfl|exact lV _ _)
 | .int x,b=>by cases b <;> (unfold PyData.eqv;first|rfl|exact lV _ _)
 | .str x,b=>by cases b <;> (unfold PyData.eqv;first|rfl|exact lV _ _)
 | .list xs,b=>by
  cases b with
  | list ys=>unfold PyData.eqv;exact k4 xs ys
  | _=>unfold PyData.eqv;rfl
 | .tuple xs,b=>by
  cases b with
  | tuple ys=>unfold PyData.eqv;exact k4 xs ys
  | _=>unfold PyData.eqv;rfl
 | .dict xs,b=>by cases b <;> (unfold PyData.eqv;rfl)
theorem k4:∀ a b:List PyData,PyData.eqvAll a b=PyData.eqvAll b a
 | [],b=>by cases b <;> (unfold PyData.eqvAll;rfl)
 | x::xs,b=>by
  cases b with
  | nil=>unfold PyData.eqvAll;rfl
  | cons y ys=>unfold PyData.eqvAll;rw[qi x y,k4 xs ys]
end
theorem cO.sym {st:List Lad.Step}{n:Nat}{es fs:List En}{p:BP}:cO st n es fs p↔cO st n fs es p:=by
 unfold cO ff
 constructor <;> rintro⟨r,h1,h2,h3⟩ <;> exact⟨r,h1,h2,by rw[qi];exact h3⟩
theorem cQ.congr {U U':BP->Prop}{prs:List BP}{r:Option BP}(h:∀ p,U p↔U' p)(f:cQ U prs r):cQ U' prs r:=by
 cases r with
 | none=>exact fun p hp u=>f p hp ((h p).mpr u)
 | some q=>exact⟨f.1,(h q).mp f.2.1,fun p hp u=>f.2.2 p hp ((h p).mpr u)⟩
theorem xL {es fs:List En}(p:es.Perm fs)(k:Ent.Keyed es):bd es=bd fs:=by
 have k':Ent.Keyed fs:=by
  unfold Ent.Keyed at k ⊢
  exact(p.map _).nodup_iff.mp k
 by_cases h:∃ d,bn es d
 ·obtain⟨d,h⟩:=h
  rw[<-ja k h]
  exact ja k' (bn.perm p h)
 ·have h':¬ ∃ d,bn fs d:=fun⟨d,z⟩=>h ⟨d,bn.perm p.symm z⟩
  unfold bd
  rw[dif_neg h,dif_neg h']
theorem y7 {st:List Lad.Step}{n:Nat}{es fs:List En}(p:es.Perm fs)(k:Ent.Keyed es)(ek:∀ e∈es,bi e)(hl:es.length<=1000)(q:BP):¬ cO st n es fs q:=by
 rintro⟨r,h1,h2,h3⟩
 unfold ff dy at h3
 have pm:(own st r q.2 es).Perm (own st r q.2 fs):=p.filter _
 rw[<-xL pm (kX k)] at h3
 have cl:(bd (own st r q.2 es)).canLay0=true:=by
  by_cases h:∃ d,bn (own st r q.2 es) d
  ·obtain⟨d,h⟩:=h
   have:=qW ek hl h
   rw[<-ja (kX k) h]
   exact this.lf.1.cl
  ·unfold bd
   rw[dif_neg h]
   exact uU.lf.1.cl
 rw[PySem.SeqAt.eqv_refl _ cl] at h3
 cases h3
def gI:Option BP->PyData
 | none=>.none
 | some p=>.tuple [.int p.1,.int p.2]
theorem kA {H:Hp}{v:V}{r:Option BP}(h:gB H v r):aj H (gI r) v/\(gI r).canLay0=true/\(gI r).depth<=1:=by
 cases r with
 | none =>
  have:v=.non:=h
  subst this
  exact⟨by unfold gI aj;rfl,rfl,by decide⟩
 | some p =>
  obtain⟨t,rfl,ht⟩:=h
  refine⟨?_,rfl,by unfold gI;simp[PyData.depth,PyData.depthAll]⟩
  unfold gI aj
  refine⟨t,_,rfl,ht,?_⟩
  unfold av
  refine⟨_,_,rfl,by unfold aj;rfl,?_⟩
  unfold av
  refine⟨_,_,rfl,by unfold aj;rfl,?_⟩
  unfold av
  rfl
theorem gB.same {H H':Hp}(s:ab H H'){v:V}{r:Option BP}(h:gB H v r):gB H' v r:=by
 cases r with
 | none=>exact h
 | some p =>
  obtain⟨t,e,ht⟩:=h
  exact⟨t,e,s _ _ ht⟩
structure kq (H:Hp)(u v:Addr)(U:BP->Prop)(st:List Lad.Step)(n:Nat):Prop where
 ex:∃ o o' xs xs' es es',H u=some o/\Ob o xs/\Paired (bM H) xs es/\H v=some o'/\Ob o' xs'/\Paired (bM H) xs' es'/\es.length+es'.length<64/\(∀ e∈es,bi e)/\(∀ e∈es',bi e)/\Ent.Keyed es/\Ent.Keyed es'/\∀ p,cO st n es es' p↔U p
theorem kq.same {H H':Hp}{u v:Addr}{U:BP->Prop}{st:List Lad.Step}{n:Nat}(s:ab H H')(h:kq H u v U st n):kq H' u v U st n:=by
 obtain⟨o,o',xs,xs',es,es',h1,h2,h3,h4,h5,h6,r⟩:=h.ex
 exact⟨o,o',xs,xs',es,es',s _ _ h1,h2,Paired.mono (fun _ _ z=>z.same s) h3,s _ _ h4,h5,Paired.mono (fun _ _ z=>z.same s) h6,r⟩
theorem sk {H:Hp}{t a c:Addr}{xs ys:List V}{es fs:List En}(ht:H t=some (.lst [.ref a,.ref c]))(ha:H a=some (.lst xs))(ta:Paired (aF H) xs es)(hc:H c=some (.lst ys))(tc:Paired (aF H) ys fs):aj H (.list [.list (es.map eD),.list (fs.map eD)]) (.ref t):=by
 unfold aj
 refine⟨t,_,rfl,ht,?_⟩
 unfold av
 refine⟨_,_,rfl,by unfold aj;exact⟨a,xs,rfl,ha,jF ta⟩,?_⟩
 unfold av
 refine⟨_,_,rfl,by unfold aj;exact⟨c,ys,rfl,hc,jF tc⟩,?_⟩
 unfold av
 rfl
section
variable {P:FN}{w:World}{K:W.Frag}{mg:Str->Option Value}{base:Heap}{C:Addr}
inductive qr (C Dc:Addr)(vs:List V)(H:Hp)(Q:VK)(E:XK):Prop
 | mk (p x d a c:Addr)(vd:V)(r:Option BP)(b:Int)(ps:List Int)(rows:List Lad.Step)(prs:List BP)(xs ys:List V)(es fs:List En)(e:vs=[.ref p,.ref a,.ref c,vd])(hK:de Dc H p x d prs)(hL:bu C H x b ps rows)(ok:cf b ps rows)(ha:H a=some (.lst xs))(ta:Paired (aF H) xs es)(hc:H c=some (.lst ys))(tc:Paired (aF H) ys fs)(la:es.length<=14)(lc:fs.length<=14)(ea:∀ e∈es,bi e)(ec:∀ e∈fs,bi e)(ka:Ent.Keyed es)(kc:Ent.Keyed fs)
  (hv:gB H vd r) (hf:cQ (cO (aX b ps rows) rows.length es fs) prs r) (q:∀ H',ab H H'->Q (.bl true) H'):qr C Dc vs H Q E
theorem il:aA ["_law_locks","_law_one","_law_other","_law_due_here","_law_kept","_law_lists","_law_first","_law_second"] ["_law_locks","_law_one","_law_other","_law_due_here"] (aw kM):=aE
set_option maxHeartbeats 16000000 in
theorem right (T:Txt K mg C):aK P w K mg base 10 "_law_right" ["_law_locks","_law_one","_law_other","_law_due_here"] (qr C (bG mg "Locks")):=by
 refine aW T.f_law_right il (fun vs H Q E h=>?_) (fun f cdv A outer s H vs Q E hr h=>?_)
 ·obtain⟨p,x,d,a,c,vd,r,b,ps,rows,prs,xs,ys,es,fs,rfl,_⟩:=h
  rfl
 ·obtain⟨p,x,d,a,c,vd,r,b,ps,rows,prs,xs,ys,es,fs,rfl,hK,hL,ok,ha,ta,hc,tc,la,lc,ea,ec,ka,kc,hv,hf,q⟩:=h
  refine⟨_,(am (aG (i:=4) il.nd rfl (Or.inl rfl) (bO (ao (cq lZ T.b_list Ik (ah (pv 1))) (cq lZ T.b_list Ik (ah (pv 2))))))
   (am (aG (i:=5) il.nd rfl (Or.inl rfl) (cq fO T.b_tuple Il (ah (cm rfl (bR il) (cc K (pv 1)) (fun _ _ _ _=>ca) (fun _ _ _ _=>(cq lZ T.b_list Ik (ah (pv 0))))))))
   (am (cP PassesOwn.never rfl (cc K (bO (aR (be (ao (pv 1) (pv 2))) (aO (be (ao (pv 2) (pv 1))) (be (ao (pv 5) (pv 2))) (be (ao (pv 2) (pv 5))))))) (gw K rfl (bI (ba (i:=6) il.nd rfl (Or.inl rfl)) (bI (ba (i:=7) il.nd rfl (Or.inl rfl)) dQ)))
    (aq (bJ (bU (ke hr) (df (pv 0) T.cl_Locks (k7 T) hr (ao (pv 6) (pv 7))) (pv 3) (bD _))
     (aq (aB im))
     bQ)))
   (aq (aB (dF (ic vY (df (pv 0) T.cl_Locks (k7 T) hr (ao (pv 1) (BR K rfl rfl T.b_list rfl T.b_reversed (ah (pv 1))))) fL (bD _)) (eg (ic (sJ hr) (bO (ao (pv 1) (pv 2))) (pv 4) (bD _))))))))),?_⟩
  obtain⟨⟨dx,hp⟩,hd⟩:=id hK
  have xl:xs.length=es.length:=Paired.length ta
  refine⟨_,rfl,a,_,xs,rfl,ha,.inl rfl,fun a1 na1=>⟨_,rfl,c,_,ys,rfl,ab.upd na1 _ _ hc,.inl rfl,fun c1 nc1=>⟨bE,fun kp nkp=>?_⟩⟩⟩
  have s1:ab H (upd (upd (upd H a1 (.lst xs)) c1 (.lst ys)) kp (.lst [.ref a1,.ref c1])):=((ab.upd na1).trans (ab.upd nc1)).trans (ab.upd nkp)
  have ua1:(upd (upd (upd H a1 (.lst xs)) c1 (.lst ys)) kp (.lst [.ref a1,.ref c1])) a1=some (.lst xs):=ab.upd nkp _ _ (ab.upd nc1 _ _ ae)
  have uc1:(upd (upd (upd H a1 (.lst xs)) c1 (.lst ys)) kp (.lst [.ref a1,.ref c1])) c1=some (.lst ys):=ab.upd nkp _ _ ae
  have ukp:(upd (upd (upd H a1 (.lst xs)) c1 (.lst ys)) kp (.lst [.ref a1,.ref c1])) kp=some (.lst [.ref a1,.ref c1]):=ae
  generalize (upd (upd (upd H a1 (.lst xs)) c1 (.lst ys)) kp (.lst [.ref a1,.ref c1]))=H1 at s1 ua1 uc1 ukp
  refine⟨_,rfl,a,rfl,⟨_,.of (s1 _ _ ha)⟩,fun D hD=>?_⟩
  refine fF (xs:=xs) (fun i zs H2=>H2 D=some (.lst zs)/\ab H1 H2/\Paired (fun y e=>∃ l,y=V.ref l/\l≠D/\H2 l=some (.lst (bC e))) zs (es.take i)/\zs.length<=i) ⟨ae,ab.upd hD,.nil,EU _⟩ (fun i zs H2 h=>⟨h.1,.of (h.2.1 _ _ (s1 _ _ ha))⟩) (fun zs H2 h=>?fin) fun i y zs H2 hi hy h=>?go
  case go =>
   obtain⟨d1,d2,d3,d4⟩:=h
   obtain⟨e,he,u,rfl,hu⟩:=Paired.get ta hy
   refine cI ⟨_,rfl,u,_,_,rfl,d2 _ _ (s1 _ _ hu),.inr rfl,fun l hl=>?_⟩
   have sl:ab H2 (upd H2 l (.lst (bC e))):=ab.upd hl
   have ul:(upd H2 l (.lst (bC e))) l=some (.lst (bC e)):=ae
   generalize (upd H2 l (.lst (bC e)))=H3 at sl ul
   have hD3:=sl _ _ d1
   have nl:l≠D:=fun z=>by rw[z] at hl;rw[d1] at hl;cases hl
   refine bw.mk hi (by omega) (by omega) hD3 ⟨ae,fun b' o' h=>by rw[upd_ne (aJ h hD)];exact sl _ _ (d2 _ _ h),?_,by rw[C7];show zs.length+1<=i+1;omega⟩
   rw[C9,he]
   refine Paired.snoc ⟨l,rfl,nl,by rw[upd_ne nl];exact ul⟩ (Paired.mono (fun _ _ z=>?_) d3)
   obtain⟨l',e',n',h'⟩:=z
   exact⟨l',e',n',by rw[upd_ne n'];exact sl _ _ h'⟩
  obtain⟨d1,d2,d3,d4⟩:=h
  rw[Df (by omega)] at d3
  refine⟨D,_,zs,rfl,d1,.inl rfl,fun LL H3 s3 hLL=>?_⟩
  have s13:=d2.trans s3
  have s03:=s1.trans s13
  have tl:Paired (bM H3) zs es:=Paired.mono (fun _ _ z=>by
   obtain⟨l',e',n',h'⟩:=z
   exact⟨l',_,e',s3 _ _ h',.inl rfl⟩) d3
  have ga:Paired (bM H3) xs es:=Paired.mono (fun _ _ z=>(aF.g z).same s03) ta
  have gc:Paired (bM H3) ys fs:=Paired.mono (fun _ _ z=>(aF.g z).same s03) tc
  have ha3:=s03 _ _ ha
  have hc3:=s03 _ _ hc
  have W:∀ u v,(u=a/\v=c)\/(u=c/\v=a)\/(u=LL/\v=c)\/(u=c/\v=LL)->kq H3 u v (cO (aX b ps rows) rows.length es fs) (aX b ps rows) rows.length:=by
   rintro u v (⟨rfl,rfl⟩|⟨rfl,rfl⟩|⟨rfl,rfl⟩|⟨rfl,rfl⟩)
   ·exact⟨_,_,xs,ys,es,fs,ha3,.inl rfl,ga,hc3,.inl rfl,gc,by omega,ea,ec,ka,kc,fun p=>Iff.rfl⟩
   ·exact⟨_,_,ys,xs,fs,es,hc3,.inl rfl,gc,ha3,.inl rfl,ga,by omega,ec,ea,kc,ka,fun p=>cO.sym⟩
   ·exact⟨_,_,zs,ys,es,fs,hLL,.inr rfl,tl,hc3,.inl rfl,gc,by omega,ea,ec,ka,kc,fun p=>Iff.rfl⟩
   ·exact⟨_,_,ys,zs,fs,es,hc3,.inl rfl,gc,hLL,.inr rfl,tl,by omega,ec,ea,kc,ka,fun p=>cO.sym⟩
  refine⟨_,rfl,_,rfl,bE,fun q1 n1=>⟨_,rfl,_,rfl,bE,fun q2 n2=>⟨_,rfl,_,rfl,bE,fun q3 n3=>⟨_,rfl,_,rfl,bE,fun q4 n4=>⟨iC,fun qs nqs=>?_⟩⟩⟩⟩⟩
  have t4:=ab.upd (o:=.lst [.ref q1,.ref q2,.ref q3,.ref q4]) nqs
  have t3:=(ab.upd (o:=.tup [.ref c,.ref LL]) n4).trans t4
  have t2:=(ab.upd (o:=.tup [.ref LL,.ref c]) n3).trans t3
  have t1:=(ab.upd (o:=.tup [.ref c,.ref a]) n2).trans t2
  have t0:=(ab.upd (o:=.tup [.ref a,.ref c]) n1).trans t1
  have g1:=t1 _ _ (ae (H:=H3) (a:=q1) (o:=.tup [.ref a,.ref c]))
  have g2:=t2 _ _ (ae (a:=q2) (o:=.tup [.ref c,.ref a]))
  have g3:=t3 _ _ (ae (a:=q3) (o:=.tup [.ref LL,.ref c]))
  have g4:=t4 _ _ (ae (a:=q4) (o:=.tup [.ref c,.ref LL]))
  generalize hH4:(upd (upd (upd (upd (upd H3 q1 (.tup [.ref a,.ref c])) q2 (.tup [.ref c,.ref a])) q3 (.tup [.ref LL,.ref c])) q4 (.tup [.ref c,.ref LL])) qs (.lst [.ref q1,.ref q2,.ref q3,.ref q4]))=H4 at t0 g1 g2 g3 g4
  have gq:H4 qs=some (.lst [.ref q1,.ref q2,.ref q3,.ref q4]):=by rw[<-hH4];exact ae
  clear hH4 t1 t2 t3 t4
  have s04:=s03.trans t0
  refine⟨qs,rfl,⟨_,.of gq⟩,?_⟩
  refine iJ (xs:=[.ref q1,.ref q2,.ref q3,.ref q4]) (fun i σ H5=>∃ v6 v7,σ=[some (.ref p),some (.ref a),some (.ref c),some vd,some (.ref kp),some (.ref LL),v6,v7]/\ab H4 H5) ⟨none,none,rfl,ab.refl _⟩ (fun i σ H5 _ ⟨_,_,_,s⟩=>.of (s _ _ gq)) ?turn ?fin2
  case turn =>
   rintro i y σ H5 hy ⟨v6,v7,rfl,s5⟩
   have bA:∃ t u v,y=V.ref t/\H4 t=some (.tup [.ref u,.ref v])/\((u=a/\v=c)\/(u=c/\v=a)\/(u=LL/\v=c)\/(u=c/\v=LL)):=by
    match i,hy with
    | 0,h=>exact⟨q1,a,c,(Option.some.inj h).symm,g1,.inl ⟨rfl,rfl⟩⟩
    | 1,h=>exact⟨q2,c,a,(Option.some.inj h).symm,g2,.inr (.inl ⟨rfl,rfl⟩)⟩
    | 2,h=>exact⟨q3,LL,c,(Option.some.inj h).symm,g3,.inr (.inr (.inl ⟨rfl,rfl⟩))⟩
    | 3,h=>exact⟨q4,c,LL,(Option.some.inj h).symm,g4,.inr (.inr (.inr ⟨rfl,rfl⟩))⟩
    | i+4,h=>cases h
   obtain⟨t,u,v,rfl,ht,hor⟩:=bA
   have s35:=t0.trans s5
   have s05:=s04.trans s5
   obtain⟨o,o',xs1,xs2,es1,es2,e1,e2,e3,e4,e5,e6,e7,e8,e9,eA,eB,eC⟩:=((W u v hor).same s35).ex
   refine⟨t,_,rfl,.of (s5 _ _ ht),rfl,_,_,rfl,_,_,rfl,rfl,?_⟩
   refine⟨_,rfl,p,dx,_,rfl,s05 _ _ hp,rfl,_,rfl,_,rfl,p,x,d,u,v,o,o',xs1,xs2,es1,es2,b,ps,rows,prs,rfl,hK.same s05,hL.same s05,ok,e1,e2,e3,e4,e5,e6,e7,e8,e9,eA,eB,fun vr r' H6 s6 br fr=>?_⟩
   obtain rfl:r'=r:=cQ.one (fr.congr eC) hf
   obtain⟨k1,k2,k3⟩:=kA br
   obtain⟨m1,_,_⟩:=kA (hv.same (s05.trans s6))
   refine⟨_,rfl,_,_,k1,m1,k2,k2,by omega,_,rfl,?_⟩
   rw[if_pos (rfl:true=true),PySem.SeqAt.eqv_refl _ k2]
   exact bK ⟨_,_,rfl,s5.trans s6⟩
  case fin2 =>
   rintro σ H5 ⟨v6,v7,rfl,s5⟩
   have s05:=s04.trans s5
   have ha5:=s05 _ _ ha
   refine⟨_,rfl,p,dx,_,rfl,s05 _ _ hp,rfl,_,rfl,_,rfl,a,xs,rfl,.of ha5,fun rv nrv=>?_⟩
   have s6:ab H5 (upd H5 rv (.lst xs.reverse)):=ab.upd nrv
   have urv:(upd H5 rv (.lst xs.reverse)) rv=some (.lst xs.reverse):=ae
   generalize (upd H5 rv (.lst xs.reverse))=H6 at s6 urv
   have s06:=s05.trans s6
   have pm:es.Perm es.reverse:=(Ep es).symm
   refine⟨p,x,d,a,rv,_,_,xs,xs.reverse,es,es.reverse,b,ps,rows,prs,rfl,hK.same s06,hL.same s06,ok,s06 _ _ ha,.inl rfl,Paired.mono (fun _ _ z=>(aF.g z).same s06) ta,urv,.inl rfl,mV (Paired.mono (fun _ _ z=>(aF.g z).same s06) ta),by rw[DL];omega,ea,fun e he=>ea e (List.mem_reverse.mp he),ka,by unfold Ent.Keyed at ka ⊢;rw[EJ];exact(Ep _).nodup_iff.mpr ka,fun vr r' H7 s7 br fr=>?_⟩
   have rn:r'=none:=by
    cases r' with
    | none=>rfl
    | some z=>exact absurd fr.2.1 (y7 pm ka ea (by omega) z)
   subst rn
   have:vr=.non:=br
   subst this
   refine⟨rfl,_,rfl,eW (decide_eq_true rfl) ?_⟩
   have s07:=s06.trans s7
   refine⟨_,rfl,_,rfl,bE,fun t8 n8=>?_⟩
   have s8:ab H7 (upd H7 t8 (.lst [.ref a,.ref c])):=ab.upd n8
   have u8:(upd H7 t8 (.lst [.ref a,.ref c])) t8=some (.lst [.ref a,.ref c]):=ae
   generalize (upd H7 t8 (.lst [.ref a,.ref c]))=H8 at s8 u8
   have s08:=s07.trans s8
   have s18:=(s13.trans t0).trans (s5.trans (s6.trans (s7.trans s8)))
   have ta8:Paired (aF H8) xs es:=Paired.mono (fun _ _ z=>z.tups fun b xs h=>s08 _ _ h) ta
   have tc8:Paired (aF H8) ys fs:=Paired.mono (fun _ _ z=>z.tups fun b xs h=>s08 _ _ h) tc
   have cl:(PyData.list [.list (es.map eD),.list (fs.map eD)]).canLay0=true:=by
    unfold PyData.canLay0 PyData.canLayAll0 PyData.canLayAll0 PyData.canLayAll0 PyData.canLay0
    rw[jw ea,jw ec];rfl
   refine⟨_,rfl,_,_,sk u8 (s08 _ _ ha) ta8 (s08 _ _ hc) tc8,sk (s18 _ _ ukp) (s18 _ _ ua1) ta8 (s18 _ _ uc1) tc8,cl,cl,?_,?_⟩
   ·have:=jn es
    have:=jn fs
    simp only[PyData.depth,PyData.depthAll]
    omega
   ·rw[if_neg Bool.false_ne_true,PySem.SeqAt.eqv_refl _ cl]
    exact q _ s08
end
end Pr
namespace PySem.W
open PySem PySem.Spec PyProof.Rows
theorem xV {prog:FN}{w:World}{d:Addr}(hd:(d == FP)=false) :
  MeetsIn prog w (Builtin.«dict.__len__» ⟨[.ref d],[]⟩) (fun _ R s=>∃ o es ep,s.heap.get? d=some o/\o.data=.dict es ep/\R (.ok (.ret (.int es.size s.toks))) { s with toks:=s.toks+1 }) :=
 .of_wp fun A R s ⟨o,es,ep,ho,hdat,h⟩=>by
  show wpAny _ _ (dictSize d >>= _) _ _ s
  unfold dictSize
  refine Ge (Ge (Jb ho hdat (Gh ?_)))
  show wpAny _ _ (Builtin.Dict.pendingCount d >>= _) _ _ s
  refine Ge (wpAny_pendingCount_other hd ?_)
  refine wpAny_ret_mkInt ?_
  rw[Nat.add_zero];exact h
theorem len_bodyH {prog:FN}{w:World}{A:Around}{E:Value->Shared->Prop}{s:Shared}{d:Addr}{o:Obj}{es:Array DictEntry}{ep:Nat}{Q:Value->Shared->Prop}(hd:(d == FP)=false)(hT:s.TypeIs (.ref d) "dict")(ho:s.heap.get? d=some o)(hdat:o.data=.dict es ep)(hfit:(es.size:Int)<2 ^ 63)
  (h:Q (.int es.size (s.toks+1)) { s with toks:=s.toks+1+1 }):wpAny (model prog w) A (Builtin.«len» ⟨[.ref d],[]⟩) (fun fin s'=>∃ r,fin=.done (.ret r)/\Q r s') E s:=by
 unfold Builtin.«len»
 refine Ge (m:=oneArg "len" _) (Gh ?_)
 refine Ge (m:=callSpecial? (.ref d) (Str.ofString "__len__")) (GL (name:=Str.ofString "__len__") hT PySem.F.slot_dict_len
  (Iy PySem.F.slot_dict_len hT PySem.F.entry_dict_len (PySem.F.args_dict_len_1 _) (xV hd) ⟨o,es,ep,ho,hdat,?_⟩))
 show wpAny _ _ _ _ _ { s with toks:=s.toks+1 }
 refine Ge (Gf (Gh ?_))
 refine Ge (HQ ?_)
 show wpAny _ _ (if ((es.size:Nat):Int)<0 then _ else _) _ _ _
 rw[if_neg (by omega)]
 show wpAny _ _ (if ((es.size:Nat):Int) >= 2 ^ 63 then _ else _) _ _ _
 rw[if_neg (by omega)]
 exact Ge (wpAny_mkInt (Gh ⟨_,rfl,h⟩))
end PySem.W
namespace L2
open PySem PySem.Spec PyProof.Rows
section
variable {X:Cx}
inductive rV (vs:List V)(H:Hp)(Q:VK):Prop
 | mk (a:Addr)(kvs:List (List af×V))(e:vs=[.ref a])(h:H a=some (.dT kvs))(q:Q (.int kvs.length) H):rV vs H Q
theorem xk:bm X (.builtin "len") rV:=by
 intro pins s σ H xs us Q I r h
 obtain⟨a,kvs,rfl,ha,q⟩:=h
 obtain⟨u,rfl,rx⟩:=bX r
 cases rx
 obtain⟨z,hd,zs,kt,da⟩:=iB I.hok ha
 have ta:=da.typeIs
 obtain⟨o,es,ep,h1,_,h3,h4,_⟩:=da
 have l:es.size=kvs.length:=by rw[Jg h4];exact(Paired.length kt).symm
 refine Calls.call_function_entry kind_len plain_len entry_len (args_len1 _) (W.len_bodyH hd ta h1 h3 (by rw[l];rw[Gs] at z;omega) ?_)
 rw[l]
 exact⟨.int kvs.length,H,(I.tok _),⟨_,rfl⟩,q⟩
end
end L2
namespace L2
open PySem PySem.Spec PyProof.Rows
theorem zr {K:Type}[DecidableEq K]{xs:List (K×Addr×Value)}{k:K}{p:Addr×Value}(h:atKey xs k=some p):xs≠[]:=fun z=>by rw[z] at h;cases h
section
variable {X:Cx}{pins:List (Addr×Obj)}{σ:St}{H:Hp}{s:Shared}{a b:Addr}{kvs:List (List af×V)}{k:List af}{A:Around}{E:Value->Shared->Prop}
theorem zm {v:V}{more:List Value}{Q:Value->Shared->Prop}(hu:A.units+1<cLine)(I:aa X pins σ H s)(e:H a=some (.dT kvs))(eb:H b=some (.tup (k.map kV)))(l:aP kvs k=some v)(hm:more=[]\/∃ x,more=[x])
  (h:∀ w' s',aa X pins σ (upd H a (.dT (eZ kvs k))) s'->ar v w'->Q w' s'):wpAny (model X.prog X.w) A (call (.builtin "dict.pop") (.ref a::.ref b::more)) Q E s:=by
 obtain⟨z,hd,xs,rel,dd⟩:=iB I.hok e
 have hx:=rel.val k
 rw[l] at hx
 obtain⟨p,hp⟩:∃ p,atKey xs k=some p:=by
  cases q:atKey xs k with
  | none=>rw[q] at hx;exact hx.elim
  | some p=>exact⟨p,rfl⟩
 rw[hp] at hx
 have hv:ar v p.2:=hx
 have hl:xs.length<=FO:=by rw[<-Paired.length rel];exact z
 have ha:G4 "dict.pop" ⟨.ref a::.ref b::more,[]⟩:=by
  rcases hm with q|⟨x,q⟩
  ·subst q;exact PySem.F.args_dict_pop_2 _ _
  ·subst q;exact PySem.F.args_dict_pop_3 _ _ _
 refine GM PySem.F.slot_dict_pop dd.typeIs PySem.F.entry_dict_pop ?_ ha
 obtain⟨o,es,ep,ho,hc,hda,he,his,hn⟩:=id dd
 have hne:es.isEmpty=false:=by
  have h1:xs≠[]:=zr hp
  have h2:es.toList.length=xs.length:=by rw[he,CW]
  have h3:xs.length≠0:=fun z=>h1 (List.length_eq_zero_iff.mp z)
  cases q:es.isEmpty with
  | false=>rfl
  | true =>
   have:=Array.isEmpty_iff.mp q
   rw[this] at h2
   simp at h2
   omega
 have nab:b≠a:=fun z=>by rw[z,e] at eb;cases eb
 have hpart:(keyPart (Value.ref b)).isSome=false:=rfl
 have done:∀ h',h'.DictOfH (FQ (bc X.prog X.w)) a (xs.filter fun y=>decide (y.1≠k))->Heap.SameBut a s.heap h'->∀ t',Q p.2 { s with heap:=h',toks:=t' }:=fun h' dd' hs t'=>by
  have he:∃ q,h'.get? a=some q:=let ⟨q,_,_,hq,_⟩:=dd';⟨q,hq⟩
  exact h _ _ (kh I (by rw[e];exact True.intro) hs he (rD (EY (ox kvs k) z) hd ((rel.drop k).keeps fun c ys q=>by rw[upd_ne (fun z=>by rw[z,e] at q;cases q)];exact q) dd')) hv
 unfold Builtin.«dict.pop»
 refine Ge ?_
 unfold Builtin.Dict.keyAndDefault
 refine Ge (Ja dd.typeIs ?_)
 rcases hm with rfl|⟨dflt,rfl⟩
 ·show wpAny _ _ (pure (a,Value.ref b,none)) _ _ s
  refine Gh ?_
  simp only[hpart,Bool.false_eq_true,if_false]
  refine Ge (Jb ho hda (Ge (Gh ?_)))
  simp only[hne,Bool.false_eq_true,if_false]
  refine Ge (ma (Ix hu) (eS I.hok eb) dd hp hl fun h' dd' hs=>?_)
  simp only[FK,Bool.false_eq_true,if_false]
  exact Ge (HQ (Gh ⟨_,rfl,done h' dd' hs _⟩))
 ·show wpAny _ _ (pure (a,Value.ref b,some dflt)) _ _ s
  refine Gh ?_
  simp only[hpart,Bool.false_eq_true,if_false]
  refine Ge (Jb ho hda (Ge (Gh ?_)))
  simp only[hne,Bool.false_eq_true,if_false]
  refine Ge (ma (Ix hu) (eS I.hok eb) dd hp hl fun h' dd' hs=>?_)
  simp only[FK,Bool.false_eq_true,if_false]
  exact Ge (HQ (Gh ⟨_,rfl,done h' dd' hs _⟩))
end
inductive qR (a:Addr)(y:V)(H:Hp)(Q:VK):Prop
 | mk (b:Addr)(kvs:List (List af×V))(k:List af)(v:V)(ey:y=.ref b)(ea:H a=some (.dT kvs))(eb:H b=some (.tup (k.map kV)))(l:aP kvs k=some v)(q:Q v (upd H a (.dT (eZ kvs k)))):qR a y H Q
def yP (td ty:TE):TE:=fun σ H Q=>td σ H fun x H1=>∃ a,x=.ref a/\lJ H1 a/\ty σ H1 fun y H2=>qR a y H2 Q
section
variable {X:Cx}{o e f:Expr}{apos cpos:Pos}{td ty tx:TE}
theorem wf (hu:X.A.units+1<cLine)(ho:PE X o td)(he:PE X e ty)(m:M1 X o "pop" apos e cpos):PE X (.Call (.Attribute o "pop" apos) [e] [] cpos) (yP td ty):=by
 refine⟨?_⟩
 intro pins s σ H Q I h
 refine wpAny_Call_method m.base m.few m.line PySem.F.plainAttrs_dict PySem.F.slot_dict_pop PySem.F.type_dict_pop (ag (ho pins s σ H _ I h) fun u s1 ⟨x,H1,I1,rx,a,ex,d,q1⟩=>?_)
 subst ex
 obtain rfl:u=Value.ref a:=rx
 obtain⟨t1,t2,_⟩:=pj I1 d
 refine⟨t1,t2,?_⟩
 rw[m.trees]
 refine Calls.callWith_builtin rfl (Calls.evalArgs_plain (Calls.spliced_cons (ag (he pins s1 σ H1 _ I1 q1) fun iv s2 ⟨y,H2,I2,ry,b,kvs,k,v,ey,ea,eb,l,q2⟩=>Calls.spliced_nil ?_)))
 subst ey
 obtain rfl:iv=Value.ref b:=ry
 exact zm hu I2 ea eb l (.inl rfl) fun w' s3 I3 rw'=>⟨v,_,I3,rw',q2⟩
end
end L2
namespace Pr
open PySem L2 PyProof.Rows Ent
structure dh (C Dc:Addr)(H HX:Hp)(x lk d t:Addr)(b:Int)(ps:List Int)(rows:List Lad.Step)(prs:List BP):Prop where
 s:ab H HX
 l:bu C HX x b ps rows
 k:de Dc HX lk x d prs
 ht:HX t=some (.dT (sd prs))
 n:t≠d
 po:dP rows.length prs
 fd:H d=none
 ft:H t=none
theorem dh.same {C Dc:Addr}{H HX HY:Hp}{x lk d t:Addr}{b:Int}{ps:List Int}{rows:List Lad.Step}{prs:List BP}(h:dh C Dc H HX x lk d t b ps rows prs)(s:ab HX HY):dh C Dc H HY x lk d t b ps rows prs :=
 ⟨h.s.trans s,h.l.same s,h.k.same s,s _ _ h.ht,h.n,h.po,h.fd,h.ft⟩
theorem dh.but {C Dc:Addr}{H HX HY:Hp}{x lk d t p:Addr}{b:Int}{ps:List Int}{rows:List Lad.Step}{prs:List BP}(h:dh C Dc H HX x lk d t b ps rows prs)(hp:aL HX p)(np:H p=none)(c:ax p HX HY):dh C Dc H HY x lk d t b ps rows prs:=by
 obtain⟨y1,y2,hy⟩:=id hp
 obtain⟨⟨dx,k1⟩,k2⟩:=h.k
 refine⟨fun b' o z=>c _ _ (h.s _ _ z) (aJ z np),iH hp h.l c,⟨⟨dx,c _ _ k1 fun z=>by rw[z,hy] at k1;cases k1⟩,c _ _ k2 fun z=>by rw[z,hy] at k2;cases k2⟩,c _ _ h.ht fun z=>?_,h.n,h.po,h.fd,h.ft⟩
 have:=h.ht
 rw[z,hy] at this
 cases this
theorem rj {d x:Addr}{H H':Hp}{kvs:List (List af×V)}{b:Int}{ps:List Int}{rows:List Lad.Step}{C:Addr}(hd:H d=some (.dT kvs))(hL:bu C H x b ps rows)(c:ax d H H'):bu C H' x b ps rows:=by
 obtain⟨ldx,a1,a2,a3,us',j1,j2,j3,j4,j5⟩:=hL
 have tp:∀ b' ys,H b'=some (.tup ys)->H' b'=some (.tup ys):=fun b' ys h=>c _ _ h fun z=>by rw[z,hd] at h;cases h
 refine⟨ldx,a1,a2,a3,us',c _ _ j1 (fun z=>by rw[z,hd] at j1;cases j1),tp _ _ j2,tp _ _ j3,tp _ _ j4,Paired.mono (fun _ _ z=>?_) j5⟩
 obtain⟨r',l',e',q1,q2⟩:=z
 exact⟨r',l',e',tp _ _ q1,tp _ _ q2⟩
theorem dh.put {C Dc:Addr}{H HX HY:Hp}{x lk d t:Addr}{b:Int}{ps:List Int}{rows:List Lad.Step}{prs prs':List BP}(h:dh C Dc H HX x lk d t b ps rows prs)(c:ax d HX HY)(k:de Dc HY lk x d prs')(po:dP rows.length prs'):dh C Dc H (upd HY t (.dT (sd prs'))) x lk d t b ps rows prs':=by
 have ht:=c _ _ h.ht h.n
 have l1:=rj h.k.s h.l c
 have c2:ax t HY (upd HY t (.dT (sd prs'))):=fun b' o z n=>by rw[upd_ne n];exact z
 obtain⟨⟨dx,k1⟩,k2⟩:=k
 refine⟨fun b' o z=>?_,rj ht l1 c2,⟨⟨dx,c2 _ _ k1 fun z=>by rw[z,ht] at k1;cases k1⟩,c2 _ _ k2 (Ne.symm h.n)⟩,ae,h.n,po,h.fd,h.ft⟩
 rw[upd_ne (aJ z h.ft)]
 exact c _ _ (h.s _ _ z) (aJ z h.fd)
theorem B5 {p d t:Addr}{H HX HY:Hp}{o:HO}{kvs kvs':List (List af×V)}(hp:aL HX p)(hd:HX d=some (.dT kvs))(ht:HX t=some (.dT kvs'))(c:ax d HX HY):aL (upd HY t o) p:=by
 obtain⟨x,y,z⟩:=hp
 refine⟨x,y,?_⟩
 rw[upd_ne (fun e=>by rw[e,ht] at z;cases z)]
 exact c _ _ z fun e=>by rw[e,hd] at z;cases z
theorem Ci {n:Nat}{prs:List BP}{r m:Int}(h:dP n prs)(l:prs.length<63)(no:(r,m)∉prs)(r0:0<=r)(r1:r<=(n:Int))(n0 : -cu<m)(n1:m<cu):dP n (prs++[(r,m)]):=by
 refine⟨List.nodup_append.mpr ⟨h.nd,DN _ _,fun a ha b hb z=>?_⟩,by rw[C7];show prs.length+1<64;omega,fun q hq=>?_⟩
 ·rw[List.mem_singleton.mp hb] at z
  exact no (z▸ha)
 ·rcases List.mem_append.mp hq with z|z
  ·exact h.b q z
  ·rw[List.mem_singleton.mp z];exact⟨r0,r1,n0,n1⟩
theorem yV {n:Nat}{prs:List BP}{q:BP}(h:dP n prs):dP n (prs.filter fun p=>decide (p≠q)) :=
 ⟨h.nd.filter _,E9 (Dl _ _) h.l,fun p hp=>h.b p (List.mem_filter.mp hp).1⟩
section
variable {P:FN}{w:World}{K:W.Frag}{mg:Str->Option Value}{base:Heap}{C:Addr}
inductive iO (K:W.Frag)(vs:List V)(H:Hp)(Q:VK)(E:XK):Prop
 | mk (a:Addr)(ns:List Int)(h0_:vs=[.ref a])(h1_:aU K H a (ns.map V.int))(h2_:ns.length<=63)(h3_:∀ H',Q (.bl true) H'):iO K vs H Q E
theorem dk:aA ["_law_script","_law_pot_here","_law_begin_here","_law_ladder","_law_locks","_law_shut","_law_k","_law_line","_law_j","_law_bar_here","_law_one","_law_other"] ["_law_script"] (aw j6):=aE
set_option maxHeartbeats 16000000 in
theorem CP (T:Txt K mg C){fa:Addr}{fd:Gy}(FL:bq K "law" "law" j6 fa fd):ce P w K mg base cH 11 fa fd ["_law_script"] (iO K):=by
 obtain⟨f0,fd0,F0,M,bL⟩:=T.m_init
 obtain⟨f1,fd1,F1,M1,bF⟩:=T.m_Locks_init
 refine FL.ok dk (fun vs H Q E h=>?_) (fun cdv A outer s H vs Q E hr h=>?_)
 ·obtain⟨a,ns,rfl,_⟩:=h
  rfl
 ·obtain⟨a,ns,rfl,ha,hlen,k⟩:=h
  refine⟨_,(am (aG (i:=1) dk.nd rfl (Or.inl rfl) (ai (qQ T) hr (ao (pv 0) ac)))
   (am (aG (i:=2) dk.nd rfl (Or.inl rfl) (ai (yb T) hr (ah (pv 1))))
   (am (aG (i:=3) dk.nd rfl (Or.inl rfl) (va M (AK T F0) (hr.mono (by decide)) rfl T.mgC bL .nil gf (aO (pv 2) (ai (yM T) hr (ah (pv 1))) (ai (zO T) hr (ah (pv 1))))))
   (am (aG (i:=4) dk.nd rfl (Or.inl rfl) (va M1 (A8 T F1) (hr.mono (by decide)) rfl T.mg_Locks bF .nil gf (ah (pv 3))))
   (am (aG (i:=5) dk.nd rfl (Or.inl rfl) pW)
   (am (cP PassesOwn.never rfl (xA rfl T.b_range (ao ac (aM (vQ rfl) T.b_max boot_max (ao ac (aM (sj rfl) T.b_min Iu (ao (aM (gY K) T.b_len Im (ah (pv 0))) ac)))))) (ba (i:=6) dk.nd rfl (Or.inl rfl))
    (am (aG (i:=7) dk.nd rfl (Or.inl rfl) (ai (qQ T) hr (ao (pv 0) (pv 6))))
    (jy (cP PassesOwn.never rfl (gL rfl T.b_range (ah (ai (aY T) hr (ao (pv 7) ac)))) (ba (i:=8) dk.nd rfl (Or.inl rfl))
     (am (aG (i:=9) dk.nd rfl (Or.inl rfl) (ai (Ah T) hr (aO (pv 7) (pv 3) (pv 2))))
     (aq (bJ (oH (AV (dJ hr) (pv 9) (pv 5)))
      (am (b8 (df (pv 4) T.cl_Locks (AZ T) hr (ao (ay (cb K) (pv 9) ac (fun _ _=>rfl)) (ay (cb K) (pv 9) ac (fun _ _=>rfl)))))
      (aq (mU (dJ hr) (pv 5) (pv 9) im rfl)))
      bQ))))
    (am (aG (i:=10) dk.nd rfl (Or.inl rfl) (ai (Cf T) hr (aR (pv 7) (aO (pv 3) (pv 2) (pv 5)))))
    (am (aG (i:=11) dk.nd rfl (Or.inl rfl) (ai (Bn T) hr (aR (pv 7) (aR (pv 3) (aO (pv 2) (pv 5) (pv 10))))))
    (am (bJ (eY (eX (ai (right T) hr (aR (pv 4) (aO (pv 10) (pv 11) (ai (tf T) hr (aR (pv 3) (aO (pv 5) (pv 10) (pv 11)))))))))
     (aq (aB im))
     bQ)
    (aq (bJ (PW.pt (jV (bU (zS hr) (pv 5) ly (bD _)) (nq (bU gS (ai (aY T) hr (ao (pv 7) ac)) ac (bD _)))))
     (am (aG (i:=9) dk.nd rfl (Or.inl rfl) (ay (bH K) (aM (nG rfl) T.b_sorted Ir (ah (pv 5))) (ai (aY T) hr (ao (pv 7) (aM xk T.b_len Im (ah (pv 5))))) (fun _ _=>rfl)))
     (am (b8 (df (pv 4) T.cl_Locks (A2 T) hr (ao (ay (cb K) (pv 9) ac (fun _ _=>rfl)) (ay (cb K) (pv 9) ac (fun _ _=>rfl)))))
     (am (b8 (wf (dJ hr) (pv 5) (pv 9) ⟨rfl,rfl,rfl,rfl⟩))
     (aq (bJ (bU (ke hr) (df (pv 4) T.cl_Locks (k7 T) hr (ao (pv 10) (pv 11))) (ai (tf T) hr (aR (pv 3) (aO (pv 5) (pv 10) (pv 11)))) (bD _))
      (aq (aB im))
      bQ)))))
     bQ))))))))
   (aq (aB im)))))))),?_⟩
  refine⟨_,rfl,a,ns,_,rfl,ha,by omega,by decide,fun p0 H1 s1 np0 hp1=>?_⟩
  refine⟨_,rfl,p0,rfl,hp1,fun b H2 bb1 bb2 c2 hp2=>?_⟩
  refine⟨_,rfl,_,rfl,p0,rfl,hp2,fun pl ps H3 pok c3 hp3 npl hpl=>?_⟩
  refine⟨_,rfl,p0,rfl,hp3,fun rl us rows H4 rok c4 hp4 nrl hrl tr=>?_⟩
  have S4:ab H H4:=fun b' o z=>c4 _ _ (c3 _ _ (c2 _ _ (s1 _ _ z) (aJ z np0)) (aJ z np0)) (aJ z np0)
  have hpl4:=c4 _ _ hpl (hp2.ne npl)
  have ok:cf b ps rows:=⟨by
   have hB:cx=100000000000000000000000000000:=rfl
   have hW:aN=1000000000000000000000000000000:=rfl
   unfold fZ
   rw[decide_eq_true (by omega),decide_eq_true (by omega)]
   rfl,pok,rok⟩
  have rl4:=(ik ok.r).1
  intro x dx hx hdx hne
  have sM:ab H4 (upd (upd H4 dx (.own x)) x (.ins C dx [])):=(ab.upd hdx).trans (ab.upd (by rw[upd_ne (Ne.symm hne)];exact hx))
  refine⟨x,dx,b,pl,_,ps,rl,_,us,rows,rfl,ae,sM _ _ hpl4,.inl rfl,sM _ _ hrl,.inl rfl,Paired.mono (fun _ _ z=>(z.tups fun b' xs' h=>sM _ _ h).g) tr,ok,fun H5 c5 hL5=>⟨rfl,?_⟩⟩
  have S5:ab H4 H5:=fun b' o z=>c5 _ _ (sM _ _ z) (aJ z hx)
  refine⟨_,rfl,?_⟩
  intro lk dx2 hlk hdx2 hne2
  have sM2:ab H5 (upd (upd H5 dx2 (.own lk)) lk (.ins (bG mg "Locks") dx2 [])):=(ab.upd hdx2).trans (ab.upd (by rw[upd_ne (Ne.symm hne2)];exact hlk))
  refine⟨lk,dx2,x,rfl,ae,fun d H6 c6 nd hK=>⟨rfl,?_⟩⟩
  have S6:ab H5 H6:=fun b' o z=>c6 _ _ (sM2 _ _ z) (aJ z hlk)
  intro t nt
  have st0:dh C (bG mg "Locks") H (upd H6 t (.dT [])) x lk d t b ps rows []:=by
   have s7:ab H6 (upd H6 t (.dT [])):=ab.upd nt
   refine⟨((S4.trans S5).trans S6).trans s7,(hL5.same S6).same s7,hK.same s7,ae,fun z=>?_,⟨Du,by decide,fun _ h=>nomatch h⟩,(S4.trans S5).free (sM2.free nd),((S4.trans S5).trans S6).free nt⟩
   have:=hK.s
   rw[<-z,nt] at this
   cases this
  generalize (upd H6 t (.dT []))=H7 at st0
  refine⟨_,rfl,a,_,rfl,.inl (st0.s.seq ha),_,_,rfl,_,_,rfl,_,_,rfl,⟨by decide,by decide,by repeat' split <;> omega,by repeat' split <;> omega⟩,?_⟩
  refine gJ (lo:=1) (fun i σ HX=>∃ v6 v7 v8 v9 v10 v11 prs,σ=[some (.ref a),some (.ref p0),some (.int b),some (.ref x),some (.ref lk),some (.ref t),v6,v7,v8,v9,v10,v11]/\dh C (bG mg "Locks") H HX x lk d t b ps rows prs/\prs.length<=4*i) ⟨none,none,none,none,none,none,[],rfl,st0,EU _⟩ ?turn ?fin
  case fin =>
   rintro σ HX ⟨v6,v7,v8,v9,v10,v11,prs,rfl,st,pl4⟩
   exact k _
  case turn =>
   rintro i σ HX hi ⟨v6,v7,v8,v9,v10,v11,prs0,rfl,stX,pl0⟩
   have i12:i<12:=by
    have:(if (if 13<((Ea V.int ns).length:Int) then 13 else ((Ea V.int ns).length:Int))>2 then (if 13<((Ea V.int ns).length:Int) then 13 else ((Ea V.int ns).length:Int)) else (2:Int))<=13:=by repeat' split <;> omega
    omega
   refine⟨_,rfl,_,rfl,a,ns,_,rfl,stX.s.seq ha,by omega,by omega,fun ln H1' s1' nln' hpA=>?_⟩
   have nln:H ln=none:=stX.s.free nln'
   have stA:=stX.same s1'
   refine⟨fun σ HY=>∃ v8 v9 prs,σ=[some (.ref a),some (.ref p0),some (.int b),some (.ref x),some (.ref lk),some (.ref t),some (.int (1+(i:Int))),some (.ref ln),v8,v9,v10,v11]/\dh C (bG mg "Locks") H HY x lk d t b ps rows prs/\prs.length<=4*(i+1)/\aL HY ln,?_,?_⟩
   ·refine⟨_,rfl,ln,_,rfl,hpA,by decide +kernel,by decide +kernel,fun dg HB dg0 dg1 cB hpB=>⟨_,rfl,by omega,by omega,?_⟩⟩
    have stB:=stA.but hpA nln cB
    refine gJ (n:=dg.toNat) (fun j σ HY=>∃ v8 v9 prs,σ=[some (.ref a),some (.ref p0),some (.int b),some (.ref x),some (.ref lk),some (.ref t),some (.int (1+(i:Int))),some (.ref ln),v8,v9,v10,v11]/\dh C (bG mg "Locks") H HY x lk d t b ps rows prs/\prs.length<=4*i+j/\aL HY ln) ⟨v8,v9,prs0,rfl,stB,by omega,hpB⟩ ?_ ?_
    ·rintro j σ HY hj ⟨w8,w9,prs,rfl,st,pl,hpY⟩
     refine⟨_,rfl,_,rfl,_,rfl,ln,x,b,b,ps,rows,rfl,hpY,st.l,ok,bb1,bb2,fun tb r n HC cC hpC ntb htb r0 r1 n0 n1=>?_⟩
     have stC:=st.but hpY nln cC
     refine⟨_,rfl,_,rfl,t,_,rfl,b9.t (k:=bT (r,n)) stC.ht htb,_,rfl,?_⟩
     rw[gW]
     by_cases hin:(r,n)∈prs
     ·exact eI (by rw[decide_eq_true hin];rfl) ⟨_,_,prs,rfl,stC,by omega,hpC⟩
     ·obtain⟨dxk,hk1⟩:=stC.k.i
      refine eW (by rw[decide_eq_false hin];rfl) ⟨_,rfl,lk,dxk,_,rfl,hk1,rfl,_,rfl,tb,_,_,_,rfl,rfl,.of htb,rfl,_,rfl,tb,_,_,_,rfl,rfl,.of htb,rfl,lk,x,d,r,n,b,ps,rows,prs,rfl,stC.k,stC.l,r0,r1,n0,n1,by omega,hin,fun HD cD hkD=>?_⟩
      have htD:=cD _ _ stC.ht stC.n
      have htbD:HD tb=some (.tup [.int r,.int n]):=cD _ _ htb fun z=>by have:=stC.k.s;rw[<-z,htb] at this;cases this
      refine⟨_,rfl,_,rfl,t,_,rfl,fq.t (k:=bT (r,n)) htD htbD (by rw[i8,Gs];omega),?_⟩
      rw[p7 hin]
      exact⟨_,_,prs++[(r,n)],rfl,stC.put cD hkD (Ci stC.po (by omega) hin r0 r1 n0 n1),by rw[C7];show prs.length+1<=4*i+(j+1);omega,B5 (H:=H) hpC stC.k.s stC.ht cD⟩
    ·rintro σ HY ⟨w8,w9,prs,rfl,st,pl,hpY⟩
     exact⟨w8,w9,prs,rfl,st,by omega,hpY⟩
   rintro σ HY ⟨w8,w9,prs,rfl,st,pl,hpY⟩
   refine⟨_,rfl,_,rfl,_,rfl,_,rfl,ln,x,t,b,b,ps,rows,prs,rfl,hpY,st.l,ok,bb1,bb2,st.ht,st.po,fun L xs es n HC cC hpC nL hE ek n13 ky=>?_⟩
   have stC:=st.but hpY nln cC
   refine⟨_,rfl,_,rfl,_,rfl,_,rfl,_,rfl,ln,x,t,L,b,b,ps,rows,prs,xs,es,n,rfl,hpC,stC.l,ok,bb1,bb2,stC.ht,stC.po,hE,ek,n13,ky,fun F ys fs HD cD hpD nF hF fk kc fl=>?_⟩
   have stD:=stC.but hpC nln cD
   have hED:=hE.but hpC cD
   obtain⟨ka,_,el⟩:=mv (fs:=es) n13 (by rw[ky];exact List.Sublist.refl _)
   refine⟨_,rfl,_,rfl,_,rfl,_,rfl,_,rfl,_,rfl,_,rfl,x,t,L,F,b,ps,rows,prs,xs,ys,es,fs,rfl,stD.l,ok,stD.ht,stD.po,hED.h,hED.t,hF.h,hF.t,by omega,by omega,ek,fk,ka,kc,fun vd r HE sE br fr=>?_⟩
   have stE:=stD.same sE
   have hpE:=hpD.same sE
   have hEE:cG ln HE L xs es:=⟨sE _ _ hED.h,hED.n,Paired.mono (fun _ _ z=>z.tups fun b' xs' h=>sE _ _ h) hED.t⟩
   have hFE:cG ln HE F ys fs:=⟨sE _ _ hF.h,hF.n,Paired.mono (fun _ _ z=>z.tups fun b' xs' h=>sE _ _ h) hF.t⟩
   refine⟨lk,x,d,L,F,vd,r,b,ps,rows,prs,xs,ys,es,fs,rfl,stE.k,stE.l,ok,hEE.h,hEE.t,hFE.h,hFE.t,by omega,by omega,ek,fk,ka,kc,br,fr,fun HG sG=>⟨_,rfl,bK ?_⟩⟩
   have stG:=stE.same sG
   have hpG:=hpE.same sG
   refine⟨_,rfl,fun e0 ne0=>?_⟩
   have s8:ab HG (upd HG e0 (.dK [])):=ab.upd ne0
   have u8:(upd HG e0 (.dK [])) e0=some (.dK []):=ae
   generalize (upd HG e0 (.dK []))=HI at s8 u8
   have stI:=stG.same s8
   have hpI:=hpG.same s8
   refine⟨t,e0,_,rfl,rfl,stI.ht,u8,_,rfl,?_⟩
   rw[if_pos (rfl:true=true),rN]
   by_cases em:prs=[]
   ·exact eI (by rw[decide_eq_true em];rfl) (bK ⟨_,_,_,_,_,_,prs,rfl,stI,pl⟩)
   refine eW (by rw[decide_eq_false em];rfl) ⟨_,rfl,ln,_,rfl,hpI,by decide +kernel,by decide +kernel,fun g1 HJ x1 y1 cJ hpJ=>⟨rfl,_,rfl,?_⟩⟩
   have stJ:=stI.but hpI nln cJ
   generalize decide (V.int g1=V.int 0)=kk1
   cases kk1 with
   | false=>exact bK ⟨_,_,_,_,_,_,prs,rfl,stJ,pl⟩
   | true =>
    have sEI:=sG.trans s8
    have hEJ:cG ln HJ L xs es:=(show cG ln HI L xs es from⟨sEI _ _ hEE.h,hEE.n,Paired.mono (fun _ _ z=>z.tups fun b' xs' h=>sEI _ _ h) hEE.t⟩).but hpI cJ
    have hFJ:cG ln HJ F ys fs:=(show cG ln HI F ys fs from⟨sEI _ _ hFE.h,hFE.n,Paired.mono (fun _ _ z=>z.tups fun b' xs' h=>sEI _ _ h) hFE.t⟩).but hpI cJ
    refine bP ⟨_,rfl,t,_,prs,rfl,stJ.ht,lM prs,stJ.po.l,fun D bs gs hP pm srt hD=>?_⟩
    have sD:ab HJ (upd HJ D (.lst bs)):=ab.upd hD
    have uD:(upd HJ D (.lst bs)) D=some (.lst bs):=ae
    have nD:=hpJ.ne hD
    generalize (upd HJ D (.lst bs))=HK at sD uD
    have stK:=stJ.same sD
    have hpK:=hpJ.same sD
    have bl:bs.length=gs.length:=Paired.length hP
    have gl:gs.length=prs.length:=pm.length_eq
    have pl0:0<prs.length:=List.length_pos_iff.mpr em
    refine⟨_,rfl,_,rfl,t,_,rfl,stK.ht,ln,_,rfl,hpK,by rw[i8];omega,Fx (b:=100) (by rw[i8];omega) (by decide +kernel),fun g2 HL x2 y2 cL hpL=>?_⟩
    rw[i8] at y2
    obtain⟨m,rfl⟩:∃ m:Nat,g2=m:=⟨g2.toNat,by omega⟩
    have hm:m<gs.length:=by omega
    obtain⟨u,hu,tb,rfl,htb⟩:=Paired.getR hP (CZ hm)
    have hin:gs[m]∈prs:=pm.mem_iff.mp (Dr hm)
    generalize gs[m]=rn at htb hin
    obtain⟨r0,r1,n0,n1⟩:=stK.po.b rn hin
    have stL:=stK.but hpK nln cL
    have htL:HL tb=some (.tup [.int rn.1,.int rn.2]):=iu hpK cL _ _ (sD _ _ htb)
    obtain⟨dxk,hk1⟩:=stL.k.i
    refine⟨D,_,_,_,rfl,rfl,.of (cL _ _ uD nD),bz hu,?_⟩
    refine⟨_,rfl,lk,dxk,_,rfl,hk1,rfl,_,rfl,tb,_,_,_,rfl,rfl,.of htL,rfl,_,rfl,tb,_,_,_,rfl,rfl,.of htL,rfl,lk,x,d,rn.1,rn.2,b,ps,rows,prs,rfl,stL.k,stL.l,r0,r1,n0,n1,hin,fun HM cM hkM=>?_⟩
    have htM:=cM _ _ stL.ht stL.n
    have tbM:HM tb=some (.tup [.int rn.1,.int rn.2]):=cM _ _ htL fun z=>by have:=stL.k.s;rw[<-z,htL] at this;cases this
    have hs:(aP (sd prs) (bT rn)).isSome=true:=by rw[gW,decide_eq_true hin]
    obtain⟨vv,hvv⟩:=Option.isSome_iff_exists.mp hs
    refine⟨_,rfl,t,rfl,.inr ⟨_,.inl htM⟩,_,rfl,tb,_,bT rn,vv,rfl,htM,tbM,hvv,?_⟩
    rw[uY]
    have po':dP rows.length (prs.filter fun q=>decide (q≠rn)):=yV stL.po
    have stN:=stL.put cM hkM po'
    have lk':∀ {G:Addr}{zs:List V}{es:List En},cG ln HJ G zs es->(upd HM t (.dT (sd (prs.filter fun q=>decide (q≠rn))))) G=some (.lst zs)/\Paired (aF (upd HM t (.dT (sd (prs.filter fun q=>decide (q≠rn)))))) zs es:=fun {G zs es} h=>by
     have hL':=(show cG ln HK G zs es from⟨sD _ _ h.h,h.n,Paired.mono (fun _ _ z=>z.tups fun b' xs' h=>sD _ _ h) h.t⟩).but hpK cL
     have kp:∀ b' o,HL b'=some o->(∀ kvs,o≠.dT kvs)->(upd HM t (.dT (sd (prs.filter fun q=>decide (q≠rn))))) b'=some o:=fun b' o hb no=>by
      rw[upd_ne (fun z=>by rw[z,stL.ht] at hb;exact no _ (Option.some.inj hb).symm)]
      exact cM _ _ hb fun z=>by rw[z,stL.k.s] at hb;exact no _ (Option.some.inj hb).symm
     exact⟨kp _ _ hL'.h (fun kvs z=>by cases z),Paired.mono (fun _ _ z=>z.tups fun b' xs' h=>kp _ _ h (fun kvs z=>by cases z)) hL'.t⟩
    obtain⟨eN,tN⟩:=lk' hEJ
    obtain⟨fN,tF⟩:=lk' hFJ
    have len':(prs.filter fun q=>decide (q≠rn)).length<=prs.length:=Dl _ _
    generalize (upd HM t (.dT (sd (prs.filter fun q=>decide (q≠rn)))))=HN at stN eN tN fN tF
    generalize (prs.filter fun q=>decide (q≠rn))=prs' at stN len'
    obtain⟨dxn,hn1⟩:=stN.k.i
    refine⟨_,rfl,lk,dxn,_,rfl,hn1,rfl,_,rfl,_,rfl,lk,x,d,L,F,_,_,xs,ys,es,fs,b,ps,rows,prs',rfl,stN.k,stN.l,ok,eN,.inl rfl,Paired.mono (fun _ _ z=>aF.g z) tN,fN,.inl rfl,Paired.mono (fun _ _ z=>aF.g z) tF,by omega,ek,fk,ka,kc,fun vr r1' HO sO brO frO=>?_⟩
    have stO:=stN.same sO
    refine⟨_,rfl,_,rfl,_,rfl,_,rfl,x,t,L,F,b,ps,rows,prs',xs,ys,es,fs,rfl,stO.l,ok,stO.ht,stO.po,sO _ _ eN,Paired.mono (fun _ _ z=>z.tups fun b' xs' h=>sO _ _ h) tN,sO _ _ fN,Paired.mono (fun _ _ z=>z.tups fun b' xs' h=>sO _ _ h) tF,by omega,by omega,ek,fk,ka,kc,fun vr2 r2' HP sP brP frP=>?_⟩
    obtain rfl:r1'=r2':=cQ.one frO frP
    obtain⟨k1,k2,k3⟩:=kA (brO.same sP)
    obtain⟨m1,_,_⟩:=kA brP
    refine⟨_,_,k1,m1,k2,k2,by omega,_,rfl,?_⟩
    rw[if_pos (rfl:true=true),PySem.SeqAt.eqv_refl _ k2]
    exact bK ⟨_,_,_,_,_,_,prs',rfl,stO.same sP,by omega⟩
theorem law_all (T:Txt K mg C){fa:Addr}(hmg:mg "law"=some (.ref fa)) :
  ∃ fd:Gy,(∀ (s:Shared) (u:Value),Gz s fd ⟨[u],[]⟩ [("_law_script",u)])/\∀ base:Heap,K.In base->base.Ns FR mg->ce P w K mg base cH 11 fa fd ["_law_script"] (iO K):=by
 obtain⟨f,fd,F⟩:=T.f_law
 have e:=hmg.symm.trans F.m
 cases e
 obtain⟨oc,od,kV,doc,pm,an,cdv,ct,osl,rfl,lk,hcd⟩:=F.fn.ex
 exact⟨_,fun s u=>.of_eq rfl,fun base _ _=>CP T F.fn⟩
theorem walk {l:W.OpenLaw}{q:FN}{loose:List Str}{XP:(Str->Option Value)->Heap->Prop}{YP:World->Heap->Prop}{d:DefRec}{K:Params->W.Frag}(hn:l.most=some 63)(hdf:d.params.defaults=[])
  (hY:∀ (w:World) (h:Heap),YP w h->(K w.params).In h)
  (F:∀ (w:World) (mg:Str->Option Value) (fa:Addr) (h:Heap),(K w.params).In h->h.Ns FR mg->mg d.name=some (.ref fa) ->
   ∃ fd:Gy,(∀ (s:Shared) (u:Value),Gz s fd ⟨[u],[]⟩ [("_law_script",u)])/\∀ base:Heap,(K w.params).In base->base.Ns FR mg->ce l.prog w (K w.params) mg base cH 11 fa fd ["_law_script"] (iO (K w.params))) :
  W.WalkO q loose XP YP l.row.toRowW d [] (fun f vs=>PySem.call f vs) :=
 L2.walk_of (n:=63) (k:=11) (x:="_law_script") (CX:=fun _=>cH) (sp:=fun w=>iO (K w.params)) hn (by decide) hdf ⟨rfl,by decide,by decide,rfl⟩ hY F (fun _ _ a ns hl _ hS=>⟨a,ns,rfl,hS,hl,fun _=>rfl⟩) fun _ _ _ _ _ z=>z
end
end Pr
namespace L2
open PySem PyProof.Rows
variable {K:W.Frag}{x qual:Str}{st:Stmt}{g:Addr}{fd:Gy}{p q r s t u v:Str}
end L2
namespace L2
open PySem PyProof.Rows
inductive FE (K:W.Frag)(x:Str)(st:Stmt):Prop
 | mk {f:Addr}{od an:Option Addr}{sl:Array (Option Value)}{oc kV dc pm cd ct:Value}(a:W.nsIn K FR x=some (some (.ref f)))(l:K.lookup f=some ⟨oc,od,.func (W.fnOf x x (gA st) (eJ st) (aw st) .none kV dc pm an cd ct),sl⟩)(c:W.codeIn K cd x=true)(k:W.keepIn K (.ref f)=true):FE K x st
inductive FM (K:W.Frag)(C:Addr)(x q:Str)(st:Stmt):Prop
 | mk {f:Addr}{od an:Option Addr}{sl:Array (Option Value)}{oc kV dc pm cd ct:Value}(a:W.findIn K (.ref C) x=some (some (.ref f)))(i:W.isFn K (.ref f)=true)(l:K.lookup f=some ⟨oc,od,.func (W.fnOf x q (gA st) (eJ st) (aw st) .none kV dc pm an cd ct),sl⟩)(c:W.codeIn K cd q=true)(k:W.keepIn K (.ref f)=true):FM K C x q st
variable {K:W.Frag}{h:Heap}{mg:Str->Option Value}{x q:Str}{st:Stmt}{ps:List Str}{C:Addr}
theorem FE.fn (X:K.In h)(G:h.Ns FR mg)(e:FE K x st)(b:∀ f fd,bq K x x st f fd->bB K fd ps []):∃ f fd,Fn K mg x st ps f fd:=by
 obtain⟨a,l,c,k⟩:=e
 exact⟨_,_,ij l c k,W.mg_of X G a,b _ _ (ij l c k)⟩
theorem FM.fm (e:FM K C x q st)(b:∀ f fd,bq K x q st f fd->bB K fd ps []):∃ f fd,Fm K C x q st ps f fd:=by
 obtain⟨a,i,l,c,k⟩:=e
 exact⟨_,_,ij l c k,⟨a,i,k⟩,b _ _ (ij l c k)⟩
theorem FM.mk_ (e:FM K C "__init__" q st)(mk:W.makesIn K C=true)(kc:W.keepIn K (.ref C)=true)(b:∀ f fd,bq K "__init__" q st f fd->bB K fd ps []):∃ f fd,bq K "__init__" q st f fd/\Mk K C f/\bB K fd ps []:=by
 obtain⟨a,i,l,c,k⟩:=e
 exact⟨_,_,ij l c k,⟨mk,a,i,kc⟩,b _ _ (ij l c k)⟩
end L2
namespace Pr
open PySem L2 PyProof.Rows
set_option maxHeartbeats 0 in
theorem txt_mk {K:W.Frag}{h:Heap}{mg:Str->Option Value}{C:Addr}(X:K.In h)(G:h.Ns FR mg){t_WIDE_END:Tok}{t_NUMBER_END:Tok}{t_MOST_PARTS:Tok}{t_MOST_LENGTH:Tok}{t_MOST_ROWS:Tok}{t_MOST_SIZES:Tok}{t_MOST_SIZE:Tok}{q_Locks:Addr}
   (aC:W.nsIn K FR "Ladder"=some (some (.ref C)))
   (a1:FE K "empty" nr)
   (a2:FE K "in_order" mY)
   (a3:FE K "place_of" m9)
   (a4:FE K "bar_of" me)
   (a5:FE K "joined" mx)
   (a6:FE K "is_whole" nJ)
   (a7:FE K "is_whole_from" lv)
   (a8:FE K "is_wide" li)
   (a9:FE K "is_list" mO)
   (a10:FE K "is_list_from" lC)
   (a11:FE K "need_moment" mP)
   (a12:FE K "need_roll" kK)
   (a13:FE K "need_number" nM)
   (a14:FE K "bars_of" nz)
   (a15:FE K "gathered" lX)
   (a16:FE K "changes" og)
   (a17:FE K "unlike_bars" nh)
   (a18:FE K "first_of" nN)
   (a19:FE K "number_of" lG)
   (a20:FE K "is_part" lY)
   (a21:FE K "are_parts" kC)
   (a22:FE K "are_sizes" ng)
   (a23:FE K "is_row" kJ)
   (a24:FE K "are_rows" lm)
   (a25:FE K "bar_lengths" mL)
   (a26:FE K "_law_pot" mq)
   (a27:FE K "_law_digit" lS)
   (a28:FE K "_law_parts" md)
   (a29:FE K "_law_rows" kB)
   (a30:FE K "_law_begin" nH)
   (a31:FE K "_law_near" mB)
   (a32:FE K "_law_bar" lj)
   (a33:FE K "_law_wide" mQ)
   (a34:FE K "_law_moment" kD)
   (a35:FE K "_law_entries" mz)
   (a36:FE K "_law_changed" kE)
   (a37:FE K "_law_fold" lK)
   (a38:FE K "_law_due" mI)
   (a39:FE K "_law_right" kM)
   (a40:FE K "law" j6)
   (c_WIDE_END:W.nsIn K FR "WIDE_END"=some (some (.int 1000000000000000000000000000000 t_WIDE_END)))
   (c_NUMBER_END:W.nsIn K FR "NUMBER_END"=some (some (.int 10000000000000000000000000000000000000000 t_NUMBER_END)))
   (c_MOST_PARTS:W.nsIn K FR "MOST_PARTS"=some (some (.int 12 t_MOST_PARTS)))
   (c_MOST_LENGTH:W.nsIn K FR "MOST_LENGTH"=some (some (.int 1000000000 t_MOST_LENGTH)))
   (c_MOST_ROWS:W.nsIn K FR "MOST_ROWS"=some (some (.int 4 t_MOST_ROWS)))
   (c_MOST_SIZES:W.nsIn K FR "MOST_SIZES"=some (some (.int 12 t_MOST_SIZES)))
   (c_MOST_SIZE:W.nsIn K FR "MOST_SIZE"=some (some (.int 1000 t_MOST_SIZE)))
   (b_ValueError:W.nsIn K FR "ValueError"=some none)
   (b_abs:W.nsIn K FR "abs"=some none)
   (b_all:W.nsIn K FR "all"=some none)
   (b_bool:W.nsIn K FR "bool"=some none)
   (b_dict:W.nsIn K FR "dict"=some none)
   (b_divmod:W.nsIn K FR "divmod"=some none)
   (b_int:W.nsIn K FR "int"=some none)
   (b_isinstance:W.nsIn K FR "isinstance"=some none)
   (b_len:W.nsIn K FR "len"=some none)
   (b_list:W.nsIn K FR "list"=some none)
   (b_max:W.nsIn K FR "max"=some none)
   (b_min:W.nsIn K FR "min"=some none)
   (b_range:W.nsIn K FR "range"=some none)
   (b_reversed:W.nsIn K FR "reversed"=some none)
   (b_sorted:W.nsIn K FR "sorted"=some none)
   (b_str:W.nsIn K FR "str"=some none)
   (b_sum:W.nsIn K FR "sum"=some none)
   (b_tuple:W.nsIn K FR "tuple"=some none)
   (pg:W.plainGet K C Str.empty=true)
   (hd:W.hasDictIn K C=true)
   (po:W.plainOver K C=true)
   (sa:W.findIn K (.ref C) "__setattr__"=some (some (.builtin "object.__setattr__")))
   (mk:W.makesIn K C=true)
   (kc:W.keepIn K (.ref C)=true)
   (n_open_lengths:W.findIn K (.ref C) "open_lengths"=some none)
   (n_part_lengths:W.findIn K (.ref C) "part_lengths"=some none)
   (n_steps:W.findIn K (.ref C) "steps"=some none)
   (m1:FM K C "__init__" "Ladder.__init__" jx)
   (m2:FM K C "begin" "Ladder.begin" rW)
   (m3:FM K C "parts" "Ladder.parts" rc)
   (m4:FM K C "rows" "Ladder.rows" qc)
   (m5:FM K C "rolls" "Ladder.rolls" kL)
   (m6:FM K C "bar_at" "Ladder.bar_at" mw)
   (m7:FM K C "stretch" "Ladder.stretch" mW)
   (m8:FM K C "first_moment" "Ladder.first_moment" nT)
   (aC_Locks:W.nsIn K FR "Locks"=some (some (.ref q_Locks)))
   (pg_Locks:W.plainGet K q_Locks Str.empty=true)
   (hd_Locks:W.hasDictIn K q_Locks=true)
   (po_Locks:W.plainOver K q_Locks=true)
   (sa_Locks:W.findIn K (.ref q_Locks) "__setattr__"=some (some (.builtin "object.__setattr__")))
   (mk_Locks:W.makesIn K q_Locks=true)
   (kc_Locks:W.keepIn K (.ref q_Locks)=true)
   (n_Locks_ladder:W.findIn K (.ref q_Locks) "ladder"=some none)
   (n_Locks_shut_pairs:W.findIn K (.ref q_Locks) "shut_pairs"=some none)
   (m_Locks_init:FM K q_Locks "__init__" "Locks.__init__" jE)
   (m_Locks_shut:FM K q_Locks "shut" "Locks.shut" lp)
   (m_Locks_open_bar:FM K q_Locks "open_bar" "Locks.open_bar" nC)
   (m_Locks_is_shut:FM K q_Locks "is_shut" "Locks.is_shut" mD)
   (m_Locks_broken:FM K q_Locks "broken" "Locks.broken" kI)
   (esp:W.specialIn K (.builtin "object.__class__") "__get__"=some (some (.builtin "getset_descriptor.__get__")))
   (etk:W.takesIn K (.builtin "object.__class__")=some true):Txt K mg C :=
 ⟨a1.fn X G fun _ _ F=>F.b0 (by intros;rfl),
  a2.fn X G fun _ _ F=>F.b1 (by intros;rfl),
  a3.fn X G fun _ _ F=>F.b1 (by intros;rfl),
  a4.fn X G fun _ _ F=>F.b1 (by intros;rfl),
  a5.fn X G fun _ _ F=>F.b2 (by intros;rfl),
  a6.fn X G fun _ _ F=>F.b1 (by intros;rfl),
  a7.fn X G fun _ _ F=>F.b3 (by intros;rfl),
  a8.fn X G fun _ _ F=>F.b1 (by intros;rfl),
  a9.fn X G fun _ _ F=>F.b1 (by intros;rfl),
  a10.fn X G fun _ _ F=>F.b3 (by intros;rfl),
  a11.fn X G fun _ _ F=>F.b1 (by intros;rfl),
  a12.fn X G fun _ _ F=>F.b3 (by intros;rfl),
  a13.fn X G fun _ _ F=>F.b1 (by intros;rfl),
  a14.fn X G fun _ _ F=>F.b3 (by intros;rfl),
  a15.fn X G fun _ _ F=>F.b1 (by intros;rfl),
  a16.fn X G fun _ _ F=>F.b3 (by intros;rfl),
  a17.fn X G fun _ _ F=>F.b2 (by intros;rfl),
  a18.fn X G fun _ _ F=>F.b3 (by intros;rfl),
  a19.fn X G fun _ _ F=>F.b3 (by intros;rfl),
  a20.fn X G fun _ _ F=>F.b1 (by intros;rfl),
  a21.fn X G fun _ _ F=>F.b1 (by intros;rfl),
  a22.fn X G fun _ _ F=>F.b1 (by intros;rfl),
  a23.fn X G fun _ _ F=>F.b1 (by intros;rfl),
  a24.fn X G fun _ _ F=>F.b1 (by intros;rfl),
  a25.fn X G fun _ _ F=>F.b1 (by intros;rfl),
  a26.fn X G fun _ _ F=>F.b2 (by intros;rfl),
  a27.fn X G fun _ _ F=>F.b2 (by intros;rfl),
  a28.fn X G fun _ _ F=>F.b1 (by intros;rfl),
  a29.fn X G fun _ _ F=>F.b1 (by intros;rfl),
  a30.fn X G fun _ _ F=>F.b1 (by intros;rfl),
  a31.fn X G fun _ _ F=>F.b2 (by intros;rfl),
  a32.fn X G fun _ _ F=>F.b3 (by intros;rfl),
  a33.fn X G fun _ _ F=>F.b1 (by intros;rfl),
  a34.fn X G fun _ _ F=>F.b4 (by intros;rfl),
  a35.fn X G fun _ _ F=>F.b4 (by intros;rfl),
  a36.fn X G fun _ _ F=>F.b5 (by intros;rfl),
  a37.fn X G fun _ _ F=>F.b2 (by intros;rfl),
  a38.fn X G fun _ _ F=>F.b4 (by intros;rfl),
  a39.fn X G fun _ _ F=>F.b4 (by intros;rfl),
  a40.fn X G fun _ _ F=>F.b1 (by intros;rfl),
  ⟨_,W.mg_of X G c_WIDE_END⟩,
  ⟨_,W.mg_of X G c_NUMBER_END⟩,
  ⟨_,W.mg_of X G c_MOST_PARTS⟩,
  ⟨_,W.mg_of X G c_MOST_LENGTH⟩,
  ⟨_,W.mg_of X G c_MOST_ROWS⟩,
  ⟨_,W.mg_of X G c_MOST_SIZES⟩,
  ⟨_,W.mg_of X G c_MOST_SIZE⟩,
  W.mg_none_of X G b_ValueError,
  W.mg_none_of X G b_abs,
  W.mg_none_of X G b_all,
  W.mg_none_of X G b_bool,
  W.mg_none_of X G b_dict,
  W.mg_none_of X G b_divmod,
  W.mg_none_of X G b_int,
  W.mg_none_of X G b_isinstance,
  W.mg_none_of X G b_len,
  W.mg_none_of X G b_list,
  W.mg_none_of X G b_max,
  W.mg_none_of X G b_min,
  W.mg_none_of X G b_range,
  W.mg_none_of X G b_reversed,
  W.mg_none_of X G b_sorted,
  W.mg_none_of X G b_str,
  W.mg_none_of X G b_sum,
  W.mg_none_of X G b_tuple,
  ⟨pg,hd,po,sa⟩,
  W.mg_of X G aC,
  n_open_lengths,
  n_part_lengths,
  n_steps,
  m1.mk_ mk kc (fun _ _ F=>F.b4 (by intros;rfl)),
  m2.fm fun _ _ F=>F.b1 (by intros;rfl),
  m3.fm fun _ _ F=>F.b1 (by intros;rfl),
  m4.fm fun _ _ F=>F.b1 (by intros;rfl),
  m5.fm fun _ _ F=>F.b1 (by intros;rfl),
  m6.fm fun _ _ F=>F.b3 (by intros;rfl),
  m7.fm fun _ _ F=>F.b3 (by intros;rfl),
  m8.fm fun _ _ F=>F.b3 (by intros;rfl),
  (by rw[eU (W.mg_of X G aC_Locks)];exact⟨pg_Locks,hd_Locks,po_Locks,sa_Locks⟩),
  (by rw[eU (W.mg_of X G aC_Locks)];exact W.mg_of X G aC_Locks),
  (by rw[eU (W.mg_of X G aC_Locks)];exact n_Locks_ladder),
  (by rw[eU (W.mg_of X G aC_Locks)];exact n_Locks_shut_pairs),
  (by rw[eU (W.mg_of X G aC_Locks)];exact m_Locks_init.mk_ mk_Locks kc_Locks (fun _ _ F=>F.b2 (by intros;rfl))),
  (by rw[eU (W.mg_of X G aC_Locks)];exact m_Locks_shut.fm fun _ _ F=>F.b3 (by intros;rfl)),
  (by rw[eU (W.mg_of X G aC_Locks)];exact m_Locks_open_bar.fm fun _ _ F=>F.b3 (by intros;rfl)),
  (by rw[eU (W.mg_of X G aC_Locks)];exact m_Locks_is_shut.fm fun _ _ F=>F.b3 (by intros;rfl)),
  (by rw[eU (W.mg_of X G aC_Locks)];exact m_Locks_broken.fm fun _ _ F=>F.b3 (by intros;rfl))⟩
end Pr
open PySem PySem.W PyProof.Rows
def PySem.W.Fast.tw17384865816702353016 : Nat := 0
def PySem.W.Fast.tw861502493610598483 : Nat := 0
def PySem.W.Fast.tw951490108651459375 : Nat := 0
def PySem.W.Fast.tw6282232509659570087 : Nat := 0
def PySem.W.Fast.tw2886075108996040433 : Nat := 0
def PySem.W.Fast.tw7774113678449685934 : Nat := 0
def PySem.W.Fast.tw2574987840137361678 : Nat := 0
def PySem.W.Fast.tw4529759306923343198 : Nat := 0
def PySem.W.Fast.tw1287781588520737546 : Nat := 0
def PySem.W.Fast.tw13171189065178304875 : Nat := 0
def PySem.W.Fast.tw10995594419232131675 : Nat := 0
def PySem.W.Fast.tw14221096863170989933 : Nat := 0
def PySem.W.Fast.tw9149405987056579642 : Nat := 0
def PySem.W.Fast.tw16203366879757453535 : Nat := 0
def PySem.W.Fast.tw14577027041581768965 : Nat := 0
def PySem.W.Fast.tw3303267245142563540 : Nat := 0
def PySem.W.Fast.tw13788375583471885543 : Nat := 0
def PySem.W.Fast.tw9266374589662076923 : Nat := 0
def PySem.W.Fast.tw8487446325307603647 : Nat := 0
def PySem.W.Fast.tw3897268976836264337 : Nat := 0
def PySem.W.Fast.tw9628386662896749208 : Nat := 0
def PySem.W.Fast.tw9399754086935153974 : Nat := 0
def PySem.W.Fast.tw6420159726195949164 : Nat := 0
def PySem.W.Fast.tw772564365185477556 : Nat := 0
def PySem.W.Fast.tw8997383693586321770 : Nat := 0
def PySem.W.Fast.tw12103309309050226592 : Nat := 0
def PySem.W.Fast.tw16012446641787371758 : Nat := 0
def PySem.W.Fast.tw7921390202802761869 : Nat := 0
def PySem.W.Fast.tw11153475782318119604 : Nat := 0
def PySem.W.Fast.tw9972681490609642005 : Nat := 0
def PySem.W.Fast.tw14760874974797668852 : Nat := 0
def PySem.W.Fast.tw8966131664815694762 : Nat := 0
def PySem.W.Fast.tw10341888390210383824 : Nat := 0
def PySem.W.Fast.tw13437419889732721216 : Nat := 0
def PySem.W.Fast.tw16217903435359918192 : Nat := 0
def PySem.W.Fast.tw13831308528885131752 : Nat := 0
def PySem.W.Fast.tw1835071406663858368 : Nat := 0
def PySem.W.Fast.tw9113380124883318265 : Nat := 0
def PySem.W.Fast.tw1495895850433845275 : Nat := 0
def PySem.W.Fast.tw730961619353400375 : Nat := 0
def PySem.W.Fast.tw4483904966330829159 : Nat := 0
def PySem.W.Fast.tw17963105932079019327 : Nat := 0
def PySem.W.Fast.tw12269216009862288129 : Nat := 0
def PySem.W.Fast.tw2483420100392427323 : Nat := 0
def PySem.W.Fast.tw15126001764536088292 : Nat := 0
def PySem.W.Fast.tw11513857634932158529 : Nat := 0
def PySem.W.Fast.tw8374155422468719031 : Nat := 0
def PySem.W.Fast.tw6690350156832105676 : Nat := 0
def PySem.W.Fast.tw5289818103960998278 : Nat := 0
def PySem.W.Fast.tw14564479935002850509 : Nat := 0
def PySem.W.Fast.tw17260811203177919210 : Nat := 0
def PySem.W.Fast.tw16493865465440409018 : Nat := 0
set_option maxHeartbeats 0 in
open_top hd for PySem.Challenge.rw_peakroll_k63_whole_broken
set_option maxHeartbeats 0 in
theorem PySem.Challenge.cw_peakroll_k63_whole_broken_holds : PySem.Challenge.rw_peakroll_k63_whole_broken.Holds := by
  refine hd ?_
  k_fill
  refine Pr.walk (l := PySem.Challenge.rw_peakroll_k63_whole_broken) rfl rfl (fun w h Y => PySem.W.kIn_of Y) ?F
  case F =>
    intro w mg fa h KX G hmg
    have T : ∃ C, Pr.Txt (L2.KOf KX) mg C := by
      dsimp only [L2.KOf]
      refine' ⟨_, Pr.txt_mk KX G ?aC ?a1 ?a2 ?a3 ?a4 ?a5 ?a6 ?a7 ?a8 ?a9 ?a10 ?a11 ?a12 ?a13 ?a14 ?a15 ?a16 ?a17 ?a18 ?a19 ?a20 ?a21 ?a22 ?a23 ?a24 ?a25 ?a26 ?a27 ?a28 ?a29 ?a30 ?a31 ?a32 ?a33 ?a34 ?a35 ?a36 ?a37 ?a38 ?a39 ?a40 ?c_WIDE_END ?c_NUMBER_END ?c_MOST_PARTS ?c_MOST_LENGTH ?c_MOST_ROWS ?c_MOST_SIZES ?c_MOST_SIZE ?b_ValueError ?b_abs ?b_all ?b_bool ?b_dict ?b_divmod ?b_int ?b_isinstance ?b_len ?b_list ?b_max ?b_min ?b_range ?b_reversed ?b_sorted ?b_str ?b_sum ?b_tuple ?pg ?hd ?po ?sa ?mk ?kc ?n_open_lengths ?n_part_lengths ?n_steps ?m1 ?m2 ?m3 ?m4 ?m5 ?m6 ?m7 ?m8 ?aC_Locks ?pg_Locks ?hd_Locks ?po_Locks ?sa_Locks ?mk_Locks ?kc_Locks ?n_Locks_ladder ?n_Locks_shut_pairs ?m_Locks_init ?m_Locks_shut ?m_Locks_open_bar ?m_Locks_is_shut ?m_Locks_broken ?esp ?etk⟩
      (case aC => k_is)
      (case a1 | a2 | a3 | a4 | a5 | a6 | a7 | a8 | a9 | a10 | a11 | a12 | a13 | a14 | a15 | a16 | a17 | a18 | a19 | a20 | a21 | a22 | a23 | a24 | a25 | a26 | a27 | a28 | a29 | a30 | a31 | a32 | a33 | a34 | a35 | a36 | a37 | a38 | a39 | a40 => apply L2.FE.mk; k_is; k_is; k_is; k_is)
      (case c_WIDE_END | c_NUMBER_END | c_MOST_PARTS | c_MOST_LENGTH | c_MOST_ROWS | c_MOST_SIZES | c_MOST_SIZE | b_ValueError | b_abs | b_all | b_bool | b_dict | b_divmod | b_int | b_isinstance | b_len | b_list | b_max | b_min | b_range | b_reversed | b_sorted | b_str | b_sum | b_tuple | pg | hd | po | sa | mk | kc | n_open_lengths | n_part_lengths | n_steps => k_is)
      (case m1 | m2 | m3 | m4 | m5 | m6 | m7 | m8 => apply L2.FM.mk; k_is; k_is; k_is; k_is; k_is)
      (case aC_Locks | pg_Locks | hd_Locks | po_Locks | sa_Locks | mk_Locks | kc_Locks | n_Locks_ladder | n_Locks_shut_pairs => k_is)
      (case m_Locks_init | m_Locks_shut | m_Locks_open_bar | m_Locks_is_shut | m_Locks_broken => apply L2.FM.mk; k_is; k_is; k_is; k_is; k_is)
      (case esp | etk => k_is)
    obtain ⟨C, T⟩ := T
    exact Pr.law_all T hmg
